import PyProof.Rows.All
import Wide.All
import OpenK.AllK
import Wide.FinOn
import HandS.ForMost
import HandS.IsInst
import HandS.OwnEq
import HandS.Walk
import HandS.Codes
import HandS.RaiseMore
import HandS.Style
import HandS.NoneIn
import HandS.Rev
import HandS.TupAny
import PyProof.ReprRoads
import HandS.Conv
import HandS.Strs
import HandS.SetFor
import HandS.TupLe
import HandS.ExcInit
import HandS.ExcField
import HandS.ForExc
import HandS.ExcIs
import HandS.Defaults
import HandS.ExcValue
import KE.KExcIs
import HandS.ExcBuiltin
import HandS.Dict
import PySem.Challenge.RW_eachworkread_k03_errors_by_hand
set_option Elab.async false
set_option linter.all false
set_option maxRecDepth 100000
/-! What all laws share: heaps, the feed, readers and rows as data. -/
namespace Ew
open PySem PySem.Spec PyProof.Rows L2
/-! ### heaps -/
/-- the feed at f: two ints -/
def FeedAt (H : Hp) (f : Addr) : Prop := ∃ d s : Int, H f = some (.lst [.int d, .int s])
/-- all but the feed is as it was -/
def Ext1 (f : Addr) (H H' : Hp) : Prop := (∀ b o, b ≠ f → H b = some o → H' b = some o) ∧ FeedAt H' f
theorem Ext1.refl {f : Addr} {H : Hp} (h : FeedAt H f) : Ext1 f H H := ⟨fun _ _ _ e => e, h⟩
theorem Ext1.trans {f : Addr} {H H1 H2 : Hp} (a : Ext1 f H H1) (b : Ext1 f H1 H2) : Ext1 f H H2 := ⟨fun c o n e => b.1 c o n (a.1 c o n e), b.2⟩
theorem Ext1.feed {f : Addr} {H H' : Hp} (a : Ext1 f H H') : FeedAt H' f := a.2
theorem Ext1.put {f : Addr} {H : Hp} {d s : Int} : Ext1 f H (upd H f (.lst [.int d, .int s])) := ⟨fun b o n e => by rw [upd_ne n]; exact e, d, s, upd_same⟩
theorem Ext1.new {f p : Addr} {H H1 : Hp} {o : HO} (a : Ext1 f H H1) (n : H1 p = none) : Ext1 f H (upd H1 p o) := by
  obtain ⟨d, s, e⟩ := a.2
  exact ⟨fun b u nb eb => by rw [upd_ne (ne_of_none (a.1 b u nb eb) n)]; exact a.1 b u nb eb, d, s, by rw [upd_ne (ne_of_none e n)]; exact e⟩
/-- an object that was not there may be written -/
theorem Ext1.own {f p : Addr} {H H1 : Hp} {o : HO} (a : Ext1 f H H1) (n : H p = none) (nf : p ≠ f) : Ext1 f H (upd H1 p o) := by
  obtain ⟨d, s, e⟩ := a.2
  refine ⟨fun b u nb eb => ?_, d, s, by rw [upd_ne (Ne.symm nf)]; exact e⟩
  have : b ≠ p := fun z => by rw [z, n] at eb; cases eb
  rw [upd_ne this]
  exact a.1 b u nb eb
theorem Ext1.same {f : Addr} {H H' : Hp} (h : FeedAt H f) (s : Same H H') : Ext1 f H H' := ⟨fun b o _ e => s b o e, let ⟨d, t, e⟩ := h; ⟨d, t, s _ _ e⟩⟩
theorem Ext1.free {f p : Addr} {H H' : Hp} (a : Ext1 f H H') (h : H' p = none) : H p = none := by
  cases q : H p with
  | none => rfl
  | some o =>
    by_cases e : p = f
    · subst e
      obtain ⟨d, s, z⟩ := a.2
      rw [z] at h; cases h
    · rw [a.1 _ _ e q] at h; cases h
theorem FeedAt.ne {H : Hp} {f p : Addr} (h : FeedAt H f) (n : H p = none) : p ≠ f := fun e => by
  obtain ⟨d, s, z⟩ := h
  rw [e, z] at n; cases n
section
variable {K : PySem.W.Frag} {f : Addr} {H H' : Hp}
theorem Ext1.sqT {t : Addr} {xs : List V} (a : Ext1 f H H') (hf : FeedAt H f) (h : SqT K H t xs) : SqT K H' t xs := by
  obtain ⟨d, s, z⟩ := hf
  rcases h with (h | ⟨o, h⟩) | h
  · exact .inl (.inl (a.1 _ _ (fun e => by rw [e, z] at h; cases h) h))
  · exact .inl (.inr ⟨o, a.1 _ _ (fun e => by rw [e, z] at h; cases h) h⟩)
  · exact .inr h
theorem Ext1.sqL {t : Addr} {xs : List V} (a : Ext1 f H H') (nf : t ≠ f) (h : SqL K H t xs) : SqL K H' t xs := by
  rcases h with (h | ⟨o, h⟩) | h
  · exact .inl (.inl (a.1 _ _ nf h))
  · exact .inl (.inr ⟨o, a.1 _ _ nf h⟩)
  · exact .inr h
theorem sameT {t : Addr} {xs : List V} (e : Same H H') (h : SqT K H t xs) : SqT K H' t xs := by
  rcases h with (h | ⟨o, h⟩) | h
  · exact .inl (.inl (e _ _ h))
  · exact .inl (.inr ⟨o, e _ _ h⟩)
  · exact .inr h
end
theorem sameU {H : Hp} {p : Addr} {o : HO} (h : H p = none) : Same H (upd H p o) := fun b x e => by
  rw [upd_ne (ne_of_none e h)]
  exact e
/-! ### rows and readers -/
/-- what is true of a set, a row: ascending, of numbers from 0 below n -/
def Asc (n : Int) (r : List Int) : Prop := r.Pairwise (· < ·) ∧ ∀ x ∈ r, 0 ≤ x ∧ x < n
/-- a tuple of ints -/
def RowT (K : PySem.W.Frag) (H : Hp) (v : V) (r : List Int) : Prop := ∃ t, v = .ref t ∧ SqT K H t (r.map V.int)
/-- a reader: limit, may -/
def RdT (K : PySem.W.Frag) (H : Hp) (v : V) (r : Int × List Int) : Prop := ∃ t m, v = .ref t ∧ SqT K H t [.int r.1, .ref m] ∧ SqT K H m (r.2.map V.int)
def RdOk (n : Int) (r : Int × List Int) : Prop := 0 ≤ r.1 ∧ r.1 ≤ 6 ∧ Asc n r.2
def RowOk (r : Int × List Int) (w : List Int) : Prop := w.Pairwise (· < ·) ∧ (∀ x ∈ w, x ∈ r.2) ∧ (w.length : Int) ≤ r.1
def RdL (K : PySem.W.Frag) (H : Hp) (a : Addr) (rs : List (Int × List Int)) : Prop := ∃ vs, SqL K H a vs ∧ Paired (RdT K H) vs rs
def RowL (K : PySem.W.Frag) (H : Hp) (a : Addr) (ws : List (List Int)) : Prop := ∃ vs, SqL K H a vs ∧ Paired (RowT K H) vs ws
section
variable {K : PySem.W.Frag} {f : Addr} {H H' : Hp}
theorem RowT.ext {v : V} {r : List Int} (a : Ext1 f H H') (hf : FeedAt H f) (h : RowT K H v r) : RowT K H' v r := let ⟨t, e, q⟩ := h; ⟨t, e, a.sqT hf q⟩
theorem RdT.ext {v : V} {r : Int × List Int} (a : Ext1 f H H') (hf : FeedAt H f) (h : RdT K H v r) : RdT K H' v r := let ⟨t, m, e, q, q2⟩ := h; ⟨t, m, e, a.sqT hf q, a.sqT hf q2⟩
theorem RowT.same {v : V} {r : List Int} (a : Same H H') (h : RowT K H v r) : RowT K H' v r := let ⟨t, e, q⟩ := h; ⟨t, e, sameT a q⟩
theorem RdT.same {v : V} {r : Int × List Int} (a : Same H H') (h : RdT K H v r) : RdT K H' v r := let ⟨t, m, e, q, q2⟩ := h; ⟨t, m, e, sameT a q, sameT a q2⟩
theorem RdL.ext {p : Addr} {rs : List (Int × List Int)} (a : Ext1 f H H') (hf : FeedAt H f) (nf : p ≠ f) (h : RdL K H p rs) : RdL K H' p rs := let ⟨vs, q, r⟩ := h; ⟨vs, a.sqL nf q, L2.Paired.mapP r fun _ _ z => z.ext a hf⟩
theorem RowL.ext {p : Addr} {rs : List (List Int)} (a : Ext1 f H H') (hf : FeedAt H f) (nf : p ≠ f) (h : RowL K H p rs) : RowL K H' p rs := let ⟨vs, q, r⟩ := h; ⟨vs, a.sqL nf q, L2.Paired.mapP r fun _ _ z => z.ext a hf⟩
theorem RdL.same {p : Addr} {rs : List (Int × List Int)} (a : Same H H') (h : RdL K H p rs) : RdL K H' p rs := let ⟨vs, q, r⟩ := h; ⟨vs, a.seq q, L2.Paired.mapP r fun _ _ z => z.same a⟩
theorem RowL.same {p : Addr} {rs : List (List Int)} (a : Same H H') (h : RowL K H p rs) : RowL K H' p rs := let ⟨vs, q, r⟩ := h; ⟨vs, a.seq q, L2.Paired.mapP r fun _ _ z => z.same a⟩
end
section
variable {K : PySem.W.Frag} {H : Hp} {D : Addr} {xs : List V} {o : HO}
/-- a list is written: tuples stand -/
theorem sqT_upd {t : Addr} {ys : List V} (e : H D = some (.lst xs)) (h : SqT K H t ys) : SqT K (upd H D o) t ys := by
  rcases h with (h | ⟨o', h⟩) | h
  · exact .inl (.inl (by rw [upd_ne (fun z => by rw [z, e] at h; cases h)]; exact h))
  · exact .inl (.inr ⟨o', by rw [upd_ne (fun z => by rw [z, e] at h; cases h)]; exact h⟩)
  · exact .inr h
theorem RowT.upd {v : V} {r : List Int} (e : H D = some (.lst xs)) (h : RowT K H v r) : RowT K (upd H D o) v r := let ⟨t, a, q⟩ := h; ⟨t, a, sqT_upd e q⟩
theorem RdT.upd {v : V} {r : Int × List Int} (e : H D = some (.lst xs)) (h : RdT K H v r) : RdT K (upd H D o) v r := let ⟨t, m, a, q, q2⟩ := h; ⟨t, m, a, sqT_upd e q, sqT_upd e q2⟩
end
theorem Paired.at1 {α β : Type} {R : α → β → Prop} : ∀ {xs : List α} {ys : List β} {i : Nat} {x : α}, Paired R xs ys → xs[i]? = some x → ∃ y, ys[i]? = some y ∧ R x y
  | _, _, _, _, .nil, e => by simp at e
  | _, _, 0, _, .cons r _, e => by simp at e; subst e; exact ⟨_, rfl, r⟩
  | _, _, i + 1, x, .cons _ t, e => by
    obtain ⟨u, h1, h2⟩ := Paired.at1 (i := i) (x := x) t (by simpa using e)
    exact ⟨u, by simpa using h1, h2⟩
theorem Paired.at2 {α β : Type} {R : α → β → Prop} : ∀ {xs : List α} {ys : List β} {i : Nat} {y : β}, Paired R xs ys → ys[i]? = some y → ∃ x, xs[i]? = some x ∧ R x y
  | _, _, _, _, .nil, e => by simp at e
  | _, _, 0, _, .cons r _, e => by simp at e; subst e; exact ⟨_, rfl, r⟩
  | _, _, i + 1, x, .cons _ t, e => by
    obtain ⟨u, h1, h2⟩ := Paired.at2 (i := i) (y := x) t (by simpa using e)
    exact ⟨u, by simpa using h1, h2⟩
theorem Paired.snoc {α β : Type} {R : α → β → Prop} : ∀ {xs : List α} {ys : List β} {x : α} {y : β}, Paired R xs ys → R x y → Paired R (xs ++ [x]) (ys ++ [y])
  | _, _, _, _, .nil, h => .cons h .nil
  | _, _, _, _, .cons r t, h => .cons r (Paired.snoc t h)
theorem Paired.set' {α β : Type} {R : α → β → Prop} {x : α} {y : β} : ∀ {xs : List α} {ys : List β} (n : Nat), Paired R xs ys → R x y → Paired R (xs.set n x) (ys.set n y)
  | _, _, _, .nil, _ => .nil
  | _, _, 0, .cons _ t, h => .cons h t
  | _, _, n + 1, .cons r t, h => .cons r (Paired.set' n t h)
/-! ### what of the built-in names the text leaves as it is -/
structure Bi (mg : Str → Option Value) : Prop where
  len : mg "len" = none
  range : mg "range" = none
  list : mg "list" = none
  tuple : mg "tuple" = none
  int : mg "int" = none
  bool : mg "bool" = none
  abs : mg "abs" = none
  max : mg "max" = none
  min : mg "min" = none
  sorted : mg "sorted" = none
  enumerate : mg "enumerate" = none
  isinstance : mg "isinstance" = none
  all : mg "all" = none
  sum : mg "sum" = none
  zip : mg "zip" = none
  repr : mg "repr" = none
theorem take_more {α : Type} : ∀ {l : List α} {i : Nat} {x : α}, l[i]? = some x → l.take (i + 1) = l.take i ++ [x]
  | [], i, x, h => by simp at h
  | a :: l, 0, x, h => by
    have e : a = x := Option.some.inj h
    subst e
    rfl
  | a :: l, i + 1, x, h => by
    have ih := take_more (l := l) (i := i) (x := x) h
    show a :: l.take (i + 1) = a :: l.take i ++ [x]
    rw [ih]
    rfl
theorem szL {n : Nat} (h : n ≤ 1000000) : n ≤ sizeLine := Nat.le_trans h (by decide)
theorem szl {n : Nat} (h : n ≤ 1000000) : n < sizeLine := Nat.lt_of_le_of_lt h (by decide)
end Ew
namespace Ew
open PySem PySem.Spec PyProof.Rows L2
/-! ### the text by places -/
def top (i : Nat) : Stmt := PySem.Challenge.pw_eachworkread_k03_errors_by_hand.main.body.getD i (.Pass ⟨0, 0, 0, 0⟩)
abbrev sFeed : Stmt := (top 14)
abbrev sTake : Stmt := (top 15)
abbrev sPick : Stmt := (top 16)
/-! ### promises -/
def spFeed (K : PySem.W.Frag) : Sp := fun vs H Q _ => ∃ (a : Addr) (ns : List Int) (k : Int), vs = [.ref a, .int k] ∧ SqL K H a (ns.map V.int) ∧ ns.length ≤ 63 ∧ 0 ≤ k ∧ k < 10 ∧
  ∀ H' p, Same H H' → H p = none → FeedAt H' p → Q (.ref p) H'
def spTake : Sp := fun vs H Q _ => ∃ (f : Addr) (m : Int), vs = [.ref f, .int m] ∧ FeedAt H f ∧ 0 < m ∧ m < 1000 ∧ ∀ H' r, Ext1 f H H' → 0 ≤ r → r < m → Q (.int r) H'
def spPick (K : PySem.W.Frag) : Sp := fun vs H Q _ => ∃ (f l : Addr) (xs : List V), vs = [.ref f, .ref l] ∧ FeedAt H f ∧ SqL K H l xs ∧ l ≠ f ∧ 0 < xs.length ∧ xs.length < 1000 ∧ ∀ H' v, Ext1 f H H' → v ∈ xs → Q v H'
section
variable {P : Program} {w : World} {K : PySem.W.Frag} {mg : Str → Option Value} {base : Heap}
theorem scFeed : FnScope ["script", "k", "seed", "digits"] ["script", "k"] (defScope sFeed) := ⟨rfl, rfl, rfl, by decide +kernel, rfl, by decide +kernel, by decide +kernel⟩
theorem cut_le (xs : List V) (a b : Option Int) : (cutV xs a b).length ≤ xs.length := by
  unfold cutV
  rw [List.length_take, List.length_drop]
  omega
theorem ok_feed {f : Addr} {fd : FuncData} (F : Fun K "_law_feed" "_law_feed" sFeed f fd) (B : Bi mg) : FnOk P w K mg base CX0 1 f fd ["script", "k"] (spFeed K) := by
  refine F.ok scFeed (fun vs H Q E h => ?_) (fun cdv A outer s H vs Q E hr h => ?_)
  · obtain ⟨a, ns, k, rfl, _⟩ := h
    rfl
  · obtain ⟨a, ns, k, rfl, hS, hl, h0, h10, q⟩ := h
    refine ⟨_, pss_cons (ps_set (i := 2) scFeed.nd rfl (.inl rfl)
        (pe_ix ix_list (pe_op op_cat (pe_callTy call_list_of (by rfl) B.list (by decide +kernel) (pa_cons (pe_slice sl_list (pv 0) (po_some (pv 1)) (po_some (pe_op op_add (pv 1) pe_int))) pa_nil))
          (pe_lst (pa_cons (pe_op op_add (pe_op op_mul pe_int (pv 1)) pe_int) pa_nil))) pe_int (fun _ _ => rfl)))
      (pss_cons (ps_set (i := 3) scFeed.nd rfl (.inl rfl) (pe_callB (call_max2 rfl) (by rfl) B.max (by decide +kernel) (pa_cons pe_int (pa_cons
          (pe_op op_sub (pe_callB call_abs (by rfl) B.abs (by decide +kernel) (pa_cons (pv 2) pa_nil)) (pe_op op_pow pe_int pe_int)) pa_nil))))
      (pss_one (ps_ret (pe_lst (pa_cons (pv 3) (pa_cons (pe_op op_mod (pe_callTy call_int1 (by rfl) B.int (by decide +kernel) (pa_cons
          (pe_op op_add (pe_op op_add (pe_op op_mul (pe_op op_mod (pe_callTy call_int1 (by rfl) B.int (by decide +kernel) (pa_cons (pe_callB call_abs (by rfl) B.abs (by decide +kernel) (pa_cons (pv 2) pa_nil)) pa_nil)) pe_int) pe_int)
            (pe_op op_mul pe_int (pv 1))) pe_int) pa_nil)) pe_int) pa_nil)))))), ?_⟩
    refine ⟨_, rfl, _, rfl, k, rfl, _, rfl, _, _, rfl, rfl, _, rfl, a, _, rfl, hS, fun c nc => ?_⟩
    have s1 : Same H (upd H c (.lst (cutV (ns.map V.int) (some k) (some (k + 1))))) := sameU nc
    have hc : (cutV (ns.map V.int) (some k) (some (k + 1))).length ≤ 63 := Nat.le_trans (cut_le _ _ _) (by rw [List.length_map]; exact hl)
    have hint : ∀ v ∈ cutV (ns.map V.int) (some k) (some (k + 1)), ∃ z, v = V.int z := by
      intro v hv
      unfold cutV at hv
      have := List.mem_of_mem_drop (List.mem_of_mem_take hv)
      obtain ⟨z, _, e⟩ := List.mem_map.mp this
      exact ⟨z, e.symm⟩
    generalize cutV (ns.map V.int) (some k) (some (k + 1)) = cs at *
    refine ⟨c, _, rfl, .inl (.inl (.inl upd_same)), fun l nl => ?_⟩
    refine ⟨_, rfl, 71, k, rfl, rfl, .inl ⟨by decide, by decide⟩, _, _, rfl, rfl, (by show 1 ≤ sizeLine; decide), fun m nm => ?_⟩
    have nlm : l ≠ m := fun e => by rw [e] at nm; rw [← e, upd_same] at nm; cases nm
    refine ⟨l, m, cs, _, rfl, rfl, (by rw [upd_ne nlm]; exact upd_same), upd_same, (szL (by show cs.length + 1 ≤ _; omega)), fun r nr => ?_⟩
    have sA : Same H (upd (upd (upd H c (.lst cs)) l (.lst cs)) m (.lst [V.int (71 * k + 23)])) := s1.trans ((sameU nl).trans (sameU nm))
    obtain ⟨z, hz⟩ : ∃ z, (cs ++ [V.int (71 * k + 23)])[0]? = some (V.int z) := by
      cases cs with
      | nil => exact ⟨_, rfl⟩
      | cons x t =>
        obtain ⟨z, e⟩ := hint x (by simp)
        exact ⟨z, by rw [e]; rfl⟩
    refine ⟨r, _, 0, _, rfl, rfl, .inl (.inl upd_same), atI_nat (j := 0) hz, ?_⟩
    have sB : Same H (upd (upd (upd (upd H c (.lst cs)) l (.lst cs)) m (.lst [V.int (71 * k + 23)])) r (.lst (cs ++ [V.int (71 * k + 23)]))) := sA.trans (sameU nr)
    generalize upd (upd (upd (upd H c (.lst cs)) l (.lst cs)) m (.lst [V.int (71 * k + 23)])) r (.lst (cs ++ [V.int (71 * k + 23)])) = H2 at *
    refine ⟨_, rfl, z, rfl, 10, 18, rfl, rfl, ⟨by decide, by decide, by decide⟩, _, _, rfl, rfl, _, _, rfl, ?_⟩
    refine ⟨_, rfl, _, rfl, z, rfl, .inl ⟨_, rfl, _, _, rfl, rfl, (by show (0 : Int) < 1000003; decide), _, _, rfl, rfl, .inr ⟨by decide, by decide⟩, _, rfl, 31, k, rfl, rfl, .inl ⟨by decide, by decide⟩, _, _, rfl, rfl, _, _, rfl, rfl, .inl ⟨_, rfl, _, _, rfl, rfl, (by show (0 : Int) < 1000033; decide), (by show 2 ≤ sizeLine; decide), fun p np => ?_⟩⟩⟩
    exact q _ p (sB.trans (sameU np)) (sB.free np) ⟨_, _, upd_same⟩
theorem scTake : FnScope ["feed", "many", "digit"] ["feed", "many"] (defScope sTake) := ⟨rfl, rfl, rfl, by decide +kernel, rfl, by decide +kernel, by decide +kernel⟩
theorem ok_take {f : Addr} {fd : FuncData} (F : Fun K "_law_take" "_law_take" sTake f fd) (B : Bi mg) : FnOk P w K mg base CX0 1 f fd ["feed", "many"] spTake := by
  refine F.ok scTake (fun vs H Q E h => ?_) (fun cdv A outer s H vs Q E hr h => ?_)
  · obtain ⟨a, m, rfl, _⟩ := h
    rfl
  · obtain ⟨a, m, rfl, ⟨d, z, hF⟩, m0, m1, q⟩ := h
    refine ⟨_, pss_cons (ps_if (pt_cmpR op_gt (pe_ix ix_list (pv 0) pe_int (fun _ _ => rfl)) pe_int (nomark _))
        (pss_cons (ps_set (i := 2) scTake.nd rfl (.inl rfl) (pe_op op_mod (pe_callTy call_int1 (by rfl) B.int (by decide +kernel) (pa_cons (pe_ix ix_list (pv 0) pe_int (fun _ _ => rfl)) pa_nil)) (pv 1)))
        (pss_cons (ps_asg (pe_op op_fdiv (pe_ix ix_list (pv 0) pe_int (fun _ _ => rfl)) (pv 1)) (pg_sub (pv 0) pe_int set_list)) (pss_one (ps_ret (pv 2))))) pss_nil)
      (pss_cons (ps_asg (pe_op op_mod (pe_callTy call_int1 (by rfl) B.int (by decide +kernel) (pa_cons (pe_op op_add (pe_op op_mul (pe_ix ix_list (pv 0) pe_int (fun _ _ => rfl)) pe_int) pe_int) pa_nil)) pe_int) (pg_sub (pv 0) pe_int set_list))
      (pss_one (ps_ret (pe_op op_mod (pe_callTy call_int1 (by rfl) B.int (by decide +kernel) (pa_cons (pe_op op_fdiv (pe_ix ix_list (pv 0) pe_int (fun _ _ => rfl)) pe_int) pa_nil)) (pv 1))))), ?_⟩
    refine ⟨_, rfl, a, _, 0, .int d, rfl, rfl, .inl (.inl hF), rfl, _, _, rfl, rfl, _, rfl, ite2 (fun _ => ?_) (fun _ => ?_)⟩
    · refine ⟨_, rfl, a, _, 0, .int d, rfl, rfl, .inl (.inl hF), rfl, .inl ⟨_, rfl, _, rfl, d, m, rfl, rfl, m0, ?_⟩⟩
      refine ⟨_, rfl, a, _, 0, .int d, rfl, rfl, .inl (.inl hF), rfl, _, rfl, d, m, rfl, rfl, ⟨m0, by omega⟩, _, rfl, a, _, 0, 0, rfl, rfl, hF, rfl, _, rfl, ?_⟩
      exact q _ _ Ext1.put (Int.emod_nonneg _ (by omega)) (Int.emod_lt_of_pos _ m0)
    · refine ⟨_, rfl, a, _, 1, .int z, rfl, rfl, .inl (.inl hF), rfl, z, 69069, rfl, rfl, .inr ⟨by decide, by decide⟩, _, _, rfl, rfl, .inl ⟨_, rfl, _, _, rfl, rfl, (by show (0 : Int) < 4294967311; decide), _, rfl, a, _, 1, 1, rfl, rfl, hF, rfl, ?_⟩⟩
      refine ⟨_, rfl, a, _, 1, _, rfl, rfl, .inl (.inl upd_same), rfl, _, 65536, rfl, rfl, ⟨by decide, by decide⟩, .inl ⟨_, rfl, _, rfl, _, m, rfl, rfl, m0, ?_⟩⟩
      exact q _ _ Ext1.put (Int.emod_nonneg _ (by omega)) (Int.emod_lt_of_pos _ m0)
theorem scPick : FnScope ["feed", "some"] ["feed", "some"] (defScope sPick) := ⟨rfl, rfl, rfl, by decide +kernel, rfl, by decide +kernel, by decide +kernel⟩
theorem ok_pick {f fT : Addr} {fd fdT : FuncData} (F : Fun K "_law_pick" "_law_pick" sPick f fd) (FT : Fun K "_law_take" "_law_take" sTake fT fdT) (bT : Binds K fdT ["feed", "many"] []) (gT : mg "_law_take" = some (.ref fT)) (B : Bi mg) : FnOk P w K mg base CX0 2 f fd ["feed", "some"] (spPick K) := by
  have GT : FnOk P w K mg base CX0 1 fT fdT ["feed", "many"] spTake := ok_take FT B
  refine F.ok scPick (fun vs H Q E h => ?_) (fun cdv A outer s H vs Q E hr h => ?_)
  · obtain ⟨a, l, xs, rfl, _⟩ := h
    rfl
  · obtain ⟨a, l, xs, rfl, hF, hL, nl, x0, x1, q⟩ := h
    refine ⟨_, pss_one (ps_ret (pe_ix ix_list (pv 1) (pe_call GT hr (by rfl) gT FT.kp bT .nil pass0 (pa_cons (pv 0) (pa_cons (pe_callB call_len_seq (by rfl) B.len PySem.boot_len (pa_cons (pv 1) pa_nil)) pa_nil))) (fun _ _ => rfl))), ?_⟩
    refine ⟨_, rfl, _, rfl, _, rfl, l, xs, rfl, .inl hL, a, _, rfl, hF, (by omega), (by omega), fun H1 r e1 r0 r1 => ?_⟩
    obtain ⟨j, rfl⟩ : ∃ j : Nat, r = (j : Int) := ⟨r.toNat, by omega⟩
    have hj : j < xs.length := by omega
    exact ⟨l, xs, (j : Int), xs[j], rfl, rfl, e1.sqL nl hL, atI_nat (by simp [hj]), q _ _ e1 (List.getElem_mem _)⟩
end
end Ew
namespace Ew
open PySem PySem.Spec PyProof.Rows L2
/-! ### rows and readers as data -/
section
variable {α : Type} (g : α → PyData)
theorem layAll_map (h : ∀ x, PyData.canLay0 (g x) = true) : ∀ l : List α, PyData.canLayAll0 (l.map g) = true
  | [] => rfl
  | x :: l => by
    show (PyData.canLay0 (g x) && PyData.canLayAll0 (l.map g)) = true
    rw [h x, layAll_map h l]
    rfl
theorem depAll_map {n : Nat} (h : ∀ x, PyData.depth (g x) ≤ n) : ∀ l : List α, PyData.depthAll (l.map g) ≤ n
  | [] => Nat.zero_le _
  | x :: l => by
    show max (PyData.depth (g x)) (PyData.depthAll (l.map g)) ≤ n
    exact Nat.max_le.mpr ⟨h x, depAll_map h l⟩
theorem eqvAll_inj [DecidableEq α] (h : ∀ x y, PyData.eqv (g x) (g y) = decide (x = y)) : ∀ xs ys : List α, PyData.eqvAll (xs.map g) (ys.map g) = decide (xs = ys)
  | [], [] => by simp [PyData.eqvAll]
  | [], _ :: _ => by simp [PyData.eqvAll]
  | _ :: _, [] => by simp [PyData.eqvAll]
  | x :: xs, y :: ys => by
    show (PyData.eqv (g x) (g y) && PyData.eqvAll (xs.map g) (ys.map g)) = _
    rw [h x y, eqvAll_inj h xs ys]
    by_cases e1 : x = y
    · subst e1
      by_cases e2 : xs = ys
      · subst e2; simp
      · simp [e2]
    · simp [e1]
end
def dI (l : List Int) : PyData := .list (l.map .int)
def dT (l : List Int) : PyData := .tuple (l.map .int)
def dR (r : Int × List Int) : PyData := .tuple [.int r.1, dT r.2]
def dRs (rs : List (Int × List Int)) : PyData := .list (rs.map dR)
def dWs (ws : List (List Int)) : PyData := .list (ws.map dT)
theorem eqv_int (x y : Int) : PyData.eqv (.int x) (.int y) = decide (x = y) := by
  simp [PyData.eqv]
  by_cases h : x = y <;> simp [h]
theorem eqv_dT (x y : List Int) : PyData.eqv (dT x) (dT y) = decide (x = y) := by
  show PyData.eqvAll (x.map .int) (y.map .int) = _
  exact eqvAll_inj _ eqv_int x y
theorem eqv_dI (x y : List Int) : PyData.eqv (dI x) (dI y) = decide (x = y) := by
  show PyData.eqvAll (x.map .int) (y.map .int) = _
  exact eqvAll_inj _ eqv_int x y
theorem eqv_dR (x y : Int × List Int) : PyData.eqv (dR x) (dR y) = decide (x = y) := by
  show PyData.eqvAll [.int x.1, dT x.2] [.int y.1, dT y.2] = _
  show (PyData.eqv (.int x.1) (.int y.1) && (PyData.eqv (dT x.2) (dT y.2) && true)) = _
  rw [eqv_int, eqv_dT]
  obtain ⟨a, b⟩ := x
  obtain ⟨c, d⟩ := y
  by_cases h1 : a = c <;> by_cases h2 : b = d <;> simp [h1, h2]
theorem eqv_dRs (x y : List (Int × List Int)) : PyData.eqv (dRs x) (dRs y) = decide (x = y) := by
  show PyData.eqvAll (x.map dR) (y.map dR) = _
  exact eqvAll_inj _ eqv_dR x y
theorem eqv_dWs (x y : List (List Int)) : PyData.eqv (dWs x) (dWs y) = decide (x = y) := by
  show PyData.eqvAll (x.map dT) (y.map dT) = _
  exact eqvAll_inj _ eqv_dT x y
theorem lay_dT (l : List Int) : PyData.canLay0 (dT l) = true := layAll_map PyData.int (fun _ => rfl) l
theorem dep_dT (l : List Int) : PyData.depth (dT l) ≤ 1 := Nat.succ_le_succ (depAll_map PyData.int (n := 0) (fun _ => Nat.le_refl _) l)
theorem lay_dR (r : Int × List Int) : PyData.canLay0 (dR r) = true := by
  show (true && (PyData.canLay0 (dT r.2) && true)) = true
  rw [lay_dT]
  rfl
theorem dep_dR (r : Int × List Int) : PyData.depth (dR r) ≤ 2 := by
  show max 0 (max (PyData.depth (dT r.2)) 0) + 1 ≤ 2
  have := dep_dT r.2
  omega
theorem shp {d : PyData} {n : Nat} (h1 : PyData.canLay0 d = true) (h2 : PyData.depth d ≤ n) (h3 : n ≤ 64) : SeqAt.shaped d = true := by
  unfold SeqAt.shaped
  rw [h1, decide_eq_true (Nat.le_trans h2 h3)]
  rfl
theorem shp_dT (l : List Int) : SeqAt.shaped (dT l) = true := shp (lay_dT l) (dep_dT l) (by decide)
theorem shp_dI (l : List Int) : SeqAt.shaped (dI l) = true := shp (layAll_map PyData.int (fun _ => rfl) l) (Nat.succ_le_succ (depAll_map PyData.int (n := 0) (fun _ => Nat.le_refl _) l)) (n := 1) (by decide)
theorem shp_dRs (rs : List (Int × List Int)) : SeqAt.shaped (dRs rs) = true := shp (layAll_map dR lay_dR rs) (Nat.succ_le_succ (depAll_map dR dep_dR rs)) (n := 3) (by decide)
theorem shp_dWs (ws : List (List Int)) : SeqAt.shaped (dWs ws) = true := shp (layAll_map dT lay_dT ws) (Nat.succ_le_succ (depAll_map dT dep_dT ws)) (n := 2) (by decide)
section
variable {K : PySem.W.Frag} {H : Hp}
theorem dpAll_ints : ∀ l : List Int, DpAll K H (l.map V.int) (l.map PyData.int)
  | [] => .nil
  | _ :: l => .cons (.int _) (dpAll_ints l)
theorem dpAll_map {α : Type} {R : V → α → Prop} {g : α → PyData} (h : ∀ v a, R v a → Dp K H v (g a)) : ∀ {vs : List V} {as : List α}, Paired R vs as → DpAll K H vs (as.map g)
  | _, _, .nil => .nil
  | _, _, .cons r t => .cons (h _ _ r) (dpAll_map h t)
theorem dp_dI {a : Addr} {l : List Int} (h : SqL K H a (l.map V.int)) : Dp K H (.ref a) (dI l) := .lst h (dpAll_ints l)
theorem dp_dT {v : V} {l : List Int} (h : RowT K H v l) : Dp K H v (dT l) := let ⟨_, e, q⟩ := h; e ▸ .tup q (dpAll_ints l)
theorem dp_dR {v : V} {r : Int × List Int} (h : RdT K H v r) : Dp K H v (dR r) := let ⟨_, _, e, q, q2⟩ := h; e ▸ .tup q (.cons (.int _) (.cons (dp_dT ⟨_, rfl, q2⟩) .nil))
theorem dp_dRs {a : Addr} {us : List V} {rs : List (Int × List Int)} (h : SqL K H a us) (p : Paired (RdT K H) us rs) : Dp K H (.ref a) (dRs rs) := .lst h (dpAll_map (g := dR) (fun _ _ z => dp_dR z) p)
theorem dp_dWs {a : Addr} {us : List V} {ws : List (List Int)} (h : SqL K H a us) (p : Paired (RowT K H) us ws) : Dp K H (.ref a) (dWs ws) := .lst h (dpAll_map (g := dT) (fun _ _ z => dp_dT z) p)
end
/-! ### == and != by an own __eq__, of anything -/
section
variable {prog : Program} {w : World} {A : Around} {E : Value → Shared → Prop}
/-- the type of a value, looked at -/
theorem looksT {X : Cx} {pins : List (Addr × Obj)} {σ : L2.St} {H : Hp} {s : Shared} {x : V} {u t : Value} (I : Inv X pins σ H s) (rx : RelV x u) (ty : TyX X.K H x t) : PySem.W.Looks (model X.prog X.w) s.heap (typeOf u) t := by
  have one : ∀ (a : Addr) (o : Obj), s.heap.get? a = some o → o.cls = t → PySem.W.Looks (model X.prog X.w) s.heap (typeOf (.ref a)) t := fun a o ho hc A Q E s' k q => wpAny_typeOf_ref (k _ _ ho) (by rw [hc]; exact q)
  cases ty with
  | base b =>
    cases b with
    | non => cases (show u = Value.none from rx); exact fun A Q E s' k q => wpAny_pure q
    | bl y => cases (show u = Value.bool y from rx); exact fun A Q E s' k q => wpAny_pure q
    | int i => obtain ⟨t, q⟩ := (show ∃ t, u = Value.int i t from rx); cases q; exact fun A Q E s' k q => wpAny_pure q
    | str y => obtain ⟨t, q⟩ := (show ∃ t, u = Value.str y t from rx); cases q; exact fun A Q E s' k q => wpAny_pure q
    | flt y => obtain ⟨t, q⟩ := (show ∃ t, u = Value.float y t from rx); cases q; exact fun A Q E s' k q => wpAny_pure q
    | @lst a xs ea =>
      cases (show u = Value.ref a from rx)
      obtain ⟨_, _, n, _, h1⟩ := (show ObjOk X.prog X.w H s.heap a (.lst xs) from I.hok a _ ea)
      exact one _ _ h1 rfl
    | @frz a ob xs ea =>
      cases (show u = Value.ref a from rx)
      obtain ⟨_, _, _, n, _, h1⟩ := (show ObjOk X.prog X.w H s.heap a (.frz ob (.lst xs)) from I.hok a _ ea)
      exact one _ _ h1 rfl
    | @tup a xs ea =>
      cases (show u = Value.ref a from rx)
      obtain ⟨_, _, _, o, h1, h2, _⟩ := (show ObjOk X.prog X.w H s.heap a (.tup xs) from I.hok a _ ea)
      exact one _ _ h1 h2
    | @dK a kvs ea =>
      cases (show u = Value.ref a from rx)
      obtain ⟨_, _, vs, _, o, es, ep, h1, h2, _⟩ := (show ObjOk X.prog X.w H s.heap a (.dK kvs) from I.hok a _ ea)
      exact one _ _ h1 h2.1
    | @dT a kvs ea =>
      cases (show u = Value.ref a from rx)
      obtain ⟨_, _, xs, _, o, es, ep, h1, h2, _⟩ := (show ObjOk X.prog X.w H s.heap a (.dT kvs) from I.hok a _ ea)
      exact one _ _ h1 h2.1
    | @ins a C dx fs ea cl ha hn htk hm =>
      cases (show u = Value.ref a from rx)
      obtain ⟨mA, O, _⟩ := ins_get I.hok ea
      obtain ⟨od, J, _⟩ := O.look
      exact J.type
  | byt y => obtain ⟨t, q⟩ := (show ∃ t, u = Value.bytes y t from rx); cases q; exact fun A Q E s' k q => wpAny_pure q
  | @set a S n ea =>
    cases (show u = Value.ref a from rx)
    obtain ⟨o, _, _, _, e, ex, _⟩ := I.hok a _ ea
    exact one _ _ e ex.1
  | @kList a o e c =>
    cases (show u = Value.ref a from rx)
    exact one _ _ (I.kIn a o e) c
  | @kTuple a o e c =>
    cases (show u = Value.ref a from rx)
    exact one _ _ (I.kIn a o e) c
  | @kDict a o e c =>
    cases (show u = Value.ref a from rx)
    exact one _ _ (I.kIn a o e) c
  | @fTuple a ob xs ea =>
    cases (show u = Value.ref a from rx)
    obtain ⟨_, _, _, _, o, h1, h2, _⟩ := (show ObjOk X.prog X.w H s.heap a (.frz ob (.tup xs)) from I.hok a _ ea)
    exact one _ _ h1 h2
  | @fDict a ob kvs ea =>
    cases (show u = Value.ref a from rx)
    obtain ⟨_, _, _, vs, _, o, es, ep, h1, h2, _⟩ := (show ObjOk X.prog X.w H s.heap a (.frz ob (.dK kvs)) from I.hok a _ ea)
    exact one _ _ h1 h2.1
end
/-- x == y, x an instance of the class at C with an own __eq__ whose promise is sp; y of a type that has no say -/
def rOwnEq (K : PySem.W.Frag) (C : Addr) (sp : Sp) (neg : Bool) : R2 := fun x y H Q => ∃ a dx fs t, x = .ref a ∧ H a = some (.ins C dx fs) ∧ TyX K H y t ∧ PySem.W.notFirst K C t = true ∧
  sp [x, y] H (fun v H' => ∃ b, v = .bl b ∧ Q (.bl (if neg then !b else b)) H') E0
section
variable {X : Cx} {n : Nat} {C f : Addr} {fd : FuncData} {ps : List Str} {sp : Sp}
theorem op_eqOwn (F : FnOk X.prog X.w X.K X.mg X.base CX0 n f fd ps sp) (hr : Room n X.A) (hs : PySem.W.findIn X.K (.ref C) "__eq__" = some (some (.ref f))) (hf : PySem.W.isFn X.K (.ref f) = true) (hb : Binds X.K fd ps []) :
    OpR X (compareOp .Eq) (rOwnEq X.K C sp false) := by
  intro pins s σ H x y v u Q I rx ry hq
  obtain ⟨a, dx, fs, t, rfl, ha, ty, hn, hsp⟩ := hq
  cases rx
  obtain ⟨mA, J, _⟩ := ins_get I.hok ha
  obtain ⟨od, J, _⟩ := J.look
  obtain ⟨m, hF⟩ := I.fr
  show wpAny (model X.prog X.w) X.A (richCompare .Eq (.ref a) u) (EP X pins σ Q) X.xe s
  refine PySem.W.cmp_K (op := .Eq) (tb := t) hr.units0 hF I.ok.mod.kin J (looksT I ry ty) hn hs hf ?_
  refine wpAny_mono (run_fn (vs := [V.ref a, y]) (us := [Value.ref a, u]) F hr hb .nil pass0 I (.cons rfl (.cons ry .nil)) hsp) (fun r s' hq => ?_) fun _ _ h => h
  obtain ⟨z, H', I', rz, b, ez, q⟩ := hq
  subst ez
  cases rz
  exact ⟨.bl b, H', I', rfl, q⟩
end
end Ew
namespace Ew
open PySem PySem.Spec PyProof.Rows L2
/-! ### x != y, x an instance of a class that has an __eq__ and no __ne__; len(x) by an own __len__ -/
theorem on_bind (self : Value) : bindSpecial (.builtin "object.__ne__") self = pure (.builtin "object.__ne__", [self]) :=
  (Slot.of (T := "object") (name := "__ne__") (owner := "object") (n := "__ne__") (by rw [typeLookup_type, builtinLookup_eq_fast]; kernel_rfl) (by decide +kernel) (by decide +kernel) (by decide +kernel)
    (.inl (by decide +kernel)) (by rw [isSubtype_type]; kernel_rfl)).bind self
/-- what the written part says of a class over object -/
def OverObject (K : PySem.W.Frag) (C : Addr) : Prop := ∃ nm q N bs bm sn sub ab col dd k0 k1 k2 k3 k5 hd nid, K.lookup C = some (excClassObj nm q C N bs bm hd sn sub ab col dd k0 k1 k2 k3 k5 nid) ∧ bm.contains (.type "object") = true
section
variable {prog : Program} {w : World} {A : Around} {E : Value → Shared → Prop} {s : Shared} {K : PySem.W.Frag} {x C L f : Addr} {h₀ : Heap} {m : Str → Option Value} {ox : Obj} {od : Option Obj} {b tb : Value}
open PySem.W PySem.Calls Builtin in
theorem objNe_K (hu : A.units < cLine) (X : K.In s.heap) (I : InstAt s.heap x ox C od) (hs : findIn K (.ref C) "__eq__" = some (some (.ref f))) (hf : isFn K (.ref f) = true) {Q : PySem.Fin → Shared → Prop}
    (hcall : wpAny (model prog w) A (call (.ref f) [.ref x, b]) (fun v s' => ∃ c, v = .bool c ∧ Q (.done (.ret (.bool (!c)))) s') E s) :
    wpAny (model prog w) A (Builtin.«object.__ne__» ⟨[.ref x, b], []⟩) Q E s := by
  unfold Builtin.«object.__ne__»
  repeat (first
    | with_reducible refine wpAny_cRoomFor hu ?_
    | (refine wpAny_bind (m := callSpecialIfBound? (.ref x) (Str.ofString "__eq__") [b])
        (ifBound_K X I hs hf (wpAny_mono hcall (fun r s' hr => by
          obtain ⟨c, rfl, hq⟩ := hr
          repeat (first | exact hq | exact wpAny_pure hq | exact wpAny_truthy_bool hq | (refine wpAny_bind (m := truthy (.bool _)) (wpAny_truthy_bool ?_)) | wp_step)) fun _ _ e => e)))
    | wp_step)
open PySem.W PySem.Calls Builtin in
theorem ifBound_B {M : Model} {name : Str} {id : String} {args : List Value} {Q : Option Value → Shared → Prop} (X : K.In s.heap) (I : InstAt s.heap x ox C od) (hs : findIn K (.ref C) name = some (some (.builtin id))) (hbind : ∀ self, bindSpecial (.builtin id) self = pure (.builtin id, [self]))
    (h : wpAny M A (call (.builtin id) (.ref x :: args)) (fun v => Q (some v)) E s) : wpAny M A (callSpecialIfBound? (.ref x) name args) Q E s := by
  simp only [callSpecialIfBound?, bindSpecialIfBound?, hbind]
  refine wpAny_holding (wpAny_bind (wpAny_bind (wpAny_bind (I.type.here ((looks_findIn X hs).here ?_)))))
  refine wpAny_bind (wpAny_askSetting (wpAny_ite ?_))
  have fin : wpAny M A (call (.builtin id) ([.ref x] ++ args) >>= fun v => pure (some v)) Q E s := wpAny_bind (wpAny_mono h (fun v s' h' => wpAny_pure h') fun _ _ h' => h')
  split
  · simp only [hbind]
    exact wpAny_bind (wpAny_pure (wpAny_pure (by exact fin)))
  · simp only [hbind]
    exact wpAny_tryCatch (wpAny_bind (wpAny_pure (wpAny_pure (by exact fin))))
open PySem.W PySem.Calls Builtin in
theorem ne_K' {Q : Value → Shared → Prop} (hu : A.units + 1 < cLine) (F : Fr h₀ L s.heap m) (X₀ : K.In h₀) (I : InstAt s.heap x ox C od) (hox : s.heap.get? x = some ox) (hoc : ox.cls = .ref C) (ho : OverObject K C) (hb : Looks (model prog w) s.heap (typeOf b) tb) (hn : notFirst K C tb = true)
    (hne : findIn K (.ref C) "__ne__" = some (some (.builtin "object.__ne__"))) (hs : findIn K (.ref C) "__eq__" = some (some (.ref f))) (hf : isFn K (.ref f) = true)
    (h : wpAny (model prog w) A.in1 (call (.ref f) [.ref x, b]) (fun v s' => ∃ c, v = .bool c ∧ Q (.bool (!c)) s') E s) : wpAny (model prog w) A (richCompare .NotEq (.ref x) b) Q E s := by
  have X := X₀.keeps F.keep
  obtain ⟨nm, q, N, bs, bm, sn, sub, ab, col, dd, k0, k1, k2, k3, k5, hd, nid, hC, hbm⟩ := ho
  have one : wpAny (model prog w) A (tryCompare (.ref x) "__ne__" b) (fun r s' => ∃ v, r = some v ∧ Q v s') E s := by
    unfold tryCompare
    refine wpAny_bind (ifBound_B X I hne on_bind ?_)
    obtain ⟨hp, g, d, t, os⟩ := s
    refine wpAny_call (codeAny_call_builtin (by decide +kernel) PySem.F.cmpEntry_ne (wpAny_check_slot_inst PySem.F.cmpKind_ne PySem.F.cmpSplit_ne (PySem.F.cmpArgs_ne _ _) hbm hox hoc (X _ _ hC)
        (objNe_K (A := A.in1) hu X I hs hf (wpAny_mono h (fun v s' hv => ?_) fun _ _ e => e))))
    obtain ⟨c, rfl, hq⟩ := hv
    first | exact ⟨c, rfl, wpAny_pure ⟨_, rfl, hq⟩⟩ | exact ⟨c, rfl, wpAny_pure (wpAny_pure ⟨_, rfl, hq⟩)⟩
  unfold richCompare
  simp only [oneThing_ref]
  refine wpAny_holding (wpAny_bind (wpAny_cRoomFor (Nat.lt_of_succ_lt hu) ?_))
  refine wpAny_bind (I.type.here (wpAny_bind (hb.here ?_)))
  split
  · rename_i q
    have e : subIn K tb (.ref C) = some false := by
      rcases Bool.or_eq_true_iff.mp hn with e | e
      · rw [beq_iff_eq.mp e] at q; simp at q
      · exact beq_iff_eq.mp e
    refine wpAny_bind ((looks_subIn X e).here ?_)
    simp only [Bool.false_eq_true, if_false]
    refine wpAny_bind (wpAny_mono one (fun r s' z => ?_) fun _ _ e => e)
    obtain ⟨v, rfl, hq⟩ := z
    exact wpAny_pure hq
  · refine wpAny_bind (wpAny_pure ?_)
    simp only [Bool.false_eq_true, if_false]
    refine wpAny_bind (wpAny_mono one (fun r s' z => ?_) fun _ _ e => e)
    obtain ⟨v, rfl, hq⟩ := z
    exact wpAny_pure hq
end
section
variable {X : Cx} {n : Nat} {C f : Addr} {fd : FuncData} {ps : List Str} {sp : Sp}
/-- the callee runs below a builtin -/
theorem run_in1 {pins : List (Addr × Obj)} {σ : L2.St} {H : Hp} {s : Shared} {Q : VK} {us : List Value} {vs : List V} (F : FnOk X.prog X.w X.K X.mg X.base CX0 n f fd ps sp) (hr : Room (n + 1) X.A) (hb : Binds X.K fd ps [])
    (I : Inv X pins σ H s) (r : Vals vs us) (h : sp vs H Q E0) : wpAny (model X.prog X.w) X.A.in1 (call (.ref f) us) (EP X pins σ Q) X.xe s := by
  have hl : us.length = ps.length := by rw [← r.length]; exact F.len _ _ _ _ h
  refine wpAny_call (codeAny_mono (F.run X.A.in1 X.stack s H ⟨us, []⟩ us vs Q E0 hr.in1 I.env0.in1 (by
    have := hb s us I.kIn (by simpa using hl)
    simpa using this) r h) fun r s' hq => ?_)
  cases r with
  | error e => exact False.elim hq
  | ok fl =>
    cases fl with
    | ret u => exact I.after hq
    | next => exact False.elim hq
    | brk => exact False.elim hq
    | cont => exact False.elim hq
theorem op_neOwn (F : FnOk X.prog X.w X.K X.mg X.base CX0 n f fd ps sp) (hr : Room (n + 1) X.A) (hs : PySem.W.findIn X.K (.ref C) "__eq__" = some (some (.ref f))) (hf : PySem.W.isFn X.K (.ref f) = true) (hb : Binds X.K fd ps [])
    (ho : OverObject X.K C) (hne : PySem.W.findIn X.K (.ref C) "__ne__" = some (some (.builtin "object.__ne__"))) : OpR X (compareOp .NotEq) (rOwnEq X.K C sp true) := by
  intro pins s σ H x y v u Q I rx ry hq
  obtain ⟨a, dx, fs, t, rfl, ha, ty, hn, hsp⟩ := hq
  cases rx
  obtain ⟨mA, J, _⟩ := ins_get I.hok ha
  obtain ⟨od, J, _⟩ := J.look
  obtain ⟨m, hF⟩ := I.fr
  obtain ⟨_, _, _, hget, _⟩ := (show ObjOk X.prog X.w H s.heap a (.ins C dx fs) from I.hok a _ ha)
  have hu := hr.units
  show wpAny (model X.prog X.w) X.A (richCompare .NotEq (.ref a) u) (EP X pins σ Q) X.xe s
  refine ne_K' (tb := t) (by omega) hF I.ok.mod.kin J hget rfl ho (looksT I ry ty) hn hne hs hf ?_
  refine wpAny_mono (run_in1 (vs := [V.ref a, y]) (us := [Value.ref a, u]) F hr hb I (.cons rfl (.cons ry .nil)) hsp) (fun r s' hq => ?_) fun _ _ h => h
  obtain ⟨z, H', I', rz, b, ez, q⟩ := hq
  subst ez
  cases rz
  exact ⟨b, rfl, .bl (!b), H', I', rfl, q⟩
/-- len(x), x an instance of the class at C with an own __len__ -/
theorem call_lenOwn (F : FnOk X.prog X.w X.K X.mg X.base CX0 n f fd ps sp) (hr : Room (n + 1) X.A) (hs : PySem.W.findIn X.K (.ref C) "__len__" = some (some (.ref f))) (hf : PySem.W.isFn X.K (.ref f) = true) (hb : Binds X.K fd ps []) :
    CallR X (.builtin "len") (fun xs H Q => ∃ a dx fs, xs = [.ref a] ∧ H a = some (.ins C dx fs) ∧ sp [.ref a] H (fun v H' => ∃ k : Int, v = .int k ∧ (0 ≤ k ∧ k < 2 ^ 63) ∧ Q (.int k) H') E0) := by
  intro pins s σ H xs us Q I r hq
  obtain ⟨a, dx, fs, rfl, ha, hsp⟩ := hq
  cases r with
  | cons r1 r2 =>
    cases r2
    cases r1
    obtain ⟨mA, J, _⟩ := ins_get I.hok ha
    obtain ⟨od, J, _⟩ := J.look
    obtain ⟨m, hF⟩ := I.fr
    refine PySem.W.len_K hF I.ok.mod.kin J hs hf ?_
    refine wpAny_mono (run_in1 (vs := [V.ref a]) (us := [Value.ref a]) F hr hb I (.cons rfl .nil) hsp) (fun r s' hq => ?_) fun _ _ h => h
    obtain ⟨z, H', I', rz, k, ez, hk, q⟩ := hq
    subst ez
    obtain ⟨t, rfl⟩ := rz
    exact ⟨hk, .int k, H', I'.tok _, ⟨_, rfl⟩, q⟩
end
end Ew
namespace Ew
open PySem PySem.Spec PyProof.Rows L2
section
variable {X : Cx}
theorem cut_all {xs : List V} {lo hi : Option Int} (h : HT.sIx xs.length 0 lo = 0 ∧ HT.sIx xs.length xs.length hi = xs.length) : cutV xs lo hi = xs := by
  unfold cutV
  rw [h.1, h.2, List.drop_zero, Nat.sub_zero, List.take_length]
/-- t[lo:hi], the whole too -/
def rSl1 (K : PySem.W.Frag) : V → Option Int → Option Int → Hp → VK → Prop := fun x lo hi H Q => ∃ a xs, x = .ref a ∧ SqT K H a xs ∧ ∀ p H', Same H H' → SqT K H' p (cutV xs lo hi) → Q (.ref p) H'
theorem sl_tup1 : SlR X (rSl1 X.K) := by
  intro pins s σ H x v vl vu lo hi sl Q I rx hs pl pu h
  obtain ⟨a, xs, rfl, hx, q⟩ := h
  exact sl_tupA pins s σ H _ v vl vu lo hi sl Q I rx hs pl pu ⟨a, xs, rfl, hx, fun hw => q a H (Same.refl H) (by rw [cut_all hw]; exact hx), fun _ p np => q p _ (sameU np) (.inl (.inl upd_same))⟩
end
theorem cut_from (xs : List V) (k : Nat) : cutV xs (some (k : Int)) none = xs.drop k := by
  unfold cutV
  rw [HT.sIx_nat, HT.sIx_none]
  rcases Nat.le_total k xs.length with h | h
  · rw [Nat.min_eq_left h, List.take_of_length_le (by rw [List.length_drop]; omega)]
  · rw [Nat.min_eq_right h, List.drop_of_length_le h, Nat.sub_self]
    simp
theorem cut_to (xs : List V) (k : Nat) : cutV xs none (some (k : Int)) = xs.take k := by
  unfold cutV
  rw [HT.sIx_nat, HT.sIx_none, List.drop_zero, Nat.sub_zero]
  rcases Nat.le_total k xs.length with h | h
  · rw [Nat.min_eq_left h]
  · rw [Nat.min_eq_right h, List.take_of_length_le h, List.take_length]
theorem Paired.drop {α β : Type} {R : α → β → Prop} : ∀ {xs : List α} {ys : List β} (n : Nat), Paired R xs ys → Paired R (xs.drop n) (ys.drop n)
  | _, _, 0, h => h
  | _, _, _ + 1, .nil => .nil
  | _, _, n + 1, .cons _ t => Paired.drop n t
theorem Paired.app {α β : Type} {R : α → β → Prop} : ∀ {xs : List α} {ys : List β} {us : List α} {ws : List β}, Paired R xs ys → Paired R us ws → Paired R (xs ++ us) (ys ++ ws)
  | _, _, _, _, .nil, h => h
  | _, _, _, _, .cons r t, h => .cons r (Paired.app t h)
theorem Paired.rev {α β : Type} {R : α → β → Prop} : ∀ {xs : List α} {ys : List β}, Paired R xs ys → Paired R xs.reverse ys.reverse
  | _, _, .nil => .nil
  | x :: xs, y :: ys, .cons r t => by
    rw [List.reverse_cons, List.reverse_cons]
    exact Paired.app (Paired.rev t) (.cons r .nil)
end Ew
namespace Ew
open PySem PySem.Spec PyProof.Rows L2
/-! ### repr of data, where no repr is under way -/
mutual
theorem dp_noDict {K : PySem.W.Frag} {H : Hp} : ∀ (d : PyData) (v : V), Dp K H v d → d.hasDict = false
  | .none, _, _ => rfl
  | .bool _, _, _ => rfl
  | .int _, _, _ => rfl
  | .str _, _, _ => rfl
  | .list ds, _, h => by
    cases h with
    | lst _ ha => exact dpAll_noDict ds _ ha
  | .tuple ds, _, h => by
    cases h with
    | tup _ ha => exact dpAll_noDict ds _ ha
  | .dict _, _, h => by cases h
theorem dpAll_noDict {K : PySem.W.Frag} {H : Hp} : ∀ (ds : List PyData) (vs : List V), DpAll K H vs ds → PyData.hasDictAll ds = false
  | [], _, _ => rfl
  | d :: ds, _, h => by
    cases h with
    | cons h1 h2 =>
      show (PyData.hasDict d || PyData.hasDictAll ds) = false
      rw [dp_noDict d _ h1, dpAll_noDict ds _ h2]
      rfl
end
def rRepr (K : PySem.W.Frag) : List V → Hp → VK → Prop := fun xs H Q => ∃ v d, xs = [v] ∧ Dp K H v d ∧ d.showable = true ∧ d.depth ≤ 60 ∧ d.shown.length ≤ sizeLine ∧ Q (.str d.shown) H
section
variable {X : Cx}
theorem call_repr (hg : X.A.guards = some []) (hu : X.A.units + 64 < cLine) : CallR X (.builtin "repr") (rRepr X.K) := by
  intro pins s σ H xs us Q I r h
  obtain ⟨v, d, rfl, hd, hs, hdep, hsz, q⟩ := h
  cases r with
  | cons r1 r2 =>
    cases r2
    rename_i u
    obtain ⟨as, rd⟩ := Dp.reads I d v u hd r1
    have nod := dp_noDict d v hd
    cases hd with
    | non => cases (show u = Value.none from r1); exact PySem.P.repr_of_none ⟨.str _, H, I.tok _, ⟨_, rfl⟩, q⟩
    | bl b => cases (show u = Value.bool b from r1); exact PySem.P.repr_of_bool ⟨.str _, H, I.tok _, ⟨_, rfl⟩, q⟩
    | int i => obtain ⟨t, e⟩ := (show ∃ t, u = Value.int i t from r1); cases e; exact PySem.P.repr_of_int (of_decide_eq_true hs) ⟨.str _, H, I.tok _, ⟨_, rfl⟩, q⟩
    | str y => obtain ⟨t, e⟩ := (show ∃ t, u = Value.str y t from r1); cases e; exact PySem.P.repr_of_str (hsz := hsz) ⟨.str _, H, I.tok _, ⟨_, rfl⟩, q⟩
    | @lst a xs ds h1 h2 =>
      cases (show u = Value.ref a from r1)
      exact repr_of_reads' rd hs (fun e => by rw [nod] at e; cases e) hg (by omega) (fun _ _ e => e) (fun h' u tk hk => ⟨.str _, H, I.kept (t' := tk) hk, ⟨_, rfl⟩, q⟩) hsz
    | @tup a xs ds h1 h2 =>
      cases (show u = Value.ref a from r1)
      exact repr_of_reads' rd hs (fun e => by rw [nod] at e; cases e) hg (by omega) (fun _ _ e => e) (fun h' u tk hk => ⟨.str _, H, I.kept (t' := tk) hk, ⟨_, rfl⟩, q⟩) hsz
end
/-! ### a def that is called where no repr is under way -/
structure FnOkG (P : Program) (w : World) (K : PySem.W.Frag) (mg : Str → Option Value) (base : Heap) (k : Nat) (f : Addr) (fd : FuncData) (ps : List Str) (sp : Sp) : Prop where
  len : ∀ vs H Q E, sp vs H Q E → vs.length = ps.length
  run : ∀ (A : Around) (outer : List Env) (s : Shared) (H : Hp) (args : Args) (us : List Value) (vs : List V) (Q : VK) (E : XK), A.guards = some [] → Room k A → Env0 P w K mg base A outer s H → BindsTo s fd args (ps.zip us) → Vals vs us → sp vs H Q E →
    codeAny (model P w) A (.call (.ref f) args) (CR CX0 outer P w H s Q E) s
section
variable {P : Program} {w : World} {K : PySem.W.Frag} {mg : Str → Option Value} {base : Heap}
theorem okG {x qual : Str} {st : Stmt} {f : Addr} {fd : FuncData} {N ps : List Str} {k : Nat} {sp : Sp} (F : Fun K x qual st f fd) (S : FnScope N ps (defScope st)) (len : ∀ vs H Q E, sp vs H Q E → vs.length = ps.length)
    (hbody : ∀ (cdv : Value) (A : Around) (outer : List Env) (s : Shared) (H : Hp) (vs : List V) (Q : VK) (E : XK), A.guards = some [] → Room k (A.deeper (envOfC qual (defScope st) s.heap.objs.size f cdv)) → sp vs H Q E →
      ∃ t, PSs (cxOf CX0 P w K mg base N qual (defScope st) f cdv A outer s H E).nox (defBody st) t ∧ t { nx := fun _ H' => Q .non H', rt := Q } (L2.start N vs) H) : FnOkG P w K mg base (k + 1) f fd ps sp := by
  obtain ⟨oc, od, kV, doc, pm, an, cdv, ct, osl, rfl, lk, hcd⟩ := F.ex
  refine ⟨len, fun A outer s H args us vs Q E hgd hr e0 hb r hsp => ?_⟩
  have sub : ∀ b o, base.get? b = some o → s.heap.get? b = some o := fun b o e => (e0.bs b o e).1
  have inK : K.In s.heap := e0.mod.kin.keeps sub
  have lim : s.heap.NoLimit := e0.mod.nolimit.keeps sub
  have hkind : ∀ y ∈ ps.zip us, (defScope st).names.lookup y.1 = some .local ∨ ((defScope st).names.lookup y.1 = some .cell ∧ ((cellsFrom (s.heap.objs.size + 1) (defScope st).names []).lookup y.1).isSome = true) := by
    rintro ⟨n, v⟩ hy
    exact (S.par n (List.of_mem_zip hy).1).elim .inl fun z => .inr ⟨z, PySem.W.cellsFrom_some _ _ _ (.inl z)⟩
  refine codeAny_call_function hr.depth (inK _ _ lk) rfl S.co S.gen rfl (PySem.W.codeRec_of inK hcd) (hb _ _ _ _ (wpAny_newFunctionEnv_cells S.kind hkind fun env he s1 hs1 => ?_))
  subst he
  obtain ⟨t, ht, hq⟩ := hbody cdv A outer s H vs Q E hgd (hr.deeper _) hsp
  have I := inv_start (CX := CX0) (P := P) (w := w) (f := f) (cd := cdv) (E := E) (qual := qual) S hr.hd e0 (len _ _ _ _ hsp) r hs1
  refine ⟨lim.keeps hs1.toInCall.keep, codeAny_func (wpAny_mono (ht.nox.run [] s1 (L2.start N vs) H _ I hq) (fun fl s' hs => ?_) fun e s' hs => hs)⟩
  cases fl with
  | ret u => obtain ⟨v, σ', H', J, rv, q⟩ := hs; exact ⟨v, H', J.os, J.bare, J.base, J.hok, rv, q⟩
  | next => obtain ⟨σ', H', J, q⟩ := hs; exact ⟨.non, H', J.os, J.bare, J.base, J.hok, rfl, q⟩
  | brk => obtain ⟨_, _, _, q⟩ := hs; exact q.elim
  | cont => obtain ⟨_, _, _, q⟩ := hs; exact q.elim
end
section
variable {X : Cx} {k : Nat} {f : Addr} {fd : FuncData} {ps : List Str} {sp : Sp} {x : Str} {p pos : Pos} {e : Expr} {es : List Expr} {t : TA}
/-- f(e, ..), f such a def -/
theorem pe_callG (F : FnOkG X.prog X.w X.K X.mg X.base k f fd ps sp) (hgd : X.A.guards = some []) (hr : Room k X.A) (hg : Gl X x) (hm : X.mg x = some (.ref f)) (hk : PySem.W.keepIn X.K (.ref f) = true) (hb : Binds X.K fd ps [])
    (ha : PA X (e :: es) t) (hdb : (x == ("__debug__" : Str)) = false := by decide) (he : starEach (e :: es) X.env = (false, eval e X.env) :: starEach es X.env := by rfl) (hpl : (backTo pos (starEach es X.env)).any (·.1) = false := by rfl) :
    PE X (.Call (.Name x p) (e :: es) [] pos) (tCall sp [] E0 t) := by
  refine ⟨fun pins s σ H Q I h => wpAny_Call_Name_kw (ld_glob I hg hm ?_ hdb)⟩
  refine PySem.W.callWith_K (h₀ := X.base) I.ok.mod.kin hk (thn (ha.run pos pins s σ H _ I h) fun us s1 ⟨vs, H1, I1, r, q⟩ => ⟨I1.kIn, ?_⟩) he hpl
  have q2 : sp (vs ++ []) H1 Q E0 := q
  rw [List.append_nil] at q2
  have hl : us.length = ps.length := by rw [← r.length]; exact F.len _ _ _ _ q2
  refine wpAny_call (codeAny_mono (F.run X.A X.stack s1 H1 ⟨us, []⟩ us vs Q E0 hgd hr I1.env0 (by simpa using hb s1 us I1.kIn (by simpa using hl)) r q2) fun r s' hq => ?_)
  cases r with
  | error _ => exact False.elim hq
  | ok fl =>
    cases fl with
    | ret u => exact I1.after hq
    | next => exact False.elim hq
    | brk => exact False.elim hq
    | cont => exact False.elim hq
end
/-- what is tracked ahead of the law's call: the script alone -/
def only (a : Addr) (o : Obj) (xs : List V) : Hp := fun b => if b = a then some (.frz o (.lst xs)) else none
theorem only_ne {a b : Addr} {o : Obj} {xs : List V} (h : b ≠ a) : only a o xs b = none := if_neg h
theorem only_at {a : Addr} {o : Obj} {xs : List V} : only a o xs a = some (.frz o (.lst xs)) := if_pos rfl
theorem only_is {a b : Addr} {o : Obj} {xs : List V} {u : HO} (h : only a o xs b = some u) : b = a ∧ u = .frz o (.lst xs) := by
  by_cases e : b = a
  · subst e
    rw [only_at] at h
    exact ⟨rfl, (Option.some.inj h).symm⟩
  · rw [only_ne e] at h
    cases h
section
variable {P : Program} {w : World} {K : PySem.W.Frag} {mg mb : Str → Option Value} {k : Nat} {fa a : Addr} {fd : FuncData} {x : Str} {sp : Sp} {s₁ : Shared} {vs : List Value} {ns : List Int}
/-- the law's call from an abstract heap that tracks at most the script -/
theorem call_from {H : Hp} (KX : K.In s₁.heap) (hns : s₁.heap.Ns mainGlobals mg) (hb : s₁.heap.Ns builtinsNs mb) (hbb : ∀ x : Str, x ≠ "__name__" → mb x = bootBuiltins x) (hlim : s₁.heap.NoLimit) (hg : s₁.gens = #[])
    (hr : Room k callerA) (F : ∀ base : Heap, K.In base → base.Ns mainGlobals mg → FnOkG P w K mg base k fa fd [x] sp) (hbind : ∀ (s : Shared) (u : Value), BindsTo s fd ⟨[u], []⟩ [(x, u)])
    (hsp : sp [.ref a] H (fun v _ => v = .bl true) fun _ _ _ => False) (hok : HOk P w H s₁.heap) (dicts : ∀ b o es ep, s₁.heap.get? b = some o → o.data = .dict es ep → H b = none) (kept : ∀ b o, K.lookup b = some o → H b = none)
    (frz : ∀ b u, H b = some u → ∃ o xs, u = .frz o (.lst xs)) :
    codeAny (model P w) callerA (.call (.ref fa) ⟨[.ref a], []⟩) (fun r s' => r = .ok (.ret (.bool true)) ∧ OldK s₁.heap s'.heap ∧ s'.os = s₁.os ∧ AllBare s'.gens) s₁ := by
  have nsB : ∀ {b : Addr} {m : Str → Option Value}, s₁.heap.Ns b m → (hidT s₁.heap H).Ns b m := by
    rintro b m ⟨o, es, ep, e, d, r⟩
    exact ⟨o, es, ep, hidT_get e (dicts _ _ _ _ e d), d, r⟩
  have inB : K.In (hidT s₁.heap H) := fun b o e => hidT_get (KX b o e) (kept b o e)
  have hM : Mod K mg (hidT s₁.heap H) := ⟨inB, nsB hns, ⟨mb, nsB hb, hbb⟩, let ⟨mc, h1, h2⟩ := hlim; ⟨mc, nsB h1, h2⟩⟩
  have noFr : ∀ b ∈ frs ([] : List Env), H b = none := fun b z => absurd (show b ∈ ([] : List Addr) from z) (by simp)
  have e0 : Env0 P w K mg (hidT s₁.heap H) callerA [] s₁ H := ⟨rfl, hM, fun b o e => of_hidT e, Nat.le_of_eq (hidT_size _ _), trivial, noFr, hok, .of_eq hg⟩
  refine codeAny_mono ((F _ inB (nsB hns)).run callerA [] s₁ H ⟨[.ref a], []⟩ [.ref a] [.ref a] _ _ rfl hr e0 (hbind s₁ (.ref a)) (.cons rfl .nil) hsp) fun r s' h => ?_
  cases r with
  | error e => exact False.elim h
  | ok fl =>
    cases fl with
    | next => exact False.elim h
    | brk => exact False.elim h
    | cont => exact False.elim h
    | ret u =>
      obtain ⟨v, H', os, bare, un, hok', r', q⟩ := h
      obtain rfl : v = .bl true := q
      obtain rfl : u = Value.bool true := r'
      refine ⟨rfl, OldK.of_keep fun b o e => ?_, os, bare⟩
      cases hb2 : H b with
      | none => exact un.keep b o e hb2 (fun z => absurd (show b ∈ ([] : List Addr) from z) (by simp)) (by simp)
      | some u =>
        obtain ⟨ob, xs, rfl⟩ := frz b u hb2
        obtain ⟨e1, _⟩ := hok b _ hb2
        obtain ⟨e2, _⟩ := hok' b _ (un.frzs b ob _ hb2)
        exact e2.trans (e1.symm.trans e)
end
/-- the end of a law whose def asks that no repr is under way -/
theorem walk_ofG {l : PySem.W.OpenLaw} {n k : Nat} {q : Program} {loose : List Str} {XP : (Str → Option Value) → Heap → Prop} {YP : World → Heap → Prop} {d : DefRec} {K : Params → PySem.W.Frag} {sp : World → Sp} {x : Str}
    (hn : l.most = some n) (hn2 : n ≤ sizeLine) (hdf : d.params.defaults = []) (hr : Room k callerA)
    (hY : ∀ (w : World) (h : Heap), YP w h → (K w.params).In h)
    (F : ∀ (w : World) (mg : Str → Option Value) (fa : Addr) (h : Heap), (K w.params).In h → h.Ns mainGlobals mg → mg d.name = some (.ref fa) →
      ∃ fd : FuncData, (∀ (s : Shared) (u : Value), BindsTo s fd ⟨[u], []⟩ [(x, u)]) ∧
        ∀ base : Heap, (K w.params).In base → base.Ns mainGlobals mg → FnOkG l.prog w (K w.params) mg base k fa fd [x] (sp w))
    (hsp : ∀ (w : World) (H : Hp) (a : Addr) (ns : List Int), ns.length ≤ n → SqL (K w.params) H a (ns.map V.int) → sp w [.ref a] H (fun v _ => v = .bl true) fun _ _ _ => False) :
    PySem.W.WalkO q loose XP YP l.row.toRowW d [] (fun f vs => PySem.call f vs) := by
  refine Att.attach_call hn hdf fun w s₀ s₁ mg mb fa o pm cd doc a vs ns G Y ho hd hcd hmg hobj hints hlen hg => ?_
  have KX := hY w _ Y
  obtain ⟨fd, hb, hF⟩ := F w mg fa _ KX G.T.g hmg
  have rv := vals_ints hints
  have ls : (ns.map V.int).length ≤ sizeLine := by rw [List.length_map]; exact Nat.le_trans hlen hn2
  cases hk : (K w.params).lookup a with
  | some o =>
    -- the script is one of the module's own objects
    have e := KX a o hk
    rw [hobj] at e
    cases e
    have none_ : ∀ b, (fun _ => none : Hp) b = none := fun _ => rfl
    refine call_from (H := fun _ => none) KX G.T.g G.T.b G.T.builtins G.T.nolimit hg hr hF hb (hsp w _ a ns hlen (.inr ⟨_, vs.toArray, _, hk, rfl, rfl, rfl, ?_, by simpa using rv⟩)) (fun b u z => by cases z) (fun _ _ _ _ _ _ => rfl) (fun _ _ _ => rfl) (fun b u z => by cases z)
    rw [List.size_toArray, ← rv.length]
    exact ls
  | none =>
    refine call_from (H := only a { cls := .type "list", data := .seq vs.toArray } (ns.map V.int)) KX G.T.g G.T.b G.T.builtins G.T.nolimit hg hr hF hb (hsp w _ a ns hlen (.inl (.inr ⟨_, only_at⟩))) (fun b u z => ?_) (fun b ob es ep e d => ?_) (fun b ob e => ?_) (fun b u z => ⟨_, _, (only_is z).2⟩)
    · obtain ⟨rfl, rfl⟩ := only_is z
      exact ⟨hobj, ls, vs, _, rv, hobj⟩
    · refine only_ne fun z => ?_
      rw [z, hobj] at e
      cases e
      cases (show Data.seq vs.toArray _ = Data.dict es ep from d)
    · refine only_ne fun z => ?_
      rw [z, hk] at e
      cases e
end Ew
namespace Ew
open PySem PySem.Spec PyProof.Rows L2
/-! ### sorted(t), t a tuple of ints -/
section
variable {prog : Program} {w : World} {A : Around} {E : Value → Shared → Prop} {s : Shared}
/-- the heap behind the collecting of vs -/
abbrev heapC (h : Heap) (vs : List Value) : Heap := (h.push (seqObj "list" #[] 0)).update h.objs.size (Obj.mapSeq (· ++ vs.toArray))
theorem collect_tup {l : Addr} {vs : List Value} {Q : List Value → Shared → Prop} (hl : IsTup s.heap l vs.toArray) (hsz : vs.length ≤ sizeLine) (h : Q vs { s with heap := heapC s.heap vs }) : wpAny (model prog w) A (collect (.ref l)) Q E s := by
  obtain ⟨o, ho, hc, n, hd⟩ := id hl
  have ho' : (s.heap.push (seqObj "list" #[] 0)).get? l = some o := Heap.get?_push_of_some _ ho
  have hn : (s.heap.push (seqObj "list" #[] 0)).get? s.heap.objs.size = some (seqObj "list" #[] 0) := Heap.get?_push_size _ rfl
  unfold collect
  refine wpAny_bind (wpAny_runValue (codeAny_builtin entry_proto_collect' ?_))
  show wpAny _ _ (do again (.builtin "list.__iadd__" ⟨[← newList [], .ref l], []⟩)) _ _ s
  refine wpAny_bind (wpAny_newList (wpAny_pure ⟨Code.quiet_builtin _ (by decide +kernel), codeAny_builtin entry_list_iadd' ?_⟩))
  show wpAny _ _ (Builtin.List.listExtendWith (.ref s.heap.objs.size) (.ref l) (.ref s.heap.objs.size)) _ _ { s with heap := s.heap.push (seqObj "list" #[] 0) }
  unfold Builtin.List.listExtendWith
  refine wpAny_bind (wpAny_typeOf (T := "tuple") ⟨o, ho', hc⟩ ?_)
  rw [if_pos (by rw [show (Value.type "tuple" == Value.type "tuple") = true from rfl, Bool.or_true])]
  refine wpAny_bind (listItems_at ho' hd (wpAny_bind (listItems_at (xs := #[]) (n := 0) hn rfl ?_)))
  rw [if_neg (by simp)]
  refine wpAny_bind (listUpdate_at (xs := #[]) (n := 0) hn rfl (wpAny_pure ?_) (Nat.zero_le _) (by show (#[] ++ vs.toArray).size ≤ sizeLine + 1; simp; omega))
  show wpAny (model prog w) A (do
      let o ← load s.heap.objs.size
      match o.data with
      | .seq xs _ => pure xs.toList
      | _ => unsupported "internal:collect") Q E { s with heap := heapC s.heap vs }
  refine wpAny_bind (wpAny_load (get?_update_seq hn _) ?_)
  show wpAny _ _ (pure ((#[] : Array Value) ++ vs.toArray).toList) Q E _
  have e : ((#[] : Array Value) ++ vs.toArray).toList = vs := by simp
  rw [e]
  exact wpAny_pure h
theorem sorted_tup {l : Addr} {vs : List Value} {ns : List Int} {Q : Value → Shared → Prop} (hl : IsTup s.heap l vs.toArray) (hI : IntsAre vs ns) (h64 : vs.length < 64)
    (h : ∀ (out : Array Value) (ns' : List Int), IntsAre out.toList ns' → ns'.Perm ns → ns'.Pairwise (· ≤ ·) → Q (.ref (s.heap.objs.size + 1)) { s with heap := sortedAll s.heap vs out }) :
    wpAny (model prog w) A (call (.builtin "sorted") [.ref l]) Q E s := by
  have zs : vs.length ≤ sizeLine := Nat.le_trans (Nat.le_of_lt h64) (by decide)
  have hsz : (heapC s.heap vs).objs.size = s.heap.objs.size + 1 := by rw [Heap.size_update, size_push']
  have hoL : ((heapC s.heap vs).push (seqObj "list" vs.toArray 0)).get? (s.heap.objs.size + 1) = some (seqObj "list" vs.toArray 0) := by
    rw [← hsz]
    exact Heap.get?_push_size _ rfl
  refine Calls.call_function_entry kind_sorted plain_sorted entry_sorted (args_sorted1 _) ?_
  unfold Builtin.«sorted»
  refine wpAny_bind (m := checkCount "sorted" 1 1 _) (wpAny_pure (wpAny_bind (collect_tup hl zs (wpAny_bind (wpAny_newList ?_)))))
  show wpAny _ _ _ _ _ { s with heap := (heapC s.heap vs).push (seqObj "list" vs.toArray 0) }
  rw [hsz]
  exact wpAny_bind (wpAny_holding (wpAny_call_entry slot_list_sort ⟨_, hoL, rfl⟩ entry_list_sort (list_sort_tree hoL hI h64 fun out ns' a1 a2 a3 => ⟨_, rfl, wpAny_pure ⟨_, rfl, h out ns' a1 a2 a3⟩⟩) (args_list_sort _)))
end
section
variable {X : Cx}
def rSortedTu (K : PySem.W.Frag) : List V → Hp → VK → Prop := fun vs H Q => ∃ (a : Addr) (ns : List Int), vs = [V.ref a] ∧ SqT K H a (ns.map V.int) ∧ ns.length < 64 ∧ ∀ (ns' : List Int) (p : Addr), ns'.Perm ns → ns'.Pairwise (· ≤ ·) → H p = none → Q (.ref p) (upd H p (.lst (ns'.map V.int)))
theorem cr_sortedTu : CallR X (.builtin "sorted") (rSortedTu X.K) := by
  intro pins s σ H vs us Q I r h
  obtain ⟨a, ns, rfl, hs, h64, q⟩ := h
  obtain ⟨its, rv, hl, _⟩ := I.tuple hs
  rw [Vals.ref1 r]
  have hi := rv.ints
  refine sorted_tup hl hi (by rw [hi.length]; exact h64) fun out ns' h1 h2 h3 => ?_
  obtain ⟨ep, he⟩ := PyProof.Rows.sortedAll_at s.heap its out
  have hz : (ns'.map V.int).length ≤ sizeLine := by rw [List.length_map, h2.length_eq]; exact Nat.le_trans (Nat.le_of_lt h64) (by decide)
  exact ⟨.ref _, upd H (s.heap.objs.size + 1) (.lst (ns'.map V.int)), I.laid (t' := s.toks) (fun _ _ => PyProof.Rows.sortedAll_old) (Nat.le_succ _) ⟨hz, out.toList, ep, vals_of_ints h1, he⟩, rfl, q ns' _ h2 h3 (I.hok.fresh (Nat.le_succ _))⟩
end
end Ew
namespace Ew
open PySem PySem.Spec PyProof.Rows L2
/-! ### the counts -/
def pres (n : Nat) (as : List Int) : List Int := ((List.range n).filter fun i => !decide (((i : Nat) : Int) ∈ as)).map fun i => ((i : Nat) : Int)
/-- by what is read outside of the set -/
def cnt2 (r : Int × List Int) (row works : List Int) : Int :=
  let o : Int := r.1 - ((row.filter fun x => !decide (x ∈ works)).length : Nat)
  let i : Int := ((works.filter fun x => decide (x ∈ r.2)).length : Nat)
  if i < o then i else o
/-- by what is read within, and what more can be -/
def cnt1 (r : Int × List Int) (row works : List Int) : Int :=
  let has := row.filter fun x => decide (x ∈ works)
  let o : Int := r.1 - (row.length : Nat)
  let i : Int := ((r.2.filter fun x => decide (x ∈ works) && !decide (x ∈ has)).length : Nat)
  (has.length : Nat) + (if i < o then i else o)
theorem split_len {α : Type} (p : α → Bool) : ∀ l : List α, l.length = (l.filter p).length + (l.filter fun x => !p x).length
  | [] => rfl
  | x :: l => by
    have ih := split_len p l
    cases h : p x with
    | true => simp [h]; omega
    | false => simp [h]; omega
theorem nodup_same {xs ys : List Int} (hx : xs.Nodup) (hy : ys.Nodup) (h : ∀ z, z ∈ xs ↔ z ∈ ys) : xs.length = ys.length :=
  ((List.perm_ext_iff_of_nodup hx hy).mpr h).length_eq
theorem nodup_asc {l : List Int} (h : l.Pairwise (· < ·)) : l.Nodup := h.imp fun h => by omega
theorem cnt_eq {r : Int × List Int} {row works : List Int} (ho : RowOk r row) (hm : r.2.Pairwise (· < ·)) (hw : works.Pairwise (· < ·)) : cnt1 r row works = cnt2 r row works := by
  have nr := nodup_asc ho.1
  have nm := nodup_asc hm
  have nw := nodup_asc hw
  have e1 := split_len (fun x => decide (x ∈ works)) row
  -- the works of the set that the reader may read: those that it reads, and the others
  have e2 : (works.filter fun x => decide (x ∈ r.2)).length = (r.2.filter fun x => decide (x ∈ works)).length := nodup_same (nw.filter _) (nm.filter _) (fun z => by simp only [List.mem_filter, decide_eq_true_eq]; exact ⟨fun h => ⟨h.2, h.1⟩, fun h => ⟨h.2, h.1⟩⟩)
  have e3 := split_len (fun x => decide (x ∈ row.filter fun x => decide (x ∈ works))) (r.2.filter fun x => decide (x ∈ works))
  have e4 : ((r.2.filter fun x => decide (x ∈ works)).filter fun x => decide (x ∈ row.filter fun x => decide (x ∈ works))).length = (row.filter fun x => decide (x ∈ works)).length := nodup_same ((nm.filter _).filter _) (nr.filter _) (fun z => by
    simp only [List.mem_filter, decide_eq_true_eq]
    exact ⟨fun h => h.2, fun h => ⟨⟨ho.2.1 z h.1, h.2⟩, h⟩⟩)
  have e5 : ((r.2.filter fun x => decide (x ∈ works)).filter fun x => !decide (x ∈ row.filter fun x => decide (x ∈ works))) = r.2.filter fun x => decide (x ∈ works) && !decide (x ∈ row.filter fun x => decide (x ∈ works)) := by
    rw [List.filter_filter]
    congr 1
    funext x
    exact Bool.and_comm _ _
  rw [e4, e5] at e3
  unfold cnt1 cnt2
  dsimp only
  rw [e2]
  generalize (row.filter fun x => decide (x ∈ works)).length = h at *
  generalize (row.filter fun x => !decide (x ∈ works)).length = o at *
  generalize (r.2.filter fun x => decide (x ∈ works)).length = i at *
  have e6 : (List.filter (fun x => decide (x ∈ works) && !decide (x ∈ List.filter (fun x => decide (x ∈ works)) row)) r.2).length = i - h := by omega
  rw [e6]
  have e7 : ((i - h : Nat) : Int) = (i : Int) - h := by omega
  rw [e7, e1]
  split <;> split <;> omega
/-- one work less in the set takes off none or one -/
theorem cnt_fewer {r : Int × List Int} {row : List Int} {x : Int} {works : List Int} : cnt2 r row (x :: works) - cnt2 r row works = 0 ∨ cnt2 r row (x :: works) - cnt2 r row works = 1 ∨ ¬ (row.Nodup ∧ x ∉ works) := by
  by_cases h : row.Nodup ∧ x ∉ works
  · obtain ⟨nr, nx⟩ := h
    have e1 : ((x :: works).filter fun y => decide (y ∈ r.2)).length = (works.filter fun y => decide (y ∈ r.2)).length + (if x ∈ r.2 then 1 else 0) := by
      by_cases hx : x ∈ r.2 <;> simp [hx]
    have e2 : ∀ row : List Int, row.Nodup → (row.filter fun y => !decide (y ∈ works)).length = (row.filter fun y => !decide (y ∈ x :: works)).length + (if x ∈ row then 1 else 0) := by
      intro row
      induction row with
      | nil => intro _; rfl
      | cons y row ih =>
        intro nd
        have nd' := List.nodup_cons.mp nd
        have ih := ih nd'.2
        by_cases hxy : x = y
        · subst hxy
          have hnr : ¬ x ∈ row := nd'.1
          simp only [hnr, if_false, Nat.add_zero] at ih
          simp [nx, ih]
        · have hyx : ¬ y = x := fun e => hxy e.symm
          have hm : (x ∈ y :: row) ↔ x ∈ row := by simp [hxy]
          by_cases hy : y ∈ works
          · simp [hy, hm, ih]
          · simp [hy, hyx, hm, ih]
            omega
    have e3 := e2 row nr
    unfold cnt2
    dsimp only
    rw [e1, e3]
    generalize (works.filter fun y => decide (y ∈ r.2)).length = i
    generalize (row.filter fun y => !decide (y ∈ x :: works)).length = o
    by_cases h1 : x ∈ r.2 <;> by_cases h2 : x ∈ row <;> simp only [h1, h2, if_true, if_false] <;> (split <;> split <;> omega)
  · exact .inr (.inr h)
/-- one reading more outside of the set takes off none or one -/
theorem cnt_longer {r : Int × List Int} {row row' works : List Int} {x : Int} (hp : row'.Perm (row ++ [x])) (hx : x ∉ works) : cnt2 r row works - cnt2 r row' works = 0 ∨ cnt2 r row works - cnt2 r row' works = 1 := by
  have e : (row'.filter fun y => !decide (y ∈ works)).length = (row.filter fun y => !decide (y ∈ works)).length + 1 := by
    rw [(hp.filter _).length_eq, List.filter_append, List.length_append]
    simp [hx]
  unfold cnt2
  dsimp only
  rw [e]
  split <;> split <;> omega
def cntAt (g : Int × List Int → List Int → List Int → Int) (rs : List (Int × List Int)) (ws : List (List Int)) (works : List Int) (i : Int) : Int := match rs[i.toNat]?, ws[i.toNat]? with
  | some r, some w => g r w works
  | _, _ => 0
def wanted (ds works : List Int) : Int := (works.map fun w => ds.getD w.toNat 0).sum
end Ew
namespace Ew
open PySem PySem.Spec PyProof.Rows L2
/-! ### how long a repr is, what it can show -/
def lens (ts : List Str) : Nat := (ts.map fun t => t.length + 2).sum
theorem textFrom_le : ∀ (ts : List Str) (k : Nat) (acc : Str), (textFrom k acc ts).length ≤ acc.length + lens ts
  | [], _, acc => Nat.le_refl _
  | t :: r, k, acc => by
    have ih := textFrom_le r (k + 1) (acc ++ (if k > 0 then ", " else "" : String) ++ t)
    have e : (acc ++ (if k > 0 then ", " else "" : String) ++ t).length = acc.length + (if k > 0 then 2 else 0) + t.length := by
      rw [strLen_append, strLen_append]
      split <;> rfl
    have e2 : lens (t :: r) = t.length + 2 + lens r := by
      unfold lens
      rw [List.map_cons, List.sum_cons]
    show (textFrom (k + 1) (acc ++ (if k > 0 then ", " else "" : String) ++ t) r).length ≤ _
    rw [e2]
    rw [e] at ih
    have e3 : (if k > 0 then 2 else 0) ≤ 2 := by split <;> omega
    omega
theorem listText_le (ts : List Str) : (listText ts).length ≤ 2 + lens ts := by
  unfold listText
  rw [strLen_append]
  have := textFrom_le ts 0 "["
  have e1 : (("[" : String) : Str).length = 1 := rfl
  have e2 : (("]" : String) : Str).length = 1 := rfl
  rw [e2]
  rw [e1] at this
  omega
theorem piled_lens : ∀ ts : List Str, piled ts = lens ts
  | [] => rfl
  | t :: r => by
    rw [piled_cons, piled_lens r]
    unfold lens
    rw [List.map_cons, List.sum_cons]
theorem tupleText_le (ts : List Str) : (tupleText ts).length ≤ 3 + lens ts := by
  unfold tupleText
  rw [strLen_append, strLen_append]
  have e1 : (("(" : String) : Str).length = 1 := rfl
  have e3 : (((if ts.length == 1 then ",)" else ")" : String)) : Str).length ≤ 2 := by
    split <;> decide
  have e2 : (Str.join ", " ts).length ≤ lens ts := by
    cases ts with
    | nil => exact Nat.zero_le _
    | cons t r =>
      have := join_length_add (t :: r) (by simp)
      rw [piled_lens] at this
      omega
  rw [e1]
  omega
theorem shownAll_map {α : Type} (g : α → PyData) : ∀ l : List α, PyData.shownAll (l.map g) = l.map fun x => PyData.shown (g x)
  | [] => rfl
  | x :: l => by
    show PyData.shown (g x) :: PyData.shownAll (l.map g) = _
    rw [shownAll_map g l]
    rfl
theorem lens_map {α : Type} (g : α → Str) (b : Nat) : ∀ l : List α, (∀ x ∈ l, (g x).length ≤ b) → lens (l.map g) ≤ l.length * (b + 2)
  | [], _ => Nat.zero_le _
  | x :: l, h => by
    have ih := lens_map g b l fun y hy => h y (by simp [hy])
    have hx := h x (by simp)
    have e : lens ((x :: l).map g) = (g x).length + 2 + lens (l.map g) := by
      unfold lens
      rw [List.map_cons, List.map_cons, List.sum_cons]
    rw [e, List.length_cons, Nat.succ_mul]
    omega
theorem showAll_map {α : Type} (g : α → PyData) : ∀ l : List α, (∀ x ∈ l, PyData.showable (g x) = true) → PyData.showableAll (l.map g) = true
  | [], _ => rfl
  | x :: l, h => by
    show (PyData.showable (g x) && PyData.showableAll (l.map g)) = true
    rw [h x (by simp), showAll_map g l fun y hy => h y (by simp [hy])]
    rfl
/-- a small int: 0 to 9 -/
def Dig (i : Int) : Prop := 0 ≤ i ∧ i < 10
theorem dig_cases {i : Int} (h : Dig i) : i = 0 ∨ i = 1 ∨ i = 2 ∨ i = 3 ∨ i = 4 ∨ i = 5 ∨ i = 6 ∨ i = 7 ∨ i = 8 ∨ i = 9 := by
  obtain ⟨h1, h2⟩ := h
  omega
theorem show_int {i : Int} (h : Dig i) : PyData.showable (.int i) = true ∧ (PyData.shown (.int i)).length ≤ 1 := by
  rcases dig_cases h with rfl | rfl | rfl | rfl | rfl | rfl | rfl | rfl | rfl | rfl <;> exact ⟨by decide +kernel, by decide +kernel⟩
theorem show_dT {w : List Int} (h : ∀ x ∈ w, Dig x) : PyData.showable (dT w) = true ∧ (PyData.shown (dT w)).length ≤ 3 + w.length * 3 := by
  refine ⟨showAll_map PyData.int w fun x hx => (show_int (h x hx)).1, ?_⟩
  show (tupleText (PyData.shownAll (w.map PyData.int))).length ≤ _
  rw [shownAll_map]
  exact Nat.le_trans (tupleText_le _) (Nat.add_le_add_left (lens_map _ 1 w fun x hx => (show_int (h x hx)).2) _)
theorem show_dWs {ws : List (List Int)} {b : Nat} (h : ∀ w ∈ ws, w.length ≤ b ∧ ∀ x ∈ w, Dig x) : PyData.showable (dWs ws) = true ∧ (PyData.shown (dWs ws)).length ≤ 2 + ws.length * (5 + b * 3) := by
  refine ⟨showAll_map dT ws fun w hw => (show_dT (h w hw).2).1, ?_⟩
  show (listText (PyData.shownAll (ws.map dT))).length ≤ _
  rw [shownAll_map]
  refine Nat.le_trans (listText_le _) (Nat.add_le_add_left (Nat.le_trans (lens_map _ (3 + b * 3) ws fun w hw => ?_) (Nat.mul_le_mul_left _ (by omega))) _)
  have h1 := (show_dT (h w hw).2).2
  have h2 := Nat.mul_le_mul_right 3 (h w hw).1
  omega
theorem show_bool (b : Bool) : PyData.showable (.bool b) = true ∧ (PyData.shown (.bool b)).length ≤ 5 := by
  cases b <;> exact ⟨rfl, by decide +kernel⟩
def dPr (a b : PyData) : PyData := .list [a, b]
theorem show_dPr {a b : PyData} {n m : Nat} (ha : PyData.showable a = true ∧ (PyData.shown a).length ≤ n) (hb : PyData.showable b = true ∧ (PyData.shown b).length ≤ m) : PyData.showable (dPr a b) = true ∧ (PyData.shown (dPr a b)).length ≤ 6 + n + m := by
  refine ⟨by show (PyData.showable a && (PyData.showable b && true)) = true; rw [ha.1, hb.1]; rfl, ?_⟩
  show (listText [PyData.shown a, PyData.shown b]).length ≤ _
  have := listText_le [PyData.shown a, PyData.shown b]
  have e : lens [PyData.shown a, PyData.shown b] = (PyData.shown a).length + 2 + ((PyData.shown b).length + 2 + 0) := rfl
  rw [e] at this
  have h1 := ha.2
  have h2 := hb.2
  omega
theorem dep_dWs (ws : List (List Int)) : PyData.depth (dWs ws) ≤ 2 := Nat.succ_le_succ (depAll_map dT dep_dT ws)
theorem dep_dPr {a b : PyData} {n : Nat} (ha : PyData.depth a ≤ n) (hb : PyData.depth b ≤ n) : PyData.depth (dPr a b) ≤ n + 1 := by
  show max (PyData.depth a) (max (PyData.depth b) 0) + 1 ≤ n + 1
  omega
theorem cnt2_dig {r : Int × List Int} {row works : List Int} (ho : RowOk r row) (h6 : r.1 ≤ 6) : Dig (cnt2 r row works) := by
  have h1 := List.length_filter_le (fun x => !decide (x ∈ works)) row
  have h2 := ho.2.2
  unfold cnt2 Dig
  dsimp only
  split <;> omega
section
variable {X : Cx}
/-- t + u, whatever is empty -/
def rCat1 (K : PySem.W.Frag) : R2 := fun x y H Q => ∃ a b xs ys, x = .ref a ∧ y = .ref b ∧ SqT K H a xs ∧ SqT K H b ys ∧ xs.length + ys.length ≤ sizeLine ∧ ∀ p H', Same H H' → SqT K H' p (xs ++ ys) → Q (.ref p) H'
theorem op_cat1 : OpR X (binaryOp .Add) (rCat1 X.K) := by
  intro pins s σ H x y v u Q I rx ry h
  obtain ⟨a, b, xs, ys, rfl, rfl, ha, hb, hz, q⟩ := h
  exact op_catA pins s σ H _ _ v u Q I rx ry ⟨a, b, xs, ys, rfl, rfl, ha, hb, hz, fun e => q b H (Same.refl H) (by rw [e]; exact hb), fun _ e => q a H (Same.refl H) (by rw [e, List.append_nil]; exact ha), fun _ _ p np => q p _ (sameU np) (.inl (.inl upd_same))⟩
end
end Ew
namespace Ew
open PySem PySem.Spec PyProof.Rows L2
/-! ### data that may hold an empty dict; lists at places that are as asked -/
mutual
inductive Dq (K : PySem.W.Frag) (P : Addr → Prop) (H : Hp) : V → PyData → Prop
  | non : Dq K P H .non .none
  | bl (b : Bool) : Dq K P H (.bl b) (.bool b)
  | int (i : Int) : Dq K P H (.int i) (.int i)
  | str (x : Str) : Dq K P H (.str x) (.str x)
  | lst {a : Addr} {xs : List V} {ds : List PyData} : P a → H a = some (.lst xs) → DqA K P H xs ds → Dq K P H (.ref a) (.list ds)
  | tup {a : Addr} {xs : List V} {ds : List PyData} : SqT K H a xs → DqA K P H xs ds → Dq K P H (.ref a) (.tuple ds)
  | dic {a : Addr} : H a = some (.dK []) → Dq K P H (.ref a) (.dict [])
inductive DqA (K : PySem.W.Frag) (P : Addr → Prop) (H : Hp) : List V → List PyData → Prop
  | nil : DqA K P H [] []
  | cons {v : V} {d : PyData} {vs : List V} {ds : List PyData} : Dq K P H v d → DqA K P H vs ds → DqA K P H (v :: vs) (d :: ds)
end
def tyD : PyData → String
  | .none => "NoneType"
  | .bool _ => "bool"
  | .int _ => "int"
  | .str _ => "str"
  | .list _ => "list"
  | .tuple _ => "tuple"
  | .dict _ => "dict"
theorem dq_bt {K : PySem.W.Frag} {P : Addr → Prop} {H : Hp} {v : V} {d : PyData} (h : Dq K P H v d) : TyX K H v (.type (tyD d)) := by
  cases h with
  | non => exact .base .non
  | bl b => exact .base (.bl b)
  | int i => exact .base (.int i)
  | str x => exact .base (.str x)
  | lst _ e _ => exact .base (.lst e)
  | tup q _ =>
    rcases q with (h | ⟨o, h⟩) | ⟨o, its, n, h, c, _⟩
    · exact .base (.tup h)
    · exact .fTuple h
    · exact .kTuple h c
  | dic e => exact .base (.dK e)
/-- what such data needs of another heap -/
def Over (P : Addr → Prop) (H H' : Hp) : Prop := ∀ a o, (∀ xs, o = .lst xs → P a) → H a = some o → H' a = some o
mutual
theorem Dq.over {K : PySem.W.Frag} {P : Addr → Prop} {H H' : Hp} (s : Over P H H') : ∀ {d : PyData} {v : V}, Dq K P H v d → Dq K P H' v d
  | .none, _, h => by cases h; exact .non
  | .bool _, _, h => by cases h; exact .bl _
  | .int _, _, h => by cases h; exact .int _
  | .str _, _, h => by cases h; exact .str _
  | .list ds, _, h => by
    cases h with
    | lst p e a => exact .lst p (s _ _ (fun _ _ => p) e) (DqA.over s a)
  | .tuple ds, _, h => by
    cases h with
    | tup q a =>
      refine .tup ?_ (DqA.over s a)
      rcases q with (h | ⟨o, h⟩) | h
      · exact .inl (.inl (s _ _ (fun xs e => by cases e) h))
      · exact .inl (.inr ⟨o, s _ _ (fun xs e => by cases e) h⟩)
      · exact .inr h
  | .dict kvs, _, h => by
    cases h with
    | dic e => exact .dic (s _ _ (fun xs e => by cases e) e)
theorem DqA.over {K : PySem.W.Frag} {P : Addr → Prop} {H H' : Hp} (s : Over P H H') : ∀ {ds : List PyData} {vs : List V}, DqA K P H vs ds → DqA K P H' vs ds
  | [], _, h => by cases h; exact .nil
  | d :: ds, _, h => by
    cases h with
    | cons a b => exact .cons (Dq.over s a) (DqA.over s b)
end
theorem over_same {P : Addr → Prop} {H H' : Hp} (s : Same H H') : Over P H H' := fun _ _ _ e => s _ _ e
theorem over_ext {P : Addr → Prop} {f : Addr} {H H' : Hp} (s : Ext1 f H H') (hf : FeedAt H f) (np : ¬ P f) : Over P H H' := fun a o h e => by
  by_cases n : a = f
  · subst n
    obtain ⟨d, t, z⟩ := hf
    rw [z] at e
    cases e
    exact absurd (h _ rfl) np
  · exact s.1 _ _ n e
theorem over_upd {P : Addr → Prop} {H : Hp} {D : Addr} {xs : List V} {o : HO} (e : H D = some (.lst xs)) (np : ¬ P D) : Over P H (upd H D o) := fun a u h z => by
  by_cases n : a = D
  · subst n
    rw [e] at z
    cases z
    exact absurd (h _ rfl) np
  · rw [upd_ne n]
    exact z
mutual
theorem Dq.imp {K : PySem.W.Frag} {P P' : Addr → Prop} {H : Hp} (s : ∀ a xs, H a = some (.lst xs) → P a → P' a) : ∀ {d : PyData} {v : V}, Dq K P H v d → Dq K P' H v d
  | .none, _, h => by cases h; exact .non
  | .bool _, _, h => by cases h; exact .bl _
  | .int _, _, h => by cases h; exact .int _
  | .str _, _, h => by cases h; exact .str _
  | .list ds, _, h => by
    cases h with
    | lst p e a => exact .lst (s _ _ e p) e (DqA.imp s a)
  | .tuple ds, _, h => by
    cases h with
    | tup q a => exact .tup q (DqA.imp s a)
  | .dict kvs, _, h => by
    cases h with
    | dic e => exact .dic e
theorem DqA.imp {K : PySem.W.Frag} {P P' : Addr → Prop} {H : Hp} (s : ∀ a xs, H a = some (.lst xs) → P a → P' a) : ∀ {ds : List PyData} {vs : List V}, DqA K P H vs ds → DqA K P' H vs ds
  | [], _, h => by cases h; exact .nil
  | d :: ds, _, h => by
    cases h with
    | cons a b => exact .cons (Dq.imp s a) (DqA.imp s b)
end
theorem DqA.len {K : PySem.W.Frag} {P : Addr → Prop} {H : Hp} : ∀ {vs : List V} {ds : List PyData}, DqA K P H vs ds → vs.length = ds.length
  | [], [], _ => rfl
  | _ :: vs, _ :: ds, .cons _ t => by rw [List.length_cons, List.length_cons, DqA.len t]
theorem DqA.at1 {K : PySem.W.Frag} {P : Addr → Prop} {H : Hp} : ∀ {vs : List V} {ds : List PyData} {i : Nat} {v : V}, DqA K P H vs ds → vs[i]? = some v → ∃ d, ds[i]? = some d ∧ Dq K P H v d
  | [], [], i, v, _, e => by simp at e
  | _ :: vs, _ :: ds, 0, v, .cons r _, e => by
    simp at e
    subst e
    exact ⟨_, rfl, r⟩
  | _ :: vs, _ :: ds, i + 1, v, .cons _ t, e => by
    obtain ⟨d, h1, h2⟩ := DqA.at1 (i := i) (v := v) t (by simpa using e)
    exact ⟨d, by simpa using h1, h2⟩
theorem dqA_ints {K : PySem.W.Frag} {P : Addr → Prop} {H : Hp} : ∀ l : List Int, DqA K P H (l.map V.int) (l.map PyData.int)
  | [] => .nil
  | _ :: l => .cons (.int _) (dqA_ints l)
theorem dqA_map {K : PySem.W.Frag} {P : Addr → Prop} {H : Hp} {α : Type} {R : V → α → Prop} {g : α → PyData} (h : ∀ v a, R v a → Dq K P H v (g a)) : ∀ {vs : List V} {as : List α}, Paired R vs as → DqA K P H vs (as.map g)
  | _, _, .nil => .nil
  | _, _, .cons r t => .cons (h _ _ r) (dqA_map h t)
theorem dq_dT {K : PySem.W.Frag} {P : Addr → Prop} {H : Hp} {v : V} {l : List Int} (h : RowT K H v l) : Dq K P H v (dT l) := let ⟨_, e, q⟩ := h; e ▸ .tup q (dqA_ints l)
theorem dqA_app {K : PySem.W.Frag} {P : Addr → Prop} {H : Hp} : ∀ {vs ws : List V} {ds es : List PyData}, DqA K P H vs ds → DqA K P H ws es → DqA K P H (vs ++ ws) (ds ++ es)
  | [], _, [], _, _, h => h
  | _ :: _, _, _ :: _, _, .cons a t, h => .cons a (dqA_app t h)
theorem dqA_set {K : PySem.W.Frag} {P : Addr → Prop} {H : Hp} {v : V} {d : PyData} (hv : Dq K P H v d) : ∀ {vs : List V} {ds : List PyData} (n : Nat), DqA K P H vs ds → DqA K P H (vs.set n v) (ds.set n d)
  | [], [], _, h => h
  | _ :: _, _ :: _, 0, .cons _ t => .cons hv t
  | _ :: _, _ :: _, n + 1, .cons a t => .cons a (dqA_set hv n t)
theorem dqA_dWs {K : PySem.W.Frag} {P : Addr → Prop} {H : Hp} {vs : List V} {ws : List (List Int)} (h : Paired (RowT K H) vs ws) : DqA K P H vs (ws.map dT) := dqA_map (g := dT) (fun _ _ z => dq_dT z) h
theorem dq_dWs {K : PySem.W.Frag} {P : Addr → Prop} {H : Hp} {a : Addr} {vs : List V} {ws : List (List Int)} (p : P a) (e : H a = some (.lst vs)) (h : Paired (RowT K H) vs ws) : Dq K P H (.ref a) (dWs ws) := .lst p e (dqA_dWs h)
/-! ### such data, read -/
section
variable {X : Cx} {pins : List (Addr × Obj)} {σ : L2.St} {H : Hp} {s : Shared} {P : Addr → Prop}
mutual
theorem dq_reads (I : L2.Inv X pins σ H s) (low : H sysModules = none) : ∀ (d : PyData) (v : V) (u : Value), Dq X.K P H v d → L2.RelV v u → ∃ as, Reads s.heap u d as ∧ sysModules ∉ as
  | .none, _, u, h, r => by
    cases h
    cases (show u = Value.none from r)
    exact ⟨_, .none, by simp⟩
  | .bool b, _, u, h, r => by
    cases h
    cases (show u = Value.bool b from r)
    exact ⟨_, .bool b, by simp⟩
  | .int i, _, u, h, r => by
    cases h
    obtain ⟨t, q⟩ := (show ∃ t, u = Value.int i t from r)
    cases q
    exact ⟨_, .int i t, by simp⟩
  | .str x, _, u, h, r => by
    cases h
    obtain ⟨t, q⟩ := (show ∃ t, u = Value.str x t from r)
    cases q
    exact ⟨_, .str x t, by simp⟩
  | .list ds, _, u, h, r => by
    cases h with
    | @lst a xs _ p e ha =>
      cases (show u = Value.ref a from r)
      obtain ⟨_, vs, n, rv, h1⟩ := (show ObjOk X.prog X.w H s.heap a (.lst xs) from I.hok a _ e)
      obtain ⟨as, ra, na⟩ := dqA_reads I low ds xs vs ha rv
      refine ⟨_, .list h1 rfl rfl ra, ?_⟩
      intro z
      rcases List.mem_cons.mp z with z | z
      · rw [z, e] at low
        cases low
      · exact na z
  | .tuple ds, _, u, h, r => by
    cases h with
    | @tup a xs _ q ha =>
      cases (show u = Value.ref a from r)
      obtain ⟨its, rv, ⟨o, h1, h2, n, h3⟩, _⟩ := I.tuple q
      obtain ⟨as, ra, na⟩ := dqA_reads I low ds xs its ha rv
      exact ⟨_, .tuple h1 h2 h3 (by simpa using ra), na⟩
  | .dict kvs, _, u, h, r => by
    cases h with
    | @dic a e =>
      cases (show u = Value.ref a from r)
      obtain ⟨_, z2, vs, z3, o, es, ep, h1, h2, h3, _, h5, _⟩ := (show ObjOk X.prog X.w H s.heap a (.dK []) from I.hok a _ e)
      cases z3
      have hes : es.toList = [] := by
        generalize es.toList = l at h5
        cases h5
        rfl
      refine ⟨_, .dict (as := []) (bs := []) h1 h2.1 h3 (by rw [hes]; exact .nil) (by rw [hes]; exact .nil), ?_⟩
      intro z
      rw [List.append_nil, List.mem_singleton] at z
      rw [← z] at z2
      simp at z2
theorem dqA_reads (I : L2.Inv X pins σ H s) (low : H sysModules = none) : ∀ (ds : List PyData) (vs : List V) (us : List Value), DqA X.K P H vs ds → Vals vs us → ∃ as, ReadsAll s.heap us ds as ∧ sysModules ∉ as
  | [], _, us, h, r => by
    cases h
    cases r
    exact ⟨_, .nil, by simp⟩
  | d :: ds, _, us, h, r => by
    cases h with
    | cons a b =>
      cases r with
      | cons r1 r2 =>
        obtain ⟨as, h1, n1⟩ := dq_reads I low d _ _ a r1
        obtain ⟨bs, h2, n2⟩ := dqA_reads I low ds _ _ b r2
        refine ⟨_, .cons h1 h2, ?_⟩
        intro z
        rcases List.mem_append.mp z with z | z
        · exact n1 z
        · exact n2 z
end
end
def rReprQ (K : PySem.W.Frag) : List V → Hp → VK → Prop := fun xs H Q => ∃ (P : Addr → Prop) (v : V) (d : PyData), xs = [v] ∧ Dq K P H v d ∧ d.showable = true ∧ d.depth ≤ 60 ∧ d.shown.length ≤ sizeLine ∧ Q (.str d.shown) H
section
variable {X : Cx}
theorem low_of {pins : List (Addr × Obj)} {σ : L2.St} {H : Hp} {s : Shared} (I : L2.Inv X pins σ H s) (hb : ∃ o, X.base.get? sysModules = some o) : H sysModules = none := by
  obtain ⟨o, e⟩ := hb
  obtain ⟨h1, h2⟩ := I.ok.bs _ _ e
  exact I.base.free _ _ h1 h2 (I.ok.noex _ _ e)
theorem call_reprQ (hb : ∃ o, X.base.get? sysModules = some o) (hg : X.A.guards = some []) (hu : X.A.units + 64 < cLine) : CallR X (.builtin "repr") (rReprQ X.K) := by
  intro pins s σ H xs us Q I r h
  obtain ⟨P, v, d, rfl, hd, hs, hdep, hsz, q⟩ := h
  cases r with
  | cons r1 r2 =>
    cases r2
    rename_i u
    obtain ⟨as, rd, na⟩ := dq_reads I (low_of I hb) d v u hd r1
    have fin : ∀ a, u = .ref a → wpAny (model X.prog X.w) X.A (call (.builtin "repr") [u]) (EP X pins σ Q) X.xe s := fun a e => by
      subst e
      exact repr_of_reads' rd hs (fun _ => na) hg (by omega) (fun _ _ e => e) (fun h' u tk hk => ⟨.str _, H, I.kept (t' := tk) hk, ⟨_, rfl⟩, q⟩) hsz
    cases hd with
    | non => cases (show u = Value.none from r1); exact PySem.P.repr_of_none ⟨.str _, H, I.tok _, ⟨_, rfl⟩, q⟩
    | bl b => cases (show u = Value.bool b from r1); exact PySem.P.repr_of_bool ⟨.str _, H, I.tok _, ⟨_, rfl⟩, q⟩
    | int i => obtain ⟨t, e⟩ := (show ∃ t, u = Value.int i t from r1); cases e; exact PySem.P.repr_of_int (of_decide_eq_true hs) ⟨.str _, H, I.tok _, ⟨_, rfl⟩, q⟩
    | str y => obtain ⟨t, e⟩ := (show ∃ t, u = Value.str y t from r1); cases e; exact PySem.P.repr_of_str (hsz := hsz) ⟨.str _, H, I.tok _, ⟨_, rfl⟩, q⟩
    | lst _ _ _ => exact fin _ r1
    | tup _ _ => exact fin _ r1
    | dic _ => exact fin _ r1
/-! ### xs != [], whatever stands in xs -/
def rNeNil (K : PySem.W.Frag) (neg : Bool) : R2 := fun x y H Q => ∃ a b xs, x = .ref a ∧ y = .ref b ∧ SqL K H a xs ∧ SqL K H b [] ∧ Q (.bl (if neg then !xs.isEmpty else xs.isEmpty)) H
theorem isL {h : Heap} {a : Addr} {its : Array Value} (p : PlainL h a its) : h.IsList a its := let ⟨o, n, e, c, _, d⟩ := p; ⟨o, e, c, n, d⟩
theorem op_neNil (hu : X.A.units < cLine) : OpR X (compareOp .NotEq) (rNeNil X.K true) := by
  intro pins s σ H x y v u Q I rx ry h
  obtain ⟨a, b, xs, rfl, rfl, ha, hb, q⟩ := h
  cases (show v = Value.ref a from rx)
  cases (show u = Value.ref b from ry)
  obtain ⟨ia, va, la, _⟩ := I.list ha
  obtain ⟨ib, vb, lb, _⟩ := I.list hb
  cases vb
  cases va with
  | nil => exact SeqAt.RcNeAt.lists (e := fun _ => true) (isL la) (isL lb) rfl hu (fun j h1 h2 => absurd h1 (by simp)) _ _ _ _ ⟨.bl false, H, I, rfl, q⟩
  | cons r t => exact SeqAt.RcNeAt.lists_lengths (isL la) (isL lb) (by simp) hu _ _ _ _ ⟨.bl true, H, I, rfl, q⟩
theorem op_eqNil (hu : X.A.units < cLine) : OpR X (compareOp .Eq) (rNeNil X.K false) := by
  intro pins s σ H x y v u Q I rx ry h
  obtain ⟨a, b, xs, rfl, rfl, ha, hb, q⟩ := h
  cases (show v = Value.ref a from rx)
  cases (show u = Value.ref b from ry)
  obtain ⟨ia, va, la, _⟩ := I.list ha
  obtain ⟨ib, vb, lb, _⟩ := I.list hb
  cases vb
  cases va with
  | nil => exact SeqAt.RcAt.lists (e := fun _ => true) (isL la) (isL lb) rfl hu (fun j h1 h2 => absurd h1 (by simp)) _ _ _ _ ⟨.bl true, H, I, rfl, q⟩
  | cons r t => exact SeqAt.RcAt.lists_lengths (isL la) (isL lb) (by simp) hu _ _ _ _ ⟨.bl false, H, I, rfl, q⟩
/-! ### set(t), t a tuple of ints -/
def rSetOfI (K : PySem.W.Frag) (w : World) : List V → Hp → VK → Prop := fun vs H Q => ∃ (l : Addr) (ns : List Int), vs = [V.ref l] ∧ SqT K H l (ns.map V.int) ∧ ns.length ≤ 1000 ∧ ∀ a c, H a = none → c ≤ ns.length → Q (.ref a) (upd H a (SetO w a (fun j => decide (j ∈ ns)) c))
theorem cr_setOfI (hc : X.calm = true) : CallR X (.type "set") (rSetOfI X.K X.w) := by
  intro pins s σ H vs us Q I r h
  obtain ⟨l, ns, rfl, hs, hl, q⟩ := h
  obtain ⟨its, rv, ht, _⟩ := I.tuple hs
  rw [Vals.ref1 r]
  refine call_set_tupI ns (I.ok.hd hc) ht rv.ints (Nat.lt_of_le_of_lt (Nat.succ_le_succ hl) (by decide)) fun h' tk c hS hc' hk => ?_
  refine ⟨.ref _, upd H s.heap.objs.size (SetO X.w s.heap.objs.size (fun j => decide (j ∈ ns)) c), I.laid (t' := tk) hk (Nat.le_refl _) ?_, rfl, q _ c I.fresh hc'⟩
  obtain ⟨o, es, ep, t, e, rest⟩ := id hS
  refine ⟨hS, ⟨o, e⟩, fun h1 h2 hp hk2 => ?_⟩
  obtain ⟨o', es', ep', t', e', rest'⟩ := hp
  exact ⟨o', es', ep', t', hk2 _ e', rest'⟩
end
end Ew
namespace Ew
open PySem PySem.Spec PyProof.Rows L2
/-! ### t[::-1] of a tuple -/
theorem fm_congr {α β : Type} {f g : α → Option β} : ∀ {l : List α}, (∀ x ∈ l, f x = g x) → l.filterMap f = l.filterMap g
  | [], _ => rfl
  | a :: l, h => by
    rw [List.filterMap_cons, List.filterMap_cons, h a (by simp), fm_congr fun x hx => h x (by simp [hx])]
theorem pick_rev (xs : Array Value) : (List.filterMap (fun k => xs[((xs.size : Int) - 1 + ((k : Nat) : Int) * -1).toNat]?) (List.range xs.size)).toArray = xs.toList.reverse.toArray := by
  congr 1
  obtain ⟨l⟩ := xs
  show List.filterMap (fun k => (List.toArray l)[((l.length : Int) - 1 + ((k : Nat) : Int) * -1).toNat]?) (List.range l.length) = l.reverse
  have e : ∀ k ∈ List.range l.length, (fun (k : Nat) => (List.toArray l)[((l.length : Int) - 1 + ((k : Nat) : Int) * -1).toNat]?) k = (fun (k : Nat) => l.reverse[k]?) k := by
    intro k hk
    have hk' := List.mem_range.mp hk
    show (List.toArray l)[((l.length : Int) - 1 + ((k : Nat) : Int) * -1).toNat]? = l.reverse[k]?
    rw [List.getElem?_reverse hk', List.getElem?_toArray]
    congr 1
    omega
  rw [fm_congr e]
  have : ∀ r : List Value, List.filterMap (fun k => r[k]?) (List.range r.length) = r := by
    intro r
    refine List.ext_getElem? fun i => ?_
    have : List.filterMap (fun k => r[k]?) (List.range r.length) = (List.range r.length).map fun k => r.getD k .none := by
      rw [← List.filterMap_eq_map]
      refine fm_congr fun k hk => ?_
      have hk' := List.mem_range.mp hk
      simp [List.getD, hk']
    rw [this, List.getElem?_map]
    by_cases h : i < r.length
    · rw [List.getElem?_range h]
      simp [List.getD, h]
    · rw [List.getElem?_eq_none (by simpa using h), List.getElem?_eq_none (by simpa using h)]
      rfl
  have h2 := this l.reverse
  rw [List.length_reverse] at h2
  exact h2
section
variable {prog : Program} {w : World} {A : Around} {E : Value → Shared → Prop} {s : Shared}
theorem applied_rev {sl : Addr} {u : Tok} {n : Nat} {Q : Int × Int × Nat → Shared → Prop} (hs : s.heap.IsSliceOf sl .none .none (.int (-1) u)) (h : Q ((n : Int) - 1, -1, n) s) :
    wpAny (model prog w) A (Builtin.Slice.sliceApplied (.ref sl) (pure (n : Int))) Q E s := by
  obtain ⟨os, hos, hcs, hds⟩ := id hs
  unfold Builtin.Slice.sliceApplied
  refine wpAny_bind (wpAny_bind (wpAny_field hos hds rfl (wpAny_bind (wpAny_field hos hds rfl (wpAny_bind (wpAny_field hos hds rfl (wpAny_pure ?_)))))))
  refine wpAny_bind (HT.slicePart_ (.int (-1) u) ?_)
  dsimp only
  rw [if_neg (by decide)]
  refine wpAny_bind (slicePart_none (wpAny_bind (slicePart_none (wpAny_bind (wpAny_pure ?_)))))
  have e1 : Builtin.Slice.sliceAdjust none none (-1) (n : Int) = ((n : Int) - 1, -1) := rfl
  have e2 : Builtin.Slice.slicePlaces ((n : Int) - 1) (-1) (-1) = n := by
    unfold Builtin.Slice.slicePlaces
    rw [if_neg (by decide)]
    by_cases hn : n = 0
    · subst hn
      rfl
    · rw [if_pos (by omega)]
      have : ((n : Int) - 1 - -1 - 1) / - -1 + 1 = n := by
        rw [Int.neg_neg, Int.ediv_one]
        omega
      rw [this]
      exact Int.toNat_natCast n
  show wpAny _ _ (match Builtin.Slice.sliceAdjust none none (-1) (n : Int) with
    | (lo, hi) => pure (lo, -1, Builtin.Slice.slicePlaces lo hi (-1))) _ _ _
  rw [e1]
  show wpAny _ _ (pure ((n : Int) - 1, -1, Builtin.Slice.slicePlaces ((n : Int) - 1) (-1) (-1))) _ _ _
  rw [e2]
  exact wpAny_pure h
theorem getItem_tuple_rev {t sl : Addr} {items : Array Value} {u : Tok} {Q : Value → Shared → Prop} (ht : IsTup s.heap t items) (hs : s.heap.IsSliceOf sl .none .none (.int (-1) u)) (hsz : items.size ≤ sizeLine)
    (h : Q (.ref s.heap.objs.size) { s with heap := s.heap.push { cls := .type "tuple", data := .seq items.toList.reverse.toArray } }) : wpAny (model prog w) A (getItem (.ref t) (.ref sl)) Q E s := by
  obtain ⟨os, hos, hcs, hds⟩ := id hs
  have hTs : s.TypeIs (.ref sl) "slice" := ⟨os, hos, hcs⟩
  unfold getItem
  refine wpAny_holding (wpAny_bind (wpAny_sequenceKey (IsTup.typeIs ht) (by decide) (wpAny_bind (wpAny_callSpecial?_slot (IsTup.typeIs ht) slot_tuple_getitem (wpAny_call_entry slot_tuple_getitem (IsTup.typeIs ht) entry_tuple_getitem ?_ (args_tuple_getitem _ _))))))
  show wpAny _ _ (Builtin.«tuple.__getitem__» ⟨[.ref t, .ref sl], []⟩) _ _ _
  unfold Builtin.«tuple.__getitem__»
  refine wpAny_bind (m := slotArgs "__getitem__" 1 ⟨[.ref t, .ref sl], []⟩) (wpAny_pure ?_)
  refine wpAny_bind (tupleItemsOf_ ht (wpAny_bind (wpAny_typeOf hTs ?_)))
  rw [if_pos (by decide)]
  refine wpAny_bind (applied_rev hs ?_)
  dsimp only
  rw [if_neg (by rw [show (((-1 : Int) == 1) = false) from rfl, Bool.and_false, Bool.false_and]; decide)]
  rw [pick_rev]
  refine wpAny_bind (wpAny_newObj_type (wpAny_pure ⟨_, rfl, wpAny_pure h⟩) ?_)
  show items.toList.reverse.toArray.size ≤ sizeLine
  simpa using hsz
end
def tRevT (K : PySem.W.Frag) (te : TE) : TE := fun σ H Q => te σ H fun x H1 => ∃ a xs, x = .ref a ∧ SqT K H1 a xs ∧ ∀ p, H1 p = none → Q (.ref p) (upd H1 p (.tup xs.reverse))
section
variable {X : Cx} {e : Expr} {te : TE}
theorem pe_revT {k : Nat} {p1 p2 p3 pos : Pos} (he : PE X e te) : PE X (e.Subscript (.Slice none none (some (.UnaryOp .USub (.Constant (.int 1) k p1) p2)) p3) pos) (tRevT X.K te) := by
  refine ⟨fun pins s σ H Q I h => Subscript_ (thn (he.run pins s σ H _ I h) fun v s1 ⟨x, H1, I1, r1, q1⟩ => ?_)⟩
  obtain ⟨a, xs, rfl, hx, q⟩ := q1
  cases (show v = Value.ref a from r1)
  refine wpAny_Slice ?_
  rw [evalPart_none X.env]
  refine wpAny_pure ?_
  refine wpAny_pure (thn ((po_some (pe_un un_neg pe_int)).run pins s1 σ H1 (fun o H4 => o = some (-1) ∧ H4 = H1) I1 ⟨1, rfl, -1, rfl, rfl, rfl⟩) fun vs s4 ⟨o, H4, I4, ps, eo, e4⟩ => ?_)
  subst eo
  subst e4
  cases ps with
  | int _ u =>
    have I5 := I4.kept (t' := s4.toks) (h' := s4.heap.push { cls := .type "slice", data := .fields #[.none, .none, .int (-1) u] }) fun b ob q => Heap.get?_push_of_some _ q
    obtain ⟨its, rv, ht, hz⟩ := I5.tuple hx
    refine tail_any (IsTup.typeIs ht) slot_tuple_getitem.lookup ?_ rfl
    refine getItem_tuple_rev ht (Heap.IsSliceOf.new s4.heap _ _ _) (by rw [List.size_toArray, ← rv.length]; exact hz) ?_
    refine ⟨.ref _, upd H4 _ (.tup xs.reverse), I5.laid (t' := s4.toks) (fun b ob q => Heap.get?_push_of_some _ q) (Nat.le_refl _) ?_, rfl, q _ I5.fresh⟩
    have rr : Vals xs.reverse its.reverse := Paired.rev rv
    exact ⟨by rw [List.length_reverse]; exact hz, its.reverse, rr, _, Heap.get?_push_size _ rfl, rfl, 0, by simp⟩
end
/-! ### xs[a:b] = ys -/
def gSlc (to : TE) (tl th : TO) : TG := fun v σ H Q => to σ H fun x H1 => tl σ H1 fun lo H2 => th σ H2 fun hi H3 => ∃ (a b : Addr) (xs ys : List V) (i c : Int), x = .ref a ∧ v = .ref b ∧ lo = some i ∧ hi = some c ∧ H3 a = some (.lst xs) ∧ H3 b = some (.lst ys) ∧ a ≠ b ∧ 0 ≤ i ∧ i ≤ c ∧ c ≤ (xs.length : Int) ∧ xs.length + ys.length ≤ sizeLine ∧ Q σ (upd H3 a (.lst (xs.take i.toNat ++ ys ++ xs.drop c.toNat)))
section
variable {X : Cx} {o : Expr} {to : TE} {lo hi : Option Expr} {tl th : TO} {pos p2 : Pos}
theorem pg_slc (ho : PE X o to) (hl : PO X lo tl) (hh : PO X hi th)
    (ha : ∀ v : Value, assign (o.Subscript (.Slice lo hi none p2) pos) X.env v = (do
      let ov ← holding [v] (eval o X.env)
      let iv ← holding [v, ov] (eval (.Slice lo hi none p2) X.env)
      standAt pos
      holding [v, ov, iv] (setItem ov iv v)
      release [iv, v, ov] []) := by intro _; rfl) : PG X (o.Subscript (.Slice lo hi none p2) pos) (gSlc to tl th) := by
  refine ⟨fun pins s σ H v u Q I r h => ?_⟩
  rw [ha u]
  refine wpAny_bind (wpAny_holding (thn (ho.run pins s σ H _ I h) fun ov s1 ⟨x, H1, I1, r1, q1⟩ => wpAny_bind (wpAny_holding (wpAny_Slice (thn (hl.run pins s1 σ H1 _ I1 q1) fun vl s2 ⟨l, H2, I2, pl, q2⟩ => thn (hh.run pins s2 σ H2 _ I2 q2) fun vu s3 ⟨z, H3, I3, pu, q3⟩ => ?_)))))
  rw [evalPart_none X.env]
  refine wpAny_pure (wpAny_bind (wpAny_standAt (wpAny_bind (wpAny_holding ?_))))
  obtain ⟨a, b, xs, ys, i, c, rfl, rfl, rfl, rfl, hA, hB, nab, i0, ic, cl, hz, q⟩ := q3
  cases (show ov = Value.ref a from r1)
  cases (show u = Value.ref b from r)
  cases pl with
  | int _ t1 =>
    cases pu with
    | int _ t2 =>
      have I4 := I3.kept (t' := s3.toks) (h' := s3.heap.push { cls := .type "slice", data := .fields #[.int i t1, .int c t2, .none] }) fun b ob q => Heap.get?_push_of_some _ q
      exact set_slice I4 hA hB nab (Heap.IsSliceOf.new s3.heap _ _ _) ⟨_, rfl⟩ ⟨_, rfl⟩ i0 ic cl hz fun s' I5 => wpAny_release ⟨σ, _, I5, q⟩
end
end Ew
namespace Ew
open PySem PySem.Spec PyProof.Rows L2
/-! ### rows as data of any kind -/
instance (r : Int × List Int) (w : List Int) : Decidable (RowOk r w) := by unfold RowOk; infer_instance
def intsOf : List PyData → Option (List Int)
  | [] => some []
  | .int i :: r => (intsOf r).map (i :: ·)
  | _ :: _ => none
def rowOf : PyData → Option (List Int)
  | .tuple ds => intsOf ds
  | _ => none
def isRowD (r : Int × List Int) (d : PyData) : Bool := match rowOf d with
  | some w => decide (RowOk r w)
  | none => false
def areRowsD (rs : List (Int × List Int)) : PyData → Bool
  | .list ds => decide (ds.length = rs.length) && (ds.zip rs).all fun p => isRowD p.2 p.1
  | _ => false
def ascI (n : Int) : Int → List Int → Bool
  | _, [] => true
  | l, i :: r => decide (l < i) && decide (i < n) && ascI n i r
theorem intsOf_map : ∀ w : List Int, intsOf (w.map .int) = some w
  | [] => rfl
  | i :: w => by
    show (intsOf (w.map .int)).map (i :: ·) = _
    rw [intsOf_map w]
    rfl
theorem rowOf_dT (w : List Int) : rowOf (dT w) = some w := intsOf_map w
theorem ascI_iff {n : Int} : ∀ {w : List Int} {l : Int}, ascI n l w = true ↔ w.Pairwise (· < ·) ∧ ∀ x ∈ w, l < x ∧ x < n
  | [], l => by simp [ascI]
  | i :: w, l => by
    have ih := ascI_iff (n := n) (w := w) (l := i)
    show (decide (l < i) && decide (i < n) && ascI n i w) = true ↔ _
    rw [Bool.and_eq_true, Bool.and_eq_true, ih, decide_eq_true_eq, decide_eq_true_eq, List.pairwise_cons]
    constructor
    · rintro ⟨⟨h1, h2⟩, h3, h4⟩
      refine ⟨⟨fun x hx => (h4 x hx).1, h3⟩, fun x hx => ?_⟩
      rcases List.mem_cons.mp hx with e | e
      · subst e; exact ⟨h1, h2⟩
      · have := h4 x e; omega
    · rintro ⟨⟨h1, h2⟩, h3⟩
      have h0 := h3 i (by simp)
      exact ⟨h0, h2, fun x hx => ⟨h1 x hx, (h3 x (by simp [hx])).2⟩⟩
section
variable {K : PySem.W.Frag} {P : Addr → Prop} {H : Hp}
theorem ints_of : ∀ {vs : List V} {ds : List PyData} {w : List Int}, DqA K P H vs ds → intsOf ds = some w → vs = w.map V.int ∧ ds = w.map .int
  | [], [], w, _, e => by
    cases (show w = [] from (Option.some.inj e).symm)
    exact ⟨rfl, rfl⟩
  | v :: vs, d :: ds, w, .cons a t, e => by
    cases a with
    | int i =>
      cases h : intsOf ds with
      | none =>
        have : intsOf (.int i :: ds) = none := by show (intsOf ds).map (i :: ·) = none; rw [h]; rfl
        rw [this] at e
        cases e
      | some w' =>
        have : intsOf (.int i :: ds) = some (i :: w') := by show (intsOf ds).map (i :: ·) = _; rw [h]; rfl
        rw [this] at e
        cases e
        obtain ⟨e1, e2⟩ := ints_of t h
        rw [e1, e2]
        exact ⟨rfl, rfl⟩
    | _ => cases e
theorem dqA_ty {vs : List V} {ds : List PyData} (h : DqA K P H vs ds) : ∀ y ∈ vs, ∃ T, TyX K H y (.type T) := by
  intro y hy
  obtain ⟨i, hi⟩ := List.getElem?_of_mem hy
  obtain ⟨d, _, hd⟩ := h.at1 hi
  exact ⟨_, dq_bt hd⟩
end
theorem RdOk.mem {n : Int} {r : Int × List Int} (h : RdOk n r) {x : Int} (hx : x ∈ r.2) : 0 ≤ x ∧ x < n := h.2.2.2 x hx
/-- a row, as the package looks at it -/
theorem isRow_asc {n : Int} {r : Int × List Int} {w : List Int} (h : RdOk n r) : decide (RowOk r w) = (ascI n (-1) w && (decide ((w.length : Int) ≤ r.1) && w.all fun x => decide (x ∈ r.2))) := by
  rw [Bool.eq_iff_iff, Bool.and_eq_true, Bool.and_eq_true, ascI_iff, decide_eq_true_eq, decide_eq_true_eq, List.all_eq_true]
  constructor
  · rintro ⟨h1, h2, h3⟩
    exact ⟨⟨h1, fun x hx => by have := h.mem (h2 x hx); omega⟩, h3, fun x hx => decide_eq_true (h2 x hx)⟩
  · rintro ⟨⟨h1, _⟩, h3, h4⟩
    exact ⟨h1, fun x hx => of_decide_eq_true (h4 x hx), h3⟩
theorem asc_same : ∀ {a b : List Int}, a.Pairwise (· < ·) → b.Pairwise (· < ·) → (∀ x, x ∈ a ↔ x ∈ b) → a = b
  | [], [], _, _, _ => rfl
  | [], y :: b, _, _, h => by have := (h y).mpr (by simp); simp at this
  | x :: a, [], _, _, h => by have := (h x).mp (by simp); simp at this
  | x :: a, y :: b, ha, hb, h => by
    have ha' := List.pairwise_cons.mp ha
    have hb' := List.pairwise_cons.mp hb
    have e : x = y := by
      rcases List.mem_cons.mp ((h x).mp (by simp)) with e | e
      · exact e
      · rcases List.mem_cons.mp ((h y).mpr (by simp)) with e2 | e2
        · exact e2.symm
        · have := hb'.1 x e
          have := ha'.1 y e2
          omega
    subst e
    have : a = b := asc_same ha'.2 hb'.2 fun z => by
      constructor
      · intro hz
        rcases List.mem_cons.mp ((h z).mp (by simp [hz])) with e | e
        · have := ha'.1 z hz; omega
        · exact e
      · intro hz
        rcases List.mem_cons.mp ((h z).mpr (by simp [hz])) with e | e
        · have := hb'.1 z hz; omega
        · exact e
    rw [this]
/-- a list is its own things in order, once each, where it is ascending -/
theorem sorted_self {w ns : List Int} (h1 : ns.Pairwise (· < ·)) (h2 : ∀ k, k ∈ ns ↔ k ∈ w) : decide (w = ns) = decide (w.Pairwise (· < ·)) := by
  rw [Bool.eq_iff_iff, decide_eq_true_eq, decide_eq_true_eq]
  constructor
  · intro e; rw [e]; exact h1
  · intro h; exact asc_same h h1 fun x => (h2 x).symm
/-- data that is rows -/
theorem rows_of {K : PySem.W.Frag} {P : Addr → Prop} {H : Hp} : ∀ {rs : List (Int × List Int)} {ds : List PyData} {vs : List V}, DqA K P H vs ds → ds.length = rs.length → ((ds.zip rs).all fun p => isRowD p.2 p.1) = true →
    ∃ ws : List (List Int), ds = ws.map dT ∧ Paired (RowT K H) vs ws ∧ Paired RowOk rs ws
  | [], [], [], _, _, _ => ⟨[], rfl, .nil, .nil⟩
  | r :: rs, d :: ds, v :: vs, .cons a t, el, h => by
    have h' : isRowD r d = true ∧ ((ds.zip rs).all fun p => isRowD p.2 p.1) = true := by
      rw [List.zip_cons_cons, List.all_cons, Bool.and_eq_true] at h
      exact h
    obtain ⟨ws, e1, e2, e3⟩ := rows_of t (by simpa using el) h'.2
    have h1 := h'.1
    unfold isRowD at h1
    cases a with
    | @tup ad xs es q ha =>
      cases he : intsOf es with
      | none =>
        have : rowOf (.tuple es) = none := he
        rw [this] at h1
        cases h1
      | some w =>
        have : rowOf (.tuple es) = some w := he
        rw [this] at h1
        obtain ⟨f1, f2⟩ := ints_of ha he
        subst f1
        subst f2
        refine ⟨w :: ws, ?_, .cons ⟨_, rfl, q⟩ e2, .cons (of_decide_eq_true h1) e3⟩
        rw [e1]
        rfl
    | _ => cases h1
/-! ### the present rows -/
def presR (as : List Int) : Nat → List (List Int) → List (List Int)
  | _, [] => []
  | k, w :: ws => if ((k : Nat) : Int) ∈ as then presR as (k + 1) ws else w :: presR as (k + 1) ws
theorem presR_snoc (as : List Int) (w : List Int) : ∀ (ws : List (List Int)) (k : Nat), presR as k (ws ++ [w]) = presR as k ws ++ (if ((k + ws.length : Nat) : Int) ∈ as then [] else [w])
  | [], k => rfl
  | v :: ws, k => by
    have ih := presR_snoc as w ws (k + 1)
    have e : k + 1 + ws.length = k + (v :: ws).length := by rw [List.length_cons]; omega
    rw [e] at ih
    show (if ((k : Nat) : Int) ∈ as then presR as (k + 1) (ws ++ [w]) else v :: presR as (k + 1) (ws ++ [w])) = (if ((k : Nat) : Int) ∈ as then presR as (k + 1) ws else v :: presR as (k + 1) ws) ++ _
    rw [ih]
    split <;> rfl
theorem presR_len (as : List Int) : ∀ (ws : List (List Int)) (k : Nat), (presR as k ws).length ≤ ws.length
  | [], _ => Nat.le_refl _
  | v :: ws, k => by
    have ih := presR_len as ws (k + 1)
    show (if ((k : Nat) : Int) ∈ as then presR as (k + 1) ws else v :: presR as (k + 1) ws).length ≤ _
    split
    · rw [List.length_cons]; omega
    · rw [List.length_cons, List.length_cons]; omega
theorem presR_nil : ∀ (ws : List (List Int)) (k : Nat), presR [] k ws = ws
  | [], _ => rfl
  | v :: ws, k => by
    show (if ((k : Nat) : Int) ∈ [] then presR [] (k + 1) ws else v :: presR [] (k + 1) ws) = _
    rw [if_neg (by simp), presR_nil ws]
theorem presR_mem (as : List Int) : ∀ (ws : List (List Int)) (k : Nat) {w : List Int}, w ∈ presR as k ws → w ∈ ws
  | v :: ws, k, w, h => by
    have h' : w ∈ (if ((k : Nat) : Int) ∈ as then presR as (k + 1) ws else v :: presR as (k + 1) ws) := h
    split at h'
    · exact List.mem_cons_of_mem _ (presR_mem as ws (k + 1) h')
    · rcases List.mem_cons.mp h' with e | e
      · rw [e]; simp
      · exact List.mem_cons_of_mem _ (presR_mem as ws (k + 1) e)
/-- rows in which absent readers read nothing, and the others what they read -/
def contB (as : List Int) : Nat → List (List Int) → List (List Int) → Bool
  | k, w :: ws, v :: vs => (if ((k : Nat) : Int) ∈ as then decide (v = []) else w.all fun x => decide (x ∈ v)) && contB as (k + 1) ws vs
  | _, _, _ => true
theorem contB_pres {as : List Int} {c : Int} : ∀ {ws vs : List (List Int)} {k : Nat}, ws.length = vs.length → contB as k ws vs = true → ((presR as k vs).filter fun r => decide (c ∈ r)) = vs.filter fun r => decide (c ∈ r)
  | [], [], _, _, _ => rfl
  | w :: ws, v :: vs, k, el, h => by
    have h' : (if ((k : Nat) : Int) ∈ as then decide (v = []) else w.all fun x => decide (x ∈ v)) = true ∧ contB as (k + 1) ws vs = true := by
      have : ((if ((k : Nat) : Int) ∈ as then decide (v = []) else w.all fun x => decide (x ∈ v)) && contB as (k + 1) ws vs) = true := h
      exact Bool.and_eq_true_iff.mp this
    have ih := contB_pres (c := c) (k := k + 1) (by simpa using el) h'.2
    have h1 := h'.1
    show ((if ((k : Nat) : Int) ∈ as then presR as (k + 1) vs else v :: presR as (k + 1) vs).filter fun r => decide (c ∈ r)) = _
    by_cases hk : ((k : Nat) : Int) ∈ as
    · rw [if_pos hk, ih]
      rw [if_pos hk] at h1
      have := of_decide_eq_true h1
      subst this
      rfl
    · rw [if_neg hk, List.filter_cons, List.filter_cons, ih]
end Ew
namespace Ew
open PySem PySem.Spec PyProof.Rows L2
/-! ### small data: what its repr asks -/
structure Sm (n b : Nat) (d : PyData) : Prop where
  can : d.showable = true
  dep : d.depth ≤ n
  len : d.shown.length ≤ b
theorem Sm.mono {n m b c : Nat} {d : PyData} (h : Sm n b d) (h1 : n ≤ m) (h2 : b ≤ c) : Sm m c d := ⟨h.can, Nat.le_trans h.dep h1, Nat.le_trans h.len h2⟩
theorem showAll_of : ∀ {ds : List PyData}, (∀ d ∈ ds, d.showable = true) → PyData.showableAll ds = true
  | [], _ => rfl
  | d :: ds, h => by
    show (PyData.showable d && PyData.showableAll ds) = true
    rw [h d (by simp), showAll_of fun x hx => h x (by simp [hx])]
    rfl
theorem depAll_of {n : Nat} : ∀ {ds : List PyData}, (∀ d ∈ ds, d.depth ≤ n) → PyData.depthAll ds ≤ n
  | [], _ => Nat.zero_le _
  | d :: ds, h => Nat.max_le.mpr ⟨h d (by simp), depAll_of fun x hx => h x (by simp [hx])⟩
theorem shownAll_eq : ∀ ds : List PyData, PyData.shownAll ds = ds.map PyData.shown
  | [] => rfl
  | d :: ds => by
    show PyData.shown d :: PyData.shownAll ds = _
    rw [shownAll_eq ds]
    rfl
theorem sm_list {n b : Nat} {ds : List PyData} (h : ∀ d ∈ ds, Sm n b d) : Sm (n + 1) (3 + ds.length * (b + 2)) (.list ds) := by
  refine ⟨showAll_of fun d hd => (h d hd).can, Nat.succ_le_succ (depAll_of fun d hd => (h d hd).dep), ?_⟩
  show (listText (PyData.shownAll ds)).length ≤ _
  rw [shownAll_eq]
  have h1 := listText_le (ds.map PyData.shown)
  have h2 := lens_map PyData.shown b ds fun d hd => (h d hd).len
  omega
theorem sm_tuple {n b : Nat} {ds : List PyData} (h : ∀ d ∈ ds, Sm n b d) : Sm (n + 1) (3 + ds.length * (b + 2)) (.tuple ds) := by
  refine ⟨showAll_of fun d hd => (h d hd).can, Nat.succ_le_succ (depAll_of fun d hd => (h d hd).dep), ?_⟩
  show (tupleText (PyData.shownAll ds)).length ≤ _
  rw [shownAll_eq]
  have h1 := tupleText_le (ds.map PyData.shown)
  have h2 := lens_map PyData.shown b ds fun d hd => (h d hd).len
  omega
theorem sm_dig {i : Int} (h : Dig i) : Sm 0 1 (.int i) := ⟨(show_int h).1, Nat.zero_le _, (show_int h).2⟩
theorem sm_neg : Sm 0 2 (.int (-1)) := ⟨by decide +kernel, Nat.zero_le _, by decide +kernel⟩
theorem sm_non : Sm 0 4 .none := ⟨rfl, Nat.zero_le _, by decide +kernel⟩
theorem sm_bl (b : Bool) : Sm 0 5 (.bool b) := ⟨(show_bool b).1, Nat.zero_le _, (show_bool b).2⟩
theorem sm_nil : Sm 1 2 (.list []) := ⟨rfl, Nat.le_refl _, by decide +kernel⟩
theorem sm_tnil : Sm 1 2 (.tuple []) := ⟨rfl, Nat.le_refl _, by decide +kernel⟩
theorem sm_dic : Sm 1 2 (.dict []) := ⟨by decide +kernel, by decide +kernel, by decide +kernel⟩
/-- few small ints -/
def SmI (w : List Int) : Prop := w.length ≤ 20 ∧ ∀ x ∈ w, Dig x
theorem sm_ints {w : List Int} (h : ∀ x ∈ w, Dig x) : ∀ d ∈ w.map PyData.int, Sm 0 1 d := by
  intro d hd
  obtain ⟨x, hx, rfl⟩ := List.mem_map.mp hd
  exact sm_dig (h x hx)
theorem sm_dT {w : List Int} (h : SmI w) : Sm 2 400 (dT w) := by
  refine (sm_tuple (sm_ints h.2)).mono (by decide) ?_
  have := h.1
  rw [List.length_map]
  omega
/-- a value that is small data -/
def Nice (K : PySem.W.Frag) (P : Addr → Prop) (n b : Nat) (H : Hp) (v : V) : Prop := ∃ d, Dq K P H v d ∧ Sm n b d
section
variable {K : PySem.W.Frag} {P : Addr → Prop} {n b : Nat} {H H' : Hp} {v : V}
theorem Nice.over (s : Over P H H') (h : Nice K P n b H v) : Nice K P n b H' v := let ⟨d, h1, h2⟩ := h; ⟨d, h1.over s, h2⟩
theorem Nice.mono {m c : Nat} (h : Nice K P n b H v) (h1 : n ≤ m) (h2 : b ≤ c) : Nice K P m c H v := let ⟨d, a, z⟩ := h; ⟨d, a, z.mono h1 h2⟩
theorem Nice.imp {P' : Addr → Prop} (s : ∀ a xs, H a = some (.lst xs) → P a → P' a) (h : Nice K P n b H v) : Nice K P' n b H v := let ⟨d, a, z⟩ := h; ⟨d, a.imp s, z⟩
theorem nice_row {w : List Int} (h : RowT K H v w) (s : SmI w) : Nice K P 2 400 H v := ⟨_, dq_dT h, sm_dT s⟩
theorem sm_app {n b : Nat} {ds es : List PyData} (h1 : ∀ d ∈ ds, Sm n b d) (h2 : ∀ d ∈ es, Sm n b d) : ∀ d ∈ ds ++ es, Sm n b d := fun d h => (List.mem_append.mp h).elim (h1 d) (h2 d)
/-- ints, such a value, ints -/
theorem nice_mid {p : Addr} {a c : List Int} {one : V} (h : SqT K H p (a.map V.int ++ [one] ++ c.map V.int)) (h1 : Nice K P 1 6 H one) (ha : SmI a) (hc : SmI c) : Nice K P 2 400 H (.ref p) := by
  obtain ⟨d, hd, sd⟩ := h1
  refine ⟨.tuple (a.map .int ++ [d] ++ c.map .int), .tup h (dqA_app (dqA_app (dqA_ints a) (.cons hd .nil)) (dqA_ints c)), ?_⟩
  have h0 : ∀ z ∈ a.map PyData.int ++ [d] ++ c.map PyData.int, Sm 1 6 z := sm_app (sm_app (fun z hz => (sm_ints ha.2 z hz).mono (by decide) (by decide)) (fun z hz => by rw [List.mem_singleton.mp hz]; exact sd)) (fun z hz => (sm_ints hc.2 z hz).mono (by decide) (by decide))
  refine (sm_tuple h0).mono (Nat.le_refl _) ?_
  rw [List.length_append, List.length_append, List.length_map, List.length_map]
  show 3 + (a.length + 1 + c.length) * 8 ≤ 400
  have := ha.1
  have := hc.1
  omega
/-- a list of such values, as data -/
theorem nice_all : ∀ {vs : List V}, (∀ v ∈ vs, Nice K P n b H v) → ∃ ds, DqA K P H vs ds ∧ ds.length = vs.length ∧ ∀ d ∈ ds, Sm n b d
  | [], _ => ⟨[], .nil, rfl, fun d h => by simp at h⟩
  | v :: vs, h => by
    obtain ⟨d, h1, h2⟩ := h v (by simp)
    obtain ⟨ds, h3, h4, h5⟩ := nice_all (vs := vs) fun x hx => h x (by simp [hx])
    refine ⟨d :: ds, .cons h1 h3, by rw [List.length_cons, List.length_cons, h4], fun z hz => ?_⟩
    rcases List.mem_cons.mp hz with e | e
    · rw [e]; exact h2
    · exact h5 z e
theorem nice_lst {a : Addr} {vs : List V} (p : P a) (e : H a = some (.lst vs)) (h : ∀ v ∈ vs, Nice K P n b H v) : Nice K P (n + 1) (3 + vs.length * (b + 2)) H (.ref a) := by
  obtain ⟨ds, h1, h2, h3⟩ := nice_all h
  refine ⟨.list ds, .lst p e h1, ?_⟩
  rw [← h2]
  exact sm_list h3
theorem nice_tup {a : Addr} {vs : List V} (e : SqT K H a vs) (h : ∀ v ∈ vs, Nice K P n b H v) : Nice K P (n + 1) (3 + vs.length * (b + 2)) H (.ref a) := by
  obtain ⟨ds, h1, h2, h3⟩ := nice_all h
  refine ⟨.tuple ds, .tup e h1, ?_⟩
  rw [← h2]
  exact sm_tuple h3
end
theorem SmI.sub {w v : List Int} (h : SmI w) (hl : v.length ≤ w.length) (hm : ∀ x ∈ v, x ∈ w) : SmI v := ⟨Nat.le_trans hl h.1, fun x hx => h.2 x (hm x hx)⟩
theorem cut_ints (w : List Int) (lo hi : Option Int) : ∃ v : List Int, cutV (w.map V.int) lo hi = v.map V.int ∧ v.length ≤ w.length ∧ ∀ x ∈ v, x ∈ w := by
  unfold cutV
  rw [List.length_map]
  refine ⟨(w.drop (HT.sIx w.length 0 lo)).take (HT.sIx w.length w.length hi - HT.sIx w.length 0 lo), by rw [List.map_take, List.map_drop], ?_, fun x hx => List.mem_of_mem_drop (List.mem_of_mem_take hx)⟩
  rw [List.length_take, List.length_drop]
  omega
theorem all_of {α : Type} {p : α → Prop} {xs : List α} {x : α} (h : x ∈ xs) (f : ∀ x ∈ xs, p x) : p x := f x h
end Ew
namespace Ew
open PySem PySem.Spec PyProof.Rows L2
/-! ### an own error whose __init__ calls its own base's __init__ -/
section
variable {X : Cx} {RE : Addr} {mc : Value}
theorem pe_reinit {x : Str} {e : Expr} {es : List Expr} {ta : TA} {p1 p2 pos : Pos} {pl : Sem Bool} (hg : Gl X x) (hm : X.mg x = some (.ref RE))
    (ga : PySem.W.specialIn X.K (.ref RE) "__getattribute__" = some (some (.builtin "type.__getattribute__"))) (rd : PySem.W.readsIn X.K RE mc = true) (fc : PySem.W.findCls X.K (.ref RE) mc "__init__" = some (.val (.builtin "ValueError.__init__")))
    (ha : PA X (e :: es) ta)
    (hdb : (x == ("__debug__" : Str)) = false := by decide)
    (hev : eval (.Call (.Attribute (.Name x p1) "__init__" p2) (e :: es) [] pos) X.env = (do
      let ov ← eval (.Name x p1) X.env
      standAt p2.atName
      let __x ← holding [ov] (getMethod ov "__init__" pl)
      match __x with
        | (f, first) => callWith pos f first (backTo pos (starEach (e :: es) X.env)) (backToKw pos (keywordEach [] X.env))) := by rfl)
    (he : starEach (e :: es) X.env = (false, eval e X.env) :: starEach es X.env := by rfl) (hpl : (backTo pos (starEach es X.env)).any (·.1) = false := by rfl) :
    PE X (.Call (.Attribute (.Name x p1) "__init__" p2) (e :: es) [] pos) (tVeI X.K ta) := by
  refine ⟨fun pins s σ H Q I h => PySem.W.methodCall_KW (ld_glob I hg hm ?_ hdb) hev⟩
  obtain ⟨m, hF⟩ := I.fr
  refine PySem.W.method_of_cls hF I.ok.mod.kin ga (PySem.W.cls_value I.kIn rd fc (by rfl) ?_)
  refine callWith_method1 (thn (ha.run pos pins _ σ H _ (I.tok (s.toks + 1)) h) fun uu s1 ⟨vs, H1, I1, r, q⟩ => ?_) he hpl
  obtain ⟨a, C, ws, rfl, hl, T, ho, q⟩ := q
  cases r with
  | cons r1 r2 =>
    cases r1
    refine oinit_ok T I1 ho ?_ fun s' I' => ⟨.non, H1, I', rfl, q⟩
    rw [← r2.length, sizeLine_eq]
    omega
end
theorem CX_mono {P : Program} {w : World} {outer : List Env} {H : Hp} {s : Shared} {E E' : XK} {u : Value} {s' : Shared} (h : L2.CX P w outer H s E u s') (m : ∀ c d H, E c d H → E' c d H) : L2.CX P w outer H s E' u s' := by
  obtain ⟨a, B, H', cls, d, h1, h2, h3, h4, h5, h6, h7, h8⟩ := h
  exact ⟨a, B, H', cls, d, h1, h2, h3, h4, h5, h6, h7, m _ _ _ h8⟩
/-- what the try takes, of a call whose way out is told for all states of n slots -/
theorem passes_all {X : Cx} {W : WX} {n : Nat} (tk : Takes X W) (hn : X.N.length = n) : Passes (L2.CX X.prog X.w) X fun cls d H => ∀ σ, σ.length = n → W cls d σ H := fun pins σ H s e s' I h =>
  passAt tk σ pins H s e s' I (CX_mono h fun _ _ _ q => q σ (I.len.trans hn))
end Ew
namespace Ew
open PySem PySem.Spec PyProof.Rows L2
/-! ### xs[a:c] = ys, c perhaps behind the end -/
theorem bnd {a c n : Nat} (h : a ≤ c) (h2 : a ≤ n) : sliceBounds (some (a : Int)) (some (c : Int)) none n = ((a : Int), ((min c n : Nat) : Int), 1) := by
  have ea : max 0 (min (if (a : Int) < 0 then (a : Int) + n else a) (n : Int)) = (a : Int) := by
    rw [if_neg (by omega)]; omega
  have ec : max 0 (min (if (c : Int) < 0 then (c : Int) + n else c) (n : Int)) = ((min c n : Nat) : Int) := by
    rw [if_neg (by omega)]; omega
  show (max 0 (min (if (a : Int) < 0 then (a : Int) + n else a) (n : Int)), max 0 (min (if (c : Int) < 0 then (c : Int) + n else c) (n : Int)), (1 : Int)) = _
  rw [ea, ec]
section
variable {prog : Program} {w : World} {A : Around} {E : Value → Shared → Prop} {s : Shared}
theorem setItem_sliceC {l b sl : Addr} {items new : Array Value} {n n2 : Nat} {vl vu : Value} {a c : Nat} {Q : Unit → Shared → Prop} (e : s.heap.get? l = some { cls := .type "list", data := .seq items n }) (e2 : s.heap.get? b = some { cls := .type "list", data := .seq new n2 }) (hne : l ≠ b)
    (hs : s.heap.IsSliceOf sl vl vu .none) (pl : IsPart vl (some (a : Int))) (pu : IsPart vu (some (c : Int))) (hac : a ≤ c) (ha : a ≤ items.size) (hsz : items.size + new.size ≤ sizeLine)
    (h : Q () { s with heap := s.heap.update l (Obj.mapSeq fun xs => xs.extract 0 a ++ new ++ xs.extract (min c items.size)) }) : wpAny (model prog w) A (setItem (.ref l) (.ref sl) (.ref b)) Q E s := by
  have hl : s.heap.IsList l items := ⟨_, e, rfl, _, rfl⟩
  obtain ⟨os, hos, hcs, hds⟩ := id hs
  have hTs : s.TypeIs (.ref sl) "slice" := ⟨os, hos, hcs⟩
  have hTb : s.TypeIs (.ref b) "list" := ⟨_, e2, rfl⟩
  unfold setItem
  refine wpAny_holding (wpAny_bind (wpAny_sequenceKey hl.typeIs (by decide) (wpAny_bind (wpAny_callSpecial?_slot hl.typeIs slot_list_setitem (wpAny_call_entry slot_list_setitem hl.typeIs entry_list_setitem ?_ (F.args_list_setitem_3 _ _ _))))))
  show wpAny _ _ (Builtin.«list.__setitem__» ⟨[.ref l, .ref sl, .ref b], []⟩) _ _ _
  unfold Builtin.«list.__setitem__»
  refine wpAny_bind (m := Builtin.List.listBlankSlotArgs "__setitem__" 2 ⟨[.ref l, .ref sl, .ref b], []⟩) (wpAny_pure ?_)
  refine wpAny_bind (m := Builtin.List.listSubscript? (.ref sl)) ?_
  unfold Builtin.List.listSubscript?
  refine wpAny_bind (wpAny_specialOf hTs slice_no_index ?_)
  rw [if_pos (by rfl)]
  refine wpAny_pure ?_
  dsimp only
  refine wpAny_bind (wpAny_typeOf hTs ?_)
  rw [if_neg (by decide)]
  refine wpAny_bind (m := Builtin.List.listSliceParts (.ref sl)) ?_
  unfold Builtin.List.listSliceParts
  refine wpAny_bind (wpAny_field hos hds rfl ?_)
  refine wpAny_bind (m := listPart .none) (wpAny_listPart .none ?_)
  rw [if_neg (by decide)]
  refine wpAny_bind (wpAny_field hos hds rfl (wpAny_bind (m := listPart vl) (wpAny_listPart pl (wpAny_bind (wpAny_field hos hds rfl (wpAny_bind (m := listPart vu) (wpAny_listPart pu (wpAny_pure ?_))))))))
  dsimp only
  rw [if_neg (by show ¬ (Builtin.List.listSameRef (.ref l) (.ref b)) = true; unfold Builtin.List.listSameRef; simpa using hne)]
  refine wpAny_bind (m := Builtin.List.listAllItems (.ref b) _) ?_
  unfold Builtin.List.listAllItems
  refine wpAny_bind (wpAny_typeOf hTb ?_)
  rw [if_pos (by decide)]
  unfold Builtin.List.listItems
  refine wpAny_bind (wpAny_seqItems e2 rfl (wpAny_pure ?_))
  refine wpAny_bind (m := do let __do_lift ← seqItems? (.ref l); match __do_lift with | some xs => pure xs | none => unsupported "internal:list-without-items") (wpAny_bind (wpAny_seqItems e rfl (wpAny_pure ?_)))
  refine wpAny_bind (wpAny_of_eq (sliceIndices_raw (some (a : Int)) (some (c : Int)) none items.size (by decide)) ?_)
  rw [bnd hac ha]
  dsimp only
  rw [if_pos (by decide)]
  refine wpAny_bind (wpAny_rule ?_)
  rw [if_neg (by unfold Builtin.List.listTooLong; simp; exact hsz)]
  refine wpAny_bind (m := Builtin.List.listUpdate (.ref l) _) ?_
  show wpAny _ _ (updateSeq l _) _ _ _
  refine wpAny_updateSeq e rfl ?_ (by omega) ?_
  · refine wpAny_bind (wpAny_letGo (wpAny_pure ⟨_, rfl, wpAny_pure ?_⟩))
    rw [show (max (a : Int) ((min c items.size : Nat) : Int)).toNat = min c items.size from by omega, Int.toNat_natCast]
    exact h
  · simp only [Array.size_append, Array.size_extract]
    omega
end
theorem drop_min {α : Type} (xs : List α) (c : Nat) : xs.drop (min c xs.length) = xs.drop c := by
  rcases Nat.le_total c xs.length with h | h
  · rw [Nat.min_eq_left h]
  · rw [Nat.min_eq_right h, List.drop_of_length_le (Nat.le_refl _), List.drop_of_length_le h]
def gSlcC (to : TE) (tl th : TO) : TG := fun v σ H Q => to σ H fun x H1 => tl σ H1 fun lo H2 => th σ H2 fun hi H3 => ∃ (a b : Addr) (xs ys : List V) (i c : Nat), x = .ref a ∧ v = .ref b ∧ lo = some (i : Int) ∧ hi = some (c : Int) ∧ H3 a = some (.lst xs) ∧ H3 b = some (.lst ys) ∧ a ≠ b ∧ i ≤ c ∧ i ≤ xs.length ∧ xs.length + ys.length ≤ sizeLine ∧ Q σ (upd H3 a (.lst (xs.take i ++ ys ++ xs.drop c)))
section
variable {X : Cx} {o : Expr} {to : TE} {lo hi : Option Expr} {tl th : TO} {pos p2 : Pos}
theorem pg_slcC (ho : PE X o to) (hl : PO X lo tl) (hh : PO X hi th)
    (ha : ∀ v : Value, assign (o.Subscript (.Slice lo hi none p2) pos) X.env v = (do
      let ov ← holding [v] (eval o X.env)
      let iv ← holding [v, ov] (eval (.Slice lo hi none p2) X.env)
      standAt pos
      holding [v, ov, iv] (setItem ov iv v)
      release [iv, v, ov] []) := by intro _; rfl) : PG X (o.Subscript (.Slice lo hi none p2) pos) (gSlcC to tl th) := by
  refine ⟨fun pins s σ H v u Q I r h => ?_⟩
  rw [ha u]
  refine wpAny_bind (wpAny_holding (thn (ho.run pins s σ H _ I h) fun ov s1 ⟨x, H1, I1, r1, q1⟩ => wpAny_bind (wpAny_holding (wpAny_Slice (thn (hl.run pins s1 σ H1 _ I1 q1) fun vl s2 ⟨l, H2, I2, pl, q2⟩ => thn (hh.run pins s2 σ H2 _ I2 q2) fun vu s3 ⟨z, H3, I3, pu, q3⟩ => ?_)))))
  rw [evalPart_none X.env]
  refine wpAny_pure (wpAny_bind (wpAny_standAt (wpAny_bind (wpAny_holding ?_))))
  obtain ⟨a, b, xs, ys, i, c, rfl, rfl, rfl, rfl, hA, hB, nab, ic, cl, hz, q⟩ := q3
  cases (show ov = Value.ref a from r1)
  cases (show u = Value.ref b from r)
  have I4 := I3.kept (t' := s3.toks) (h' := s3.heap.push { cls := .type "slice", data := .fields #[vl, vu, .none] }) fun b ob q => Heap.get?_push_of_some _ q
  obtain ⟨_, its, n, va, la, ea⟩ := I4.lstM hA
  obtain ⟨_, its2, n2, vb, lb, eb⟩ := I4.lstM hB
  refine setItem_sliceC ea eb nab (Heap.IsSliceOf.new s3.heap _ _ _) pl pu ic (by rw [List.size_toArray, ← la]; exact cl) (by rw [List.size_toArray, List.size_toArray, ← la, ← lb]; exact hz) (wpAny_release ?_)
  refine ⟨σ, _, I4.lset (its' := its.take i ++ its2 ++ its.drop c) (ys := xs.take i ++ ys ++ xs.drop c) (t' := s3.toks) hA ea ?_ (Vals.append (Vals.append (Vals.take i va) vb) (Vals.drop c va)) ?_, q⟩
  · rw [splice_eq, List.size_toArray, drop_min]
  · rw [List.length_append, List.length_append, List.length_take, List.length_drop]
    omega
end
end Ew
namespace Ew
open PySem PySem.Spec PyProof.Rows L2
/-! ### C(.., k = v): an own exception made with keywords, or none at all -/
section
open PySem.Builtin PySem.Builtin.ObjectAttr PySem.HandSPX
variable {prog : Program} {w : World} {A : Around} {M : Model} {E : Value → Shared → Prop} {R : PySem.Result → Shared → Prop} {hp : Heap} {gs : Array GenState} {dr : Drawn} {tk : Nat} {os : OsState}
variable {nm q : Str} {C N : Addr} {bs bm bmB : List Value} {hd : Bool} {sn : List Str} {sub : List Value} {ab : Bool} {col : Option Bool} {dd : Option Addr} {k0 k1 k2 k3 k5 : Option Value} {B nw it : String} {us : List Value} {kw : List (Str × Value)}
theorem checkK (F : ExcBaseFacts B nw it bmB) (hT : ∀ X : String, bm.contains (.type X) = bmB.contains (.type X)) {Q : Unit → Shared → Prop}
    (hC : hp.get? C = some (excClassObj nm q C N bs bm hd sn sub ab col dd k0 k1 k2 k3 k5 nw)) (z : Q () ⟨hp, gs, dr, tk, os⟩) : wpAny M A (checkBuiltinCall nw ⟨.ref C :: us, kw⟩) Q E ⟨hp, gs, dr, tk, os⟩ := by
  have c1 : (Value.ref C :: bm).contains (.type B) = true := by
    rw [List.contains_cons, hT, F.hasB]
    exact Bool.or_true _
  have c2 := F.noStar
  simp only [checkBuiltinCall, F.newRow, F.newKind, F.newSplit]
  repeat (first
    | refine wpAny_loadPart_at hC ?_
    | (refine wpAny_isSubtype_exc hC ?_; rw [c1])
    | refine wpAny_staticBase_exc hC ?_
    | refine wpAny_madeBy_exc hC ?_
    | simp only [bne_self_eq_false, Bool.false_eq_true, if_false]
    | wp_step)
  exact z
theorem newK (F : ExcBaseFacts B nw it bmB) (hT : ∀ X : String, bm.contains (.type X) = bmB.contains (.type X)) (hC : hp.get? C = some (excClassObj nm q C N bs bm hd sn sub ab col dd k0 k1 k2 k3 k5 nw)) (hz : us.length ≤ sizeLine)
    (z : R (.ok (.ret (.ref (hp.objs.size + 1)))) ⟨(hp.push (PySem.W.kdv_tup us)).push (excO C hp.objs.size), gs, dr, tk, os⟩) :
    codeAny (model prog w) A (.builtin nw ⟨.ref C :: us, kw⟩) R ⟨hp, gs, dr, tk, os⟩ := by
  have c0 := F.ends
  have c1 : (Value.ref C :: bm).contains (.type B) = true := by
    rw [List.contains_cons, hT, F.hasB]
    exact Bool.or_true _
  have c2 : (Value.ref C :: bm).contains (.type "AttributeError") = false := by
    rw [List.contains_cons, hT, F.noAttr]
    rfl
  have c3 : (Value.ref C :: bm).contains (.type "NameError") = false := by
    rw [List.contains_cons, hT, F.noName]
    rfl
  refine codeAny_builtinAt F.entry ?_
  unfold Builtin.«BaseException.__new__»
  refine PySem.wpAt_bind ?_
  show PySem.wpAt _ _ _ (PySem.stack >>= _) _ _ _
  refine PySem.wpAt_bind (PySem.wpAt_stack fun p below => PySem.wpAt_of_wpAny ?_)
  wp_walk
  refine PySem.wpAt_of_wpAny ?_
  rw [F.owner]
  repeat (first
    | with_reducible refine wpAny_madeHere_exc F.canon hC ?_
    | with_reducible refine wpAny_loadPart_at hC ?_
    | (with_reducible refine wpAny_isSubtype_exc hC ?_; first | rw [c1] | rw [c2] | rw [c3])
    | wp_step)
  show R _ _
  rw [Heap.size_push]
  exact z
theorem typeCallK (F : ExcBaseFacts B nw it bmB) (hT : ∀ X : String, bm.contains (.type X) = bmB.contains (.type X)) {fI : Addr} {Q : Fin → Shared → Prop} (hC : hp.get? C = some (excClassObj nm q C N bs bm hd sn sub ab col dd k0 k1 k2 k3 k5 nw)) (hz : us.length ≤ sizeLine)
    (hi : PySem.W.Looks (model prog w) hp (typeLookup (.ref C) "__init__") (some (.ref fI))) (hb : ∀ self, PySem.W.Looks (model prog w) hp (bindSpecial (.ref fI) self) (.ref fI, [self]))
    (z : codeAny (model prog w) A (.call (.ref fI) ⟨.ref (hp.objs.size + 1) :: us, kw⟩) (fun r s' => match r with
        | .ok (.ret v) => v = .none ∧ Q (.done (.ret (.ref (hp.objs.size + 1)))) s'
        | .ok _ => False
        | .error e => E e s') ⟨(hp.push (PySem.W.kdv_tup us)).push (excO C hp.objs.size), gs, dr, tk, os⟩) :
    wpAny (model prog w) A (Builtin.«type.__call__» ⟨.ref C :: us, kw⟩) Q E ⟨hp, gs, dr, tk, os⟩ := by
  repeat (first
    | with_reducible refine wpAny_loadPart_at hC ?_
    | with_reducible refine wpAny_madeBy_exc hC ?_
    | wp_step)
  refine codeAny_call_builtin_code (Code.quiet_builtin _ F.quiet) (checkK F hT hC ?_)
  refine newK F hT hC hz ?_
  show wpAny _ _ _ _ _ _
  have old : ∀ b o, hp.get? b = some o → ((hp.push (PySem.W.kdv_tup us)).push (excO C hp.objs.size)).get? b = some o := fun b o e => Heap.get?_push_of_some _ (Heap.get?_push_of_some _ e)
  have hC1 := old _ _ hC
  have hnew : ((hp.push (PySem.W.kdv_tup us)).push (excO C hp.objs.size)).get? (hp.objs.size + 1) = some (excO C hp.objs.size) := by heap_get
  have cC : (Value.ref C :: bm).contains (.ref C) = true := by simp
  have li := hi.keeps old
  have lb := (hb (.ref (hp.objs.size + 1))).keeps old
  unfold isInstance
  repeat (first
    | with_reducible refine wpAny_loadPart_at hnew ?_
    | (with_reducible refine wpAny_isSubtype_exc hC1 ?_; rw [cC])
    | wp_step)
  show wpAny _ _ (typeLookup (.ref C) _) _ _ _
  refine li.at ?_
  refine wpAny_holding (wpAny_bind (lb.at ?_))
  refine wpAny_bind (wpAny_call (codeAny_mono z fun r s' y => ?_))
  rcases r with e | (v | _ | _ | _) <;> first | exact y | exact y.elim | skip
  obtain ⟨rfl, y⟩ := y
  first
    | exact wpAny_pure (wpAny_pure y)
    | (wp_walk; exact y)
theorem checkT {Q : Unit → Shared → Prop} (hC : hp.get? C = some (excClassObj nm q C N bs bm hd sn sub ab col dd k0 k1 k2 k3 k5 nw)) (z : Q () ⟨hp, gs, dr, tk, os⟩) : wpAny M A (checkBuiltinCall "type.__call__" ⟨.ref C :: us, kw⟩) Q E ⟨hp, gs, dr, tk, os⟩ := by
  have l3 := tc_sub
  have ty : (⟨hp, gs, dr, tk, os⟩ : Shared).TypeIs (.ref C) "type" := ⟨_, hC, rfl⟩
  simp only [checkBuiltinCall, tc_split, tc_kind]
  repeat (any_goals (first
    | assumption
    | with_reducible refine wpAny_loadPart_at hC ?_
    | with_reducible refine wpAny_map ?_
    | with_reducible refine wpAny_onRaise ?_
    | wp_step))
theorem callK (F : ExcBaseFacts B nw it bmB) (hT : ∀ X : String, bm.contains (.type X) = bmB.contains (.type X)) {fI : Addr} (hC : hp.get? C = some (excClassObj nm q C N bs bm hd sn sub ab col dd k0 k1 k2 k3 k5 nw)) (hz : us.length ≤ sizeLine)
    (hi : PySem.W.Looks (model prog w) hp (typeLookup (.ref C) "__init__") (some (.ref fI))) (hb : ∀ self, PySem.W.Looks (model prog w) hp (bindSpecial (.ref fI) self) (.ref fI, [self]))
    (z : codeAny (model prog w) (A.under (.builtin "type.__call__" ⟨.ref C :: us, kw⟩)) (.call (.ref fI) ⟨.ref (hp.objs.size + 1) :: us, kw⟩) (PySem.W.InitBack (hp.objs.size + 1) R) ⟨(hp.push (PySem.W.kdv_tup us)).push (excO C hp.objs.size), gs, dr, tk, os⟩) :
    codeAny (model prog w) A (.call (.ref C) ⟨us, kw⟩) R ⟨hp, gs, dr, tk, os⟩ := by
  have l1 := tc_lookup
  have l2 := tc_bind (.ref C)
  have ty : (⟨hp, gs, dr, tk, os⟩ : Shared).TypeIs (.ref C) "type" := ⟨_, hC, rfl⟩
  refine codeAny_of_tree ?_
  show wpAny _ _ (callAny (.ref C) _) _ _ _
  repeat (any_goals (first | assumption | with_reducible refine wpAny_loadPart_at hC ?_ | wp_step))
  refine ⟨rfl, ?_⟩
  refine codeAny_call_builtin_at (Code.quiet_builtin _ (by decide +kernel)) entry_typeCall (checkT hC (typeCallK F hT hC hz hi hb ?_))
  refine codeAny_mono z fun r s' y => ?_
  rcases r with e | (v | _ | _ | _) <;> exact y
end
end Ew
namespace Ew
open PySem PySem.Spec PyProof.Rows L2
/-- C(..), an own exception that is held as a value -/
def tMkV (C : Addr) (sp : Sp) (g : Addr → List V → List V) (ta : TA) : TE := fun σ H Q => ta σ H fun vs H1 => vs.length ≤ 1000 ∧ ∀ a, H1 a = none → sp (g a vs) (upd H1 a (exo a C none)) (fun v H2 => v = .non ∧ Q (.ref a) H2) fun _ _ _ => False
section
variable {X : Cx} {CX : CXT} {k : Nat} {C fI : Addr} {fd : FuncData} {ps : List Str} {sp : Sp} {x : Str} {p pos : Pos} {e : Expr} {es : List Expr} {ta : TA}
theorem run_oex {pins : List (Addr × Obj)} {σ : L2.St} {H : Hp} {s : Shared} {Q : VK} {us : List Value} {kw : List (Str × Value)} {L : Addr → List Value} {LV : Addr → List V} (T : OexC X.K C) (iC : PySem.W.findIn X.K (.ref C) "__init__" = some (some (.ref fI))) (tI : PySem.W.typeIn X.K (.ref fI) = some (.type "function"))
    (F : FnOk X.prog X.w X.K X.mg X.base CX k fI fd ps sp) (hr : Room (k + 1) X.A) (hx : Passes CX X fun _ _ _ => False) (I : Inv X pins σ H s) (hz : us.length ≤ sizeLine)
    (hb : ∀ (s' : Shared) (a : Addr), X.K.In s'.heap → (LV a).length = ps.length → BindsTo s' fd ⟨.ref a :: us, kw⟩ (ps.zip (L a))) (rl : ∀ a, Vals (LV a) (L a))
    (h : ∀ a, H a = none → sp (LV a) (upd H a (exo a C none)) (fun v H2 => v = .non ∧ Q (.ref a) H2) fun _ _ _ => False) :
    wpAny (model X.prog X.w) X.A (call (.ref C) us kw) (EP X pins σ Q) X.xe s := by
  obtain ⟨nm, q, N, bs, bm, sn, sub, ab, col, dd, k0, k1, k2, k3, k5, hC, hbm⟩ := T.cls
  obtain ⟨hp, g, dr, tk, os⟩ := s
  have hn : H (hp.objs.size + 1) = none := I.hok.fresh (Nat.le_succ _)
  have hq := h (hp.objs.size + 1) hn
  have old : ∀ b o, hp.get? b = some o → ((hp.push (PySem.W.kdv_tup us)).push (PySem.HandSPX.excO C hp.objs.size)).get? b = some o := fun b o z => Heap.get?_push_of_some _ (Heap.get?_push_of_some _ z)
  have hget : ((hp.push (PySem.W.kdv_tup us)).push (PySem.HandSPX.excO C hp.objs.size)).get? (hp.objs.size + 1) = some (PySem.HandSPX.excO C hp.objs.size) := by heap_get
  have J : Inv X pins σ (upd H (hp.objs.size + 1) (exo (hp.objs.size + 1) C none)) ⟨(hp.push (PySem.W.kdv_tup us)).push (PySem.HandSPX.excO C hp.objs.size), g, dr, tk, os⟩ :=
    I.laid (t' := tk) (a := hp.objs.size + 1) (o := exo (hp.objs.size + 1) C none) (h' := (hp.push (PySem.W.kdv_tup us)).push (PySem.HandSPX.excO C hp.objs.size)) old (Nat.le_succ _) (exo_ok hget)
  have hl := F.len _ _ _ _ hq
  refine wpAny_call (callK PySem.F.excBase_ValueError (fun Y => PySem.HandSPX.refsVE_contains Y bm hbm) (I.kIn _ _ hC) hz (PySem.W.looks_findIn I.kIn iC) (fun self => PySem.W.bind_fn I.kIn self tI)
    (codeAny_mono (F.run _ X.stack _ _ ⟨.ref (hp.objs.size + 1) :: us, kw⟩ (L (hp.objs.size + 1)) _ _ (fun _ _ _ => False) (hr.make C us kw) (J.env0.make C us kw) (hb _ _ J.kIn hl) (rl _) hq) fun r s' hq' => ?_))
  cases r with
  | error er => exact hx pins σ _ _ er s' J hq'
  | ok fl =>
    cases fl with
    | ret u =>
      obtain ⟨v, H', J2, rv, ev, q3⟩ := J.after hq'
      subst ev
      exact ⟨rv, ⟨V.ref (hp.objs.size + 1), H', J2, rfl, q3⟩⟩
    | next => exact False.elim hq'
    | brk => exact False.elim hq'
    | cont => exact False.elim hq'
/-- C(e, ..) -/
theorem pe_oex (T : OexC X.K C) (iC : PySem.W.findIn X.K (.ref C) "__init__" = some (some (.ref fI))) (tI : PySem.W.typeIn X.K (.ref fI) = some (.type "function")) (F : FnOk X.prog X.w X.K X.mg X.base CX k fI fd ps sp) (hr : Room (k + 1) X.A) (hb : Binds X.K fd ps []) (hx : Passes CX X fun _ _ _ => False)
    (hg : Gl X x) (hm : X.mg x = some (.ref C)) (ha : PA X (e :: es) ta) (hdb : (x == ("__debug__" : Str)) = false := by decide) (he : starEach (e :: es) X.env = (false, eval e X.env) :: starEach es X.env := by rfl) (hpl : (backTo pos (starEach es X.env)).any (·.1) = false := by rfl) :
    PE X (.Call (.Name x p) (e :: es) [] pos) (tMkV C sp (fun a vs => .ref a :: vs) ta) := by
  refine ⟨fun pins s σ H Q I h => wpAny_Call_Name_kw (ld_glob I hg hm ?_ hdb)⟩
  refine PySem.W.callWith_K (h₀ := X.base) I.ok.mod.kin T.kC (thn (ha.run pos pins s σ H _ I h) fun us s1 ⟨vs, H1, I1, r1, hz, q1⟩ => ⟨I1.kIn, ?_⟩) he hpl
  refine run_oex (us := us) (kw := []) (L := fun a => .ref a :: us) (LV := fun a => .ref a :: vs) T iC tI F hr hx I1 (by rw [← r1.length, sizeLine_eq]; omega) (fun s' a Y hl => ?_) (fun a => .cons rfl r1) q1
  have hl2 : (Value.ref a :: us).length = ps.length := by rw [← hl, List.length_cons, List.length_cons, r1.length]
  simpa using hb s' (.ref a :: us) Y (by simpa using hl2)
/-- C(k = v, ..) -/
theorem pe_oexK {ks : List Str} {kws : List Keyword} {tk : TA} {g : List Value → List Value → List Value} {gV : List V → List V → List V} (T : OexC X.K C) (iC : PySem.W.findIn X.K (.ref C) "__init__" = some (some (.ref fI))) (tI : PySem.W.typeIn X.K (.ref fI) = some (.type "function"))
    (F : FnOk X.prog X.w X.K X.mg X.base CX k fI fd ps sp) (hr : Room (k + 1) X.A) (hb : KBn X.K fd ps 1 ks g gV) (hx : Passes CX X fun _ _ _ => False) (hg : Gl X x) (hm : X.mg x = some (.ref C)) (hkw : PK X kws tk)
    (hall : (backToKw pos (keywordEach kws X.env)).all (·.1.isSome) = true := by rfl) (hks : (backToKw pos (keywordEach kws X.env)).filterMap (·.1) = ks := by rfl) (hdb : (x == ("__debug__" : Str)) = false := by decide)
    (hpl : ((backTo pos (starEach [] X.env)).any (·.1) || (backToKw pos (keywordEach kws X.env)).any (·.1.isNone)) = false := by rfl) :
    PE X (.Call (.Name x p) [] kws pos) (fun σ H Q => tk σ H fun zs H1 => zs.length = ks.length ∧ ∀ a, H1 a = none → sp (gV [.ref a] zs) (upd H1 a (exo a C none)) (fun v H2 => v = .non ∧ Q (.ref a) H2) fun _ _ _ => False) := by
  refine ⟨fun pins s σ H Q I h => wpAny_Call_Name_kw (ld_glob I hg hm ?_ hdb)⟩
  refine PySem.W.callWith_KW0 (h₀ := X.base) I.ok.mod.kin T.kC hall ?_ hpl
  refine thn (hkw.run pos pins s σ H _ I h) fun ws s2 ⟨zs, H2, I2, rz, l2, q2⟩ => ⟨I2.kIn, ?_⟩
  rw [hks]
  refine run_oex (us := []) (kw := ks.zip ws) (L := fun a => g [.ref a] ws) (LV := fun a => gV [.ref a] zs) T iC tI F hr hx I2 (Nat.zero_le _) (fun s' a Y hl => ?_) (fun a => hb.rel (.cons rfl .nil) rz) q2
  exact hb.to s' [.ref a] ws Y rfl (rz.length.symm.trans l2)
end
end Ew
namespace Ew
open PySem PySem.Spec PyProof.Rows L2
/-! ### an exception that is a value: its fields, its class -/
/-- an exception of the class cls at a, its dict at d -/
def exv (cls : Value) (d : Option Addr) (a : Addr) : HO := .ext fun h => ∃ (oe : Obj) (vs : Array Value), h.get? a = some oe ∧ Zc cls d oe ∧ oe.data = .fields vs
theorem exv_ok {P : Program} {w : World} {H : Hp} {h : Heap} {a : Addr} {cls : Value} {d : Option Addr} {oe : Obj} {vs : Array Value} (e : h.get? a = some oe) (z : Zc cls d oe) (f : oe.data = .fields vs) : ObjOk P w H h a (exv cls d a) :=
  ⟨⟨oe, vs, e, z, f⟩, ⟨oe, e⟩, fun _ _ ⟨o, v, q, r⟩ k => ⟨o, v, k o q, r⟩⟩
theorem exv_at {P : Program} {w : World} {H : Hp} {h : Heap} {a : Addr} {cls : Value} {d : Option Addr} (hok : HOk P w H h) (e : H a = some (exv cls d a)) : ∃ (oe : Obj) (vs : Array Value), h.get? a = some oe ∧ Zc cls d oe ∧ oe.data = .fields vs := by
  have x : ObjOk P w H h a (.ext fun h => ∃ (oe : Obj) (vs : Array Value), h.get? a = some oe ∧ Zc cls d oe ∧ oe.data = .fields vs) := hok a _ e
  exact x.1
/-- e.f, e such an exception that was made and not raised -/
def tVf (C : Addr) (f : Str) (te : TE) : TE := fun σ H Q => te σ H fun x H1 => ∃ (a dd : Addr) (fs : List (Str × V)) (v : V), x = .ref a ∧ H1 a = some (exo a C (some dd)) ∧ H1 dd = some (exd dd fs) ∧ fs.lookup f = some v ∧ Q v H1
theorem pe_vf {X : Cx} {C : Addr} {e : Expr} {te : TE} {pos : Pos} {n : Str} (T : XfC X.K C) (hno : PySem.W.findIn X.K (.ref C) n = some none) (he : PE X e te) (hb : attributeBase e n X.env (eval e X.env) = eval e X.env := by rfl) :
    PE X (.Attribute e n pos) (tVf C n te) := by
  refine ⟨fun pins s σ H Q I h => attr_of hb (thn (he.run pins s σ H _ I h) fun u s1 hh => ?_)⟩
  obtain ⟨x, H1, I1, rx, a, dd, fs, v, ex, ea, ed, l, q⟩ := hh
  subst ex
  obtain rfl : u = Value.ref a := rx
  obtain ⟨t1, ha⟩ := exo_at I1.hok ea
  obtain ⟨mA, hns, hr⟩ := exd_at I1.hok ed
  obtain ⟨od, ho, hl⟩ := lookIn_ns hns
  obtain ⟨u, hu, ru⟩ := RelO.some_of (v := v) (o := mA n) (by rw [← l]; exact hr n)
  have J : PySem.W.InstAt s1.heap a _ C (some od) := ⟨ha, rfl, rfl, ho⟩
  exact HandSPX.exc_get I1.kIn J T.ga T.gg T.exC (PySem.W.findObj_own T.hdC hno rfl (by rw [hl, hu])) (handed_of ru) ⟨v, H1, I1.tok _, ru, q⟩
section
open PySem.W PySem.Calls
variable {prog : Program} {w : World} {A : Around} {E : Value → Shared → Prop} {s : Shared} {K : Frag} {x D : Addr} {ox : Obj} {od : Option Obj}
theorem findC {D : Addr} {od : Option Obj} (C : ExcC K D) : findObj K D od "__class__" = some (.bind (.builtin "getset_descriptor.__get__") (.builtin "object.__class__")) := by
  obtain ⟨cd, e, _⟩ := any_some C.hd
  have e1 := C.ha
  have e2 := C.hn
  have e3 := C.ht
  unfold findObj
  rw [e, Option.bind_some, e1, Option.bind_some]
  simp [e2, e3]
theorem classX {Q : Option Value → Shared → Prop} (C : ExcC K D) (X : K.In s.heap) (I : InstAt s.heap x ox D od) (h : Q (some (.ref D)) { s with toks := s.toks + 1 }) : wpAny (model prog w) A (getAttr? (.ref x) "__class__") Q E s := by
  have fC := findC (od := od) C
  obtain ⟨hh, gg, dr, tk, os⟩ := s
  have K0 := I.type (M := model prog w)
  have K1 := looks_findIn (M := model prog w) X C.hg
  have K2 := looks_findIn (M := model prog w) X C.hk
  have K3 := looks_find (M := model prog w) X I fC
  have isB : Looks (model prog w) hh (isInstance (.ref x) (.type "BaseException")) true := K0.andThen (looks_subIn X C.hs)
  have n0 : (false && onTheHeap (Value.builtin "BaseException.__getattribute__")) = false := Bool.false_and _
  have n2 : ((Value.builtin "BaseException.__getattribute__") == (Value.builtin "object.__getattribute__")) = false := by decide +kernel
  have n1 : (onTheHeap (Value.ref D) && ((Value.builtin "BaseException.__getattribute__") == (Value.builtin "object.__getattribute__"))) = false := by
    rw [n2]
    exact Bool.and_false _
  unfold getAttr? getAttrBy? getAttrBy
  refine wpAny_bind (wpAny_mkText (wpAny_bind (wpAny_attempt ?_)))
  refine wpAny_holding (wpAny_bind (K0.at (wpAny_bind (K1.at ?_))))
  show wpAny _ _ (if (onTheHeap (Value.ref D) && ((Value.builtin "BaseException.__getattribute__") == (Value.builtin "object.__getattribute__"))) = true then _ else _) _ _ _
  rw [if_neg (by rw [n1]; exact Bool.false_ne_true)]
  unfold getAttrByItsOwn hookBefore
  refine wpAny_bind ?_
  rw [if_pos (show onTheHeap (Value.ref D) = true from rfl)]
  refine K2.at (wpAny_bind (wpAny_attempt (wpAny_holding ?_)))
  unfold callGetattribute
  rw [if_neg (by rw [n0]; exact Bool.false_ne_true)]
  unfold boundAndCalled
  rw [PySem.F.excAttr_ValueError.ga.bind (.ref x)]
  refine wpAny_bind (wpAny_pure ?_)
  refine wpAny_call (codeAny_call_builtin PySem.F.excAttr_ValueError.ga.plain PySem.F.entry_bexc_ga ?_)
  refine @check_slot (model prog w) _ _ ⟨hh, gg, dr, tk + 1, os⟩ _ "BaseException" "__getattribute__" _ _ [] _ (by decide +kernel) (by decide +kernel) isB (PySem.F.args_bexc_ga _ _) ?_
  unfold Builtin.«object.__getattribute__»
  refine wpAny_bind (wpAny_of_eq (a := ((Value.ref x : Value), [Value.str "__class__" tk])) (by first | rfl | (simp only [slotArgs]; rfl)) ?_)
  refine wpAny_bind (wpAny_pure (wpAny_bind (K0.at (wpAny_bind (K3.at ?_)))))
  show wpAny _ _ (holding [Value.builtin "object.__class__"] (call (.builtin "getset_descriptor.__get__") [.builtin "object.__class__", .ref x, .ref D]) >>= ret) _ _ _
  refine wpAny_bind (wpAny_holding (wpAny_call (class_get (s := ⟨hh, gg, dr, tk + 1, os⟩) (ox := ox) (od := od) X I C.hm (wpAny_pure ?_))))
  show wpAny _ _ (handedOut (.ref D)) _ _ _
  rw [handedOut_of (v := .ref D) rfl]
  first
    | exact wpAny_pure (wpAny_pure h)
    | exact wpAny_pure h
    | exact wpAny_pure (wpAny_bind (wpAny_pure (wpAny_pure h)))
theorem kitX_exc (C : ExcC K D) : KitX K (.ref x) (.ref D) fun h => InstAt h x ox D od where
  ty := fun _ _ _ I => I.type
  ca := fun X I k => classX C X I k
  it := fun _ _ X _ => by
    obtain ⟨cd, hc, _⟩ := any_some C.hd
    unfold clsIn at hc
    split at hc
    · rename_i u1 u2 u3 u4 ho
      intro A' Q' E' s' k q
      unfold isType loadHead
      exact wpAny_bind (wpAny_loadPart (k _ _ (X _ _ ho)) (wpAny_pure q))
    · cases hc
  ne := fun h tp dd its n sl X ht => by
    obtain ⟨cd, hc, _⟩ := any_some C.hd
    refine Bool.eq_false_iff.mpr fun q => ?_
    have e : D = tp := Value.ref.inj (beq_iff_eq.mp q)
    subst e
    unfold clsIn at hc
    split at hc
    · rename_i u1 u2 u3 u4 ho
      cases (X _ _ ho).symm.trans ht
    · cases hc
end
/-- isinstance(e, c), e an exception that is held as a value -/
def rIsV (K : PySem.W.Frag) (D : Addr) : List V → Hp → VK → Prop := fun xs H Q => ∃ (a : Addr) (d : Option Addr) (c : V) (cv : Value) (b : Bool), xs = [.ref a, c] ∧ H a = some (exv (.ref D) d a) ∧ (∀ dd, d = some dd → ∃ fs, H dd = some (.xd fs)) ∧ (∀ u, RelV c u → u = cv) ∧ PySem.W.kitOne K (.ref D) cv = some b ∧ Q (.bl b) H
theorem call_isV {X : Cx} {D : Addr} (C : ExcC X.K D) : CallR X (.builtin "isinstance") (rIsV X.K D) := by
  intro pins s σ H xs us Q I r h
  obtain ⟨a, d, c, cv, b, rfl, ea, ed, hcv, e, q⟩ := h
  cases r with
  | cons rx rr =>
    cases rr with
    | cons rt rr =>
      cases rr
      cases rx
      cases hcv _ rt
      obtain ⟨oe, vs, he, hz, hf⟩ := exv_at I.hok ea
      have J : ∃ od, PySem.W.InstAt s.heap a oe D od := by
        obtain ⟨oc, od, oda, osl⟩ := oe
        obtain ⟨h1, h2⟩ := hz
        dsimp only at h1 h2 hf
        subst h1 h2 hf
        cases od with
        | none => exact ⟨none, he, rfl, rfl, trivial⟩
        | some dd =>
          obtain ⟨fs, hd⟩ := ed dd rfl
          have hx : ObjOk X.prog X.w H s.heap dd (.xd fs) := I.hok dd _ hd
          obtain ⟨mA, hns, _⟩ := hx
          obtain ⟨o, ho, _⟩ := lookIn_ns hns
          exact ⟨some o, he, rfl, rfl, ho⟩
      obtain ⟨od, J⟩ := J
      exact PySem.W.kia_one (kitX_exc C) I.kIn J e (fun z => nomatch z) fun tk => ⟨.bl b, H, I.kept (t' := tk) fun _ _ z => z, rfl, q⟩
end Ew
namespace Ew
open PySem PySem.Spec PyProof.Rows L2
/-! ### try: .. except C as e: return e -/
section
variable {X : Cx} {pins : List (Addr × Obj)} {σ : L2.St} {H : Hp} {s : Shared} {a : Addr} {oe : Obj} {vs : Array Value} {cls : Value} {d : Option Addr}
/-- a pinned exception that was not there at the entry may be tracked -/
theorem track (I : Inv X ((a, oe) :: pins) σ H s) (new : X.s_0.heap.get? a = none) (np : ∀ p ∈ X.pn ++ pins, p.1 ≠ a) (hz : Zc cls d oe) (hf : oe.data = .fields vs) : Inv X pins σ (upd H a (exv cls d a)) s := by
  obtain ⟨he, na, nl, nf, nc⟩ := I.pin (a, oe) (List.mem_append_right _ List.mem_cons_self)
  have old : ∀ {b : Addr} {o : HO}, H b = some o → upd H a (exv cls d a) b = some o := fun {b o} z => by
    rw [upd_ne (ne_of_none z na)]
    exact z
  have base : Un X.fs X.ex X.H_0 (upd H a (exv cls d a)) X.s_0.heap s.heap := by
    refine ⟨I.base.keep, I.base.slot, fun b o z n hx => ?_, I.base.there, fun b xs z => old (I.base.tups b xs z), fun b o u z => old (I.base.frzs b o u z), fun b ps z => ?_⟩
    · rw [upd_ne (fun e => by rw [e, new] at z; cases z)]
      exact I.base.free b o z n hx
    · obtain ⟨m, e⟩ := I.base.tbls b ps z
      exact ⟨m, old e⟩
  refine ⟨I.ok, I.os, I.bare, base, I.loc, I.cell, ?_, fun x c e => ?_, fun p hp => ?_, fun b o z => ?_, I.len⟩
  · rw [upd_ne (Ne.symm nl)]
    exact I.free
  · obtain ⟨v, hc⟩ := I.cell x c e
    rw [upd_ne (fun z => ?_)]
    · exact I.freeC x c e
    · subst z
      obtain ⟨o, ho, hd⟩ := hc
      rw [he] at ho
      cases ho
      exact absurd hd (nc v)
  · obtain ⟨e1, e2, e3, e4, e5⟩ := I.pin p ((List.mem_append.mp hp).elim (fun h => List.mem_append_left _ h) fun h => List.mem_append_right _ (List.mem_cons_of_mem _ h))
    exact ⟨e1, by rw [upd_ne (np p hp)]; exact e2, e3, e4, e5⟩
  · by_cases hb : b = a
    · subst hb
      rw [upd_same] at z
      cases z
      exact exv_ok he hz hf
    · rw [upd_ne hb] at z
      exact (I.hok b o z).stay (fun c v _ q => q) (fun c q => old q) fun c xs q => old q
end
/-- what the clause wishes: the suite hands the exception back -/
def wRet (K : PySem.W.Frag) (c : Value) (i : Nat) (ts : Addr → Value → Option Addr → TS) (D : Ends) : WX := fun cls d σ H =>
  PySem.W.exmOne K cls c = some true ∧ ∀ a, H a = none → ts a cls d { nx := fun _ _ => False, rt := fun v H' => D.rt v (upd H' a (exv cls d a)) } (σ.set i (some (.ref a))) H
section
variable {X : Cx} {x n : Str} {c : Value} {i : Nat} {body suite : List Stmt} {b₀ : Stmt} {np pos pos' : Pos} {tb : WX → TS} {ts : Addr → Value → Option Addr → TS}
theorem ps_try_ret (hex : X.ex = []) (hs : X.stack = X.env :: X.outer) (hf : X.env.frame = some X.env.locals) (hN : X.N.Nodup) (hi : X.N[i]? = some n) (hln : X.env.kindOf n = some .local) (hc : Names X x c)
    (hb : ∀ (W : WX) (pn : List (Addr × Obj)) (xe : Value → Shared → Prop), Takes (X.tr pn xe) W → PassesOwn (model X.prog X.w) X.A X.env xe → PSs (X.tr pn xe) body (tb W))
    (hsu : ∀ (a : Addr) (oe : Obj) (cls : Value) (d : Option Addr) (pn : List (Addr × Obj)), Zc cls d oe → (∃ vs, oe.data = .fields vs) → PSs (X.suite a ((a, oe) :: pn)) (b₀ :: suite) (ts a cls d)) :
    PS X (.Try body [.ExceptHandler (some (.Name x np)) (some n) (b₀ :: suite) pos'] [] [] pos) (fun D σ H => tb (wRet X.K c i ts D) D σ H) := by
  refine ⟨fun pins s σ H D I h => ?_⟩
  have ok := I.ok
  have frames : X.A.frames = some (X.env :: X.outer) := by
    rw [ok.frames, hs]
  refine wpAny_Try_except ?_
  refine wpAny_mono ((hb (wRet X.K c i ts D) (X.pn ++ pins) (fun e s1 => wpAny (model X.prog X.w) X.A (noteFrame e X.env) (fun _ s2 => wpAny (model X.prog X.w) X.A (setFlight e none) (fun _ s3 =>
      wpAny (model X.prog X.w) X.A (handleBy e X.env [.ExceptHandler (some (.Name x np)) (some n) (b₀ :: suite) pos']) (SP X pins D) X.xe s3) X.xe s2) X.xe s1)
    (fun u s' air => ?_) PassesOwn.looking).run [] s σ H D (I.toTry _) h) (fun f s1 done => ?_) (fun e s1 z => z)
  · obtain ⟨a, G, sI, ps2, σ1, H1, cls, d, rfl, J0, ground, up, sky, na, eos, bare, yes, want⟩ := air
    have J : Inv X pins σ1 H1 sI := J0.ofTry ok
    rw [hs] at sky
    show wpAny (model X.prog X.w) X.A (noteFrame (.ref a) X.env) _ _ _
    refine Sky.land Zc.steady frames hf sky fun h3 fly up3 => ?_
    have J3 : Inv X pins σ1 H1 { s' with heap := h3 } := J.landed ground fly.1 (up.trans up3) eos bare
    obtain ⟨o3, f3, e3, z3, d3⟩ := fly.there
    have nfr : a ∉ frs (X.env :: X.outer) := fun hm => by
      obtain ⟨_, o', e', nof⟩ := fly.2.2.1.mem hm
      rw [e3] at e'
      cases e'
      exact nof _ d3
    have nL : a ≠ X.env.locals := fun z => nfr (List.mem_filterMap.mpr ⟨X.env, List.mem_cons_self, by rw [hf, z]⟩)
    have nF : a ∉ X.fs := fun hm => by
      obtain ⟨e, he, q⟩ := List.mem_filterMap.mp hm
      exact nfr (List.mem_filterMap.mpr ⟨e, List.mem_cons_of_mem _ he, q⟩)
    -- it is new
    have nI : sI.heap.get? a = none := by
      cases e : sI.heap.get? a with
      | none => rfl
      | some o =>
        have q := ground a o e (by rw [hs]; exact nfr)
        rw [fly.2.1] at q
        cases q
    have new : X.s_0.heap.get? a = none := by
      cases e : X.s_0.heap.get? a with
      | none => rfl
      | some o =>
        obtain ⟨o', q⟩ := J.base.there a o e (by rw [hex]; simp)
        rw [nI] at q
        cases q
    have np2 : ∀ p ∈ X.pn ++ pins, p.1 ≠ a := fun p hp z => by
      obtain ⟨q, _⟩ := J.pin p hp
      rw [z, nI] at q
      cases q
    have S3 := J3.suite e3 d3 na nL nF
    refine wpAny_handleBy_cons (codeAny_handlers_test ?_) (by intro q; cases q)
    have ty : PySem.W.Looks (model X.prog X.w) h3 (typeOf (.ref a)) cls := fun A Q E s k q => wpAny_typeOf_ref (k _ _ e3) (by rw [z3.1]; exact q)
    have mt := PySem.W.exm_one (M := model X.prog X.w) (J3.kIn) ty yes
    have name : ∀ {Q : Value → Shared → Prop} {E : Value → Shared → Prop}, Q c { s' with heap := h3 } → wpAny (model X.prog X.w) (X.A.mark (some (.ref a))) (eval (.Name x np) X.env) Q E { s' with heap := h3 } := fun {Q E} q => by
      obtain ⟨g1, g2, g3 | ⟨g3, g4, g5⟩⟩ := hc
      · exact ld_glob (X := X.suite a ((a, o3) :: (X.pn ++ pins))) S3 g1 g3 q g2
      · exact ld_blt (X := X.suite a ((a, o3) :: (X.pn ++ pins))) S3 g1 g3 g4 q g5 g2
    refine name (mt.here ?_)
    refine codeAny_handlers_suite_as ?_
    refine HandSPX.lands_againZ fly fun h4 fly4 up4 => ?_
    have J4 : Inv X pins σ1 H1 { s' with heap := h4 } := J.landed ground fly4.1 ((up.trans up3).trans up4) eos bare
    obtain ⟨o4, f4, e4, z4, d4⟩ := fly4.there
    have S4 := J4.suite e4 d4 na nL nF
    refine store_ok (X := X.suite a ((a, o4) :: (X.pn ++ pins))) (v := .ref a) S4 hN hi (.inl hln) rfl (fun s5 S5 => ?_) (.inr hln)
    refine wpAny_mono ((hsu a o4 cls d (X.pn ++ pins) z4 ⟨_, d4⟩).run [] s5 _ H1 _ S5 (want a na)) (fun f s6 done => ?_) (fun _ _ z => False.elim z)
    cases f with
    | next => exact done.elim fun _ q => q.elim fun _ q => q.2.elim
    | brk => exact done.elim fun _ q => q.elim fun _ q => q.2.elim
    | cont => exact done.elim fun _ q => q.elim fun _ q => q.2.elim
    | ret u =>
      obtain ⟨v6, σ6, H6, S6, r6, q6⟩ := done
      have P6 : Inv X ((a, o4) :: pins) σ6 H6 s6 := ⟨ok, S6.os, S6.bare, S6.base, S6.loc, S6.cell, S6.free, S6.freeC, fun p hp => S6.pin p (by
        rcases List.mem_append.mp hp with h | h
        · exact List.mem_append_left _ (List.mem_cons_of_mem _ (List.mem_append_left _ h))
        · rcases List.mem_cons.mp h with h | h
          · rw [h]; exact List.mem_append_left _ List.mem_cons_self
          · exact List.mem_append_left _ (List.mem_cons_of_mem _ (List.mem_append_right _ h))), S6.hok, S6.len⟩
      exact gone_ok P6 hN hi hln fun s7 P7 => ⟨_, _, _, track P7 new np2 z4 d4, r6, q6⟩
  · cases f with
    | next =>
      obtain ⟨σ1, H1, J1, q⟩ := done
      exact wpAny_execs_nil ⟨σ1, H1, J1.ofTry ok, q⟩
    | brk =>
      obtain ⟨σ1, H1, J1, q⟩ := done
      exact ⟨σ1, H1, J1.ofTry ok, q⟩
    | cont =>
      obtain ⟨σ1, H1, J1, q⟩ := done
      exact ⟨σ1, H1, J1.ofTry ok, q⟩
    | ret u =>
      obtain ⟨v, σ1, H1, J1, r, q⟩ := done
      exact ⟨v, σ1, H1, J1.ofTry ok, r, q⟩
end
end Ew
namespace Ew
open PySem PySem.Spec PyProof.Rows L2
section
variable {X : Cx} {CX : CXT} {k : Nat} {C fI : Addr} {fd : FuncData} {ps : List Str} {sp : Sp} {x : Str} {p pos : Pos} {e : Expr} {te : TE}
/-- C() -/
theorem pe_oex0 (T : OexC X.K C) (iC : PySem.W.findIn X.K (.ref C) "__init__" = some (some (.ref fI))) (tI : PySem.W.typeIn X.K (.ref fI) = some (.type "function")) (F : FnOk X.prog X.w X.K X.mg X.base CX k fI fd ps sp) (hr : Room (k + 1) X.A) (hb : Binds X.K fd ps []) (hx : Passes CX X fun _ _ _ => False)
    (hg : Gl X x) (hm : X.mg x = some (.ref C)) (hdb : (x == ("__debug__" : Str)) = false := by decide) :
    PE X (.Call (.Name x p) [] [] pos) (tMkV C sp (fun a vs => .ref a :: vs) tNil) := by
  refine ⟨fun pins s σ H Q I h => wpAny_Call_Name_kw (ld_glob I hg hm ?_ hdb)⟩
  obtain ⟨hz, q1⟩ := h
  refine PySem.W.callWith_K0 I.kIn T.kC ?_
  refine run_oex (us := []) (kw := []) (L := fun a => [.ref a]) (LV := fun a => [.ref a]) T iC tI F hr hx I (Nat.zero_le _) (fun s' a Y hl => ?_) (fun a => .cons rfl .nil) q1
  simpa using hb s' [.ref a] Y (by simpa using hl)
/-- raise e, e such a value without a dict -/
theorem pmk_val (T : OexC X.K C) (hx : X.ex = []) (he : PE X e te) : PMk X e fun σ H Q => te σ H fun v H1 => ∃ a : Addr, v = .ref a ∧ H1 a = some (exo a C none) ∧ Fr0 X.H_0 a ∧ Q (.ref C) none (delH H1 a) := by
  intro pins s σ H Q I h
  refine thn (he.run pins s σ H _ I h) fun u s1 z => ?_
  obtain ⟨v, H1, I1, rv, a, ev, ea, fr, q⟩ := z
  subst ev
  obtain rfl : u = Value.ref a := rv
  obtain ⟨t1, ho⟩ := exo_at I1.hok ea
  obtain ⟨G, g1, g2, J⟩ := I1.untrack (a := a) ea fr hx
  exact ⟨a, _, _, { s1 with heap := G }, delH H1 a, .ref C, none, rfl, J, g1, g2, ho, ⟨rfl, rfl⟩, rfl, rfl, delH_same, rfl, I1.bare, raises_own T.exC T.tyC, q⟩
end
/-! ### ValueError() and its class -/
theorem call_veIs {X : Cx} (hu : True) : CallR X (.builtin "isinstance") fun xs H Q => ∃ (a : Addr) (T : Value) (c : V) (cv : Value) (b : Bool), xs = [.ref a, c] ∧ H a = some (ExO (.type "ValueError") a) ∧ (∀ u, RelV c u → u = cv) ∧ PySem.W.kitOne X.K (.type "ValueError") cv = some b ∧ Q (.bl b) H := by
  intro pins s σ H xs us Q I r h
  obtain ⟨a, T, c, cv, b, rfl, ea, hcv, e, q⟩ := h
  cases r with
  | cons rx rr =>
    cases rr with
    | cons rt rr =>
      cases rr
      cases rx
      cases hcv _ rt
      have x : ObjOk X.prog X.w H s.heap a (.ext fun h => ∃ (oe : Obj) (vs : Array Value), h.get? a = some oe ∧ Zc (.type "ValueError") none oe ∧ oe.data = .fields vs ∧ vs[1]? = some .none ∧ vs[2]? = some .none ∧ 4 < vs.size) := I.hok a _ ea
      obtain ⟨oe, vs, he, hz, _⟩ := x.1
      exact PySem.W.kia_one (PySem.W.kitx_bexc PySem.F.excAttr_ValueError PySem.F.lkClass_ValueError PySem.F.soClass_ValueError (by decide)) I.kIn ⟨oe, he, hz.1⟩ e (fun z => nomatch z) fun tk => ⟨.bl b, H, I.kept (t' := tk) fun _ _ z => z, rfl, q⟩
theorem pe_ve0 {X : Cx} {p pos : Pos} (hg : Gl X "ValueError") (hm : X.mg "ValueError" = none) : PE X (.Call (.Name "ValueError" p) [] [] pos) fun _ H Q => ∀ a, H a = none → Q (.ref a) (upd H a (ExO (.type "ValueError") a)) := by
  refine ⟨fun pins s σ H Q I h => wpAny_Call_Name_kw (ld_blt I hg hm boot_ValueError ?_ (by decide) (by decide))⟩
  obtain ⟨hp, gs, dr, tk, os⟩ := s
  refine PyProof.Rows.callWith_type0 (wpAny_call_exc exb_ValueError.call (fun h' a mk => ?_) (Nat.zero_le _))
  have made := PySem.Heap.MadeExc.of mk
  have hn : H a = none := I.hok.gone mk.new
  obtain ⟨t, ht, _, _⟩ := made.there
  exact ⟨.ref a, upd H a (ExO (.type "ValueError") a), I.laidN (t' := tk) made.keeps made.new hn (exO_ok ht ⟨rfl, rfl⟩ rfl rfl rfl (show 4 < 6 by decide)), rfl, h a hn⟩
end Ew
namespace Ew
open PySem PySem.Spec PyProof.Rows L2
/-! ### values of the errors, {'a': 1} among them -/
def dA : PyData := .dict [(.str "a", .int 1)]
def D1v (K : PySem.W.Frag) (H : Hp) (v : V) (d : PyData) : Prop := Dq K (fun _ => True) H v d ∨ ∃ a, v = .ref a ∧ H a = some (.dK [(.inr "a", .int 1)]) ∧ d = dA
theorem D1v.same {K : PySem.W.Frag} {H H' : Hp} {v : V} {d : PyData} (s : Same H H') (h : D1v K H v d) : D1v K H' v d := by
  rcases h with h | ⟨a, h1, h2, h3⟩
  · exact .inl (h.over (over_same s))
  · exact .inr ⟨a, h1, s _ _ h2, h3⟩
theorem pairs1 {prog : Program} {w : World} {κ : Type} [DecidableEq κ] {knd : PySem.KeyKind prog w κ} {es : List DictEntry} {kvs : List (κ × Value)} {kv : κ × Value} (h : PySem.Pairs knd es kvs) (e : kvs = [kv]) : ∃ x, es = [x] ∧ knd.is kv.1 x.key = true ∧ x.val = kv.2 := by
  cases h with
  | nil => cases e
  | cons h1 h2 h3 =>
    injection e with e1 e2
    subst e1
    subst e2
    cases h3
    exact ⟨_, rfl, h1, h2⟩
section
variable {X : Cx} {pins : List (Addr × Obj)} {σ : L2.St} {H : Hp} {s : Shared}
theorem d1_reads (I : L2.Inv X pins σ H s) (low : H sysModules = none) {v : V} {d : PyData} {u : Value} (h : D1v X.K H v d) (r : RelV v u) : ∃ as, Reads s.heap u d as ∧ sysModules ∉ as := by
  rcases h with h | ⟨a, rfl, ea, rfl⟩
  · exact dq_reads I low d v u h r
  · cases (show u = Value.ref a from r)
    obtain ⟨_, z2, vs, z3, o, es, ep, h1, h2, h3, _, h5, _⟩ := (show ObjOk X.prog X.w H s.heap a (.dK [(.inr "a", .int 1)]) from I.hok a _ ea)
    cases z3 with
    | @cons _ q _ qs z3 z4 =>
      cases z4
      obtain ⟨k, v1⟩ := q
      obtain ⟨e1, t1, e2⟩ := z3
      dsimp only at e1 e2
      subst e1 e2
      obtain ⟨en, e3, e4, e5⟩ := pairs1 h5 rfl
      have e4' : keyIs (.inr "a") en.key = true := e4
      rcases keyIs_shape e4' with ⟨i, t, e, _⟩ | ⟨x, t, e, ek⟩
      · cases e
      · cases e
        refine ⟨_, .dict (as := []) (bs := []) h1 h2.1 h3 (by rw [e3]; show ReadsAll s.heap [en.key] [.str "a"] ([] ++ []); rw [ek]; exact .cons (.str _ _) .nil) (by rw [e3]; show ReadsAll s.heap [en.val] [.int 1] ([] ++ []); rw [e5]; exact .cons (.int _ _) .nil), ?_⟩
        intro z
        rw [List.append_nil, List.mem_singleton] at z
        rw [← z] at z2
        simp at z2
theorem d1_readsAll (I : L2.Inv X pins σ H s) (low : H sysModules = none) : ∀ {vs : List V} {ds : List PyData} {us : List Value}, Paired (D1v X.K H) vs ds → Vals vs us → ∃ as, ReadsAll s.heap us ds as ∧ sysModules ∉ as
  | [], [], us, _, r => by
    cases r
    exact ⟨_, .nil, by simp⟩
  | v :: vs, d :: ds, us, .cons a b, r => by
    cases r with
    | cons r1 r2 =>
      obtain ⟨as, h1, n1⟩ := d1_reads I low a r1
      obtain ⟨bs, h2, n2⟩ := d1_readsAll I low b r2
      refine ⟨_, .cons h1 h2, fun z => ?_⟩
      rcases List.mem_append.mp z with z | z
      · exact n1 z
      · exact n2 z
end
/-- repr of such a value -/
def rRep1 (K : PySem.W.Frag) : List V → Hp → VK → Prop := fun xs H Q => ∃ (v : V) (d : PyData), xs = [v] ∧ D1v K H v d ∧ d.showable = true ∧ d.depth ≤ 60 ∧ d.shown.length ≤ sizeLine ∧ Q (.str d.shown) H
/-- repr of a list of such -/
def rRepL (K : PySem.W.Frag) : List V → Hp → VK → Prop := fun xs H Q => ∃ (a : Addr) (vs : List V) (ds : List PyData), xs = [.ref a] ∧ H a = some (.lst vs) ∧ Paired (D1v K H) vs ds ∧ (PyData.list ds).showable = true ∧ (PyData.list ds).depth ≤ 60 ∧ (PyData.list ds).shown.length ≤ sizeLine ∧ Q (.str (PyData.list ds).shown) H
section
variable {X : Cx}
theorem call_rep1 (hb : ∃ o, X.base.get? sysModules = some o) (hg : X.A.guards = some []) (hu : X.A.units + 64 < cLine) : CallR X (.builtin "repr") (rRep1 X.K) := by
  intro pins s σ H xs us Q I r h
  obtain ⟨v, d, rfl, hd, hs, hdep, hsz, q⟩ := h
  rcases hd with hd | ⟨a, rfl, ea, rfl⟩
  · exact call_reprQ hb hg hu pins s σ H _ us Q I r ⟨_, v, d, rfl, hd, hs, hdep, hsz, q⟩
  · cases r with
    | cons r1 r2 =>
      cases r2
      obtain ⟨as, rd, na⟩ := d1_reads I (low_of I hb) (.inr ⟨a, rfl, ea, rfl⟩) r1
      cases r1
      exact repr_of_reads' rd hs (fun _ => na) hg (by omega) (fun _ _ e => e) (fun h' u tk hk => ⟨.str _, H, I.kept (t' := tk) hk, ⟨_, rfl⟩, q⟩) hsz
theorem call_repL (hb : ∃ o, X.base.get? sysModules = some o) (hg : X.A.guards = some []) (hu : X.A.units + 64 < cLine) : CallR X (.builtin "repr") (rRepL X.K) := by
  intro pins s σ H xs us Q I r h
  obtain ⟨a, vs, ds, rfl, ea, hp, hs, hdep, hsz, q⟩ := h
  cases r with
  | cons r1 r2 =>
    cases r2
    cases r1
    have low := low_of I hb
    obtain ⟨_, its, n, rv, h1⟩ := (show ObjOk X.prog X.w H s.heap a (.lst vs) from I.hok a _ ea)
    obtain ⟨as, ra, na⟩ := d1_readsAll I low hp rv
    have na2 : sysModules ∉ a :: as := fun z => by
      rcases List.mem_cons.mp z with z | z
      · rw [z, ea] at low
        cases low
      · exact na z
    exact repr_of_reads' (.list h1 rfl rfl ra) hs (fun _ => na2) hg (by omega) (fun _ _ e => e) (fun h' u tk hk => ⟨.str _, H, I.kept (t' := tk) hk, ⟨_, rfl⟩, q⟩) hsz
end
end Ew
namespace Ew
open PySem PySem.Spec PyProof.Rows L2

abbrev sBadBook : Stmt := (inClass (top 2) 0)
abbrev sNoDropping : Stmt := (inClass (top 3) 0)
abbrev sNoComing : Stmt := (inClass (top 4) 0)
abbrev sShort : Stmt := (inClass (top 5) 0)
abbrev sTooFew : Stmt := (inClass (top 6) 0)
abbrev sBadDemand : Stmt := (inClass (top 7) 0)
abbrev sBadLimit : Stmt := (inClass (top 8) 0)
abbrev sNoWork : Stmt := (inClass (top 9) 0)
abbrev sNoReader : Stmt := (inClass (top 10) 0)
abbrev sTooManyWorks : Stmt := (inClass (top 11) 0)
abbrev sNothingDone : Stmt := (inClass (top 12) 0)
abbrev sKinds : Stmt := (top 17)
abbrev sRaised : Stmt := (top 18)
abbrev sFields : Stmt := (top 19)
/-! ### the errors' __init__ -/
structure Base (K : PySem.W.Frag) (mg : Str → Option Value) (RE : Addr) : Prop where
  g : mg "ReadError" = some (.ref RE)
  ga : PySem.W.specialIn K (.ref RE) "__getattribute__" = some (some (.builtin "type.__getattribute__"))
  rd : PySem.W.readsIn K RE (.type "type") = true
  fc : PySem.W.findCls K (.ref RE) (.type "type") "__init__" = some (.val (.builtin "ValueError.__init__"))
/-- what the text says of an error's class -/
structure Cl (K : PySem.W.Frag) (mg : Str → Option Value) (RE C : Addr) (nm : Str) : Prop where
  ox : OexC K C
  g : mg nm = some (.ref C)
  te : PySem.W.exmOne K (.ref C) (.ref RE) = some true
  ic : ExcC K C
structure Cl1 (K : PySem.W.Frag) (mg : Str → Option Value) (RE C : Addr) (nm qual fld : Str) (st : Stmt) : Prop extends Cl K mg RE C nm where
  init : ∃ f fd, Fun K "__init__" qual st f fd ∧ Binds K fd ["self", fld] [] ∧ KBn K fd ["self", fld] 1 [fld] (fun us ws => us ++ ws) (fun vs zs => vs ++ zs) ∧ PySem.W.findIn K (.ref C) "__init__" = some (some (.ref f)) ∧ PySem.W.typeIn K (.ref f) = some (.type "function")
  nop : PySem.W.findIn K (.ref C) fld = some none
  xf : XfC K C
structure Cl0 (K : PySem.W.Frag) (mg : Str → Option Value) (RE C : Addr) (nm qual : Str) (st : Stmt) : Prop extends Cl K mg RE C nm where
  init : ∃ f fd, Fun K "__init__" qual st f fd ∧ Binds K fd ["self"] [] ∧ PySem.W.findIn K (.ref C) "__init__" = some (some (.ref f)) ∧ PySem.W.typeIn K (.ref f) = some (.type "function")
def spE1 (C : Addr) (fld : Str) : Sp := fun vs H Q _ => ∃ (a : Addr) (v : V), vs = [.ref a, v] ∧ H a = some (exo a C none) ∧ ∀ dx, H dx = none → dx ≠ a → Q .non (upd (upd H dx (exd dx [(fld, v)])) a (exo a C (some dx)))
def spE0 (C : Addr) : Sp := fun vs H Q _ => ∃ a : Addr, vs = [.ref a] ∧ H a = some (exo a C none) ∧ Q .non H
section
variable {P : Program} {w : World} {K : PySem.W.Frag} {mg : Str → Option Value} {base : Heap} {C RE : Addr}
theorem scBadBook : FnScope ["self", "place"] ["self", "place"] (defScope sBadBook) := ⟨rfl, rfl, rfl, by decide +kernel, rfl, by decide +kernel, by decide +kernel⟩
theorem ok_BadBook {f : Addr} {fd : FuncData} (F : Fun K "__init__" "BadBook.__init__" sBadBook f fd) (B : Base K mg RE) (ox : OexC K C) (nop : PySem.W.findIn K (.ref C) "place" = some none) : FnOk P w K mg base CX0 1 f fd ["self", "place"] (spE1 C "place") := by
  refine F.ok scBadBook (fun vs H Q E h => ?_) (fun cdv A outer s H vs Q E hr h => ?_)
  · obtain ⟨a, v, rfl, _⟩ := h
    rfl
  · obtain ⟨a, v, rfl, ha, q⟩ := h
    refine ⟨_, (pss_cons (ps_expr (pe_reinit (by rfl) B.g B.ga B.rd B.fc (pa_cons (pv 0) (pa_cons pe_str pa_nil))))
 (pss_one (ps_ost (pv 0) (pv 1)))), ?_⟩
    exact ⟨_, rfl, a, C, _, rfl, (by show 1 ≤ 1000; decide), ox, ha, _, rfl, _, rfl, a, C, rfl, ox, nop, .inl ⟨ha, fun dx nx ne => q dx nx ne⟩⟩
theorem scNoDropping : FnScope ["self", "droppers"] ["self", "droppers"] (defScope sNoDropping) := ⟨rfl, rfl, rfl, by decide +kernel, rfl, by decide +kernel, by decide +kernel⟩
theorem ok_NoDropping {f : Addr} {fd : FuncData} (F : Fun K "__init__" "NoDropping.__init__" sNoDropping f fd) (B : Base K mg RE) (ox : OexC K C) (nop : PySem.W.findIn K (.ref C) "droppers" = some none) : FnOk P w K mg base CX0 1 f fd ["self", "droppers"] (spE1 C "droppers") := by
  refine F.ok scNoDropping (fun vs H Q E h => ?_) (fun cdv A outer s H vs Q E hr h => ?_)
  · obtain ⟨a, v, rfl, _⟩ := h
    rfl
  · obtain ⟨a, v, rfl, ha, q⟩ := h
    refine ⟨_, (pss_cons (ps_expr (pe_reinit (by rfl) B.g B.ga B.rd B.fc (pa_cons (pv 0) (pa_cons pe_str pa_nil))))
 (pss_one (ps_ost (pv 0) (pv 1)))), ?_⟩
    exact ⟨_, rfl, a, C, _, rfl, (by show 1 ≤ 1000; decide), ox, ha, _, rfl, _, rfl, a, C, rfl, ox, nop, .inl ⟨ha, fun dx nx ne => q dx nx ne⟩⟩
theorem scNoComing : FnScope ["self", "reader"] ["self", "reader"] (defScope sNoComing) := ⟨rfl, rfl, rfl, by decide +kernel, rfl, by decide +kernel, by decide +kernel⟩
theorem ok_NoComing {f : Addr} {fd : FuncData} (F : Fun K "__init__" "NoComing.__init__" sNoComing f fd) (B : Base K mg RE) (ox : OexC K C) (nop : PySem.W.findIn K (.ref C) "reader" = some none) : FnOk P w K mg base CX0 1 f fd ["self", "reader"] (spE1 C "reader") := by
  refine F.ok scNoComing (fun vs H Q E h => ?_) (fun cdv A outer s H vs Q E hr h => ?_)
  · obtain ⟨a, v, rfl, _⟩ := h
    rfl
  · obtain ⟨a, v, rfl, ha, q⟩ := h
    refine ⟨_, (pss_cons (ps_expr (pe_reinit (by rfl) B.g B.ga B.rd B.fc (pa_cons (pv 0) (pa_cons pe_str pa_nil))))
 (pss_one (ps_ost (pv 0) (pv 1)))), ?_⟩
    exact ⟨_, rfl, a, C, _, rfl, (by show 1 ≤ 1000; decide), ox, ha, _, rfl, _, rfl, a, C, rfl, ox, nop, .inl ⟨ha, fun dx nx ne => q dx nx ne⟩⟩
theorem scShort : FnScope ["self", "works"] ["self", "works"] (defScope sShort) := ⟨rfl, rfl, rfl, by decide +kernel, rfl, by decide +kernel, by decide +kernel⟩
theorem ok_Short {f : Addr} {fd : FuncData} (F : Fun K "__init__" "Short.__init__" sShort f fd) (B : Base K mg RE) (ox : OexC K C) (nop : PySem.W.findIn K (.ref C) "works" = some none) : FnOk P w K mg base CX0 1 f fd ["self", "works"] (spE1 C "works") := by
  refine F.ok scShort (fun vs H Q E h => ?_) (fun cdv A outer s H vs Q E hr h => ?_)
  · obtain ⟨a, v, rfl, _⟩ := h
    rfl
  · obtain ⟨a, v, rfl, ha, q⟩ := h
    refine ⟨_, (pss_cons (ps_expr (pe_reinit (by rfl) B.g B.ga B.rd B.fc (pa_cons (pv 0) (pa_cons pe_str pa_nil))))
 (pss_one (ps_ost (pv 0) (pv 1)))), ?_⟩
    exact ⟨_, rfl, a, C, _, rfl, (by show 1 ≤ 1000; decide), ox, ha, _, rfl, _, rfl, a, C, rfl, ox, nop, .inl ⟨ha, fun dx nx ne => q dx nx ne⟩⟩
theorem scTooFew : FnScope ["self", "work"] ["self", "work"] (defScope sTooFew) := ⟨rfl, rfl, rfl, by decide +kernel, rfl, by decide +kernel, by decide +kernel⟩
theorem ok_TooFew {f : Addr} {fd : FuncData} (F : Fun K "__init__" "TooFew.__init__" sTooFew f fd) (B : Base K mg RE) (ox : OexC K C) (nop : PySem.W.findIn K (.ref C) "work" = some none) : FnOk P w K mg base CX0 1 f fd ["self", "work"] (spE1 C "work") := by
  refine F.ok scTooFew (fun vs H Q E h => ?_) (fun cdv A outer s H vs Q E hr h => ?_)
  · obtain ⟨a, v, rfl, _⟩ := h
    rfl
  · obtain ⟨a, v, rfl, ha, q⟩ := h
    refine ⟨_, (pss_cons (ps_expr (pe_reinit (by rfl) B.g B.ga B.rd B.fc (pa_cons (pv 0) (pa_cons pe_str pa_nil))))
 (pss_one (ps_ost (pv 0) (pv 1)))), ?_⟩
    exact ⟨_, rfl, a, C, _, rfl, (by show 1 ≤ 1000; decide), ox, ha, _, rfl, _, rfl, a, C, rfl, ox, nop, .inl ⟨ha, fun dx nx ne => q dx nx ne⟩⟩
theorem scBadDemand : FnScope ["self", "demand"] ["self", "demand"] (defScope sBadDemand) := ⟨rfl, rfl, rfl, by decide +kernel, rfl, by decide +kernel, by decide +kernel⟩
theorem ok_BadDemand {f : Addr} {fd : FuncData} (F : Fun K "__init__" "BadDemand.__init__" sBadDemand f fd) (B : Base K mg RE) (ox : OexC K C) (nop : PySem.W.findIn K (.ref C) "demand" = some none) : FnOk P w K mg base CX0 1 f fd ["self", "demand"] (spE1 C "demand") := by
  refine F.ok scBadDemand (fun vs H Q E h => ?_) (fun cdv A outer s H vs Q E hr h => ?_)
  · obtain ⟨a, v, rfl, _⟩ := h
    rfl
  · obtain ⟨a, v, rfl, ha, q⟩ := h
    refine ⟨_, (pss_cons (ps_expr (pe_reinit (by rfl) B.g B.ga B.rd B.fc (pa_cons (pv 0) (pa_cons pe_str pa_nil))))
 (pss_one (ps_ost (pv 0) (pv 1)))), ?_⟩
    exact ⟨_, rfl, a, C, _, rfl, (by show 1 ≤ 1000; decide), ox, ha, _, rfl, _, rfl, a, C, rfl, ox, nop, .inl ⟨ha, fun dx nx ne => q dx nx ne⟩⟩
theorem scBadLimit : FnScope ["self", "limit"] ["self", "limit"] (defScope sBadLimit) := ⟨rfl, rfl, rfl, by decide +kernel, rfl, by decide +kernel, by decide +kernel⟩
theorem ok_BadLimit {f : Addr} {fd : FuncData} (F : Fun K "__init__" "BadLimit.__init__" sBadLimit f fd) (B : Base K mg RE) (ox : OexC K C) (nop : PySem.W.findIn K (.ref C) "limit" = some none) : FnOk P w K mg base CX0 1 f fd ["self", "limit"] (spE1 C "limit") := by
  refine F.ok scBadLimit (fun vs H Q E h => ?_) (fun cdv A outer s H vs Q E hr h => ?_)
  · obtain ⟨a, v, rfl, _⟩ := h
    rfl
  · obtain ⟨a, v, rfl, ha, q⟩ := h
    refine ⟨_, (pss_cons (ps_expr (pe_reinit (by rfl) B.g B.ga B.rd B.fc (pa_cons (pv 0) (pa_cons pe_str pa_nil))))
 (pss_one (ps_ost (pv 0) (pv 1)))), ?_⟩
    exact ⟨_, rfl, a, C, _, rfl, (by show 1 ≤ 1000; decide), ox, ha, _, rfl, _, rfl, a, C, rfl, ox, nop, .inl ⟨ha, fun dx nx ne => q dx nx ne⟩⟩
theorem scNoWork : FnScope ["self", "work"] ["self", "work"] (defScope sNoWork) := ⟨rfl, rfl, rfl, by decide +kernel, rfl, by decide +kernel, by decide +kernel⟩
theorem ok_NoWork {f : Addr} {fd : FuncData} (F : Fun K "__init__" "NoWork.__init__" sNoWork f fd) (B : Base K mg RE) (ox : OexC K C) (nop : PySem.W.findIn K (.ref C) "work" = some none) : FnOk P w K mg base CX0 1 f fd ["self", "work"] (spE1 C "work") := by
  refine F.ok scNoWork (fun vs H Q E h => ?_) (fun cdv A outer s H vs Q E hr h => ?_)
  · obtain ⟨a, v, rfl, _⟩ := h
    rfl
  · obtain ⟨a, v, rfl, ha, q⟩ := h
    refine ⟨_, (pss_cons (ps_expr (pe_reinit (by rfl) B.g B.ga B.rd B.fc (pa_cons (pv 0) (pa_cons pe_str pa_nil))))
 (pss_one (ps_ost (pv 0) (pv 1)))), ?_⟩
    exact ⟨_, rfl, a, C, _, rfl, (by show 1 ≤ 1000; decide), ox, ha, _, rfl, _, rfl, a, C, rfl, ox, nop, .inl ⟨ha, fun dx nx ne => q dx nx ne⟩⟩
theorem scNoReader : FnScope ["self", "reader"] ["self", "reader"] (defScope sNoReader) := ⟨rfl, rfl, rfl, by decide +kernel, rfl, by decide +kernel, by decide +kernel⟩
theorem ok_NoReader {f : Addr} {fd : FuncData} (F : Fun K "__init__" "NoReader.__init__" sNoReader f fd) (B : Base K mg RE) (ox : OexC K C) (nop : PySem.W.findIn K (.ref C) "reader" = some none) : FnOk P w K mg base CX0 1 f fd ["self", "reader"] (spE1 C "reader") := by
  refine F.ok scNoReader (fun vs H Q E h => ?_) (fun cdv A outer s H vs Q E hr h => ?_)
  · obtain ⟨a, v, rfl, _⟩ := h
    rfl
  · obtain ⟨a, v, rfl, ha, q⟩ := h
    refine ⟨_, (pss_cons (ps_expr (pe_reinit (by rfl) B.g B.ga B.rd B.fc (pa_cons (pv 0) (pa_cons pe_str pa_nil))))
 (pss_one (ps_ost (pv 0) (pv 1)))), ?_⟩
    exact ⟨_, rfl, a, C, _, rfl, (by show 1 ≤ 1000; decide), ox, ha, _, rfl, _, rfl, a, C, rfl, ox, nop, .inl ⟨ha, fun dx nx ne => q dx nx ne⟩⟩
theorem scTooManyWorks : FnScope ["self"] ["self"] (defScope sTooManyWorks) := ⟨rfl, rfl, rfl, by decide +kernel, rfl, by decide +kernel, by decide +kernel⟩
theorem ok_TooManyWorks {f : Addr} {fd : FuncData} (F : Fun K "__init__" "TooManyWorks.__init__" sTooManyWorks f fd) (B : Base K mg RE) (ox : OexC K C) : FnOk P w K mg base CX0 1 f fd ["self"] (spE0 C) := by
  refine F.ok scTooManyWorks (fun vs H Q E h => ?_) (fun cdv A outer s H vs Q E hr h => ?_)
  · obtain ⟨a, rfl, _⟩ := h
    rfl
  · obtain ⟨a, rfl, ha, q⟩ := h
    refine ⟨_, pss_one (ps_expr (pe_reinit (by rfl) B.g B.ga B.rd B.fc (pa_cons (pv 0) (pa_cons pe_str pa_nil)))), ?_⟩
    exact ⟨_, rfl, a, C, _, rfl, (by show 1 ≤ 1000; decide), ox, ha, q⟩
theorem scNothingDone : FnScope ["self"] ["self"] (defScope sNothingDone) := ⟨rfl, rfl, rfl, by decide +kernel, rfl, by decide +kernel, by decide +kernel⟩
theorem ok_NothingDone {f : Addr} {fd : FuncData} (F : Fun K "__init__" "NothingDone.__init__" sNothingDone f fd) (B : Base K mg RE) (ox : OexC K C) : FnOk P w K mg base CX0 1 f fd ["self"] (spE0 C) := by
  refine F.ok scNothingDone (fun vs H Q E h => ?_) (fun cdv A outer s H vs Q E hr h => ?_)
  · obtain ⟨a, rfl, _⟩ := h
    rfl
  · obtain ⟨a, rfl, ha, q⟩ := h
    refine ⟨_, pss_one (ps_expr (pe_reinit (by rfl) B.g B.ga B.rd B.fc (pa_cons (pv 0) (pa_cons pe_str pa_nil)))), ?_⟩
    exact ⟨_, rfl, a, C, _, rfl, (by show 1 ≤ 1000; decide), ox, ha, q⟩
end
/-- all of them -/
structure Errs (K : PySem.W.Frag) (mg : Str → Option Value) (RE : Addr) (cs : List Addr) : Prop where
  base : Base K mg RE
  all : ∃ C0 C1 C2 C3 C4 C5 C6 C7 C8 C9 C10 : Addr, cs = [C0, C1, C2, C3, C4, C5, C6, C7, C8, C9, C10] ∧ Cl1 K mg RE C0 "BadBook" "BadBook.__init__" "place" sBadBook ∧ Cl1 K mg RE C1 "NoDropping" "NoDropping.__init__" "droppers" sNoDropping ∧ Cl1 K mg RE C2 "NoComing" "NoComing.__init__" "reader" sNoComing ∧ Cl1 K mg RE C3 "Short" "Short.__init__" "works" sShort ∧ Cl1 K mg RE C4 "TooFew" "TooFew.__init__" "work" sTooFew ∧ Cl1 K mg RE C5 "BadDemand" "BadDemand.__init__" "demand" sBadDemand ∧ Cl1 K mg RE C6 "BadLimit" "BadLimit.__init__" "limit" sBadLimit ∧ Cl1 K mg RE C7 "NoWork" "NoWork.__init__" "work" sNoWork ∧ Cl1 K mg RE C8 "NoReader" "NoReader.__init__" "reader" sNoReader ∧ Cl0 K mg RE C9 "TooManyWorks" "TooManyWorks.__init__" sTooManyWorks ∧ Cl0 K mg RE C10 "NothingDone" "NothingDone.__init__" sNothingDone
  kit : ∀ (i : Nat) (D : Addr), cs[i]? = some D → ∀ (j : Nat) (D' : Addr), cs[j]? = some D' → PySem.W.kitOne K (.ref D) (.ref D') = some (decide (i = j))
  kitR : ∀ D ∈ cs, PySem.W.kitOne K (.ref D) (.ref RE) = some true ∧ PySem.W.kitOne K (.ref D) (.type "ValueError") = some true
  gV : mg "ValueError" = none
  ve : PySem.W.kitOne K (.type "ValueError") (.ref RE) = some false
/-- an exception of the class D is held at a -/
def Held (H : Hp) (D a : Addr) : Prop := ∃ d, H a = some (exv (.ref D) d a) ∧ ∀ dd, d = some dd → ∃ fs, H dd = some (.xd fs)
theorem Held.same {H H' : Hp} {D a : Addr} (s : Same H H') (h : Held H D a) : Held H' D a := let ⟨d, h1, h2⟩ := h; ⟨d, s _ _ h1, fun dd e => let ⟨fs, z⟩ := h2 dd e; ⟨fs, s _ _ z⟩⟩
/-- raise C(v) -/
theorem raised1 {C : Addr} {fld : Str} {H : Hp} {v : V} {E : XK} (h : ∀ dx Hf, Same H Hf → H dx = none → Hf dx = some (.xd [(fld, v)]) → E (.ref C) (some dx) Hf) :
    [v].length ≤ 1000 ∧ ∀ a, H a = none → spE1 C fld (.ref a :: ([v] ++ [])) (upd H a (exo a C none)) (fun u H2 => u = .non ∧ ∃ d fs, H2 a = some (exo a C (some d)) ∧ H2 d = some (exd d fs) ∧ H d = none ∧ E (.ref C) (some d) (upd (del H2 a) d (.xd fs))) (fun _ _ _ => False) := by
  refine ⟨by show 1 ≤ 1000; decide, fun a na => ⟨a, v, rfl, upd_same, fun dx nx ne => ?_⟩⟩
  have nx' : H dx = none := by rw [upd_ne ne] at nx; exact nx
  refine ⟨rfl, dx, _, upd_same, by rw [upd_ne ne, upd_same], nx', h dx _ (fun b o e => ?_) nx' upd_same⟩
  have nb := ne_of_none e nx'
  have nb2 := ne_of_none e na
  rw [upd_ne nb]
  show del _ a b = some o
  rw [del_ne nb2, upd_ne nb2, upd_ne nb, upd_ne nb2]
  exact e
/-- C(v).f -/
theorem field1 {C : Addr} {fld : Str} {H : Hp} {v : V} {Q : VK} (h : ∀ H', Same H H' → Q v H') : [v].length ≤ 1000 ∧ ∀ a, H a = none → spE1 C fld [.ref a, v] (upd H a (exo a C none)) (fun u H2 => u = .non ∧ ∃ (b dd : Addr) (fs : List (Str × V)) (z : V), V.ref a = .ref b ∧ H2 b = some (exo b C (some dd)) ∧ H2 dd = some (exd dd fs) ∧ fs.lookup fld = some z ∧ Q z H2) fun _ _ _ => False := by
  refine ⟨by show 1 ≤ 1000; decide, fun a na => ⟨a, v, rfl, upd_same, fun dx nx ne => ?_⟩⟩
  have nx' : H dx = none := by rw [upd_ne ne] at nx; exact nx
  refine ⟨rfl, a, dx, _, v, rfl, upd_same, by rw [upd_ne ne, upd_same], by simp [List.lookup], h _ fun b o e => ?_⟩
  have nb := ne_of_none e nx'
  have nb2 := ne_of_none e na
  rw [upd_ne nb2, upd_ne nb, upd_ne nb2]
  exact e
end Ew
namespace Ew
open PySem PySem.Spec PyProof.Rows L2

section
variable {P : Program} {w : World} {K : PySem.W.Frag} {mg : Str → Option Value} {base : Heap} {RE : Addr} {cs : List Addr}
theorem Errs.of (E : Errs K mg RE cs) {D : Addr} (h : D ∈ cs) : ExcC K D ∧ PySem.W.exmOne K (.ref D) (.ref RE) = some true := by
  obtain ⟨C0, C1, C2, C3, C4, C5, C6, C7, C8, C9, C10, rfl, ⟨⟨ox0, g0, te0, ic0⟩, ⟨fi0, fdi0, Fi0, bi0, ki0, ni0, ti0⟩, nop0, xf0⟩, ⟨⟨ox1, g1, te1, ic1⟩, ⟨fi1, fdi1, Fi1, bi1, ki1, ni1, ti1⟩, nop1, xf1⟩, ⟨⟨ox2, g2, te2, ic2⟩, ⟨fi2, fdi2, Fi2, bi2, ki2, ni2, ti2⟩, nop2, xf2⟩, ⟨⟨ox3, g3, te3, ic3⟩, ⟨fi3, fdi3, Fi3, bi3, ki3, ni3, ti3⟩, nop3, xf3⟩, ⟨⟨ox4, g4, te4, ic4⟩, ⟨fi4, fdi4, Fi4, bi4, ki4, ni4, ti4⟩, nop4, xf4⟩, ⟨⟨ox5, g5, te5, ic5⟩, ⟨fi5, fdi5, Fi5, bi5, ki5, ni5, ti5⟩, nop5, xf5⟩, ⟨⟨ox6, g6, te6, ic6⟩, ⟨fi6, fdi6, Fi6, bi6, ki6, ni6, ti6⟩, nop6, xf6⟩, ⟨⟨ox7, g7, te7, ic7⟩, ⟨fi7, fdi7, Fi7, bi7, ki7, ni7, ti7⟩, nop7, xf7⟩, ⟨⟨ox8, g8, te8, ic8⟩, ⟨fi8, fdi8, Fi8, bi8, ki8, ni8, ti8⟩, nop8, xf8⟩, ⟨⟨ox9, g9, te9, ic9⟩, ⟨fi9, fdi9, Fi9, bi9, ni9, ti9⟩⟩, ⟨⟨ox10, g10, te10, ic10⟩, ⟨fi10, fdi10, Fi10, bi10, ni10, ti10⟩⟩⟩ := E.all
  simp only [List.mem_cons, List.not_mem_nil, or_false] at h
  rcases h with rfl | rfl | rfl | rfl | rfl | rfl | rfl | rfl | rfl | rfl | rfl
  · exact ⟨ic0, te0⟩
  · exact ⟨ic1, te1⟩
  · exact ⟨ic2, te2⟩
  · exact ⟨ic3, te3⟩
  · exact ⟨ic4, te4⟩
  · exact ⟨ic5, te5⟩
  · exact ⟨ic6, te6⟩
  · exact ⟨ic7, te7⟩
  · exact ⟨ic8, te8⟩
  · exact ⟨ic9, te9⟩
  · exact ⟨ic10, te10⟩
def spKinds (K : PySem.W.Frag) (cs : List Addr) : Sp := fun vs H Q _ => ∃ (a D : Addr) (i : Nat), vs = [.ref a] ∧ cs[i]? = some D ∧ Held H D a ∧ ∀ H' p, Same H H' → H p = none → H' p = some (.lst (((List.range 11).map fun j => V.bl (decide (i = j))) ++ [.bl true, .bl true])) → Q (.ref p) H'
def spRaised (cs : List Addr) : Sp := fun vs H Q _ => ∃ (i : Nat) (v : V), vs = [.int (i : Int), v] ∧ i < 11 ∧ ∀ H' a D, Same H H' → cs[i]? = some D → Held H' D a → Q (.ref a) H'
def spFields : Sp := fun vs H Q _ => ∃ v : V, vs = [v] ∧ ∀ H' p, Same H H' → H' p = some (.lst (List.replicate 18 v)) → Q (.ref p) H'

theorem scKinds : FnScope ["error", "some"] ["error"] (defScope sKinds) := ⟨rfl, rfl, rfl, by decide +kernel, rfl, by decide +kernel, by decide +kernel⟩
theorem ok_kinds {f : Addr} {fd : FuncData} (F : Fun K "_law_kinds" "_law_kinds" sKinds f fd) (B : Bi mg) (E : Errs K mg RE cs) : FnOk P w K mg base CX0 1 f fd ["error"] (spKinds K cs) := by
  refine F.ok scKinds (fun vs H Q E h => ?_) (fun cdv A outer s H vs Q E' hr h => ?_)
  · obtain ⟨a, D, i, rfl, _⟩ := h
    rfl
  · obtain ⟨a, D, i, rfl, hi, ⟨d, ha, hd⟩, q⟩ := h
    obtain ⟨ic, _⟩ := E.of (List.mem_of_getElem? hi)
    have kt := E.kit i D hi
    obtain ⟨kr, kv⟩ := E.kitR D (List.mem_of_getElem? hi)
    obtain ⟨C0, C1, C2, C3, C4, C5, C6, C7, C8, C9, C10, rfl, ⟨⟨ox0, g0, te0, ic0⟩, ⟨fi0, fdi0, Fi0, bi0, ki0, ni0, ti0⟩, nop0, xf0⟩, ⟨⟨ox1, g1, te1, ic1⟩, ⟨fi1, fdi1, Fi1, bi1, ki1, ni1, ti1⟩, nop1, xf1⟩, ⟨⟨ox2, g2, te2, ic2⟩, ⟨fi2, fdi2, Fi2, bi2, ki2, ni2, ti2⟩, nop2, xf2⟩, ⟨⟨ox3, g3, te3, ic3⟩, ⟨fi3, fdi3, Fi3, bi3, ki3, ni3, ti3⟩, nop3, xf3⟩, ⟨⟨ox4, g4, te4, ic4⟩, ⟨fi4, fdi4, Fi4, bi4, ki4, ni4, ti4⟩, nop4, xf4⟩, ⟨⟨ox5, g5, te5, ic5⟩, ⟨fi5, fdi5, Fi5, bi5, ki5, ni5, ti5⟩, nop5, xf5⟩, ⟨⟨ox6, g6, te6, ic6⟩, ⟨fi6, fdi6, Fi6, bi6, ki6, ni6, ti6⟩, nop6, xf6⟩, ⟨⟨ox7, g7, te7, ic7⟩, ⟨fi7, fdi7, Fi7, bi7, ki7, ni7, ti7⟩, nop7, xf7⟩, ⟨⟨ox8, g8, te8, ic8⟩, ⟨fi8, fdi8, Fi8, bi8, ki8, ni8, ti8⟩, nop8, xf8⟩, ⟨⟨ox9, g9, te9, ic9⟩, ⟨fi9, fdi9, Fi9, bi9, ni9, ti9⟩⟩, ⟨⟨ox10, g10, te10, ic10⟩, ⟨fi10, fdi10, Fi10, bi10, ni10, ti10⟩⟩⟩ := E.all
    refine ⟨_, (pss_cons (ps_set (i := 1) scKinds.nd rfl (.inl rfl) (pe_lst (pa_cons (pe_callB (call_isV ic) (by rfl) B.isinstance (by decide +kernel) (pa_cons (pv 0) (pa_cons (pe_glob (v := .ref C0) (by rfl) g0 rfl) pa_nil))) (pa_cons (pe_callB (call_isV ic) (by rfl) B.isinstance (by decide +kernel) (pa_cons (pv 0) (pa_cons (pe_glob (v := .ref C1) (by rfl) g1 rfl) pa_nil))) (pa_cons (pe_callB (call_isV ic) (by rfl) B.isinstance (by decide +kernel) (pa_cons (pv 0) (pa_cons (pe_glob (v := .ref C2) (by rfl) g2 rfl) pa_nil))) pa_nil)))))
 (pss_cons (ps_set (i := 1) scKinds.nd rfl (.inl rfl) (pe_op op_cat (pv 1) (pe_lst (pa_cons (pe_callB (call_isV ic) (by rfl) B.isinstance (by decide +kernel) (pa_cons (pv 0) (pa_cons (pe_glob (v := .ref C3) (by rfl) g3 rfl) pa_nil))) (pa_cons (pe_callB (call_isV ic) (by rfl) B.isinstance (by decide +kernel) (pa_cons (pv 0) (pa_cons (pe_glob (v := .ref C4) (by rfl) g4 rfl) pa_nil))) (pa_cons (pe_callB (call_isV ic) (by rfl) B.isinstance (by decide +kernel) (pa_cons (pv 0) (pa_cons (pe_glob (v := .ref C5) (by rfl) g5 rfl) pa_nil))) pa_nil))))))
 (pss_cons (ps_set (i := 1) scKinds.nd rfl (.inl rfl) (pe_op op_cat (pv 1) (pe_lst (pa_cons (pe_callB (call_isV ic) (by rfl) B.isinstance (by decide +kernel) (pa_cons (pv 0) (pa_cons (pe_glob (v := .ref C6) (by rfl) g6 rfl) pa_nil))) (pa_cons (pe_callB (call_isV ic) (by rfl) B.isinstance (by decide +kernel) (pa_cons (pv 0) (pa_cons (pe_glob (v := .ref C7) (by rfl) g7 rfl) pa_nil))) (pa_cons (pe_callB (call_isV ic) (by rfl) B.isinstance (by decide +kernel) (pa_cons (pv 0) (pa_cons (pe_glob (v := .ref C8) (by rfl) g8 rfl) pa_nil))) pa_nil))))))
 (pss_cons (ps_set (i := 1) scKinds.nd rfl (.inl rfl) (pe_op op_cat (pv 1) (pe_lst (pa_cons (pe_callB (call_isV ic) (by rfl) B.isinstance (by decide +kernel) (pa_cons (pv 0) (pa_cons (pe_glob (v := .ref C9) (by rfl) g9 rfl) pa_nil))) (pa_cons (pe_callB (call_isV ic) (by rfl) B.isinstance (by decide +kernel) (pa_cons (pv 0) (pa_cons (pe_glob (v := .ref C10) (by rfl) g10 rfl) pa_nil))) pa_nil)))))
 (pss_one (ps_ret (pe_op op_cat (pv 1) (pe_lst (pa_cons (pe_callB (call_isV ic) (by rfl) B.isinstance (by decide +kernel) (pa_cons (pv 0) (pa_cons (pe_glob (v := .ref RE) (by rfl) E.base.g rfl) pa_nil))) (pa_cons (pe_callB (call_isV ic) (by rfl) B.isinstance (by decide +kernel) (pa_cons (pv 0) (pa_cons (pe_bltn (v := .ty "ValueError") (by rfl) E.gV (by decide +kernel) rfl) pa_nil))) pa_nil)))))))))), ?_⟩
    have hd' : ∀ {Hx}, Same H Hx → ∀ dd, d = some dd → ∃ fs, Hx dd = some (.xd fs) := fun s dd e => let ⟨fs, z⟩ := hd dd e; ⟨fs, s _ _ z⟩
    have r0 := Same.refl H
    refine ⟨_, rfl, a, d, .ref C0, .ref C0, _, rfl, r0 _ _ ha, hd' r0, (fun _ h => h), kt 0 C0 rfl, _, rfl, a, d, .ref C1, .ref C1, _, rfl, r0 _ _ ha, hd' r0, (fun _ h => h), kt 1 C1 rfl, _, rfl, a, d, .ref C2, .ref C2, _, rfl, r0 _ _ ha, hd' r0, (fun _ h => h), kt 2 C2 rfl, (by show 3 ≤ sizeLine; decide), fun p1 n1 => ?_⟩
    have s1 := sameU (o := .lst [.bl (decide (i = 0)), .bl (decide (i = 1)), .bl (decide (i = 2))]) n1
    have h1 : upd H p1 (.lst [V.bl (decide (i = 0)), .bl (decide (i = 1)), .bl (decide (i = 2))]) p1 = some (.lst [.bl (decide (i = 0)), .bl (decide (i = 1)), .bl (decide (i = 2))]) := upd_same
    generalize upd H p1 (.lst [V.bl (decide (i = 0)), .bl (decide (i = 1)), .bl (decide (i = 2))]) = H1 at *
    refine ⟨_, rfl, _, rfl, a, d, .ref C3, .ref C3, _, rfl, s1 _ _ ha, hd' s1, (fun _ h => h), kt 3 C3 rfl, _, rfl, a, d, .ref C4, .ref C4, _, rfl, s1 _ _ ha, hd' s1, (fun _ h => h), kt 4 C4 rfl, _, rfl, a, d, .ref C5, .ref C5, _, rfl, s1 _ _ ha, hd' s1, (fun _ h => h), kt 5 C5 rfl, (by show 3 ≤ sizeLine; decide), fun m1 nm1 => ?_⟩
    have t1 := sameU (o := .lst [.bl (decide (i = 3)), .bl (decide (i = 4)), .bl (decide (i = 5))]) nm1
    have z1 : upd H1 m1 (.lst [V.bl (decide (i = 3)), .bl (decide (i = 4)), .bl (decide (i = 5))]) m1 = some (.lst [.bl (decide (i = 3)), .bl (decide (i = 4)), .bl (decide (i = 5))]) := upd_same
    have y1 := t1 _ _ h1
    have x1 := s1.trans t1
    generalize upd H1 m1 (.lst [V.bl (decide (i = 3)), .bl (decide (i = 4)), .bl (decide (i = 5))]) = G1 at *
    refine ⟨p1, m1, _, _, rfl, rfl, y1, z1, szL (by show 6 ≤ 1000000; decide), fun p2 n2 => ?_⟩
    have s2 := x1.trans (sameU (o := .lst [.bl (decide (i = 0)), .bl (decide (i = 1)), .bl (decide (i = 2)), .bl (decide (i = 3)), .bl (decide (i = 4)), .bl (decide (i = 5))]) n2)
    have h2 : upd G1 p2 (.lst ([V.bl (decide (i = 0)), .bl (decide (i = 1)), .bl (decide (i = 2))] ++ [.bl (decide (i = 3)), .bl (decide (i = 4)), .bl (decide (i = 5))])) p2 = some (.lst [.bl (decide (i = 0)), .bl (decide (i = 1)), .bl (decide (i = 2)), .bl (decide (i = 3)), .bl (decide (i = 4)), .bl (decide (i = 5))]) := upd_same
    change Same H (upd G1 p2 (.lst ([V.bl (decide (i = 0)), .bl (decide (i = 1)), .bl (decide (i = 2))] ++ [.bl (decide (i = 3)), .bl (decide (i = 4)), .bl (decide (i = 5))]))) at s2
    generalize upd G1 p2 (.lst ([V.bl (decide (i = 0)), .bl (decide (i = 1)), .bl (decide (i = 2))] ++ [.bl (decide (i = 3)), .bl (decide (i = 4)), .bl (decide (i = 5))])) = H2 at *
    refine ⟨_, rfl, _, rfl, a, d, .ref C6, .ref C6, _, rfl, s2 _ _ ha, hd' s2, (fun _ h => h), kt 6 C6 rfl, _, rfl, a, d, .ref C7, .ref C7, _, rfl, s2 _ _ ha, hd' s2, (fun _ h => h), kt 7 C7 rfl, _, rfl, a, d, .ref C8, .ref C8, _, rfl, s2 _ _ ha, hd' s2, (fun _ h => h), kt 8 C8 rfl, (by show 3 ≤ sizeLine; decide), fun m2 nm2 => ?_⟩
    have t2 := sameU (o := .lst [.bl (decide (i = 6)), .bl (decide (i = 7)), .bl (decide (i = 8))]) nm2
    have z2 : upd H2 m2 (.lst [V.bl (decide (i = 6)), .bl (decide (i = 7)), .bl (decide (i = 8))]) m2 = some (.lst [.bl (decide (i = 6)), .bl (decide (i = 7)), .bl (decide (i = 8))]) := upd_same
    have y2 := t2 _ _ h2
    have x2 := s2.trans t2
    generalize upd H2 m2 (.lst [V.bl (decide (i = 6)), .bl (decide (i = 7)), .bl (decide (i = 8))]) = G2 at *
    refine ⟨p2, m2, _, _, rfl, rfl, y2, z2, szL (by show 9 ≤ 1000000; decide), fun p3 n3 => ?_⟩
    have s3 := x2.trans (sameU (o := .lst [.bl (decide (i = 0)), .bl (decide (i = 1)), .bl (decide (i = 2)), .bl (decide (i = 3)), .bl (decide (i = 4)), .bl (decide (i = 5)), .bl (decide (i = 6)), .bl (decide (i = 7)), .bl (decide (i = 8))]) n3)
    have h3 : upd G2 p3 (.lst ([V.bl (decide (i = 0)), .bl (decide (i = 1)), .bl (decide (i = 2)), .bl (decide (i = 3)), .bl (decide (i = 4)), .bl (decide (i = 5))] ++ [.bl (decide (i = 6)), .bl (decide (i = 7)), .bl (decide (i = 8))])) p3 = some (.lst [.bl (decide (i = 0)), .bl (decide (i = 1)), .bl (decide (i = 2)), .bl (decide (i = 3)), .bl (decide (i = 4)), .bl (decide (i = 5)), .bl (decide (i = 6)), .bl (decide (i = 7)), .bl (decide (i = 8))]) := upd_same
    change Same H (upd G2 p3 (.lst ([V.bl (decide (i = 0)), .bl (decide (i = 1)), .bl (decide (i = 2)), .bl (decide (i = 3)), .bl (decide (i = 4)), .bl (decide (i = 5))] ++ [.bl (decide (i = 6)), .bl (decide (i = 7)), .bl (decide (i = 8))]))) at s3
    generalize upd G2 p3 (.lst ([V.bl (decide (i = 0)), .bl (decide (i = 1)), .bl (decide (i = 2)), .bl (decide (i = 3)), .bl (decide (i = 4)), .bl (decide (i = 5))] ++ [.bl (decide (i = 6)), .bl (decide (i = 7)), .bl (decide (i = 8))])) = H3 at *
    refine ⟨_, rfl, _, rfl, a, d, .ref C9, .ref C9, _, rfl, s3 _ _ ha, hd' s3, (fun _ h => h), kt 9 C9 rfl, _, rfl, a, d, .ref C10, .ref C10, _, rfl, s3 _ _ ha, hd' s3, (fun _ h => h), kt 10 C10 rfl, (by show 2 ≤ sizeLine; decide), fun m3 nm3 => ?_⟩
    have t3 := sameU (o := .lst [.bl (decide (i = 9)), .bl (decide (i = 10))]) nm3
    have z3 : upd H3 m3 (.lst [V.bl (decide (i = 9)), .bl (decide (i = 10))]) m3 = some (.lst [.bl (decide (i = 9)), .bl (decide (i = 10))]) := upd_same
    have y3 := t3 _ _ h3
    have x3 := s3.trans t3
    generalize upd H3 m3 (.lst [V.bl (decide (i = 9)), .bl (decide (i = 10))]) = G3 at *
    refine ⟨p3, m3, _, _, rfl, rfl, y3, z3, szL (by show 11 ≤ 1000000; decide), fun p4 n4 => ?_⟩
    have s4 := x3.trans (sameU (o := .lst [.bl (decide (i = 0)), .bl (decide (i = 1)), .bl (decide (i = 2)), .bl (decide (i = 3)), .bl (decide (i = 4)), .bl (decide (i = 5)), .bl (decide (i = 6)), .bl (decide (i = 7)), .bl (decide (i = 8)), .bl (decide (i = 9)), .bl (decide (i = 10))]) n4)
    have h4 : upd G3 p4 (.lst ([V.bl (decide (i = 0)), .bl (decide (i = 1)), .bl (decide (i = 2)), .bl (decide (i = 3)), .bl (decide (i = 4)), .bl (decide (i = 5)), .bl (decide (i = 6)), .bl (decide (i = 7)), .bl (decide (i = 8))] ++ [.bl (decide (i = 9)), .bl (decide (i = 10))])) p4 = some (.lst [.bl (decide (i = 0)), .bl (decide (i = 1)), .bl (decide (i = 2)), .bl (decide (i = 3)), .bl (decide (i = 4)), .bl (decide (i = 5)), .bl (decide (i = 6)), .bl (decide (i = 7)), .bl (decide (i = 8)), .bl (decide (i = 9)), .bl (decide (i = 10))]) := upd_same
    change Same H (upd G3 p4 (.lst ([V.bl (decide (i = 0)), .bl (decide (i = 1)), .bl (decide (i = 2)), .bl (decide (i = 3)), .bl (decide (i = 4)), .bl (decide (i = 5)), .bl (decide (i = 6)), .bl (decide (i = 7)), .bl (decide (i = 8))] ++ [.bl (decide (i = 9)), .bl (decide (i = 10))]))) at s4
    generalize upd G3 p4 (.lst ([V.bl (decide (i = 0)), .bl (decide (i = 1)), .bl (decide (i = 2)), .bl (decide (i = 3)), .bl (decide (i = 4)), .bl (decide (i = 5)), .bl (decide (i = 6)), .bl (decide (i = 7)), .bl (decide (i = 8))] ++ [.bl (decide (i = 9)), .bl (decide (i = 10))])) = H4 at *
    refine ⟨_, rfl, _, rfl, a, d, .ref RE, .ref RE, _, rfl, s4 _ _ ha, hd' s4, (fun _ h => h), kr, _, rfl, a, d, .ty "ValueError", .type "ValueError", _, rfl, s4 _ _ ha, hd' s4, (fun _ h => h), kv, (by show 2 ≤ sizeLine; decide), fun m4 nm4 => ?_⟩
    have t4 := sameU (o := .lst [.bl true, .bl true]) nm4
    refine ⟨p4, m4, _, _, rfl, rfl, t4 _ _ h4, upd_same, szL (by show 13 ≤ 1000000; decide), fun p5 n5 => ?_⟩
    exact q _ p5 ((s4.trans t4).trans (sameU n5)) ((s4.trans t4).free n5) upd_same
end
end Ew
namespace Ew
open PySem PySem.Spec PyProof.Rows L2

section
variable {P : Program} {w : World} {K : PySem.W.Frag} {mg : Str → Option Value} {base : Heap} {RE : Addr} {cs : List Addr}
theorem scRaised : FnScope ["way", "value", "error"] ["way", "value"] (defScope sRaised) := ⟨rfl, rfl, rfl, by decide +kernel, rfl, by decide +kernel, by decide +kernel⟩
theorem scFields : FnScope ["value", "found"] ["value"] (defScope sFields) := ⟨rfl, rfl, rfl, by decide +kernel, rfl, by decide +kernel, by decide +kernel⟩
theorem ok_raised {f : Addr} {fd : FuncData} (F : Fun K "_law_raised" "_law_raised" sRaised f fd) (E : Errs K mg RE cs) : FnOk P w K mg base CX0 3 f fd ["way", "value"] (spRaised cs) := by
  refine F.ok scRaised (fun vs H Q E h => ?_) (fun cdv A outer s H vs Q E' hr0 h => ?_)
  · obtain ⟨i, v, rfl, _⟩ := h
    rfl
  · obtain ⟨i, v, rfl, hi, q⟩ := h
    have hr := hr0
    obtain ⟨C0, C1, C2, C3, C4, C5, C6, C7, C8, C9, C10, rfl, ⟨⟨ox0, g0, te0, ic0⟩, ⟨fi0, fdi0, Fi0, bi0, ki0, ni0, ti0⟩, nop0, xf0⟩, ⟨⟨ox1, g1, te1, ic1⟩, ⟨fi1, fdi1, Fi1, bi1, ki1, ni1, ti1⟩, nop1, xf1⟩, ⟨⟨ox2, g2, te2, ic2⟩, ⟨fi2, fdi2, Fi2, bi2, ki2, ni2, ti2⟩, nop2, xf2⟩, ⟨⟨ox3, g3, te3, ic3⟩, ⟨fi3, fdi3, Fi3, bi3, ki3, ni3, ti3⟩, nop3, xf3⟩, ⟨⟨ox4, g4, te4, ic4⟩, ⟨fi4, fdi4, Fi4, bi4, ki4, ni4, ti4⟩, nop4, xf4⟩, ⟨⟨ox5, g5, te5, ic5⟩, ⟨fi5, fdi5, Fi5, bi5, ki5, ni5, ti5⟩, nop5, xf5⟩, ⟨⟨ox6, g6, te6, ic6⟩, ⟨fi6, fdi6, Fi6, bi6, ki6, ni6, ti6⟩, nop6, xf6⟩, ⟨⟨ox7, g7, te7, ic7⟩, ⟨fi7, fdi7, Fi7, bi7, ki7, ni7, ti7⟩, nop7, xf7⟩, ⟨⟨ox8, g8, te8, ic8⟩, ⟨fi8, fdi8, Fi8, bi8, ki8, ni8, ti8⟩, nop8, xf8⟩, ⟨⟨ox9, g9, te9, ic9⟩, ⟨fi9, fdi9, Fi9, bi9, ni9, ti9⟩⟩, ⟨⟨ox10, g10, te10, ic10⟩, ⟨fi10, fdi10, Fi10, bi10, ni10, ti10⟩⟩⟩ := E.all
    have H0 := H
    refine ⟨_, pss_one (ps_try_ret (i := 2) (tb := fun W => (tSeq (tIfS (tTest (tOp rEq (tVar 0) (tC (.int 0)))) (fun D σ Hs => tMkO C0 (spE1 C0 "place") [] (tCons (tVar 1) tNil) σ Hs fun cls d H' => W cls d σ H') tNext)
      (tSeq (tIfS (tTest (tOp rEq (tVar 0) (tC (.int 1)))) (fun D σ Hs => tMkO C1 (spE1 C1 "droppers") [] (tCons (tVar 1) tNil) σ Hs fun cls d H' => W cls d σ H') tNext)
      (tSeq (tIfS (tTest (tOp rEq (tVar 0) (tC (.int 2)))) (fun D σ Hs => tMkO C2 (spE1 C2 "reader") [] (tCons (tVar 1) tNil) σ Hs fun cls d H' => W cls d σ H') tNext)
      (tSeq (tIfS (tTest (tOp rEq (tVar 0) (tC (.int 3)))) (fun D σ Hs => tMkO C3 (spE1 C3 "works") [] (tCons (tVar 1) tNil) σ Hs fun cls d H' => W cls d σ H') tNext)
      (tSeq (tIfS (tTest (tOp rEq (tVar 0) (tC (.int 4)))) (fun D σ Hs => tMkO C4 (spE1 C4 "work") [] (tCons (tVar 1) tNil) σ Hs fun cls d H' => W cls d σ H') tNext)
      (tSeq (tIfS (tTest (tOp rEq (tVar 0) (tC (.int 5)))) (fun D σ Hs => tMkO C5 (spE1 C5 "demand") [] (tCons (tVar 1) tNil) σ Hs fun cls d H' => W cls d σ H') tNext)
      (tSeq (tIfS (tTest (tOp rEq (tVar 0) (tC (.int 6)))) (fun D σ Hs => tMkO C6 (spE1 C6 "limit") [] (tCons (tVar 1) tNil) σ Hs fun cls d H' => W cls d σ H') tNext)
      (tSeq (tIfS (tTest (tOp rEq (tVar 0) (tC (.int 7)))) (fun D σ Hs => tMkO C7 (spE1 C7 "work") [] (tCons (tVar 1) tNil) σ Hs fun cls d H' => W cls d σ H') tNext)
      (tSeq (tIfS (tTest (tOp rEq (tVar 0) (tC (.int 8)))) (fun D σ Hs => tMkO C8 (spE1 C8 "reader") [] (tCons (tVar 1) tNil) σ Hs fun cls d H' => W cls d σ H') tNext)
      (tSeq (tIfS (tTest (tOp rEq (tVar 0) (tC (.int 9)))) (fun D σ Hs => tMkV C9 (spE0 C9) (fun a vs => .ref a :: vs) tNil σ Hs fun v H1 => ∃ a : Addr, v = .ref a ∧ H1 a = some (exo a C9 none) ∧ Fr0 H a ∧ W (.ref C9) none σ (delH H1 a)) tNext)
      (fun D σ Hs => tMkV C10 (spE0 C10) (fun a vs => .ref a :: vs) tNil σ Hs fun v H1 => ∃ a : Addr, v = .ref a ∧ H1 a = some (exo a C10 none) ∧ Fr0 H a ∧ W (.ref C10) none σ (delH H1 a))))))))))))) (ts := fun a cls d => tRet (tVar 2)) rfl rfl rfl scRaised.nd rfl rfl ⟨by rfl, by decide, .inl E.base.g⟩
      (fun W pn xe tk _ => (pss_cons (ps_if (pt_cmpR op_eq (pv 0) pe_int (nomark _)) (pss_one (ps_raise rfl tk (pmk_oex ox0 ni0 ti0 (ok_BadBook (P := P) (w := w) (base := base) Fi0 E.base ox0 nop0) hr bi0 .nil pass0 (by rfl) g0 (pa_cons (pv 1) pa_nil)))) pss_nil)
        (pss_cons (ps_if (pt_cmpR op_eq (pv 0) pe_int (nomark _)) (pss_one (ps_raise rfl tk (pmk_oex ox1 ni1 ti1 (ok_NoDropping (P := P) (w := w) (base := base) Fi1 E.base ox1 nop1) hr bi1 .nil pass0 (by rfl) g1 (pa_cons (pv 1) pa_nil)))) pss_nil)
        (pss_cons (ps_if (pt_cmpR op_eq (pv 0) pe_int (nomark _)) (pss_one (ps_raise rfl tk (pmk_oex ox2 ni2 ti2 (ok_NoComing (P := P) (w := w) (base := base) Fi2 E.base ox2 nop2) hr bi2 .nil pass0 (by rfl) g2 (pa_cons (pv 1) pa_nil)))) pss_nil)
        (pss_cons (ps_if (pt_cmpR op_eq (pv 0) pe_int (nomark _)) (pss_one (ps_raise rfl tk (pmk_oex ox3 ni3 ti3 (ok_Short (P := P) (w := w) (base := base) Fi3 E.base ox3 nop3) hr bi3 .nil pass0 (by rfl) g3 (pa_cons (pv 1) pa_nil)))) pss_nil)
        (pss_cons (ps_if (pt_cmpR op_eq (pv 0) pe_int (nomark _)) (pss_one (ps_raise rfl tk (pmk_oex ox4 ni4 ti4 (ok_TooFew (P := P) (w := w) (base := base) Fi4 E.base ox4 nop4) hr bi4 .nil pass0 (by rfl) g4 (pa_cons (pv 1) pa_nil)))) pss_nil)
        (pss_cons (ps_if (pt_cmpR op_eq (pv 0) pe_int (nomark _)) (pss_one (ps_raise rfl tk (pmk_oex ox5 ni5 ti5 (ok_BadDemand (P := P) (w := w) (base := base) Fi5 E.base ox5 nop5) hr bi5 .nil pass0 (by rfl) g5 (pa_cons (pv 1) pa_nil)))) pss_nil)
        (pss_cons (ps_if (pt_cmpR op_eq (pv 0) pe_int (nomark _)) (pss_one (ps_raise rfl tk (pmk_oex ox6 ni6 ti6 (ok_BadLimit (P := P) (w := w) (base := base) Fi6 E.base ox6 nop6) hr bi6 .nil pass0 (by rfl) g6 (pa_cons (pv 1) pa_nil)))) pss_nil)
        (pss_cons (ps_if (pt_cmpR op_eq (pv 0) pe_int (nomark _)) (pss_one (ps_raise rfl tk (pmk_oex ox7 ni7 ti7 (ok_NoWork (P := P) (w := w) (base := base) Fi7 E.base ox7 nop7) hr bi7 .nil pass0 (by rfl) g7 (pa_cons (pv 1) pa_nil)))) pss_nil)
        (pss_cons (ps_if (pt_cmpR op_eq (pv 0) pe_int (nomark _)) (pss_one (ps_raise rfl tk (pmk_oex ox8 ni8 ti8 (ok_NoReader (P := P) (w := w) (base := base) Fi8 E.base ox8 nop8) hr bi8 .nil pass0 (by rfl) g8 (pa_cons (pv 1) pa_nil)))) pss_nil)
        (pss_cons (ps_if (pt_cmpR op_eq (pv 0) pe_int (nomark _)) (pss_one (ps_raise rfl tk (pmk_val ox9 rfl (pe_oex0 ox9 ni9 ti9 (ok_TooManyWorks (P := P) (w := w) (base := base) Fi9 E.base ox9) hr bi9 pass0 (by rfl) g9)))) pss_nil)
        (pss_one (ps_raise rfl tk (pmk_val ox10 rfl (pe_oex0 ox10 ni10 ti10 (ok_NothingDone (P := P) (w := w) (base := base) Fi10 E.base ox10) hr bi10 pass0 (by rfl) g10)))))))))))))))
      (fun a oe cls d pn hz hf => pss_one (ps_ret (pv 2)))), ?_⟩
    have fin : ∀ (D : Addr) (d : Option Addr) (Hf : Hp), [C0, C1, C2, C3, C4, C5, C6, C7, C8, C9, C10][i]? = some D → PySem.W.exmOne K (.ref D) (.ref RE) = some true → Same H Hf → (∀ dd, d = some dd → ∃ fs, Hf dd = some (.xd fs)) →
        ∀ a, Hf a = none → Q (.ref a) (upd Hf a (exv (.ref D) d a)) := fun D d Hf hD te sf hd a na =>
      q _ a D (sf.trans (sameU na)) hD ⟨d, upd_same, fun dd e => let ⟨fs, z⟩ := hd dd e; ⟨fs, (sameU na) _ _ z⟩⟩
    have t1 : ∀ (D : Addr) (fld : Str) (k : Nat), i = k → [C0, C1, C2, C3, C4, C5, C6, C7, C8, C9, C10][k]? = some D → PySem.W.exmOne K (.ref D) (.ref RE) = some true → ∀ (Z : WX), (∀ d Hf, Same H Hf → (∀ dd, d = some dd → ∃ fs, Hf dd = some (.xd fs)) → Z (.ref D) d [some (.int (i : Int)), some v, none] Hf) →
        tMkO D (spE1 D fld) [] (tCons (tVar 1) tNil) [some (.int (i : Int)), some v, none] H (fun cls d H' => Z cls d [some (.int (i : Int)), some v, none] H') := fun D fld k ek hD te Z hz =>
      ⟨v, rfl, raised1 (C := D) (fld := fld) (v := v) (E := fun cls d H' => Z cls d [some (.int (i : Int)), some v, none] H') fun dx Hf sf nf hf => hz (some dx) Hf sf fun dd e => ⟨[(fld, v)], by cases e; exact hf⟩⟩
    have wr : ∀ (D : Addr) (k : Nat), i = k → [C0, C1, C2, C3, C4, C5, C6, C7, C8, C9, C10][k]? = some D → PySem.W.exmOne K (.ref D) (.ref RE) = some true → ∀ d Hf, Same H Hf → (∀ dd, d = some dd → ∃ fs, Hf dd = some (.xd fs)) →
        wRet K (.ref RE) 2 (fun a cls d => tRet (tVar 2)) { nx := fun _ H' => Q .non H', rt := Q } (.ref D) d [some (.int (i : Int)), some v, none] Hf := fun D k ek hD te d Hf sf hd =>
      ⟨te, fun a na => ⟨.ref a, rfl, fin D d Hf (by rw [ek]; exact hD) te sf hd a na⟩⟩
    have t0 : ∀ (D : Addr) (k : Nat), i = k → [C0, C1, C2, C3, C4, C5, C6, C7, C8, C9, C10][k]? = some D → PySem.W.exmOne K (.ref D) (.ref RE) = some true → ∀ (Z : WX), (∀ d Hf, Same H Hf → (∀ dd, d = some dd → ∃ fs, Hf dd = some (.xd fs)) → Z (.ref D) d [some (.int (i : Int)), some v, none] Hf) →
        tMkV D (spE0 D) (fun a vs => .ref a :: vs) tNil [some (.int (i : Int)), some v, none] H (fun v1 H1 => ∃ a : Addr, v1 = .ref a ∧ H1 a = some (exo a D none) ∧ Fr0 H a ∧ Z (.ref D) none [some (.int (i : Int)), some v, none] (delH H1 a)) := fun D k ek hD te Z hz => by
      refine ⟨Nat.zero_le _, fun a na => ⟨a, rfl, upd_same, rfl, a, rfl, upd_same, fr0_none na, ?_⟩⟩
      rw [delH_new na]
      exact hz none H (Same.refl H) fun dd e => by cases e
    refine ⟨_, rfl, rfl, _, rfl, ite2 (fun c => ?_) (fun c0 => ?_)⟩
    · have e : i = 0 := by have := of_decide_eq_true c; injection this; omega
      exact (t1 C0 "place" 0 e rfl te0 _ (wr C0 0 e rfl te0))
    have d0 : i ≠ 0 := fun e => c0 (by rw [e]; exact decide_eq_true rfl)
    refine ⟨_, rfl, rfl, _, rfl, ite2 (fun c => ?_) (fun c1 => ?_)⟩
    · have e : i = 1 := by have := of_decide_eq_true c; injection this; omega
      exact (t1 C1 "droppers" 1 e rfl te1 _ (wr C1 1 e rfl te1))
    have d1 : i ≠ 1 := fun e => c1 (by rw [e]; exact decide_eq_true rfl)
    refine ⟨_, rfl, rfl, _, rfl, ite2 (fun c => ?_) (fun c2 => ?_)⟩
    · have e : i = 2 := by have := of_decide_eq_true c; injection this; omega
      exact (t1 C2 "reader" 2 e rfl te2 _ (wr C2 2 e rfl te2))
    have d2 : i ≠ 2 := fun e => c2 (by rw [e]; exact decide_eq_true rfl)
    refine ⟨_, rfl, rfl, _, rfl, ite2 (fun c => ?_) (fun c3 => ?_)⟩
    · have e : i = 3 := by have := of_decide_eq_true c; injection this; omega
      exact (t1 C3 "works" 3 e rfl te3 _ (wr C3 3 e rfl te3))
    have d3 : i ≠ 3 := fun e => c3 (by rw [e]; exact decide_eq_true rfl)
    refine ⟨_, rfl, rfl, _, rfl, ite2 (fun c => ?_) (fun c4 => ?_)⟩
    · have e : i = 4 := by have := of_decide_eq_true c; injection this; omega
      exact (t1 C4 "work" 4 e rfl te4 _ (wr C4 4 e rfl te4))
    have d4 : i ≠ 4 := fun e => c4 (by rw [e]; exact decide_eq_true rfl)
    refine ⟨_, rfl, rfl, _, rfl, ite2 (fun c => ?_) (fun c5 => ?_)⟩
    · have e : i = 5 := by have := of_decide_eq_true c; injection this; omega
      exact (t1 C5 "demand" 5 e rfl te5 _ (wr C5 5 e rfl te5))
    have d5 : i ≠ 5 := fun e => c5 (by rw [e]; exact decide_eq_true rfl)
    refine ⟨_, rfl, rfl, _, rfl, ite2 (fun c => ?_) (fun c6 => ?_)⟩
    · have e : i = 6 := by have := of_decide_eq_true c; injection this; omega
      exact (t1 C6 "limit" 6 e rfl te6 _ (wr C6 6 e rfl te6))
    have d6 : i ≠ 6 := fun e => c6 (by rw [e]; exact decide_eq_true rfl)
    refine ⟨_, rfl, rfl, _, rfl, ite2 (fun c => ?_) (fun c7 => ?_)⟩
    · have e : i = 7 := by have := of_decide_eq_true c; injection this; omega
      exact (t1 C7 "work" 7 e rfl te7 _ (wr C7 7 e rfl te7))
    have d7 : i ≠ 7 := fun e => c7 (by rw [e]; exact decide_eq_true rfl)
    refine ⟨_, rfl, rfl, _, rfl, ite2 (fun c => ?_) (fun c8 => ?_)⟩
    · have e : i = 8 := by have := of_decide_eq_true c; injection this; omega
      exact (t1 C8 "reader" 8 e rfl te8 _ (wr C8 8 e rfl te8))
    have d8 : i ≠ 8 := fun e => c8 (by rw [e]; exact decide_eq_true rfl)
    refine ⟨_, rfl, rfl, _, rfl, ite2 (fun c => ?_) (fun c9 => ?_)⟩
    · have e : i = 9 := by have := of_decide_eq_true c; injection this; omega
      exact (t0 C9 9 e rfl te9 _ (wr C9 9 e rfl te9))
    have d9 : i ≠ 9 := fun e => c9 (by rw [e]; exact decide_eq_true rfl)
    have e : i = 10 := by omega
    exact t0 C10 10 e rfl te10 _ (wr C10 10 e rfl te10)
theorem ok_fields {f : Addr} {fd : FuncData} (F : Fun K "_law_fields" "_law_fields" sFields f fd) (E : Errs K mg RE cs) : FnOk P w K mg base CX0 3 f fd ["value"] spFields := by
  refine F.ok scFields (fun vs H Q E h => ?_) (fun cdv A outer s H vs Q E' hr h => ?_)
  · obtain ⟨v, rfl, _⟩ := h
    rfl
  · obtain ⟨v, rfl, q⟩ := h
    obtain ⟨C0, C1, C2, C3, C4, C5, C6, C7, C8, C9, C10, rfl, ⟨⟨ox0, g0, te0, ic0⟩, ⟨fi0, fdi0, Fi0, bi0, ki0, ni0, ti0⟩, nop0, xf0⟩, ⟨⟨ox1, g1, te1, ic1⟩, ⟨fi1, fdi1, Fi1, bi1, ki1, ni1, ti1⟩, nop1, xf1⟩, ⟨⟨ox2, g2, te2, ic2⟩, ⟨fi2, fdi2, Fi2, bi2, ki2, ni2, ti2⟩, nop2, xf2⟩, ⟨⟨ox3, g3, te3, ic3⟩, ⟨fi3, fdi3, Fi3, bi3, ki3, ni3, ti3⟩, nop3, xf3⟩, ⟨⟨ox4, g4, te4, ic4⟩, ⟨fi4, fdi4, Fi4, bi4, ki4, ni4, ti4⟩, nop4, xf4⟩, ⟨⟨ox5, g5, te5, ic5⟩, ⟨fi5, fdi5, Fi5, bi5, ki5, ni5, ti5⟩, nop5, xf5⟩, ⟨⟨ox6, g6, te6, ic6⟩, ⟨fi6, fdi6, Fi6, bi6, ki6, ni6, ti6⟩, nop6, xf6⟩, ⟨⟨ox7, g7, te7, ic7⟩, ⟨fi7, fdi7, Fi7, bi7, ki7, ni7, ti7⟩, nop7, xf7⟩, ⟨⟨ox8, g8, te8, ic8⟩, ⟨fi8, fdi8, Fi8, bi8, ki8, ni8, ti8⟩, nop8, xf8⟩, ⟨⟨ox9, g9, te9, ic9⟩, ⟨fi9, fdi9, Fi9, bi9, ni9, ti9⟩⟩, ⟨⟨ox10, g10, te10, ic10⟩, ⟨fi10, fdi10, Fi10, bi10, ni10, ti10⟩⟩⟩ := E.all
    refine ⟨_, (pss_cons (ps_set (i := 1) scFields.nd rfl (.inl rfl) (pe_lst (pa_cons (pe_vf xf0 nop0 (pe_oex ox0 ni0 ti0 (ok_BadBook (P := P) (w := w) (base := base) Fi0 E.base ox0 nop0) hr bi0 pass0 (by rfl) g0 (pa_cons (pv 0) pa_nil))) (pa_cons (pe_vf xf0 nop0 (pe_oexK (ks := ["place"]) (g := fun us ws => us ++ ws) (gV := fun vs zs => vs ++ zs) ox0 ni0 ti0 (ok_BadBook (P := P) (w := w) (base := base) Fi0 E.base ox0 nop0) hr ki0 pass0 (by rfl) g0 (pk_cons (pv 0) pk_nil))) (pa_cons (pe_vf xf1 nop1 (pe_oex ox1 ni1 ti1 (ok_NoDropping (P := P) (w := w) (base := base) Fi1 E.base ox1 nop1) hr bi1 pass0 (by rfl) g1 (pa_cons (pv 0) pa_nil))) pa_nil)))))
 (pss_cons (ps_set (i := 1) scFields.nd rfl (.inl rfl) (pe_op op_cat (pv 1) (pe_lst (pa_cons (pe_vf xf1 nop1 (pe_oexK (ks := ["droppers"]) (g := fun us ws => us ++ ws) (gV := fun vs zs => vs ++ zs) ox1 ni1 ti1 (ok_NoDropping (P := P) (w := w) (base := base) Fi1 E.base ox1 nop1) hr ki1 pass0 (by rfl) g1 (pk_cons (pv 0) pk_nil))) (pa_cons (pe_vf xf2 nop2 (pe_oex ox2 ni2 ti2 (ok_NoComing (P := P) (w := w) (base := base) Fi2 E.base ox2 nop2) hr bi2 pass0 (by rfl) g2 (pa_cons (pv 0) pa_nil))) (pa_cons (pe_vf xf2 nop2 (pe_oexK (ks := ["reader"]) (g := fun us ws => us ++ ws) (gV := fun vs zs => vs ++ zs) ox2 ni2 ti2 (ok_NoComing (P := P) (w := w) (base := base) Fi2 E.base ox2 nop2) hr ki2 pass0 (by rfl) g2 (pk_cons (pv 0) pk_nil))) pa_nil))))))
 (pss_cons (ps_set (i := 1) scFields.nd rfl (.inl rfl) (pe_op op_cat (pv 1) (pe_lst (pa_cons (pe_vf xf3 nop3 (pe_oex ox3 ni3 ti3 (ok_Short (P := P) (w := w) (base := base) Fi3 E.base ox3 nop3) hr bi3 pass0 (by rfl) g3 (pa_cons (pv 0) pa_nil))) (pa_cons (pe_vf xf3 nop3 (pe_oexK (ks := ["works"]) (g := fun us ws => us ++ ws) (gV := fun vs zs => vs ++ zs) ox3 ni3 ti3 (ok_Short (P := P) (w := w) (base := base) Fi3 E.base ox3 nop3) hr ki3 pass0 (by rfl) g3 (pk_cons (pv 0) pk_nil))) (pa_cons (pe_vf xf4 nop4 (pe_oex ox4 ni4 ti4 (ok_TooFew (P := P) (w := w) (base := base) Fi4 E.base ox4 nop4) hr bi4 pass0 (by rfl) g4 (pa_cons (pv 0) pa_nil))) (pa_cons (pe_vf xf4 nop4 (pe_oexK (ks := ["work"]) (g := fun us ws => us ++ ws) (gV := fun vs zs => vs ++ zs) ox4 ni4 ti4 (ok_TooFew (P := P) (w := w) (base := base) Fi4 E.base ox4 nop4) hr ki4 pass0 (by rfl) g4 (pk_cons (pv 0) pk_nil))) pa_nil)))))))
 (pss_cons (ps_set (i := 1) scFields.nd rfl (.inl rfl) (pe_op op_cat (pv 1) (pe_lst (pa_cons (pe_vf xf5 nop5 (pe_oex ox5 ni5 ti5 (ok_BadDemand (P := P) (w := w) (base := base) Fi5 E.base ox5 nop5) hr bi5 pass0 (by rfl) g5 (pa_cons (pv 0) pa_nil))) (pa_cons (pe_vf xf5 nop5 (pe_oexK (ks := ["demand"]) (g := fun us ws => us ++ ws) (gV := fun vs zs => vs ++ zs) ox5 ni5 ti5 (ok_BadDemand (P := P) (w := w) (base := base) Fi5 E.base ox5 nop5) hr ki5 pass0 (by rfl) g5 (pk_cons (pv 0) pk_nil))) (pa_cons (pe_vf xf6 nop6 (pe_oex ox6 ni6 ti6 (ok_BadLimit (P := P) (w := w) (base := base) Fi6 E.base ox6 nop6) hr bi6 pass0 (by rfl) g6 (pa_cons (pv 0) pa_nil))) pa_nil))))))
 (pss_cons (ps_set (i := 1) scFields.nd rfl (.inl rfl) (pe_op op_cat (pv 1) (pe_lst (pa_cons (pe_vf xf6 nop6 (pe_oexK (ks := ["limit"]) (g := fun us ws => us ++ ws) (gV := fun vs zs => vs ++ zs) ox6 ni6 ti6 (ok_BadLimit (P := P) (w := w) (base := base) Fi6 E.base ox6 nop6) hr ki6 pass0 (by rfl) g6 (pk_cons (pv 0) pk_nil))) (pa_cons (pe_vf xf7 nop7 (pe_oex ox7 ni7 ti7 (ok_NoWork (P := P) (w := w) (base := base) Fi7 E.base ox7 nop7) hr bi7 pass0 (by rfl) g7 (pa_cons (pv 0) pa_nil))) (pa_cons (pe_vf xf7 nop7 (pe_oexK (ks := ["work"]) (g := fun us ws => us ++ ws) (gV := fun vs zs => vs ++ zs) ox7 ni7 ti7 (ok_NoWork (P := P) (w := w) (base := base) Fi7 E.base ox7 nop7) hr ki7 pass0 (by rfl) g7 (pk_cons (pv 0) pk_nil))) pa_nil))))))
 (pss_one (ps_ret (pe_op op_cat (pv 1) (pe_lst (pa_cons (pe_vf xf8 nop8 (pe_oex ox8 ni8 ti8 (ok_NoReader (P := P) (w := w) (base := base) Fi8 E.base ox8 nop8) hr bi8 pass0 (by rfl) g8 (pa_cons (pv 0) pa_nil))) (pa_cons (pe_vf xf8 nop8 (pe_oexK (ks := ["reader"]) (g := fun us ws => us ++ ws) (gV := fun vs zs => vs ++ zs) ox8 ni8 ti8 (ok_NoReader (P := P) (w := w) (base := base) Fi8 E.base ox8 nop8) hr ki8 pass0 (by rfl) g8 (pk_cons (pv 0) pk_nil))) pa_nil))))))))))), ?_⟩
    refine ⟨_, rfl, field1 fun J1 u1 => ?_⟩
    have v1 : Same H J1 := u1
    refine ⟨_, rfl, rfl, (field1 fun J2 u2 => ?_).2⟩
    have v2 : Same H J2 := v1.trans u2
    refine ⟨_, rfl, field1 fun J3 u3 => ?_⟩
    have v3 : Same H J3 := v2.trans u3
    refine ⟨(by show 3 ≤ sizeLine; decide), fun m0 nm0 => ?_⟩
    have w0 := sameU (o := .lst [v, v, v]) nm0
    have z0 : upd J3 m0 (.lst [v, v, v]) m0 = some (.lst [v, v, v]) := upd_same
    have v0_ := v3.trans w0
    generalize upd J3 m0 (.lst [v, v, v]) = G0 at *
    refine ⟨_, rfl, ?_⟩
    refine ⟨_, rfl, rfl, (field1 fun J4 u4 => ?_).2⟩
    have v4 : Same H J4 := v0_.trans u4
    have hl4 := u4 _ _ z0
    refine ⟨_, rfl, field1 fun J5 u5 => ?_⟩
    have v5 : Same H J5 := v4.trans u5
    have hl5 := u5 _ _ hl4
    refine ⟨_, rfl, rfl, (field1 fun J6 u6 => ?_).2⟩
    have v6 : Same H J6 := v5.trans u6
    have hl6 := u6 _ _ hl5
    refine ⟨(by show 3 ≤ sizeLine; decide), fun m1 nm1 => ?_⟩
    have w1 := sameU (o := .lst [v, v, v]) nm1
    have z1 : upd J6 m1 (.lst [v, v, v]) m1 = some (.lst [v, v, v]) := upd_same
    have v1_ := v6.trans w1
    have y1 := w1 _ _ hl6
    generalize upd J6 m1 (.lst [v, v, v]) = G1 at *
    refine ⟨m0, m1, _, _, rfl, rfl, y1, z1, szL (by show 6 ≤ 1000000; decide), fun p1 np1 => ?_⟩
    have t1 := sameU (o := .lst ([v, v, v] ++ [v, v, v])) np1
    have hh1 : upd G1 p1 (.lst ([v, v, v] ++ [v, v, v])) p1 = some (.lst [v, v, v, v, v, v]) := upd_same
    have q1 := v1_.trans t1
    generalize upd G1 p1 (.lst ([v, v, v] ++ [v, v, v])) = F1 at *
    refine ⟨_, rfl, ?_⟩
    refine ⟨_, rfl, field1 fun J7 u7 => ?_⟩
    have v7 : Same H J7 := q1.trans u7
    have hl7 := u7 _ _ hh1
    refine ⟨_, rfl, rfl, (field1 fun J8 u8 => ?_).2⟩
    have v8 : Same H J8 := v7.trans u8
    have hl8 := u8 _ _ hl7
    refine ⟨_, rfl, field1 fun J9 u9 => ?_⟩
    have v9 : Same H J9 := v8.trans u9
    have hl9 := u9 _ _ hl8
    refine ⟨_, rfl, rfl, (field1 fun J10 u10 => ?_).2⟩
    have v10 : Same H J10 := v9.trans u10
    have hl10 := u10 _ _ hl9
    refine ⟨(by show 4 ≤ sizeLine; decide), fun m2 nm2 => ?_⟩
    have w2 := sameU (o := .lst [v, v, v, v]) nm2
    have z2 : upd J10 m2 (.lst [v, v, v, v]) m2 = some (.lst [v, v, v, v]) := upd_same
    have v2_ := v10.trans w2
    have y2 := w2 _ _ hl10
    generalize upd J10 m2 (.lst [v, v, v, v]) = G2 at *
    refine ⟨p1, m2, _, _, rfl, rfl, y2, z2, szL (by show 10 ≤ 1000000; decide), fun p2 np2 => ?_⟩
    have t2 := sameU (o := .lst ([v, v, v, v, v, v] ++ [v, v, v, v])) np2
    have hh2 : upd G2 p2 (.lst ([v, v, v, v, v, v] ++ [v, v, v, v])) p2 = some (.lst [v, v, v, v, v, v, v, v, v, v]) := upd_same
    have q2 := v2_.trans t2
    generalize upd G2 p2 (.lst ([v, v, v, v, v, v] ++ [v, v, v, v])) = F2 at *
    refine ⟨_, rfl, ?_⟩
    refine ⟨_, rfl, field1 fun J11 u11 => ?_⟩
    have v11 : Same H J11 := q2.trans u11
    have hl11 := u11 _ _ hh2
    refine ⟨_, rfl, rfl, (field1 fun J12 u12 => ?_).2⟩
    have v12 : Same H J12 := v11.trans u12
    have hl12 := u12 _ _ hl11
    refine ⟨_, rfl, field1 fun J13 u13 => ?_⟩
    have v13 : Same H J13 := v12.trans u13
    have hl13 := u13 _ _ hl12
    refine ⟨(by show 3 ≤ sizeLine; decide), fun m3 nm3 => ?_⟩
    have w3 := sameU (o := .lst [v, v, v]) nm3
    have z3 : upd J13 m3 (.lst [v, v, v]) m3 = some (.lst [v, v, v]) := upd_same
    have v3_ := v13.trans w3
    have y3 := w3 _ _ hl13
    generalize upd J13 m3 (.lst [v, v, v]) = G3 at *
    refine ⟨p2, m3, _, _, rfl, rfl, y3, z3, szL (by show 13 ≤ 1000000; decide), fun p3 np3 => ?_⟩
    have t3 := sameU (o := .lst ([v, v, v, v, v, v, v, v, v, v] ++ [v, v, v])) np3
    have hh3 : upd G3 p3 (.lst ([v, v, v, v, v, v, v, v, v, v] ++ [v, v, v])) p3 = some (.lst [v, v, v, v, v, v, v, v, v, v, v, v, v]) := upd_same
    have q3 := v3_.trans t3
    generalize upd G3 p3 (.lst ([v, v, v, v, v, v, v, v, v, v] ++ [v, v, v])) = F3 at *
    refine ⟨_, rfl, ?_⟩
    refine ⟨_, rfl, rfl, (field1 fun J14 u14 => ?_).2⟩
    have v14 : Same H J14 := q3.trans u14
    have hl14 := u14 _ _ hh3
    refine ⟨_, rfl, field1 fun J15 u15 => ?_⟩
    have v15 : Same H J15 := v14.trans u15
    have hl15 := u15 _ _ hl14
    refine ⟨_, rfl, rfl, (field1 fun J16 u16 => ?_).2⟩
    have v16 : Same H J16 := v15.trans u16
    have hl16 := u16 _ _ hl15
    refine ⟨(by show 3 ≤ sizeLine; decide), fun m4 nm4 => ?_⟩
    have w4 := sameU (o := .lst [v, v, v]) nm4
    have z4 : upd J16 m4 (.lst [v, v, v]) m4 = some (.lst [v, v, v]) := upd_same
    have v4_ := v16.trans w4
    have y4 := w4 _ _ hl16
    generalize upd J16 m4 (.lst [v, v, v]) = G4 at *
    refine ⟨p3, m4, _, _, rfl, rfl, y4, z4, szL (by show 16 ≤ 1000000; decide), fun p4 np4 => ?_⟩
    have t4 := sameU (o := .lst ([v, v, v, v, v, v, v, v, v, v, v, v, v] ++ [v, v, v])) np4
    have hh4 : upd G4 p4 (.lst ([v, v, v, v, v, v, v, v, v, v, v, v, v] ++ [v, v, v])) p4 = some (.lst [v, v, v, v, v, v, v, v, v, v, v, v, v, v, v, v]) := upd_same
    have q4 := v4_.trans t4
    generalize upd G4 p4 (.lst ([v, v, v, v, v, v, v, v, v, v, v, v, v] ++ [v, v, v])) = F4 at *
    refine ⟨_, rfl, ?_⟩
    refine ⟨_, rfl, field1 fun J17 u17 => ?_⟩
    have v17 : Same H J17 := q4.trans u17
    have hl17 := u17 _ _ hh4
    refine ⟨_, rfl, rfl, (field1 fun J18 u18 => ?_).2⟩
    have v18 : Same H J18 := v17.trans u18
    have hl18 := u18 _ _ hl17
    refine ⟨(by show 2 ≤ sizeLine; decide), fun m5 nm5 => ?_⟩
    have w5 := sameU (o := .lst [v, v]) nm5
    have z5 : upd J18 m5 (.lst [v, v]) m5 = some (.lst [v, v]) := upd_same
    have v5_ := v18.trans w5
    have y5 := w5 _ _ hl18
    generalize upd J18 m5 (.lst [v, v]) = G5 at *
    refine ⟨p4, m5, _, _, rfl, rfl, y5, z5, szL (by show 18 ≤ 1000000; decide), fun p5 np5 => ?_⟩
    exact q _ p5 (v5_.trans (sameU np5)) upd_same
end
end Ew
namespace Ew
open PySem PySem.Spec PyProof.Rows L2
abbrev sLaw : Stmt := (top 20)
theorem sameX {H H1 H2 : Hp} {f : Addr} (s : Same H H1) (n : H f = none) (e : Ext1 f H1 H2) : Same H H2 := fun b o h => e.1 b o (ne_of_none h n) (s b o h)
def spLaw (K : PySem.W.Frag) : Sp := fun vs H Q _ => ∃ (a : Addr) (ns : List Int), vs = [.ref a] ∧ SqL K H a (ns.map V.int) ∧ ns.length ≤ 63 ∧ ∀ H', Q (.bl true) H'
theorem same_own {H H' : Hp} {p : Addr} {o : HO} (s : Same H H') (n : H p = none) : Same H (upd H' p o) := fun b x e => by
  rw [upd_ne (ne_of_none e n)]
  exact s b x e
theorem dig_of {i : Int} (h0 : 0 ≤ i) (h1 : i < 10) : Dig i := ⟨h0, h1⟩
/-! ### the values -/
def nest : Nat → PyData
  | 0 => .list []
  | n + 1 => .list [nest n]
theorem sm_nest : ∀ n : Nat, Sm (n + 1) (2 + 5 * n) (nest n)
  | 0 => sm_nil
  | n + 1 => (sm_list (n := n + 1) (b := 2 + 5 * n) (ds := [nest n]) fun d h => by rw [List.mem_singleton.mp h]; exact sm_nest n).mono (Nat.le_refl _) (by show 3 + 1 * (2 + 5 * n + 2) ≤ 2 + 5 * (n + 1); omega)
theorem sm_two : ∀ r : Nat, r < 100 → Sm 0 3 (.int (r : Int)) := fun r h => by
  have : ∀ r ∈ List.range 100, (PyData.int ((r : Nat) : Int)).showable = true ∧ (PyData.int ((r : Nat) : Int)).shown.length ≤ 3 := by decide +kernel
  have := this r (List.mem_range.mpr h)
  exact ⟨this.1, Nat.zero_le _, this.2⟩
/-- such a value, its lists not the feed -/
def D1f (K : PySem.W.Frag) (f : Addr) (H : Hp) (v : V) (d : PyData) : Prop := Dq K (fun b => b ≠ f) H v d ∨ ∃ a, v = .ref a ∧ H a = some (.dK [(.inr "a", .int 1)]) ∧ d = dA
section
variable {K : PySem.W.Frag} {f : Addr} {H H' : Hp} {v : V} {d : PyData}
theorem D1f.same (s : Same H H') (h : D1f K f H v d) : D1f K f H' v d := by
  rcases h with h | ⟨a, h1, h2, h3⟩
  · exact .inl (h.over (over_same s))
  · exact .inr ⟨a, h1, s _ _ h2, h3⟩
theorem D1f.ext (hf : FeedAt H f) (s : Ext1 f H H') (h : D1f K f H v d) : D1f K f H' v d := by
  rcases h with h | ⟨a, h1, h2, h3⟩
  · exact .inl (h.over (over_ext s hf fun z => z rfl))
  · refine .inr ⟨a, h1, s.1 _ _ (fun z => ?_) h2, h3⟩
    obtain ⟨x, y, q⟩ := hf
    rw [z, q] at h2
    cases h2
theorem D1f.to (h : D1f K f H v d) : D1v K H v d := by
  rcases h with h | h
  · exact .inl (h.imp fun _ _ _ _ => trivial)
  · exact .inr h
end
theorem rep_pairs {K : PySem.W.Frag} {H : Hp} {v : V} {d : PyData} (h : D1v K H v d) : ∀ n : Nat, Paired (D1v K H) (List.replicate n v) (List.replicate n d)
  | 0 => .nil
  | n + 1 => .cons h (rep_pairs h n)
def bsD (l : List Bool) : PyData := .list (l.map .bool)
theorem lay_bs (l : List Bool) : PyData.canLay0 (bsD l) = true := layAll_map PyData.bool (fun _ => rfl) l
theorem shp_bs (l : List Bool) : SeqAt.shaped (bsD l) = true := shp (lay_bs l) (Nat.succ_le_succ (depAll_map PyData.bool (n := 0) (fun _ => Nat.le_refl _) l)) (n := 1) (by decide)
theorem dpAll_bs {K : PySem.W.Frag} {H : Hp} : ∀ l : List Bool, DpAll K H (l.map V.bl) (l.map PyData.bool)
  | [] => .nil
  | _ :: l => .cons (.bl _) (dpAll_bs l)
def kindsOf (i : Nat) : List Bool := ((List.range 11).map fun j => decide (i = j)) ++ [true, true]
structure Own3 (K : PySem.W.Frag) (mg : Str → Option Value) : Prop where
  feed : ∃ f fd, Fun K "_law_feed" "_law_feed" sFeed f fd ∧ Binds K fd ["script", "k"] [] ∧ mg "_law_feed" = some (.ref f)
  take : ∃ f fd, Fun K "_law_take" "_law_take" sTake f fd ∧ Binds K fd ["feed", "many"] [] ∧ mg "_law_take" = some (.ref f)
  pick : ∃ f fd, Fun K "_law_pick" "_law_pick" sPick f fd ∧ Binds K fd ["feed", "some"] [] ∧ mg "_law_pick" = some (.ref f)
  kinds : ∃ f fd, Fun K "_law_kinds" "_law_kinds" sKinds f fd ∧ Binds K fd ["error"] [] ∧ mg "_law_kinds" = some (.ref f)
  raised : ∃ f fd, Fun K "_law_raised" "_law_raised" sRaised f fd ∧ Binds K fd ["way", "value"] [] ∧ mg "_law_raised" = some (.ref f)
  fields : ∃ f fd, Fun K "_law_fields" "_law_fields" sFields f fd ∧ Binds K fd ["value"] [] ∧ mg "_law_fields" = some (.ref f)
section
variable {P : Program} {w : World} {K : PySem.W.Frag} {mg : Str → Option Value} {base : Heap} {RE : Addr} {cs : List Addr}
theorem scLaw : FnScope ["script", "k", "feed", "deep", "turn", "some", "value", "shown", "way", "spot"] ["script"] (defScope sLaw) := ⟨rfl, rfl, rfl, by decide +kernel, rfl, by decide +kernel, by decide +kernel⟩
theorem ok_law {f : Addr} {fd : FuncData} (F : Fun K "law" "law" sLaw f fd) (B : Bi mg) (E : Errs K mg RE cs) (O : Own3 K mg) (hb0 : ∃ o, base.get? sysModules = some o) : FnOkG P w K mg base 5 f fd ["script"] (spLaw K) := by
  obtain ⟨⟨fF, fdF, FF, bF, gF⟩, ⟨fT, fdT, FT, bT, gT⟩, ⟨fPk, fdPk, FPk, bPk, gPk⟩, ⟨fK, fdK, FK, bK, gK⟩, ⟨fR, fdR, FR, bR, gR⟩, ⟨fL, fdL, FL, bL, gL⟩⟩ := O
  have GF : FnOk P w K mg base CX0 1 fF fdF ["script", "k"] (spFeed K) := ok_feed FF B
  have GT : FnOk P w K mg base CX0 1 fT fdT ["feed", "many"] spTake := ok_take FT B
  have GP : FnOk P w K mg base CX0 2 fPk fdPk ["feed", "some"] (spPick K) := ok_pick FPk FT bT gT B
  have GK : FnOk P w K mg base CX0 1 fK fdK ["error"] (spKinds K cs) := ok_kinds FK B E
  have GR : FnOk P w K mg base CX0 3 fR fdR ["way", "value"] (spRaised cs) := ok_raised FR E
  have GL : FnOk P w K mg base CX0 3 fL fdL ["value"] spFields := ok_fields FL E
  refine okG F scLaw (fun vs H Q E h => ?_) (fun cdv A outer s H vs Q E' hgd hr h => ?_)
  · obtain ⟨a, ns, rfl, _⟩ := h
    rfl
  · obtain ⟨a, ns, rfl, hS, hlen, q⟩ := h
    have hr1 : Room 1 _ := hr.mono (by decide)
    have hr2 : Room 2 _ := hr.mono (by decide)
    have hr3 : Room 3 _ := hr.mono (by decide)
    refine ⟨_, (pss_cons (ps_for PassesOwn.never rfl (pi_range1 rfl B.range (pa_cons (pe_callB (call_max2 rfl) (by rfl) B.max (by decide +kernel) (pa_cons pe_int (pa_cons (pe_callB (call_min2 rfl) (by rfl) B.min (by decide +kernel) (pa_cons pe_int (pa_cons (pe_callB call_len_seq (by rfl) B.len PySem.boot_len (pa_cons (pv 0) pa_nil)) pa_nil))) pa_nil))) pa_nil)) (pg_name (i := 1) scLaw.nd rfl (.inl rfl))
  (pss_cons (ps_set (i := 2) scLaw.nd rfl (.inl rfl) (pe_call GF hr1 (by rfl) gF FF.kp bF .nil pass0 (pa_cons (pv 0) (pa_cons (pv 1) pa_nil))))
 (pss_cons (ps_set (i := 3) scLaw.nd rfl (.inl rfl) (pe_lst pa_nil))
 (pss_cons (ps_for PassesOwn.never rfl (pi_range1 rfl B.range (pa_cons pe_int pa_nil)) (pg_name (i := 4) scLaw.nd rfl (.inl rfl)) (pss_one (ps_set (i := 3) scLaw.nd rfl (.inl rfl) (pe_lst (pa_cons (pv 3) pa_nil)))))
 (pss_cons (ps_set (i := 5) scLaw.nd rfl (.inl rfl) (pe_lst (pa_cons pe_non (pa_cons pe_int (pa_cons (pe_un un_neg pe_int) (pa_cons pe_bl (pa_cons pe_str (pa_cons (pe_tup pa_nil) (pa_cons (pe_tup (pa_cons pe_int (pa_cons (pe_lst (pa_cons pe_int pa_nil)) pa_nil)))
    (pa_cons (pe_lst (pa_cons pe_int (pa_cons (pe_tup (pa_cons pe_int pa_nil)) pa_nil))) (pa_cons (pe_op op_pow pe_int pe_int) (pa_cons (pe_disp (pps_cons pe_str pe_int pps_nil) rfl rfl (by simp) (by simp)) (pa_cons (pv 3)
    (pa_cons (pe_call GT hr1 (by rfl) gT FT.kp bT .nil pass0 (pa_cons (pv 2) (pa_cons pe_int pa_nil))) pa_nil))))))))))))))
 (pss_cons (ps_set (i := 6) scLaw.nd rfl (.inl rfl) (pe_call GP hr2 (by rfl) gPk FPk.kp bPk .nil pass0 (pa_cons (pv 2) (pa_cons (pv 5) pa_nil))))
 (pss_cons (ps_set (i := 7) scLaw.nd rfl (.inl rfl) (pe_callB (call_rep1 hb0 hgd hr.units) (by rfl) B.repr (by decide +kernel) (pa_cons (pv 6) pa_nil)))
 (pss_cons (ps_for PassesOwn.never rfl (pi_range1 rfl B.range (pa_cons pe_int pa_nil)) (pg_name (i := 8) scLaw.nd rfl (.inr rfl))
    (pss_one (ps_if (pt_cmpR (op_neD hr.units) (pe_call GK hr1 (by rfl) gK FK.kp bK .nil pass0 (pa_cons (pe_call GR hr3 (by rfl) gR FR.kp bR .nil pass0 (pa_cons (pv 8) (pa_cons (pv 6) pa_nil))) pa_nil))
      (pe_op op_cat (pe_lc (own := [("spot", 9)]) (g := gName 9) (tt := tYes) (te := tOp rEq (tVar 8) (tVar 9)) rfl scLaw.nd (pi_range1 rfl B.range (pa_cons pe_int pa_nil)) (blkOk_by (own := [("spot", 9)]) (N := ["script", "k", "feed", "deep", "turn", "some", "value", "shown", "way", "spot"]) (sc := defScope sLaw) (by decide +kernel))
          (fun _ _ _ _ _ => pg_name (i := 9) scLaw.nd rfl (.inl rfl)) (fun _ _ _ _ _ => pts_nil) (fun _ _ _ _ _ => pe_cmpR op_eq (pv 8) (pv 9) (nomark _))) (pe_lst (pa_cons pe_bl (pa_cons pe_bl pa_nil)))) (nomark _)) (pss_one (ps_ret pe_bl)) pss_nil)))
 (pss_one (ps_if (PW.pt (pw_or (pt_cmpR op_ne (pe_callB (call_repL hb0 hgd hr.units) (by rfl) B.repr (by decide +kernel) (pa_cons (pe_call GL hr3 (by rfl) gL FL.kp bL .nil pass0 (pa_cons (pv 6) pa_nil)) pa_nil))
      (pe_callB (call_repL hb0 hgd hr.units) (by rfl) B.repr (by decide +kernel) (pa_cons (pe_op op_rep (pe_lst (pa_cons (pv 6) pa_nil)) pe_int) pa_nil)) (nomark _))
      (pw_or1 (pt_cmpR op_ne (pe_callB (call_rep1 hb0 hgd hr.units) (by rfl) B.repr (by decide +kernel) (pa_cons (pv 6) pa_nil)) (pv 7) (nomark _))))) (pss_one (ps_ret pe_bl)) pss_nil))))))))))
 (pss_one (ps_ret (pe_not (pe_callB (call_veIs trivial) (by rfl) B.isinstance (by decide +kernel) (pa_cons (pe_ve0 (by rfl) E.gV) (pa_cons (pe_glob (v := .ref RE) (by rfl) E.base.g rfl) pa_nil))))))), ?_⟩
    have one_ : 1 ≤ sizeLine := by decide
    have two : 2 ≤ sizeLine := by decide
    refine ⟨_, rfl, a, _, rfl, .inl hS, _, _, rfl, _, _, rfl, _, rfl, (by split <;> (try split) <;> omega), (by split <;> (try split) <;> omega), ?_⟩
    refine for_range (lo := 0) (fun i σ H' => ∃ y1 y2 y3 y4 y5 y6 y7 y8 : Option V, σ = [some (.ref a), y1, y2, y3, y4, y5, y6, y7, y8, none] ∧ Same H H') ⟨none, none, none, none, none, none, none, none, rfl, Same.refl H⟩ ?_ ?_
    · rintro i σ H1 hi ⟨y1, y2, y3, y4, y5, y6, y7, y8, rfl, s1⟩
      have hi3 : i < 3 := by
        refine Nat.lt_of_lt_of_le hi ?_
        split <;> (try split) <;> omega
      refine ⟨_, rfl, _, rfl, a, ns, 0 + (i : Int), rfl, s1.seq hS, hlen, by omega, by omega, fun H2 f s2 nf hf => ?_⟩
      have nf0 : H f = none := s1.free nf
      -- deep
      refine ⟨Nat.zero_le _, fun l0 nl0 => ?_⟩
      have s3 : Same H2 (upd H2 l0 (.lst [])) := sameU nl0
      have hf3 : FeedAt (upd H2 l0 (.lst [])) f := (Ext1.same hf s3).feed
      have hl0 : upd H2 l0 (.lst []) l0 = some (.lst []) := upd_same
      have fl0 : l0 ≠ f := hf.ne nl0
      generalize upd H2 l0 (.lst []) = H3 at *
      refine ⟨_, rfl, by decide, by decide, ?_⟩
      refine for_range (lo := 0) (n := (48 : Int).toNat) (fun j σ H' => ∃ (b : Addr) (y4 : Option V), σ = [some (.ref a), some (.int (0 + (i : Int))), some (.ref f), some (.ref b), y4, y5, y6, y7, y8, none] ∧ Same H3 H' ∧ Dq K (fun b => b ≠ f) H' (.ref b) (nest j)) ⟨l0, y4, rfl, Same.refl H3, .lst fl0 hl0 .nil⟩ ?_ ?_
      · rintro j σ H4 hj ⟨b, y4', rfl, s4, hd⟩
        refine ⟨_, rfl, one_, fun l nl => ?_⟩
        have s5 := sameU (o := .lst [.ref b]) nl
        exact ⟨l, _, rfl, s4.trans s5, .lst ((Ext1.same hf3 s4).feed.ne nl) upd_same (.cons (hd.over (over_same s5)) .nil)⟩
      rintro σ H4 ⟨b, y4', rfl, s4, hdeep⟩
      have hf4 := (Ext1.same hf3 s4).feed
      have s04 : Same H H4 := (s1.trans s2).trans (s3.trans s4)
      clear hf3 hl0 fl0 s3 s4
      -- some
      refine ⟨5, rfl, Nat.zero_le _, fun t0 nt0 => ⟨one_, fun l2 nl2 => ⟨two, fun t1 nt1 => ⟨one_, fun t4 nt4 => ⟨two, fun l3 nl3 => ?_⟩⟩⟩⟩⟩
      have u1 := sameU (o := .tup []) nt0
      have u2 := sameU (o := .lst [.int 2]) nl2
      have u3 := sameU (o := .tup [.int 1, .ref l2]) nt1
      have u4 := sameU (o := .tup [.int 4]) nt4
      have u5 := sameU (o := .lst [.int 3, .ref t4]) nl3
      have fl2 : l2 ≠ f := (Ext1.same hf4 u1).feed.ne nl2
      have fl3 : l3 ≠ f := (Ext1.same hf4 (u1.trans (u2.trans (u3.trans u4)))).feed.ne nl3
      have h5 := show upd _ l3 (.lst [.int 3, .ref t4]) l3 = some (.lst [.int 3, .ref t4]) from upd_same (H := upd (upd (upd (upd H4 t0 (.tup [])) l2 (.lst [.int 2])) t1 (.tup [.int 1, .ref l2])) t4 (.tup [.int 4]))
      have h4 := u5 _ _ (show upd _ t4 (.tup [.int 4]) t4 = some (.tup [.int 4]) from upd_same)
      have h3 := (u4.trans u5) _ _ (show upd _ t1 (.tup [.int 1, .ref l2]) t1 = some (.tup [.int 1, .ref l2]) from upd_same)
      have h2 := (u3.trans (u4.trans u5)) _ _ (show upd _ l2 (.lst [.int 2]) l2 = some (.lst [.int 2]) from upd_same)
      have h1 := (u2.trans (u3.trans (u4.trans u5))) _ _ (show upd _ t0 (.tup []) t0 = some (.tup []) from upd_same)
      have s5 := u1.trans (u2.trans (u3.trans (u4.trans u5)))
      clear u1 u2 u3 u4 u5 nt0 nl2 nt1 nt4 nl3
      generalize upd (upd (upd (upd (upd H4 t0 (.tup [])) l2 (.lst [.int 2])) t1 (.tup [.int 1, .ref l2])) t4 (.tup [.int 4])) l3 (.lst [.int 3, .ref t4]) = H5 at *
      have hdeep := hdeep.over (over_same s5)
      have hf5 := (Ext1.same hf4 s5).feed
      refine ⟨10, 39, rfl, rfl, ⟨by decide, by decide, by decide⟩, fun dp ndp => ⟨upd_same, [(.inr "a", .int 1)], rfl, by simp, _, rfl, ?_⟩⟩
      have s6 : Same H5 (upd (upd H5 dp (.dK [])) dp (.dK (mergeK [] [(.inr "a", .int 1)]))) := fun b o e => by
        rw [upd_ne (ne_of_none e ndp), upd_ne (ne_of_none e ndp)]
        exact e
      have h6 : upd (upd H5 dp (.dK [])) dp (.dK (mergeK [] [(.inr "a", .int 1)])) dp = some (.dK [(.inr "a", .int 1)]) := upd_same
      have h1 := s6 _ _ h1
      have h2 := s6 _ _ h2
      have h3 := s6 _ _ h3
      have h4 := s6 _ _ h4
      have h5 := s6 _ _ h5
      have hdeep := hdeep.over (over_same s6)
      have hf6 := (Ext1.same hf5 s6).feed
      have s06 := s04.trans (s5.trans s6)
      clear s5 s6 hf4 hf5 ndp s04
      generalize upd (upd H5 dp (.dK [])) dp (.dK (mergeK [] [(.inr "a", .int 1)])) = H6 at *
      have hall : ∀ r : Nat, r < 100 → ∀ v ∈ [V.non, .int 0, .int (-5), .bl true, .str "text", .ref t0, .ref t1, .ref l3, .int ((10 : Int) ^ (39 : Int).toNat), .ref dp, .ref b, .int (r : Int)], ∃ d, D1f K f H6 v d ∧ Sm 49 400 d := by
        intro r hr v hv
        simp only [List.mem_cons, List.not_mem_nil, or_false] at hv
        rcases hv with rfl | rfl | rfl | rfl | rfl | rfl | rfl | rfl | rfl | rfl | rfl | rfl
        · exact ⟨_, .inl .non, sm_non.mono (by decide) (by decide)⟩
        · exact ⟨_, .inl (.int _), (sm_two 0 (by decide)).mono (by decide) (by decide)⟩
        · exact ⟨_, .inl (.int _), ⟨by decide +kernel, by decide +kernel, by decide +kernel⟩⟩
        · exact ⟨_, .inl (.bl _), (sm_bl _).mono (by decide) (by decide)⟩
        · exact ⟨_, .inl (.str _), ⟨by decide +kernel, by decide +kernel, by decide +kernel⟩⟩
        · exact ⟨_, .inl (.tup (.inl (.inl h1)) .nil), sm_tnil.mono (by decide) (by decide)⟩
        · exact ⟨_, .inl (.tup (.inl (.inl h3)) (.cons (.int _) (.cons (.lst fl2 h2 (.cons (.int _) .nil)) .nil))), ⟨by decide +kernel, by decide +kernel, by decide +kernel⟩⟩
        · exact ⟨_, .inl (.lst fl3 h5 (.cons (.int _) (.cons (.tup (.inl (.inl h4)) (.cons (.int _) .nil)) .nil))), ⟨by decide +kernel, by decide +kernel, by decide +kernel⟩⟩
        · exact ⟨_, .inl (.int _), ⟨by decide +kernel, by decide +kernel, by decide +kernel⟩⟩
        · exact ⟨dA, .inr ⟨_, rfl, h6, rfl⟩, ⟨by decide +kernel, by decide +kernel, by decide +kernel⟩⟩
        · exact ⟨_, .inl hdeep, (sm_nest 48).mono (by decide) (by decide)⟩
        · exact ⟨_, .inl (.int _), (sm_two r hr).mono (by decide) (by decide)⟩
      refine ⟨_, rfl, f, 100, rfl, hf6, by decide, by decide, fun H7 r e7 r0 r1 => ⟨(by show 12 ≤ sizeLine; decide), fun S nS => ?_⟩⟩
      obtain ⟨r', rfl⟩ : ∃ r' : Nat, r = (r' : Int) := ⟨r.toNat, by omega⟩
      have hall := hall r' (by omega)
      have hll : ([V.non, .int 0, .int (-5), .bl true, .str "text", .ref t0, .ref t1, .ref l3, .int ((10 : Int) ^ (39 : Int).toNat), .ref dp, .ref b, .int (r' : Int)] : List V).length = 12 := rfl
      revert hall hll
      generalize ([V.non, .int 0, .int (-5), .bl true, .str "text", .ref t0, .ref t1, .ref l3, .int ((10 : Int) ^ (39 : Int).toNat), .ref dp, .ref b, .int (r' : Int)] : List V) = os
      intro hall hll
      have hf7 := e7.feed
      have s8 := sameU (o := .lst os) nS
      have fS : S ≠ f := hf7.ne nS
      have hf8 := (Ext1.same hf7 s8).feed
      refine ⟨_, rfl, _, rfl, f, S, os, rfl, hf8, .inl (.inl upd_same), fS, by omega, by omega, fun H9 v e9 hv => ?_⟩
      obtain ⟨d, hd, sm⟩ := hall v hv
      have hd := (((hd.ext hf6 e7).same s8).ext hf8 e9).to
      have s9 : Same H H9 := sameX s06 nf0 ((e7.trans (Ext1.same hf7 s8)).trans e9)
      clear hall hll h1 h2 h3 h4 h5 h6 hdeep s06 e7 e9 s8 nS
      -- shown
      have hl := Nat.le_trans sm.len (szL (show 400 ≤ 1000000 by decide))
      have hdp := Nat.le_trans sm.dep (show 49 ≤ 60 by decide)
      obtain ⟨sh, hsh⟩ : ∃ sh, PyData.shown d = sh := ⟨_, rfl⟩
      refine ⟨_, rfl, v, d, rfl, hd, sm.can, hdp, hl, ?_⟩
      rw [hsh]
      -- the ways
      refine ⟨_, rfl, by decide, by decide, ?_⟩
      refine for_range (lo := 0) (n := (11 : Int).toNat) (fun j σ H' => ∃ y8 : Option V, σ = [some (.ref a), some (.int (0 + (i : Int))), some (.ref f), some (.ref b), y4', some (.ref S), some v, some (.str sh), y8, none] ∧ Same H9 H') ⟨y8, rfl, Same.refl H9⟩ ?_ ?_
      · rintro j σ Ha hj ⟨y8', rfl, sa⟩
        have hj11 : j < 11 := hj
        have ek : (kindsOf j).map V.bl = ((List.range 11).map fun k => V.bl (decide (j = k))) ++ [.bl true, .bl true] := by
          unfold kindsOf
          rw [List.map_append, List.map_map]
          rfl
        refine ⟨_, rfl, _, rfl, j, v, (by rw [Int.zero_add]; rfl), hj11, fun Hb ee D sb hD he => ⟨ee, D, j, rfl, hD, he, fun Hc p sc np hp => ⟨_, rfl, by decide, by decide, fun Ld nLd => ?_⟩⟩⟩
        refine lc_range (lo := 0) (n := (11 : Int).toNat) (fun m H' => Same Hc H' ∧ H' Ld = some (.lst ((List.range m).map fun k => V.bl (decide (j = k))))) ⟨sameU nLd, upd_same⟩ ?_ ?_
        · rintro m Hd hm ⟨sd, hL⟩
          have hm11 : m < 11 := hm
          refine ⟨rfl, ?_⟩
          dsimp only [tYes]
          refine iteT ⟨_, rfl, _, rfl, rfl, _, hL, szl (by rw [List.length_map, List.length_range]; omega), same_own sd nLd, ?_⟩
          have eb : decide (V.int (0 + (j : Int)) = V.int (0 + (m : Int))) = decide (j = m) := by
            refine decide_eq_decide.mpr ⟨fun h => ?_, fun h => by rw [h]⟩
            injection h with h
            omega
          rw [upd_same, List.range_succ, List.map_append, eb]
          rfl
        rintro Hd ⟨sd, hL⟩
        replace hL : Hd Ld = some (.lst ((List.range 11).map fun k => V.bl (decide (j = k)))) := hL
        refine ⟨two, fun m2 nm2 => ?_⟩
        have t1 := sameU (o := .lst [.bl true, .bl true]) nm2
        refine ⟨Ld, m2, _, _, rfl, rfl, t1 _ _ hL, upd_same, szL (by rw [List.length_map, List.length_range]; decide), fun c nc => ?_⟩
        have t2 := t1.trans (sameU (o := .lst (((List.range 11).map fun k => V.bl (decide (j = k))) ++ [.bl true, .bl true])) nc)
        refine ⟨bsD (kindsOf j), bsD (kindsOf j), .lst (xs := (kindsOf j).map V.bl) (.inl (.inl (t2 _ _ (sd _ _ (by rw [ek]; exact hp))))) (dpAll_bs _), .lst (xs := (kindsOf j).map V.bl) (.inl (.inl (by rw [ek]; exact upd_same))) (dpAll_bs _), shp_bs _, shp_bs _, _, rfl, ?_⟩
        rw [SeqAt.eqv_refl _ (lay_bs _)]
        exact iteF ⟨_, rfl, sa.trans (sb.trans (sc.trans (sd.trans t2)))⟩
      rintro σ Ha ⟨y8', rfl, sa⟩
      have hda := hd.same sa
      have sm18 : Sm 50 8000 (.list (List.replicate 18 d)) := (sm_list (n := 49) (b := 400) fun z hz => by rw [(List.mem_replicate.mp hz).2]; exact sm).mono (by decide) (by rw [List.length_replicate]; decide)
      have l18 := Nat.le_trans sm18.len (szL (show 8000 ≤ 1000000 by decide))
      have d18 := Nat.le_trans sm18.dep (show 50 ≤ 60 by decide)
      refine ⟨_, rfl, v, rfl, fun Hb p sb hp => ⟨p, List.replicate 18 v, List.replicate 18 d, rfl, hp, rep_pairs (hda.same sb) 18, sm18.can, d18, l18, ?_⟩⟩
      refine ⟨_, rfl, one_, fun l1 nl1 => ⟨l1, 18, [v], rfl, rfl, upd_same, by decide, by decide, (by show 1 * 18 ≤ sizeLine; decide), fun p2 np2 => ?_⟩⟩
      have t1 := (sameU (o := .lst [v]) nl1).trans (sameU (o := .lst (List.replicate (18 : Int).toNat [v]).flatten) np2)
      refine ⟨p2, List.replicate 18 v, List.replicate 18 d, rfl, upd_same, rep_pairs ((hda.same sb).same t1) 18, sm18.can, d18, l18, rfl, _, rfl, ?_⟩
      show (if (!decide (V.str (PyData.shown (.list (List.replicate 18 d))) = V.str (PyData.shown (.list (List.replicate 18 d))))) = true then _ else _)
      refine iteNS rfl ?_
      refine ⟨_, rfl, v, d, rfl, (hda.same sb).same t1, sm.can, hdp, hl, ?_⟩
      rw [hsh]
      refine ⟨_, rfl, rfl, _, rfl, ?_⟩
      show (if (!decide (V.str sh = V.str sh)) = true then _ else _)
      exact iteNS rfl ⟨_, _, _, _, _, _, _, _, rfl, s9.trans (sa.trans (sb.trans t1))⟩
    · rintro σ H1 ⟨y1, y2, y3, y4, y5, y6, y7, y8, rfl, s1⟩
      exact fun x nx => ⟨x, .none, .ref RE, .ref RE, false, rfl, upd_same, fun _ h => h, E.ve, false, rfl, q _⟩
end
end Ew
namespace Ew
open PySem PySem.Spec PyProof.Rows L2
section
variable {P : Program} {w : World} {K : PySem.W.Frag} {mg mb : Str → Option Value} {k : Nat} {fa a : Addr} {fd : FuncData} {x : Str} {sp : Sp} {s₁ : Shared} {vs : List Value} {ns : List Int}
/-- the law's call from an abstract heap that tracks at most the script -/
theorem call_from2 {H : Hp} (KX : K.In s₁.heap) (hns : s₁.heap.Ns mainGlobals mg) (hb : s₁.heap.Ns builtinsNs mb) (hbb : ∀ x : Str, x ≠ "__name__" → mb x = bootBuiltins x) (hlim : s₁.heap.NoLimit) (hg : s₁.gens = #[])
    (hr : Room k callerA) (hmods : ∃ o es ep, s₁.heap.get? sysModules = some o ∧ o.data = .dict es ep) (F : ∀ base : Heap, K.In base → base.Ns mainGlobals mg → (∃ o, base.get? sysModules = some o) → FnOkG P w K mg base k fa fd [x] sp) (hbind : ∀ (s : Shared) (u : Value), BindsTo s fd ⟨[u], []⟩ [(x, u)])
    (hsp : sp [.ref a] H (fun v _ => v = .bl true) fun _ _ _ => False) (hok : HOk P w H s₁.heap) (dicts : ∀ b o es ep, s₁.heap.get? b = some o → o.data = .dict es ep → H b = none) (kept : ∀ b o, K.lookup b = some o → H b = none)
    (frz : ∀ b u, H b = some u → ∃ o xs, u = .frz o (.lst xs)) :
    codeAny (model P w) callerA (.call (.ref fa) ⟨[.ref a], []⟩) (fun r s' => r = .ok (.ret (.bool true)) ∧ OldK s₁.heap s'.heap ∧ s'.os = s₁.os ∧ AllBare s'.gens) s₁ := by
  have nsB : ∀ {b : Addr} {m : Str → Option Value}, s₁.heap.Ns b m → (hidT s₁.heap H).Ns b m := by
    rintro b m ⟨o, es, ep, e, d, r⟩
    exact ⟨o, es, ep, hidT_get e (dicts _ _ _ _ e d), d, r⟩
  have inB : K.In (hidT s₁.heap H) := fun b o e => hidT_get (KX b o e) (kept b o e)
  have hM : Mod K mg (hidT s₁.heap H) := ⟨inB, nsB hns, ⟨mb, nsB hb, hbb⟩, let ⟨mc, h1, h2⟩ := hlim; ⟨mc, nsB h1, h2⟩⟩
  have noFr : ∀ b ∈ frs ([] : List Env), H b = none := fun b z => absurd (show b ∈ ([] : List Addr) from z) (by simp)
  have e0 : Env0 P w K mg (hidT s₁.heap H) callerA [] s₁ H := ⟨rfl, hM, fun b o e => of_hidT e, Nat.le_of_eq (hidT_size _ _), trivial, noFr, hok, .of_eq hg⟩
  refine codeAny_mono ((F _ inB (nsB hns) (let ⟨o, es, ep, e, d⟩ := hmods; ⟨o, hidT_get e (dicts _ _ _ _ e d)⟩)).run callerA [] s₁ H ⟨[.ref a], []⟩ [.ref a] [.ref a] _ _ rfl hr e0 (hbind s₁ (.ref a)) (.cons rfl .nil) hsp) fun r s' h => ?_
  cases r with
  | error e => exact False.elim h
  | ok fl =>
    cases fl with
    | next => exact False.elim h
    | brk => exact False.elim h
    | cont => exact False.elim h
    | ret u =>
      obtain ⟨v, H', os, bare, un, hok', r', q⟩ := h
      obtain rfl : v = .bl true := q
      obtain rfl : u = Value.bool true := r'
      refine ⟨rfl, OldK.of_keep fun b o e => ?_, os, bare⟩
      cases hb2 : H b with
      | none => exact un.keep b o e hb2 (fun z => absurd (show b ∈ ([] : List Addr) from z) (by simp)) (by simp)
      | some u =>
        obtain ⟨ob, xs, rfl⟩ := frz b u hb2
        obtain ⟨e1, _⟩ := hok b _ hb2
        obtain ⟨e2, _⟩ := hok' b _ (un.frzs b ob _ hb2)
        exact e2.trans (e1.symm.trans e)
end
/-- the end of a law whose def asks that no repr is under way -/
theorem walk_ofG2 {l : PySem.W.OpenLaw} {n k : Nat} {q : Program} {loose : List Str} {XP : (Str → Option Value) → Heap → Prop} {YP : World → Heap → Prop} {d : DefRec} {K : Params → PySem.W.Frag} {sp : World → Sp} {x : Str}
    (hn : l.most = some n) (hn2 : n ≤ sizeLine) (hdf : d.params.defaults = []) (hr : Room k callerA) (hq : importsNone q = true)
    (hY : ∀ (w : World) (h : Heap), YP w h → (K w.params).In h)
    (F : ∀ (w : World) (mg : Str → Option Value) (fa : Addr) (h : Heap), (K w.params).In h → h.Ns mainGlobals mg → mg d.name = some (.ref fa) →
      ∃ fd : FuncData, (∀ (s : Shared) (u : Value), BindsTo s fd ⟨[u], []⟩ [(x, u)]) ∧
        ∀ base : Heap, (K w.params).In base → base.Ns mainGlobals mg → (∃ o, base.get? sysModules = some o) → FnOkG l.prog w (K w.params) mg base k fa fd [x] (sp w))
    (hsp : ∀ (w : World) (H : Hp) (a : Addr) (ns : List Int), ns.length ≤ n → SqL (K w.params) H a (ns.map V.int) → sp w [.ref a] H (fun v _ => v = .bl true) fun _ _ _ => False) :
    PySem.W.WalkO q loose XP YP l.row.toRowW d [] (fun f vs => PySem.call f vs) := by
  refine Att.attach_call hn hdf fun w s₀ s₁ mg mb fa o pm cd doc a vs ns G Y ho hd hcd hmg hobj hints hlen hg => ?_
  have KX := hY w _ Y
  have hmods : ∃ o es ep, s₁.heap.get? sysModules = some o ∧ o.data = .dict es ep := by
    obtain ⟨mm, ⟨o, es, ep, e, dd, _⟩, _⟩ := (G.T.seer hq).mods
    exact ⟨o, es, ep, e, dd⟩
  obtain ⟨fd, hb, hF⟩ := F w mg fa _ KX G.T.g hmg
  have rv := vals_ints hints
  have ls : (ns.map V.int).length ≤ sizeLine := by rw [List.length_map]; exact Nat.le_trans hlen hn2
  cases hk : (K w.params).lookup a with
  | some o =>
    -- the script is one of the module's own objects
    have e := KX a o hk
    rw [hobj] at e
    cases e
    have none_ : ∀ b, (fun _ => none : Hp) b = none := fun _ => rfl
    refine call_from2 (H := fun _ => none) KX G.T.g G.T.b G.T.builtins G.T.nolimit hg hr hmods hF hb (hsp w _ a ns hlen (.inr ⟨_, vs.toArray, _, hk, rfl, rfl, rfl, ?_, by simpa using rv⟩)) (fun b u z => by cases z) (fun _ _ _ _ _ _ => rfl) (fun _ _ _ => rfl) (fun b u z => by cases z)
    rw [List.size_toArray, ← rv.length]
    exact ls
  | none =>
    refine call_from2 (H := only a { cls := .type "list", data := .seq vs.toArray } (ns.map V.int)) KX G.T.g G.T.b G.T.builtins G.T.nolimit hg hr hmods hF hb (hsp w _ a ns hlen (.inl (.inr ⟨_, only_at⟩))) (fun b u z => ?_) (fun b ob es ep e d => ?_) (fun b ob e => ?_) (fun b u z => ⟨_, _, (only_is z).2⟩)
    · obtain ⟨rfl, rfl⟩ := only_is z
      exact ⟨hobj, ls, vs, _, rv, hobj⟩
    · refine only_ne fun z => ?_
      rw [z, hobj] at e
      cases e
      cases (show Data.seq vs.toArray _ = Data.dict es ep from d)
    · refine only_ne fun z => ?_
      rw [z, hk] at e
      cases e
end Ew
namespace Ew
open PySem PySem.Spec PyProof.Rows L2
set_option maxHeartbeats 0 in
theorem all_mk {l : PySem.W.OpenLaw} {w : World} {K : PySem.W.Frag} {h : Heap} {mg : Str → Option Value} {fa : Addr} (X : K.In h) (G : h.Ns mainGlobals mg) (hfa : mg "law" = some (.ref fa))
    {f1 : Addr} {od1 an1 : Option Addr} {sl1 : Array (Option Value)} {oc1 kV1 dc1 pm1 cd1 ct1 : Value}
    {f2 : Addr} {od2 an2 : Option Addr} {sl2 : Array (Option Value)} {oc2 kV2 dc2 pm2 cd2 ct2 : Value}
    {f3 : Addr} {od3 an3 : Option Addr} {sl3 : Array (Option Value)} {oc3 kV3 dc3 pm3 cd3 ct3 : Value}
    {f4 : Addr} {od4 an4 : Option Addr} {sl4 : Array (Option Value)} {oc4 kV4 dc4 pm4 cd4 ct4 : Value}
    {f5 : Addr} {od5 an5 : Option Addr} {sl5 : Array (Option Value)} {oc5 kV5 dc5 pm5 cd5 ct5 : Value}
    {f6 : Addr} {od6 an6 : Option Addr} {sl6 : Array (Option Value)} {oc6 kV6 dc6 pm6 cd6 ct6 : Value}
    {f7 : Addr} {od7 an7 : Option Addr} {sl7 : Array (Option Value)} {oc7 kV7 dc7 pm7 cd7 ct7 : Value}
    {RE : Addr}
    {C0 : Addr} {nm0 q0 : Str} {N0 : Addr} {bs0 sub0 : List Value} {sn0 : List Str} {ab0 : Bool} {col0 : Option Bool} {dd0 : Option Addr} {m00 m10 m20 m30 m50 : Option Value}
    {fi0 : Addr} {odi0 ani0 : Option Addr} {sli0 : Array (Option Value)} {oci0 kVi0 dci0 pmi0 cdi0 cti0 : Value}
    {C1 : Addr} {nm1 q1 : Str} {N1 : Addr} {bs1 sub1 : List Value} {sn1 : List Str} {ab1 : Bool} {col1 : Option Bool} {dd1 : Option Addr} {m01 m11 m21 m31 m51 : Option Value}
    {fi1 : Addr} {odi1 ani1 : Option Addr} {sli1 : Array (Option Value)} {oci1 kVi1 dci1 pmi1 cdi1 cti1 : Value}
    {C2 : Addr} {nm2 q2 : Str} {N2 : Addr} {bs2 sub2 : List Value} {sn2 : List Str} {ab2 : Bool} {col2 : Option Bool} {dd2 : Option Addr} {m02 m12 m22 m32 m52 : Option Value}
    {fi2 : Addr} {odi2 ani2 : Option Addr} {sli2 : Array (Option Value)} {oci2 kVi2 dci2 pmi2 cdi2 cti2 : Value}
    {C3 : Addr} {nm3 q3 : Str} {N3 : Addr} {bs3 sub3 : List Value} {sn3 : List Str} {ab3 : Bool} {col3 : Option Bool} {dd3 : Option Addr} {m03 m13 m23 m33 m53 : Option Value}
    {fi3 : Addr} {odi3 ani3 : Option Addr} {sli3 : Array (Option Value)} {oci3 kVi3 dci3 pmi3 cdi3 cti3 : Value}
    {C4 : Addr} {nm4 q4 : Str} {N4 : Addr} {bs4 sub4 : List Value} {sn4 : List Str} {ab4 : Bool} {col4 : Option Bool} {dd4 : Option Addr} {m04 m14 m24 m34 m54 : Option Value}
    {fi4 : Addr} {odi4 ani4 : Option Addr} {sli4 : Array (Option Value)} {oci4 kVi4 dci4 pmi4 cdi4 cti4 : Value}
    {C5 : Addr} {nm5 q5 : Str} {N5 : Addr} {bs5 sub5 : List Value} {sn5 : List Str} {ab5 : Bool} {col5 : Option Bool} {dd5 : Option Addr} {m05 m15 m25 m35 m55 : Option Value}
    {fi5 : Addr} {odi5 ani5 : Option Addr} {sli5 : Array (Option Value)} {oci5 kVi5 dci5 pmi5 cdi5 cti5 : Value}
    {C6 : Addr} {nm6 q6 : Str} {N6 : Addr} {bs6 sub6 : List Value} {sn6 : List Str} {ab6 : Bool} {col6 : Option Bool} {dd6 : Option Addr} {m06 m16 m26 m36 m56 : Option Value}
    {fi6 : Addr} {odi6 ani6 : Option Addr} {sli6 : Array (Option Value)} {oci6 kVi6 dci6 pmi6 cdi6 cti6 : Value}
    {C7 : Addr} {nm7 q7 : Str} {N7 : Addr} {bs7 sub7 : List Value} {sn7 : List Str} {ab7 : Bool} {col7 : Option Bool} {dd7 : Option Addr} {m07 m17 m27 m37 m57 : Option Value}
    {fi7 : Addr} {odi7 ani7 : Option Addr} {sli7 : Array (Option Value)} {oci7 kVi7 dci7 pmi7 cdi7 cti7 : Value}
    {C8 : Addr} {nm8 q8 : Str} {N8 : Addr} {bs8 sub8 : List Value} {sn8 : List Str} {ab8 : Bool} {col8 : Option Bool} {dd8 : Option Addr} {m08 m18 m28 m38 m58 : Option Value}
    {fi8 : Addr} {odi8 ani8 : Option Addr} {sli8 : Array (Option Value)} {oci8 kVi8 dci8 pmi8 cdi8 cti8 : Value}
    {C9 : Addr} {nm9 q9 : Str} {N9 : Addr} {bs9 sub9 : List Value} {sn9 : List Str} {ab9 : Bool} {col9 : Option Bool} {dd9 : Option Addr} {m09 m19 m29 m39 m59 : Option Value}
    {fi9 : Addr} {odi9 ani9 : Option Addr} {sli9 : Array (Option Value)} {oci9 kVi9 dci9 pmi9 cdi9 cti9 : Value}
    {C10 : Addr} {nm10 q10 : Str} {N10 : Addr} {bs10 sub10 : List Value} {sn10 : List Str} {ab10 : Bool} {col10 : Option Bool} {dd10 : Option Addr} {m010 m110 m210 m310 m510 : Option Value}
    {fi10 : Addr} {odi10 ani10 : Option Addr} {sli10 : Array (Option Value)} {oci10 kVi10 dci10 pmi10 cdi10 cti10 : Value}
    (a1 : PySem.W.nsIn K mainGlobals "_law_feed" = some (some (.ref f1)))
    (l1 : K.lookup f1 = some ⟨oc1, od1, .func (PySem.W.fnOf "_law_feed" "_law_feed" (defArgs sFeed) (defBody sFeed) (defScope sFeed) .none kV1 dc1 pm1 an1 cd1 ct1), sl1⟩)
    (c1 : PySem.W.codeIn K cd1 "_law_feed" = true)
    (k1 : PySem.W.keepIn K (.ref f1) = true)
    (a2 : PySem.W.nsIn K mainGlobals "_law_take" = some (some (.ref f2)))
    (l2 : K.lookup f2 = some ⟨oc2, od2, .func (PySem.W.fnOf "_law_take" "_law_take" (defArgs sTake) (defBody sTake) (defScope sTake) .none kV2 dc2 pm2 an2 cd2 ct2), sl2⟩)
    (c2 : PySem.W.codeIn K cd2 "_law_take" = true)
    (k2 : PySem.W.keepIn K (.ref f2) = true)
    (a3 : PySem.W.nsIn K mainGlobals "_law_pick" = some (some (.ref f3)))
    (l3 : K.lookup f3 = some ⟨oc3, od3, .func (PySem.W.fnOf "_law_pick" "_law_pick" (defArgs sPick) (defBody sPick) (defScope sPick) .none kV3 dc3 pm3 an3 cd3 ct3), sl3⟩)
    (c3 : PySem.W.codeIn K cd3 "_law_pick" = true)
    (k3 : PySem.W.keepIn K (.ref f3) = true)
    (a4 : PySem.W.nsIn K mainGlobals "_law_kinds" = some (some (.ref f4)))
    (l4 : K.lookup f4 = some ⟨oc4, od4, .func (PySem.W.fnOf "_law_kinds" "_law_kinds" (defArgs sKinds) (defBody sKinds) (defScope sKinds) .none kV4 dc4 pm4 an4 cd4 ct4), sl4⟩)
    (c4 : PySem.W.codeIn K cd4 "_law_kinds" = true)
    (k4 : PySem.W.keepIn K (.ref f4) = true)
    (a5 : PySem.W.nsIn K mainGlobals "_law_raised" = some (some (.ref f5)))
    (l5 : K.lookup f5 = some ⟨oc5, od5, .func (PySem.W.fnOf "_law_raised" "_law_raised" (defArgs sRaised) (defBody sRaised) (defScope sRaised) .none kV5 dc5 pm5 an5 cd5 ct5), sl5⟩)
    (c5 : PySem.W.codeIn K cd5 "_law_raised" = true)
    (k5 : PySem.W.keepIn K (.ref f5) = true)
    (a6 : PySem.W.nsIn K mainGlobals "_law_fields" = some (some (.ref f6)))
    (l6 : K.lookup f6 = some ⟨oc6, od6, .func (PySem.W.fnOf "_law_fields" "_law_fields" (defArgs sFields) (defBody sFields) (defScope sFields) .none kV6 dc6 pm6 an6 cd6 ct6), sl6⟩)
    (c6 : PySem.W.codeIn K cd6 "_law_fields" = true)
    (k6 : PySem.W.keepIn K (.ref f6) = true)
    (a7 : PySem.W.nsIn K mainGlobals "law" = some (some (.ref f7)))
    (l7 : K.lookup f7 = some ⟨oc7, od7, .func (PySem.W.fnOf "law" "law" (defArgs sLaw) (defBody sLaw) (defScope sLaw) .none kV7 dc7 pm7 an7 cd7 ct7), sl7⟩)
    (c7 : PySem.W.codeIn K cd7 "law" = true)
    (k7 : PySem.W.keepIn K (.ref f7) = true)
    (aR : PySem.W.nsIn K mainGlobals "ReadError" = some (some (.ref RE)))
    (rg : PySem.W.specialIn K (.ref RE) "__getattribute__" = some (some (.builtin "type.__getattribute__")))
    (rr : PySem.W.readsIn K RE (.type "type") = true)
    (rf : PySem.W.findCls K (.ref RE) (.type "type") "__init__" = some (.val (.builtin "ValueError.__init__")))
    (rb : PySem.W.subIn K (.ref RE) (.type "BaseException") = some true)
    (rh : PySem.W.hasDictIn K RE = true)
    (rt : PySem.W.typeIn K (.ref RE) = some (.type "type"))
    (hn : PySem.W.specialIn K (.builtin "object.__class__") "__get__" = some (some (.builtin "getset_descriptor.__get__")))
    (ht : PySem.W.takesIn K (.builtin "object.__class__") = some true)
    (A0 : PySem.W.nsIn K mainGlobals "BadBook" = some (some (.ref C0)))
    (X0 : K.lookup C0 = some (excClassObj nm0 q0 C0 N0 bs0 [.ref RE, .type "ValueError", .type "Exception", .type "BaseException", .type "object"] true sn0 sub0 ab0 col0 dd0 m00 m10 m20 m30 m50 "ValueError.__new__"))
    (S0 : PySem.W.findIn K (.ref C0) "__setattr__" = some (some (.builtin "object.__setattr__")))
    (B0 : PySem.W.subIn K (.ref C0) (.type "BaseException") = some true)
    (T0 : PySem.W.typeIn K (.ref C0) = some (.type "type"))
    (K0 : PySem.W.keepIn K (.ref C0) = true)
    (I0 : PySem.W.findIn K (.ref C0) "__init__" = some (some (.ref fi0)))
    (F0 : PySem.W.typeIn K (.ref fi0) = some (.type "function"))
    (li0 : K.lookup fi0 = some ⟨oci0, odi0, .func (PySem.W.fnOf "__init__" "BadBook.__init__" (defArgs sBadBook) (defBody sBadBook) (defScope sBadBook) .none kVi0 dci0 pmi0 ani0 cdi0 cti0), sli0⟩)
    (ci0 : PySem.W.codeIn K cdi0 "BadBook.__init__" = true)
    (ki0 : PySem.W.keepIn K (.ref fi0) = true)
    (P0 : PySem.W.findIn K (.ref C0) "place" = some none)
    (G0 : PySem.W.findIn K (.ref C0) "__getattribute__" = some (some (.builtin "BaseException.__getattribute__")))
    (gat0 : PySem.W.findIn K (.ref C0) "__getattr__" = some none)
    (H0 : PySem.W.hasDictIn K C0 = true)
    (E0 : PySem.W.subIn K (.ref C0) (.ref RE) = some true)
    (h0 : PySem.W.findIn K (.ref C0) "__class__" = some (some (.builtin "object.__class__")))
    (M0 : PySem.W.mroIn K C0 (.type "object") = some true)
    (A1 : PySem.W.nsIn K mainGlobals "NoDropping" = some (some (.ref C1)))
    (X1 : K.lookup C1 = some (excClassObj nm1 q1 C1 N1 bs1 [.ref RE, .type "ValueError", .type "Exception", .type "BaseException", .type "object"] true sn1 sub1 ab1 col1 dd1 m01 m11 m21 m31 m51 "ValueError.__new__"))
    (S1 : PySem.W.findIn K (.ref C1) "__setattr__" = some (some (.builtin "object.__setattr__")))
    (B1 : PySem.W.subIn K (.ref C1) (.type "BaseException") = some true)
    (T1 : PySem.W.typeIn K (.ref C1) = some (.type "type"))
    (K1 : PySem.W.keepIn K (.ref C1) = true)
    (I1 : PySem.W.findIn K (.ref C1) "__init__" = some (some (.ref fi1)))
    (F1 : PySem.W.typeIn K (.ref fi1) = some (.type "function"))
    (li1 : K.lookup fi1 = some ⟨oci1, odi1, .func (PySem.W.fnOf "__init__" "NoDropping.__init__" (defArgs sNoDropping) (defBody sNoDropping) (defScope sNoDropping) .none kVi1 dci1 pmi1 ani1 cdi1 cti1), sli1⟩)
    (ci1 : PySem.W.codeIn K cdi1 "NoDropping.__init__" = true)
    (ki1 : PySem.W.keepIn K (.ref fi1) = true)
    (P1 : PySem.W.findIn K (.ref C1) "droppers" = some none)
    (G1 : PySem.W.findIn K (.ref C1) "__getattribute__" = some (some (.builtin "BaseException.__getattribute__")))
    (gat1 : PySem.W.findIn K (.ref C1) "__getattr__" = some none)
    (H1 : PySem.W.hasDictIn K C1 = true)
    (E1 : PySem.W.subIn K (.ref C1) (.ref RE) = some true)
    (h1 : PySem.W.findIn K (.ref C1) "__class__" = some (some (.builtin "object.__class__")))
    (M1 : PySem.W.mroIn K C1 (.type "object") = some true)
    (A2 : PySem.W.nsIn K mainGlobals "NoComing" = some (some (.ref C2)))
    (X2 : K.lookup C2 = some (excClassObj nm2 q2 C2 N2 bs2 [.ref RE, .type "ValueError", .type "Exception", .type "BaseException", .type "object"] true sn2 sub2 ab2 col2 dd2 m02 m12 m22 m32 m52 "ValueError.__new__"))
    (S2 : PySem.W.findIn K (.ref C2) "__setattr__" = some (some (.builtin "object.__setattr__")))
    (B2 : PySem.W.subIn K (.ref C2) (.type "BaseException") = some true)
    (T2 : PySem.W.typeIn K (.ref C2) = some (.type "type"))
    (K2 : PySem.W.keepIn K (.ref C2) = true)
    (I2 : PySem.W.findIn K (.ref C2) "__init__" = some (some (.ref fi2)))
    (F2 : PySem.W.typeIn K (.ref fi2) = some (.type "function"))
    (li2 : K.lookup fi2 = some ⟨oci2, odi2, .func (PySem.W.fnOf "__init__" "NoComing.__init__" (defArgs sNoComing) (defBody sNoComing) (defScope sNoComing) .none kVi2 dci2 pmi2 ani2 cdi2 cti2), sli2⟩)
    (ci2 : PySem.W.codeIn K cdi2 "NoComing.__init__" = true)
    (ki2 : PySem.W.keepIn K (.ref fi2) = true)
    (P2 : PySem.W.findIn K (.ref C2) "reader" = some none)
    (G2 : PySem.W.findIn K (.ref C2) "__getattribute__" = some (some (.builtin "BaseException.__getattribute__")))
    (gat2 : PySem.W.findIn K (.ref C2) "__getattr__" = some none)
    (H2 : PySem.W.hasDictIn K C2 = true)
    (E2 : PySem.W.subIn K (.ref C2) (.ref RE) = some true)
    (h2 : PySem.W.findIn K (.ref C2) "__class__" = some (some (.builtin "object.__class__")))
    (M2 : PySem.W.mroIn K C2 (.type "object") = some true)
    (A3 : PySem.W.nsIn K mainGlobals "Short" = some (some (.ref C3)))
    (X3 : K.lookup C3 = some (excClassObj nm3 q3 C3 N3 bs3 [.ref RE, .type "ValueError", .type "Exception", .type "BaseException", .type "object"] true sn3 sub3 ab3 col3 dd3 m03 m13 m23 m33 m53 "ValueError.__new__"))
    (S3 : PySem.W.findIn K (.ref C3) "__setattr__" = some (some (.builtin "object.__setattr__")))
    (B3 : PySem.W.subIn K (.ref C3) (.type "BaseException") = some true)
    (T3 : PySem.W.typeIn K (.ref C3) = some (.type "type"))
    (K3 : PySem.W.keepIn K (.ref C3) = true)
    (I3 : PySem.W.findIn K (.ref C3) "__init__" = some (some (.ref fi3)))
    (F3 : PySem.W.typeIn K (.ref fi3) = some (.type "function"))
    (li3 : K.lookup fi3 = some ⟨oci3, odi3, .func (PySem.W.fnOf "__init__" "Short.__init__" (defArgs sShort) (defBody sShort) (defScope sShort) .none kVi3 dci3 pmi3 ani3 cdi3 cti3), sli3⟩)
    (ci3 : PySem.W.codeIn K cdi3 "Short.__init__" = true)
    (ki3 : PySem.W.keepIn K (.ref fi3) = true)
    (P3 : PySem.W.findIn K (.ref C3) "works" = some none)
    (G3 : PySem.W.findIn K (.ref C3) "__getattribute__" = some (some (.builtin "BaseException.__getattribute__")))
    (gat3 : PySem.W.findIn K (.ref C3) "__getattr__" = some none)
    (H3 : PySem.W.hasDictIn K C3 = true)
    (E3 : PySem.W.subIn K (.ref C3) (.ref RE) = some true)
    (h3 : PySem.W.findIn K (.ref C3) "__class__" = some (some (.builtin "object.__class__")))
    (M3 : PySem.W.mroIn K C3 (.type "object") = some true)
    (A4 : PySem.W.nsIn K mainGlobals "TooFew" = some (some (.ref C4)))
    (X4 : K.lookup C4 = some (excClassObj nm4 q4 C4 N4 bs4 [.ref RE, .type "ValueError", .type "Exception", .type "BaseException", .type "object"] true sn4 sub4 ab4 col4 dd4 m04 m14 m24 m34 m54 "ValueError.__new__"))
    (S4 : PySem.W.findIn K (.ref C4) "__setattr__" = some (some (.builtin "object.__setattr__")))
    (B4 : PySem.W.subIn K (.ref C4) (.type "BaseException") = some true)
    (T4 : PySem.W.typeIn K (.ref C4) = some (.type "type"))
    (K4 : PySem.W.keepIn K (.ref C4) = true)
    (I4 : PySem.W.findIn K (.ref C4) "__init__" = some (some (.ref fi4)))
    (F4 : PySem.W.typeIn K (.ref fi4) = some (.type "function"))
    (li4 : K.lookup fi4 = some ⟨oci4, odi4, .func (PySem.W.fnOf "__init__" "TooFew.__init__" (defArgs sTooFew) (defBody sTooFew) (defScope sTooFew) .none kVi4 dci4 pmi4 ani4 cdi4 cti4), sli4⟩)
    (ci4 : PySem.W.codeIn K cdi4 "TooFew.__init__" = true)
    (ki4 : PySem.W.keepIn K (.ref fi4) = true)
    (P4 : PySem.W.findIn K (.ref C4) "work" = some none)
    (G4 : PySem.W.findIn K (.ref C4) "__getattribute__" = some (some (.builtin "BaseException.__getattribute__")))
    (gat4 : PySem.W.findIn K (.ref C4) "__getattr__" = some none)
    (H4 : PySem.W.hasDictIn K C4 = true)
    (E4 : PySem.W.subIn K (.ref C4) (.ref RE) = some true)
    (h4 : PySem.W.findIn K (.ref C4) "__class__" = some (some (.builtin "object.__class__")))
    (M4 : PySem.W.mroIn K C4 (.type "object") = some true)
    (A5 : PySem.W.nsIn K mainGlobals "BadDemand" = some (some (.ref C5)))
    (X5 : K.lookup C5 = some (excClassObj nm5 q5 C5 N5 bs5 [.ref RE, .type "ValueError", .type "Exception", .type "BaseException", .type "object"] true sn5 sub5 ab5 col5 dd5 m05 m15 m25 m35 m55 "ValueError.__new__"))
    (S5 : PySem.W.findIn K (.ref C5) "__setattr__" = some (some (.builtin "object.__setattr__")))
    (B5 : PySem.W.subIn K (.ref C5) (.type "BaseException") = some true)
    (T5 : PySem.W.typeIn K (.ref C5) = some (.type "type"))
    (K5 : PySem.W.keepIn K (.ref C5) = true)
    (I5 : PySem.W.findIn K (.ref C5) "__init__" = some (some (.ref fi5)))
    (F5 : PySem.W.typeIn K (.ref fi5) = some (.type "function"))
    (li5 : K.lookup fi5 = some ⟨oci5, odi5, .func (PySem.W.fnOf "__init__" "BadDemand.__init__" (defArgs sBadDemand) (defBody sBadDemand) (defScope sBadDemand) .none kVi5 dci5 pmi5 ani5 cdi5 cti5), sli5⟩)
    (ci5 : PySem.W.codeIn K cdi5 "BadDemand.__init__" = true)
    (ki5 : PySem.W.keepIn K (.ref fi5) = true)
    (P5 : PySem.W.findIn K (.ref C5) "demand" = some none)
    (G5 : PySem.W.findIn K (.ref C5) "__getattribute__" = some (some (.builtin "BaseException.__getattribute__")))
    (gat5 : PySem.W.findIn K (.ref C5) "__getattr__" = some none)
    (H5 : PySem.W.hasDictIn K C5 = true)
    (E5 : PySem.W.subIn K (.ref C5) (.ref RE) = some true)
    (h5 : PySem.W.findIn K (.ref C5) "__class__" = some (some (.builtin "object.__class__")))
    (M5 : PySem.W.mroIn K C5 (.type "object") = some true)
    (A6 : PySem.W.nsIn K mainGlobals "BadLimit" = some (some (.ref C6)))
    (X6 : K.lookup C6 = some (excClassObj nm6 q6 C6 N6 bs6 [.ref RE, .type "ValueError", .type "Exception", .type "BaseException", .type "object"] true sn6 sub6 ab6 col6 dd6 m06 m16 m26 m36 m56 "ValueError.__new__"))
    (S6 : PySem.W.findIn K (.ref C6) "__setattr__" = some (some (.builtin "object.__setattr__")))
    (B6 : PySem.W.subIn K (.ref C6) (.type "BaseException") = some true)
    (T6 : PySem.W.typeIn K (.ref C6) = some (.type "type"))
    (K6 : PySem.W.keepIn K (.ref C6) = true)
    (I6 : PySem.W.findIn K (.ref C6) "__init__" = some (some (.ref fi6)))
    (F6 : PySem.W.typeIn K (.ref fi6) = some (.type "function"))
    (li6 : K.lookup fi6 = some ⟨oci6, odi6, .func (PySem.W.fnOf "__init__" "BadLimit.__init__" (defArgs sBadLimit) (defBody sBadLimit) (defScope sBadLimit) .none kVi6 dci6 pmi6 ani6 cdi6 cti6), sli6⟩)
    (ci6 : PySem.W.codeIn K cdi6 "BadLimit.__init__" = true)
    (ki6 : PySem.W.keepIn K (.ref fi6) = true)
    (P6 : PySem.W.findIn K (.ref C6) "limit" = some none)
    (G6 : PySem.W.findIn K (.ref C6) "__getattribute__" = some (some (.builtin "BaseException.__getattribute__")))
    (gat6 : PySem.W.findIn K (.ref C6) "__getattr__" = some none)
    (H6 : PySem.W.hasDictIn K C6 = true)
    (E6 : PySem.W.subIn K (.ref C6) (.ref RE) = some true)
    (h6 : PySem.W.findIn K (.ref C6) "__class__" = some (some (.builtin "object.__class__")))
    (M6 : PySem.W.mroIn K C6 (.type "object") = some true)
    (A7 : PySem.W.nsIn K mainGlobals "NoWork" = some (some (.ref C7)))
    (X7 : K.lookup C7 = some (excClassObj nm7 q7 C7 N7 bs7 [.ref RE, .type "ValueError", .type "Exception", .type "BaseException", .type "object"] true sn7 sub7 ab7 col7 dd7 m07 m17 m27 m37 m57 "ValueError.__new__"))
    (S7 : PySem.W.findIn K (.ref C7) "__setattr__" = some (some (.builtin "object.__setattr__")))
    (B7 : PySem.W.subIn K (.ref C7) (.type "BaseException") = some true)
    (T7 : PySem.W.typeIn K (.ref C7) = some (.type "type"))
    (K7 : PySem.W.keepIn K (.ref C7) = true)
    (I7 : PySem.W.findIn K (.ref C7) "__init__" = some (some (.ref fi7)))
    (F7 : PySem.W.typeIn K (.ref fi7) = some (.type "function"))
    (li7 : K.lookup fi7 = some ⟨oci7, odi7, .func (PySem.W.fnOf "__init__" "NoWork.__init__" (defArgs sNoWork) (defBody sNoWork) (defScope sNoWork) .none kVi7 dci7 pmi7 ani7 cdi7 cti7), sli7⟩)
    (ci7 : PySem.W.codeIn K cdi7 "NoWork.__init__" = true)
    (ki7 : PySem.W.keepIn K (.ref fi7) = true)
    (P7 : PySem.W.findIn K (.ref C7) "work" = some none)
    (G7 : PySem.W.findIn K (.ref C7) "__getattribute__" = some (some (.builtin "BaseException.__getattribute__")))
    (gat7 : PySem.W.findIn K (.ref C7) "__getattr__" = some none)
    (H7 : PySem.W.hasDictIn K C7 = true)
    (E7 : PySem.W.subIn K (.ref C7) (.ref RE) = some true)
    (h7 : PySem.W.findIn K (.ref C7) "__class__" = some (some (.builtin "object.__class__")))
    (M7 : PySem.W.mroIn K C7 (.type "object") = some true)
    (A8 : PySem.W.nsIn K mainGlobals "NoReader" = some (some (.ref C8)))
    (X8 : K.lookup C8 = some (excClassObj nm8 q8 C8 N8 bs8 [.ref RE, .type "ValueError", .type "Exception", .type "BaseException", .type "object"] true sn8 sub8 ab8 col8 dd8 m08 m18 m28 m38 m58 "ValueError.__new__"))
    (S8 : PySem.W.findIn K (.ref C8) "__setattr__" = some (some (.builtin "object.__setattr__")))
    (B8 : PySem.W.subIn K (.ref C8) (.type "BaseException") = some true)
    (T8 : PySem.W.typeIn K (.ref C8) = some (.type "type"))
    (K8 : PySem.W.keepIn K (.ref C8) = true)
    (I8 : PySem.W.findIn K (.ref C8) "__init__" = some (some (.ref fi8)))
    (F8 : PySem.W.typeIn K (.ref fi8) = some (.type "function"))
    (li8 : K.lookup fi8 = some ⟨oci8, odi8, .func (PySem.W.fnOf "__init__" "NoReader.__init__" (defArgs sNoReader) (defBody sNoReader) (defScope sNoReader) .none kVi8 dci8 pmi8 ani8 cdi8 cti8), sli8⟩)
    (ci8 : PySem.W.codeIn K cdi8 "NoReader.__init__" = true)
    (ki8 : PySem.W.keepIn K (.ref fi8) = true)
    (P8 : PySem.W.findIn K (.ref C8) "reader" = some none)
    (G8 : PySem.W.findIn K (.ref C8) "__getattribute__" = some (some (.builtin "BaseException.__getattribute__")))
    (gat8 : PySem.W.findIn K (.ref C8) "__getattr__" = some none)
    (H8 : PySem.W.hasDictIn K C8 = true)
    (E8 : PySem.W.subIn K (.ref C8) (.ref RE) = some true)
    (h8 : PySem.W.findIn K (.ref C8) "__class__" = some (some (.builtin "object.__class__")))
    (M8 : PySem.W.mroIn K C8 (.type "object") = some true)
    (A9 : PySem.W.nsIn K mainGlobals "TooManyWorks" = some (some (.ref C9)))
    (X9 : K.lookup C9 = some (excClassObj nm9 q9 C9 N9 bs9 [.ref RE, .type "ValueError", .type "Exception", .type "BaseException", .type "object"] true sn9 sub9 ab9 col9 dd9 m09 m19 m29 m39 m59 "ValueError.__new__"))
    (S9 : PySem.W.findIn K (.ref C9) "__setattr__" = some (some (.builtin "object.__setattr__")))
    (B9 : PySem.W.subIn K (.ref C9) (.type "BaseException") = some true)
    (T9 : PySem.W.typeIn K (.ref C9) = some (.type "type"))
    (K9 : PySem.W.keepIn K (.ref C9) = true)
    (I9 : PySem.W.findIn K (.ref C9) "__init__" = some (some (.ref fi9)))
    (F9 : PySem.W.typeIn K (.ref fi9) = some (.type "function"))
    (li9 : K.lookup fi9 = some ⟨oci9, odi9, .func (PySem.W.fnOf "__init__" "TooManyWorks.__init__" (defArgs sTooManyWorks) (defBody sTooManyWorks) (defScope sTooManyWorks) .none kVi9 dci9 pmi9 ani9 cdi9 cti9), sli9⟩)
    (ci9 : PySem.W.codeIn K cdi9 "TooManyWorks.__init__" = true)
    (ki9 : PySem.W.keepIn K (.ref fi9) = true)
    (G9 : PySem.W.findIn K (.ref C9) "__getattribute__" = some (some (.builtin "BaseException.__getattribute__")))
    (gat9 : PySem.W.findIn K (.ref C9) "__getattr__" = some none)
    (H9 : PySem.W.hasDictIn K C9 = true)
    (E9 : PySem.W.subIn K (.ref C9) (.ref RE) = some true)
    (h9 : PySem.W.findIn K (.ref C9) "__class__" = some (some (.builtin "object.__class__")))
    (M9 : PySem.W.mroIn K C9 (.type "object") = some true)
    (A10 : PySem.W.nsIn K mainGlobals "NothingDone" = some (some (.ref C10)))
    (X10 : K.lookup C10 = some (excClassObj nm10 q10 C10 N10 bs10 [.ref RE, .type "ValueError", .type "Exception", .type "BaseException", .type "object"] true sn10 sub10 ab10 col10 dd10 m010 m110 m210 m310 m510 "ValueError.__new__"))
    (S10 : PySem.W.findIn K (.ref C10) "__setattr__" = some (some (.builtin "object.__setattr__")))
    (B10 : PySem.W.subIn K (.ref C10) (.type "BaseException") = some true)
    (T10 : PySem.W.typeIn K (.ref C10) = some (.type "type"))
    (K10 : PySem.W.keepIn K (.ref C10) = true)
    (I10 : PySem.W.findIn K (.ref C10) "__init__" = some (some (.ref fi10)))
    (F10 : PySem.W.typeIn K (.ref fi10) = some (.type "function"))
    (li10 : K.lookup fi10 = some ⟨oci10, odi10, .func (PySem.W.fnOf "__init__" "NothingDone.__init__" (defArgs sNothingDone) (defBody sNothingDone) (defScope sNothingDone) .none kVi10 dci10 pmi10 ani10 cdi10 cti10), sli10⟩)
    (ci10 : PySem.W.codeIn K cdi10 "NothingDone.__init__" = true)
    (ki10 : PySem.W.keepIn K (.ref fi10) = true)
    (G10 : PySem.W.findIn K (.ref C10) "__getattribute__" = some (some (.builtin "BaseException.__getattribute__")))
    (gat10 : PySem.W.findIn K (.ref C10) "__getattr__" = some none)
    (H10 : PySem.W.hasDictIn K C10 = true)
    (E10 : PySem.W.subIn K (.ref C10) (.ref RE) = some true)
    (h10 : PySem.W.findIn K (.ref C10) "__class__" = some (some (.builtin "object.__class__")))
    (M10 : PySem.W.mroIn K C10 (.type "object") = some true)
    (k0_0 : PySem.W.kitOne K (.ref C0) (.ref C0) = some true)
    (k0_1 : PySem.W.kitOne K (.ref C0) (.ref C1) = some false)
    (k0_2 : PySem.W.kitOne K (.ref C0) (.ref C2) = some false)
    (k0_3 : PySem.W.kitOne K (.ref C0) (.ref C3) = some false)
    (k0_4 : PySem.W.kitOne K (.ref C0) (.ref C4) = some false)
    (k0_5 : PySem.W.kitOne K (.ref C0) (.ref C5) = some false)
    (k0_6 : PySem.W.kitOne K (.ref C0) (.ref C6) = some false)
    (k0_7 : PySem.W.kitOne K (.ref C0) (.ref C7) = some false)
    (k0_8 : PySem.W.kitOne K (.ref C0) (.ref C8) = some false)
    (k0_9 : PySem.W.kitOne K (.ref C0) (.ref C9) = some false)
    (k0_10 : PySem.W.kitOne K (.ref C0) (.ref C10) = some false)
    (kR0 : PySem.W.kitOne K (.ref C0) (.ref RE) = some true)
    (kV0_ : PySem.W.kitOne K (.ref C0) (.type "ValueError") = some true)
    (k1_0 : PySem.W.kitOne K (.ref C1) (.ref C0) = some false)
    (k1_1 : PySem.W.kitOne K (.ref C1) (.ref C1) = some true)
    (k1_2 : PySem.W.kitOne K (.ref C1) (.ref C2) = some false)
    (k1_3 : PySem.W.kitOne K (.ref C1) (.ref C3) = some false)
    (k1_4 : PySem.W.kitOne K (.ref C1) (.ref C4) = some false)
    (k1_5 : PySem.W.kitOne K (.ref C1) (.ref C5) = some false)
    (k1_6 : PySem.W.kitOne K (.ref C1) (.ref C6) = some false)
    (k1_7 : PySem.W.kitOne K (.ref C1) (.ref C7) = some false)
    (k1_8 : PySem.W.kitOne K (.ref C1) (.ref C8) = some false)
    (k1_9 : PySem.W.kitOne K (.ref C1) (.ref C9) = some false)
    (k1_10 : PySem.W.kitOne K (.ref C1) (.ref C10) = some false)
    (kR1 : PySem.W.kitOne K (.ref C1) (.ref RE) = some true)
    (kV1_ : PySem.W.kitOne K (.ref C1) (.type "ValueError") = some true)
    (k2_0 : PySem.W.kitOne K (.ref C2) (.ref C0) = some false)
    (k2_1 : PySem.W.kitOne K (.ref C2) (.ref C1) = some false)
    (k2_2 : PySem.W.kitOne K (.ref C2) (.ref C2) = some true)
    (k2_3 : PySem.W.kitOne K (.ref C2) (.ref C3) = some false)
    (k2_4 : PySem.W.kitOne K (.ref C2) (.ref C4) = some false)
    (k2_5 : PySem.W.kitOne K (.ref C2) (.ref C5) = some false)
    (k2_6 : PySem.W.kitOne K (.ref C2) (.ref C6) = some false)
    (k2_7 : PySem.W.kitOne K (.ref C2) (.ref C7) = some false)
    (k2_8 : PySem.W.kitOne K (.ref C2) (.ref C8) = some false)
    (k2_9 : PySem.W.kitOne K (.ref C2) (.ref C9) = some false)
    (k2_10 : PySem.W.kitOne K (.ref C2) (.ref C10) = some false)
    (kR2 : PySem.W.kitOne K (.ref C2) (.ref RE) = some true)
    (kV2_ : PySem.W.kitOne K (.ref C2) (.type "ValueError") = some true)
    (k3_0 : PySem.W.kitOne K (.ref C3) (.ref C0) = some false)
    (k3_1 : PySem.W.kitOne K (.ref C3) (.ref C1) = some false)
    (k3_2 : PySem.W.kitOne K (.ref C3) (.ref C2) = some false)
    (k3_3 : PySem.W.kitOne K (.ref C3) (.ref C3) = some true)
    (k3_4 : PySem.W.kitOne K (.ref C3) (.ref C4) = some false)
    (k3_5 : PySem.W.kitOne K (.ref C3) (.ref C5) = some false)
    (k3_6 : PySem.W.kitOne K (.ref C3) (.ref C6) = some false)
    (k3_7 : PySem.W.kitOne K (.ref C3) (.ref C7) = some false)
    (k3_8 : PySem.W.kitOne K (.ref C3) (.ref C8) = some false)
    (k3_9 : PySem.W.kitOne K (.ref C3) (.ref C9) = some false)
    (k3_10 : PySem.W.kitOne K (.ref C3) (.ref C10) = some false)
    (kR3 : PySem.W.kitOne K (.ref C3) (.ref RE) = some true)
    (kV3_ : PySem.W.kitOne K (.ref C3) (.type "ValueError") = some true)
    (k4_0 : PySem.W.kitOne K (.ref C4) (.ref C0) = some false)
    (k4_1 : PySem.W.kitOne K (.ref C4) (.ref C1) = some false)
    (k4_2 : PySem.W.kitOne K (.ref C4) (.ref C2) = some false)
    (k4_3 : PySem.W.kitOne K (.ref C4) (.ref C3) = some false)
    (k4_4 : PySem.W.kitOne K (.ref C4) (.ref C4) = some true)
    (k4_5 : PySem.W.kitOne K (.ref C4) (.ref C5) = some false)
    (k4_6 : PySem.W.kitOne K (.ref C4) (.ref C6) = some false)
    (k4_7 : PySem.W.kitOne K (.ref C4) (.ref C7) = some false)
    (k4_8 : PySem.W.kitOne K (.ref C4) (.ref C8) = some false)
    (k4_9 : PySem.W.kitOne K (.ref C4) (.ref C9) = some false)
    (k4_10 : PySem.W.kitOne K (.ref C4) (.ref C10) = some false)
    (kR4 : PySem.W.kitOne K (.ref C4) (.ref RE) = some true)
    (kV4_ : PySem.W.kitOne K (.ref C4) (.type "ValueError") = some true)
    (k5_0 : PySem.W.kitOne K (.ref C5) (.ref C0) = some false)
    (k5_1 : PySem.W.kitOne K (.ref C5) (.ref C1) = some false)
    (k5_2 : PySem.W.kitOne K (.ref C5) (.ref C2) = some false)
    (k5_3 : PySem.W.kitOne K (.ref C5) (.ref C3) = some false)
    (k5_4 : PySem.W.kitOne K (.ref C5) (.ref C4) = some false)
    (k5_5 : PySem.W.kitOne K (.ref C5) (.ref C5) = some true)
    (k5_6 : PySem.W.kitOne K (.ref C5) (.ref C6) = some false)
    (k5_7 : PySem.W.kitOne K (.ref C5) (.ref C7) = some false)
    (k5_8 : PySem.W.kitOne K (.ref C5) (.ref C8) = some false)
    (k5_9 : PySem.W.kitOne K (.ref C5) (.ref C9) = some false)
    (k5_10 : PySem.W.kitOne K (.ref C5) (.ref C10) = some false)
    (kR5 : PySem.W.kitOne K (.ref C5) (.ref RE) = some true)
    (kV5_ : PySem.W.kitOne K (.ref C5) (.type "ValueError") = some true)
    (k6_0 : PySem.W.kitOne K (.ref C6) (.ref C0) = some false)
    (k6_1 : PySem.W.kitOne K (.ref C6) (.ref C1) = some false)
    (k6_2 : PySem.W.kitOne K (.ref C6) (.ref C2) = some false)
    (k6_3 : PySem.W.kitOne K (.ref C6) (.ref C3) = some false)
    (k6_4 : PySem.W.kitOne K (.ref C6) (.ref C4) = some false)
    (k6_5 : PySem.W.kitOne K (.ref C6) (.ref C5) = some false)
    (k6_6 : PySem.W.kitOne K (.ref C6) (.ref C6) = some true)
    (k6_7 : PySem.W.kitOne K (.ref C6) (.ref C7) = some false)
    (k6_8 : PySem.W.kitOne K (.ref C6) (.ref C8) = some false)
    (k6_9 : PySem.W.kitOne K (.ref C6) (.ref C9) = some false)
    (k6_10 : PySem.W.kitOne K (.ref C6) (.ref C10) = some false)
    (kR6 : PySem.W.kitOne K (.ref C6) (.ref RE) = some true)
    (kV6_ : PySem.W.kitOne K (.ref C6) (.type "ValueError") = some true)
    (k7_0 : PySem.W.kitOne K (.ref C7) (.ref C0) = some false)
    (k7_1 : PySem.W.kitOne K (.ref C7) (.ref C1) = some false)
    (k7_2 : PySem.W.kitOne K (.ref C7) (.ref C2) = some false)
    (k7_3 : PySem.W.kitOne K (.ref C7) (.ref C3) = some false)
    (k7_4 : PySem.W.kitOne K (.ref C7) (.ref C4) = some false)
    (k7_5 : PySem.W.kitOne K (.ref C7) (.ref C5) = some false)
    (k7_6 : PySem.W.kitOne K (.ref C7) (.ref C6) = some false)
    (k7_7 : PySem.W.kitOne K (.ref C7) (.ref C7) = some true)
    (k7_8 : PySem.W.kitOne K (.ref C7) (.ref C8) = some false)
    (k7_9 : PySem.W.kitOne K (.ref C7) (.ref C9) = some false)
    (k7_10 : PySem.W.kitOne K (.ref C7) (.ref C10) = some false)
    (kR7 : PySem.W.kitOne K (.ref C7) (.ref RE) = some true)
    (kV7_ : PySem.W.kitOne K (.ref C7) (.type "ValueError") = some true)
    (k8_0 : PySem.W.kitOne K (.ref C8) (.ref C0) = some false)
    (k8_1 : PySem.W.kitOne K (.ref C8) (.ref C1) = some false)
    (k8_2 : PySem.W.kitOne K (.ref C8) (.ref C2) = some false)
    (k8_3 : PySem.W.kitOne K (.ref C8) (.ref C3) = some false)
    (k8_4 : PySem.W.kitOne K (.ref C8) (.ref C4) = some false)
    (k8_5 : PySem.W.kitOne K (.ref C8) (.ref C5) = some false)
    (k8_6 : PySem.W.kitOne K (.ref C8) (.ref C6) = some false)
    (k8_7 : PySem.W.kitOne K (.ref C8) (.ref C7) = some false)
    (k8_8 : PySem.W.kitOne K (.ref C8) (.ref C8) = some true)
    (k8_9 : PySem.W.kitOne K (.ref C8) (.ref C9) = some false)
    (k8_10 : PySem.W.kitOne K (.ref C8) (.ref C10) = some false)
    (kR8 : PySem.W.kitOne K (.ref C8) (.ref RE) = some true)
    (kV8_ : PySem.W.kitOne K (.ref C8) (.type "ValueError") = some true)
    (k9_0 : PySem.W.kitOne K (.ref C9) (.ref C0) = some false)
    (k9_1 : PySem.W.kitOne K (.ref C9) (.ref C1) = some false)
    (k9_2 : PySem.W.kitOne K (.ref C9) (.ref C2) = some false)
    (k9_3 : PySem.W.kitOne K (.ref C9) (.ref C3) = some false)
    (k9_4 : PySem.W.kitOne K (.ref C9) (.ref C4) = some false)
    (k9_5 : PySem.W.kitOne K (.ref C9) (.ref C5) = some false)
    (k9_6 : PySem.W.kitOne K (.ref C9) (.ref C6) = some false)
    (k9_7 : PySem.W.kitOne K (.ref C9) (.ref C7) = some false)
    (k9_8 : PySem.W.kitOne K (.ref C9) (.ref C8) = some false)
    (k9_9 : PySem.W.kitOne K (.ref C9) (.ref C9) = some true)
    (k9_10 : PySem.W.kitOne K (.ref C9) (.ref C10) = some false)
    (kR9 : PySem.W.kitOne K (.ref C9) (.ref RE) = some true)
    (kV9_ : PySem.W.kitOne K (.ref C9) (.type "ValueError") = some true)
    (k10_0 : PySem.W.kitOne K (.ref C10) (.ref C0) = some false)
    (k10_1 : PySem.W.kitOne K (.ref C10) (.ref C1) = some false)
    (k10_2 : PySem.W.kitOne K (.ref C10) (.ref C2) = some false)
    (k10_3 : PySem.W.kitOne K (.ref C10) (.ref C3) = some false)
    (k10_4 : PySem.W.kitOne K (.ref C10) (.ref C4) = some false)
    (k10_5 : PySem.W.kitOne K (.ref C10) (.ref C5) = some false)
    (k10_6 : PySem.W.kitOne K (.ref C10) (.ref C6) = some false)
    (k10_7 : PySem.W.kitOne K (.ref C10) (.ref C7) = some false)
    (k10_8 : PySem.W.kitOne K (.ref C10) (.ref C8) = some false)
    (k10_9 : PySem.W.kitOne K (.ref C10) (.ref C9) = some false)
    (k10_10 : PySem.W.kitOne K (.ref C10) (.ref C10) = some true)
    (kR10 : PySem.W.kitOne K (.ref C10) (.ref RE) = some true)
    (kV10_ : PySem.W.kitOne K (.ref C10) (.type "ValueError") = some true)
    (ve : PySem.W.kitOne K (.type "ValueError") (.ref RE) = some false)
    (zV : PySem.W.nsIn K mainGlobals "ValueError" = some none)
    (z0 : PySem.W.nsIn K mainGlobals "len" = some none)
    (z1 : PySem.W.nsIn K mainGlobals "range" = some none)
    (z2 : PySem.W.nsIn K mainGlobals "list" = some none)
    (z3 : PySem.W.nsIn K mainGlobals "tuple" = some none)
    (z4 : PySem.W.nsIn K mainGlobals "int" = some none)
    (z5 : PySem.W.nsIn K mainGlobals "bool" = some none)
    (z6 : PySem.W.nsIn K mainGlobals "abs" = some none)
    (z7 : PySem.W.nsIn K mainGlobals "max" = some none)
    (z8 : PySem.W.nsIn K mainGlobals "min" = some none)
    (z9 : PySem.W.nsIn K mainGlobals "sorted" = some none)
    (z10 : PySem.W.nsIn K mainGlobals "enumerate" = some none)
    (z11 : PySem.W.nsIn K mainGlobals "isinstance" = some none)
    (z12 : PySem.W.nsIn K mainGlobals "all" = some none)
    (z13 : PySem.W.nsIn K mainGlobals "sum" = some none)
    (z14 : PySem.W.nsIn K mainGlobals "zip" = some none)
    (z15 : PySem.W.nsIn K mainGlobals "repr" = some none) :
    ∃ fd : FuncData, (∀ (s : Shared) (v : Value), BindsTo s fd ⟨[v], []⟩ [("script", v)]) ∧ ∀ base : Heap, K.In base → base.Ns mainGlobals mg → (∃ o, base.get? sysModules = some o) → FnOkG l.prog w K mg base 5 fa fd ["script"] (spLaw K) := by
  have e := hfa.symm.trans (PySem.W.mg_of X G a7)
  cases e
  have F1_ := fun_mk (st := sFeed) l1 c1 k1
  have b1_ := F1_.binds (ps := ["script", "k"]) fun _ _ _ _ _ _ us hl => match us, hl with | [_, _], _ => rfl
  have F2_ := fun_mk (st := sTake) l2 c2 k2
  have b2_ := F2_.binds (ps := ["feed", "many"]) fun _ _ _ _ _ _ us hl => match us, hl with | [_, _], _ => rfl
  have F3_ := fun_mk (st := sPick) l3 c3 k3
  have b3_ := F3_.binds (ps := ["feed", "some"]) fun _ _ _ _ _ _ us hl => match us, hl with | [_, _], _ => rfl
  have F4_ := fun_mk (st := sKinds) l4 c4 k4
  have b4_ := F4_.binds (ps := ["error"]) fun _ _ _ _ _ _ us hl => match us, hl with | [_], _ => rfl
  have F5_ := fun_mk (st := sRaised) l5 c5 k5
  have b5_ := F5_.binds (ps := ["way", "value"]) fun _ _ _ _ _ _ us hl => match us, hl with | [_, _], _ => rfl
  have F6_ := fun_mk (st := sFields) l6 c6 k6
  have b6_ := F6_.binds (ps := ["value"]) fun _ _ _ _ _ _ us hl => match us, hl with | [_], _ => rfl
  have F7_ := fun_mk (st := sLaw) l7 c7 k7
  have b7_ := F7_.binds (ps := ["script"]) fun _ _ _ _ _ _ us hl => match us, hl with | [_], _ => rfl
  have Fi0_ := fun_mk (st := sBadBook) li0 ci0 ki0
  have bi0_ := Fi0_.binds (ps := ["self", "place"]) fun _ _ _ _ _ _ us hl => match us, hl with | [_, _], _ => rfl
  have Fi1_ := fun_mk (st := sNoDropping) li1 ci1 ki1
  have bi1_ := Fi1_.binds (ps := ["self", "droppers"]) fun _ _ _ _ _ _ us hl => match us, hl with | [_, _], _ => rfl
  have Fi2_ := fun_mk (st := sNoComing) li2 ci2 ki2
  have bi2_ := Fi2_.binds (ps := ["self", "reader"]) fun _ _ _ _ _ _ us hl => match us, hl with | [_, _], _ => rfl
  have Fi3_ := fun_mk (st := sShort) li3 ci3 ki3
  have bi3_ := Fi3_.binds (ps := ["self", "works"]) fun _ _ _ _ _ _ us hl => match us, hl with | [_, _], _ => rfl
  have Fi4_ := fun_mk (st := sTooFew) li4 ci4 ki4
  have bi4_ := Fi4_.binds (ps := ["self", "work"]) fun _ _ _ _ _ _ us hl => match us, hl with | [_, _], _ => rfl
  have Fi5_ := fun_mk (st := sBadDemand) li5 ci5 ki5
  have bi5_ := Fi5_.binds (ps := ["self", "demand"]) fun _ _ _ _ _ _ us hl => match us, hl with | [_, _], _ => rfl
  have Fi6_ := fun_mk (st := sBadLimit) li6 ci6 ki6
  have bi6_ := Fi6_.binds (ps := ["self", "limit"]) fun _ _ _ _ _ _ us hl => match us, hl with | [_, _], _ => rfl
  have Fi7_ := fun_mk (st := sNoWork) li7 ci7 ki7
  have bi7_ := Fi7_.binds (ps := ["self", "work"]) fun _ _ _ _ _ _ us hl => match us, hl with | [_, _], _ => rfl
  have Fi8_ := fun_mk (st := sNoReader) li8 ci8 ki8
  have bi8_ := Fi8_.binds (ps := ["self", "reader"]) fun _ _ _ _ _ _ us hl => match us, hl with | [_, _], _ => rfl
  have Fi9_ := fun_mk (st := sTooManyWorks) li9 ci9 ki9
  have bi9_ := Fi9_.binds (ps := ["self"]) fun _ _ _ _ _ _ us hl => match us, hl with | [_], _ => rfl
  have Fi10_ := fun_mk (st := sNothingDone) li10 ci10 ki10
  have bi10_ := Fi10_.binds (ps := ["self"]) fun _ _ _ _ _ _ us hl => match us, hl with | [_], _ => rfl
  have B : Bi mg := ⟨PySem.W.mg_none_of X G z0, PySem.W.mg_none_of X G z1, PySem.W.mg_none_of X G z2, PySem.W.mg_none_of X G z3, PySem.W.mg_none_of X G z4, PySem.W.mg_none_of X G z5, PySem.W.mg_none_of X G z6, PySem.W.mg_none_of X G z7, PySem.W.mg_none_of X G z8, PySem.W.mg_none_of X G z9, PySem.W.mg_none_of X G z10, PySem.W.mg_none_of X G z11, PySem.W.mg_none_of X G z12, PySem.W.mg_none_of X G z13, PySem.W.mg_none_of X G z14, PySem.W.mg_none_of X G z15⟩
  have D0 : Cl1 K mg RE C0 "BadBook" "BadBook.__init__" "place" sBadBook := ⟨⟨⟨⟨_, _, _, _, _, _, _, _, _, _, _, _, _, _, _, X0, (show PySem.HandSPX.refsVE [.type "ValueError", .type "Exception", .type "BaseException", .type "object"] = true by decide +kernel)⟩, S0, B0, T0, K0⟩, PySem.W.mg_of X G A0, PySem.W.exm_ref rb rh rt E0, ⟨G0, gat0, B0, H0, h0, hn, ht, M0⟩⟩, ⟨_, _, Fi0_, bi0_, ⟨fun s us ws Y l1 l2 => match us, ws, l1, l2 with | [_], [_], _, _ => .of_eq rfl, fun r1 r2 => r1.append r2⟩, I0, F0⟩, P0, ⟨G0, gat0, B0, H0⟩⟩
  have D1 : Cl1 K mg RE C1 "NoDropping" "NoDropping.__init__" "droppers" sNoDropping := ⟨⟨⟨⟨_, _, _, _, _, _, _, _, _, _, _, _, _, _, _, X1, (show PySem.HandSPX.refsVE [.type "ValueError", .type "Exception", .type "BaseException", .type "object"] = true by decide +kernel)⟩, S1, B1, T1, K1⟩, PySem.W.mg_of X G A1, PySem.W.exm_ref rb rh rt E1, ⟨G1, gat1, B1, H1, h1, hn, ht, M1⟩⟩, ⟨_, _, Fi1_, bi1_, ⟨fun s us ws Y l1 l2 => match us, ws, l1, l2 with | [_], [_], _, _ => .of_eq rfl, fun r1 r2 => r1.append r2⟩, I1, F1⟩, P1, ⟨G1, gat1, B1, H1⟩⟩
  have D2 : Cl1 K mg RE C2 "NoComing" "NoComing.__init__" "reader" sNoComing := ⟨⟨⟨⟨_, _, _, _, _, _, _, _, _, _, _, _, _, _, _, X2, (show PySem.HandSPX.refsVE [.type "ValueError", .type "Exception", .type "BaseException", .type "object"] = true by decide +kernel)⟩, S2, B2, T2, K2⟩, PySem.W.mg_of X G A2, PySem.W.exm_ref rb rh rt E2, ⟨G2, gat2, B2, H2, h2, hn, ht, M2⟩⟩, ⟨_, _, Fi2_, bi2_, ⟨fun s us ws Y l1 l2 => match us, ws, l1, l2 with | [_], [_], _, _ => .of_eq rfl, fun r1 r2 => r1.append r2⟩, I2, F2⟩, P2, ⟨G2, gat2, B2, H2⟩⟩
  have D3 : Cl1 K mg RE C3 "Short" "Short.__init__" "works" sShort := ⟨⟨⟨⟨_, _, _, _, _, _, _, _, _, _, _, _, _, _, _, X3, (show PySem.HandSPX.refsVE [.type "ValueError", .type "Exception", .type "BaseException", .type "object"] = true by decide +kernel)⟩, S3, B3, T3, K3⟩, PySem.W.mg_of X G A3, PySem.W.exm_ref rb rh rt E3, ⟨G3, gat3, B3, H3, h3, hn, ht, M3⟩⟩, ⟨_, _, Fi3_, bi3_, ⟨fun s us ws Y l1 l2 => match us, ws, l1, l2 with | [_], [_], _, _ => .of_eq rfl, fun r1 r2 => r1.append r2⟩, I3, F3⟩, P3, ⟨G3, gat3, B3, H3⟩⟩
  have D4 : Cl1 K mg RE C4 "TooFew" "TooFew.__init__" "work" sTooFew := ⟨⟨⟨⟨_, _, _, _, _, _, _, _, _, _, _, _, _, _, _, X4, (show PySem.HandSPX.refsVE [.type "ValueError", .type "Exception", .type "BaseException", .type "object"] = true by decide +kernel)⟩, S4, B4, T4, K4⟩, PySem.W.mg_of X G A4, PySem.W.exm_ref rb rh rt E4, ⟨G4, gat4, B4, H4, h4, hn, ht, M4⟩⟩, ⟨_, _, Fi4_, bi4_, ⟨fun s us ws Y l1 l2 => match us, ws, l1, l2 with | [_], [_], _, _ => .of_eq rfl, fun r1 r2 => r1.append r2⟩, I4, F4⟩, P4, ⟨G4, gat4, B4, H4⟩⟩
  have D5 : Cl1 K mg RE C5 "BadDemand" "BadDemand.__init__" "demand" sBadDemand := ⟨⟨⟨⟨_, _, _, _, _, _, _, _, _, _, _, _, _, _, _, X5, (show PySem.HandSPX.refsVE [.type "ValueError", .type "Exception", .type "BaseException", .type "object"] = true by decide +kernel)⟩, S5, B5, T5, K5⟩, PySem.W.mg_of X G A5, PySem.W.exm_ref rb rh rt E5, ⟨G5, gat5, B5, H5, h5, hn, ht, M5⟩⟩, ⟨_, _, Fi5_, bi5_, ⟨fun s us ws Y l1 l2 => match us, ws, l1, l2 with | [_], [_], _, _ => .of_eq rfl, fun r1 r2 => r1.append r2⟩, I5, F5⟩, P5, ⟨G5, gat5, B5, H5⟩⟩
  have D6 : Cl1 K mg RE C6 "BadLimit" "BadLimit.__init__" "limit" sBadLimit := ⟨⟨⟨⟨_, _, _, _, _, _, _, _, _, _, _, _, _, _, _, X6, (show PySem.HandSPX.refsVE [.type "ValueError", .type "Exception", .type "BaseException", .type "object"] = true by decide +kernel)⟩, S6, B6, T6, K6⟩, PySem.W.mg_of X G A6, PySem.W.exm_ref rb rh rt E6, ⟨G6, gat6, B6, H6, h6, hn, ht, M6⟩⟩, ⟨_, _, Fi6_, bi6_, ⟨fun s us ws Y l1 l2 => match us, ws, l1, l2 with | [_], [_], _, _ => .of_eq rfl, fun r1 r2 => r1.append r2⟩, I6, F6⟩, P6, ⟨G6, gat6, B6, H6⟩⟩
  have D7 : Cl1 K mg RE C7 "NoWork" "NoWork.__init__" "work" sNoWork := ⟨⟨⟨⟨_, _, _, _, _, _, _, _, _, _, _, _, _, _, _, X7, (show PySem.HandSPX.refsVE [.type "ValueError", .type "Exception", .type "BaseException", .type "object"] = true by decide +kernel)⟩, S7, B7, T7, K7⟩, PySem.W.mg_of X G A7, PySem.W.exm_ref rb rh rt E7, ⟨G7, gat7, B7, H7, h7, hn, ht, M7⟩⟩, ⟨_, _, Fi7_, bi7_, ⟨fun s us ws Y l1 l2 => match us, ws, l1, l2 with | [_], [_], _, _ => .of_eq rfl, fun r1 r2 => r1.append r2⟩, I7, F7⟩, P7, ⟨G7, gat7, B7, H7⟩⟩
  have D8 : Cl1 K mg RE C8 "NoReader" "NoReader.__init__" "reader" sNoReader := ⟨⟨⟨⟨_, _, _, _, _, _, _, _, _, _, _, _, _, _, _, X8, (show PySem.HandSPX.refsVE [.type "ValueError", .type "Exception", .type "BaseException", .type "object"] = true by decide +kernel)⟩, S8, B8, T8, K8⟩, PySem.W.mg_of X G A8, PySem.W.exm_ref rb rh rt E8, ⟨G8, gat8, B8, H8, h8, hn, ht, M8⟩⟩, ⟨_, _, Fi8_, bi8_, ⟨fun s us ws Y l1 l2 => match us, ws, l1, l2 with | [_], [_], _, _ => .of_eq rfl, fun r1 r2 => r1.append r2⟩, I8, F8⟩, P8, ⟨G8, gat8, B8, H8⟩⟩
  have D9 : Cl0 K mg RE C9 "TooManyWorks" "TooManyWorks.__init__" sTooManyWorks := ⟨⟨⟨⟨_, _, _, _, _, _, _, _, _, _, _, _, _, _, _, X9, (show PySem.HandSPX.refsVE [.type "ValueError", .type "Exception", .type "BaseException", .type "object"] = true by decide +kernel)⟩, S9, B9, T9, K9⟩, PySem.W.mg_of X G A9, PySem.W.exm_ref rb rh rt E9, ⟨G9, gat9, B9, H9, h9, hn, ht, M9⟩⟩, ⟨_, _, Fi9_, bi9_, I9, F9⟩⟩
  have D10 : Cl0 K mg RE C10 "NothingDone" "NothingDone.__init__" sNothingDone := ⟨⟨⟨⟨_, _, _, _, _, _, _, _, _, _, _, _, _, _, _, X10, (show PySem.HandSPX.refsVE [.type "ValueError", .type "Exception", .type "BaseException", .type "object"] = true by decide +kernel)⟩, S10, B10, T10, K10⟩, PySem.W.mg_of X G A10, PySem.W.exm_ref rb rh rt E10, ⟨G10, gat10, B10, H10, h10, hn, ht, M10⟩⟩, ⟨_, _, Fi10_, bi10_, I10, F10⟩⟩
  have R0 : ∀ (j : Nat) (D : Addr), ([C0, C1, C2, C3, C4, C5, C6, C7, C8, C9, C10] : List Addr)[j]? = some D → PySem.W.kitOne K (.ref C0) (.ref D) = some (decide (0 = j)) := fun j D h => match j, h with
    | 0, h => by cases h; exact k0_0
    | 1, h => by cases h; exact k0_1
    | 2, h => by cases h; exact k0_2
    | 3, h => by cases h; exact k0_3
    | 4, h => by cases h; exact k0_4
    | 5, h => by cases h; exact k0_5
    | 6, h => by cases h; exact k0_6
    | 7, h => by cases h; exact k0_7
    | 8, h => by cases h; exact k0_8
    | 9, h => by cases h; exact k0_9
    | 10, h => by cases h; exact k0_10
    | n + 11, h => by simp at h
  have R1 : ∀ (j : Nat) (D : Addr), ([C0, C1, C2, C3, C4, C5, C6, C7, C8, C9, C10] : List Addr)[j]? = some D → PySem.W.kitOne K (.ref C1) (.ref D) = some (decide (1 = j)) := fun j D h => match j, h with
    | 0, h => by cases h; exact k1_0
    | 1, h => by cases h; exact k1_1
    | 2, h => by cases h; exact k1_2
    | 3, h => by cases h; exact k1_3
    | 4, h => by cases h; exact k1_4
    | 5, h => by cases h; exact k1_5
    | 6, h => by cases h; exact k1_6
    | 7, h => by cases h; exact k1_7
    | 8, h => by cases h; exact k1_8
    | 9, h => by cases h; exact k1_9
    | 10, h => by cases h; exact k1_10
    | n + 11, h => by simp at h
  have R2 : ∀ (j : Nat) (D : Addr), ([C0, C1, C2, C3, C4, C5, C6, C7, C8, C9, C10] : List Addr)[j]? = some D → PySem.W.kitOne K (.ref C2) (.ref D) = some (decide (2 = j)) := fun j D h => match j, h with
    | 0, h => by cases h; exact k2_0
    | 1, h => by cases h; exact k2_1
    | 2, h => by cases h; exact k2_2
    | 3, h => by cases h; exact k2_3
    | 4, h => by cases h; exact k2_4
    | 5, h => by cases h; exact k2_5
    | 6, h => by cases h; exact k2_6
    | 7, h => by cases h; exact k2_7
    | 8, h => by cases h; exact k2_8
    | 9, h => by cases h; exact k2_9
    | 10, h => by cases h; exact k2_10
    | n + 11, h => by simp at h
  have R3 : ∀ (j : Nat) (D : Addr), ([C0, C1, C2, C3, C4, C5, C6, C7, C8, C9, C10] : List Addr)[j]? = some D → PySem.W.kitOne K (.ref C3) (.ref D) = some (decide (3 = j)) := fun j D h => match j, h with
    | 0, h => by cases h; exact k3_0
    | 1, h => by cases h; exact k3_1
    | 2, h => by cases h; exact k3_2
    | 3, h => by cases h; exact k3_3
    | 4, h => by cases h; exact k3_4
    | 5, h => by cases h; exact k3_5
    | 6, h => by cases h; exact k3_6
    | 7, h => by cases h; exact k3_7
    | 8, h => by cases h; exact k3_8
    | 9, h => by cases h; exact k3_9
    | 10, h => by cases h; exact k3_10
    | n + 11, h => by simp at h
  have R4 : ∀ (j : Nat) (D : Addr), ([C0, C1, C2, C3, C4, C5, C6, C7, C8, C9, C10] : List Addr)[j]? = some D → PySem.W.kitOne K (.ref C4) (.ref D) = some (decide (4 = j)) := fun j D h => match j, h with
    | 0, h => by cases h; exact k4_0
    | 1, h => by cases h; exact k4_1
    | 2, h => by cases h; exact k4_2
    | 3, h => by cases h; exact k4_3
    | 4, h => by cases h; exact k4_4
    | 5, h => by cases h; exact k4_5
    | 6, h => by cases h; exact k4_6
    | 7, h => by cases h; exact k4_7
    | 8, h => by cases h; exact k4_8
    | 9, h => by cases h; exact k4_9
    | 10, h => by cases h; exact k4_10
    | n + 11, h => by simp at h
  have R5 : ∀ (j : Nat) (D : Addr), ([C0, C1, C2, C3, C4, C5, C6, C7, C8, C9, C10] : List Addr)[j]? = some D → PySem.W.kitOne K (.ref C5) (.ref D) = some (decide (5 = j)) := fun j D h => match j, h with
    | 0, h => by cases h; exact k5_0
    | 1, h => by cases h; exact k5_1
    | 2, h => by cases h; exact k5_2
    | 3, h => by cases h; exact k5_3
    | 4, h => by cases h; exact k5_4
    | 5, h => by cases h; exact k5_5
    | 6, h => by cases h; exact k5_6
    | 7, h => by cases h; exact k5_7
    | 8, h => by cases h; exact k5_8
    | 9, h => by cases h; exact k5_9
    | 10, h => by cases h; exact k5_10
    | n + 11, h => by simp at h
  have R6 : ∀ (j : Nat) (D : Addr), ([C0, C1, C2, C3, C4, C5, C6, C7, C8, C9, C10] : List Addr)[j]? = some D → PySem.W.kitOne K (.ref C6) (.ref D) = some (decide (6 = j)) := fun j D h => match j, h with
    | 0, h => by cases h; exact k6_0
    | 1, h => by cases h; exact k6_1
    | 2, h => by cases h; exact k6_2
    | 3, h => by cases h; exact k6_3
    | 4, h => by cases h; exact k6_4
    | 5, h => by cases h; exact k6_5
    | 6, h => by cases h; exact k6_6
    | 7, h => by cases h; exact k6_7
    | 8, h => by cases h; exact k6_8
    | 9, h => by cases h; exact k6_9
    | 10, h => by cases h; exact k6_10
    | n + 11, h => by simp at h
  have R7 : ∀ (j : Nat) (D : Addr), ([C0, C1, C2, C3, C4, C5, C6, C7, C8, C9, C10] : List Addr)[j]? = some D → PySem.W.kitOne K (.ref C7) (.ref D) = some (decide (7 = j)) := fun j D h => match j, h with
    | 0, h => by cases h; exact k7_0
    | 1, h => by cases h; exact k7_1
    | 2, h => by cases h; exact k7_2
    | 3, h => by cases h; exact k7_3
    | 4, h => by cases h; exact k7_4
    | 5, h => by cases h; exact k7_5
    | 6, h => by cases h; exact k7_6
    | 7, h => by cases h; exact k7_7
    | 8, h => by cases h; exact k7_8
    | 9, h => by cases h; exact k7_9
    | 10, h => by cases h; exact k7_10
    | n + 11, h => by simp at h
  have R8 : ∀ (j : Nat) (D : Addr), ([C0, C1, C2, C3, C4, C5, C6, C7, C8, C9, C10] : List Addr)[j]? = some D → PySem.W.kitOne K (.ref C8) (.ref D) = some (decide (8 = j)) := fun j D h => match j, h with
    | 0, h => by cases h; exact k8_0
    | 1, h => by cases h; exact k8_1
    | 2, h => by cases h; exact k8_2
    | 3, h => by cases h; exact k8_3
    | 4, h => by cases h; exact k8_4
    | 5, h => by cases h; exact k8_5
    | 6, h => by cases h; exact k8_6
    | 7, h => by cases h; exact k8_7
    | 8, h => by cases h; exact k8_8
    | 9, h => by cases h; exact k8_9
    | 10, h => by cases h; exact k8_10
    | n + 11, h => by simp at h
  have R9 : ∀ (j : Nat) (D : Addr), ([C0, C1, C2, C3, C4, C5, C6, C7, C8, C9, C10] : List Addr)[j]? = some D → PySem.W.kitOne K (.ref C9) (.ref D) = some (decide (9 = j)) := fun j D h => match j, h with
    | 0, h => by cases h; exact k9_0
    | 1, h => by cases h; exact k9_1
    | 2, h => by cases h; exact k9_2
    | 3, h => by cases h; exact k9_3
    | 4, h => by cases h; exact k9_4
    | 5, h => by cases h; exact k9_5
    | 6, h => by cases h; exact k9_6
    | 7, h => by cases h; exact k9_7
    | 8, h => by cases h; exact k9_8
    | 9, h => by cases h; exact k9_9
    | 10, h => by cases h; exact k9_10
    | n + 11, h => by simp at h
  have R10 : ∀ (j : Nat) (D : Addr), ([C0, C1, C2, C3, C4, C5, C6, C7, C8, C9, C10] : List Addr)[j]? = some D → PySem.W.kitOne K (.ref C10) (.ref D) = some (decide (10 = j)) := fun j D h => match j, h with
    | 0, h => by cases h; exact k10_0
    | 1, h => by cases h; exact k10_1
    | 2, h => by cases h; exact k10_2
    | 3, h => by cases h; exact k10_3
    | 4, h => by cases h; exact k10_4
    | 5, h => by cases h; exact k10_5
    | 6, h => by cases h; exact k10_6
    | 7, h => by cases h; exact k10_7
    | 8, h => by cases h; exact k10_8
    | 9, h => by cases h; exact k10_9
    | 10, h => by cases h; exact k10_10
    | n + 11, h => by simp at h
  have EE : Errs K mg RE [C0, C1, C2, C3, C4, C5, C6, C7, C8, C9, C10] := ⟨⟨PySem.W.mg_of X G aR, rg, rr, rf⟩, ⟨C0, C1, C2, C3, C4, C5, C6, C7, C8, C9, C10, rfl, D0, D1, D2, D3, D4, D5, D6, D7, D8, D9, D10⟩, fun i D h => match i, h with
    | 0, h => by cases h; exact R0
    | 1, h => by cases h; exact R1
    | 2, h => by cases h; exact R2
    | 3, h => by cases h; exact R3
    | 4, h => by cases h; exact R4
    | 5, h => by cases h; exact R5
    | 6, h => by cases h; exact R6
    | 7, h => by cases h; exact R7
    | 8, h => by cases h; exact R8
    | 9, h => by cases h; exact R9
    | 10, h => by cases h; exact R10
    | n + 11, h => by simp at h
    , fun D h => by
      simp only [List.mem_cons, List.not_mem_nil, or_false] at h
      rcases h with rfl | rfl | rfl | rfl | rfl | rfl | rfl | rfl | rfl | rfl | rfl
      · exact ⟨kR0, kV0_⟩
      · exact ⟨kR1, kV1_⟩
      · exact ⟨kR2, kV2_⟩
      · exact ⟨kR3, kV3_⟩
      · exact ⟨kR4, kV4_⟩
      · exact ⟨kR5, kV5_⟩
      · exact ⟨kR6, kV6_⟩
      · exact ⟨kR7, kV7_⟩
      · exact ⟨kR8, kV8_⟩
      · exact ⟨kR9, kV9_⟩
      · exact ⟨kR10, kV10_⟩
    , PySem.W.mg_none_of X G zV, ve⟩
  have O : Own3 K mg := ⟨⟨_, _, F1_, b1_, PySem.W.mg_of X G a1⟩, ⟨_, _, F2_, b2_, PySem.W.mg_of X G a2⟩, ⟨_, _, F3_, b3_, PySem.W.mg_of X G a3⟩, ⟨_, _, F4_, b4_, PySem.W.mg_of X G a4⟩, ⟨_, _, F5_, b5_, PySem.W.mg_of X G a5⟩, ⟨_, _, F6_, b6_, PySem.W.mg_of X G a6⟩⟩
  exact ⟨PySem.W.fnOf "law" "law" (defArgs sLaw) (defBody sLaw) (defScope sLaw) .none kV7 dc7 pm7 an7 cd7 ct7, fun s v => .of_eq rfl, fun base _ _ hb => ok_law F7_ B EE O hb⟩
end Ew
open PySem PySem.W PyProof.Rows in
set_option maxRecDepth 100000 in
set_option maxHeartbeats 0 in
theorem PySem.Challenge.cw_eachworkread_k03_errors_by_hand_holds : PySem.Challenge.rw_eachworkread_k03_errors_by_hand.Holds := by
  w_on; o_law; k_head; (case hw => w_witness2)
  k_fill
  refine Ew.walk_ofG2 (l := PySem.Challenge.rw_eachworkread_k03_errors_by_hand) (n := 63) (k := 5) (x := "script") (sp := fun w => Ew.spLaw _) rfl (by decide) rfl ⟨rfl, by decide, by decide⟩ (by decide +kernel) (fun w h Y => PySem.W.kIn_of Y) ?F (fun _ _ a ns hl hS => ⟨a, ns, rfl, hS, hl, fun _ => rfl⟩)
  case F =>
    intro w mg fa h KX G hmg
    refine' Ew.all_mk KX G hmg ?a1 ?l1 ?c1 ?k1 ?a2 ?l2 ?c2 ?k2 ?a3 ?l3 ?c3 ?k3 ?a4 ?l4 ?c4 ?k4 ?a5 ?l5 ?c5 ?k5 ?a6 ?l6 ?c6 ?k6 ?a7 ?l7 ?c7 ?k7 ?aR ?rg ?rr ?rf ?rb ?rh ?rt ?hn ?ht ?A0 ?X0 ?S0 ?B0 ?T0 ?K0 ?I0 ?F0 ?li0 ?ci0 ?ki0 ?P0 ?G0 ?gat0 ?H0 ?E0 ?h0 ?M0 ?A1 ?X1 ?S1 ?B1 ?T1 ?K1 ?I1 ?F1 ?li1 ?ci1 ?ki1 ?P1 ?G1 ?gat1 ?H1 ?E1 ?h1 ?M1 ?A2 ?X2 ?S2 ?B2 ?T2 ?K2 ?I2 ?F2 ?li2 ?ci2 ?ki2 ?P2 ?G2 ?gat2 ?H2 ?E2 ?h2 ?M2 ?A3 ?X3 ?S3 ?B3 ?T3 ?K3 ?I3 ?F3 ?li3 ?ci3 ?ki3 ?P3 ?G3 ?gat3 ?H3 ?E3 ?h3 ?M3 ?A4 ?X4 ?S4 ?B4 ?T4 ?K4 ?I4 ?F4 ?li4 ?ci4 ?ki4 ?P4 ?G4 ?gat4 ?H4 ?E4 ?h4 ?M4 ?A5 ?X5 ?S5 ?B5 ?T5 ?K5 ?I5 ?F5 ?li5 ?ci5 ?ki5 ?P5 ?G5 ?gat5 ?H5 ?E5 ?h5 ?M5 ?A6 ?X6 ?S6 ?B6 ?T6 ?K6 ?I6 ?F6 ?li6 ?ci6 ?ki6 ?P6 ?G6 ?gat6 ?H6 ?E6 ?h6 ?M6 ?A7 ?X7 ?S7 ?B7 ?T7 ?K7 ?I7 ?F7 ?li7 ?ci7 ?ki7 ?P7 ?G7 ?gat7 ?H7 ?E7 ?h7 ?M7 ?A8 ?X8 ?S8 ?B8 ?T8 ?K8 ?I8 ?F8 ?li8 ?ci8 ?ki8 ?P8 ?G8 ?gat8 ?H8 ?E8 ?h8 ?M8 ?A9 ?X9 ?S9 ?B9 ?T9 ?K9 ?I9 ?F9 ?li9 ?ci9 ?ki9 ?G9 ?gat9 ?H9 ?E9 ?h9 ?M9 ?A10 ?X10 ?S10 ?B10 ?T10 ?K10 ?I10 ?F10 ?li10 ?ci10 ?ki10 ?G10 ?gat10 ?H10 ?E10 ?h10 ?M10 ?k0_0 ?k0_1 ?k0_2 ?k0_3 ?k0_4 ?k0_5 ?k0_6 ?k0_7 ?k0_8 ?k0_9 ?k0_10 ?kR0 ?kV0_ ?k1_0 ?k1_1 ?k1_2 ?k1_3 ?k1_4 ?k1_5 ?k1_6 ?k1_7 ?k1_8 ?k1_9 ?k1_10 ?kR1 ?kV1_ ?k2_0 ?k2_1 ?k2_2 ?k2_3 ?k2_4 ?k2_5 ?k2_6 ?k2_7 ?k2_8 ?k2_9 ?k2_10 ?kR2 ?kV2_ ?k3_0 ?k3_1 ?k3_2 ?k3_3 ?k3_4 ?k3_5 ?k3_6 ?k3_7 ?k3_8 ?k3_9 ?k3_10 ?kR3 ?kV3_ ?k4_0 ?k4_1 ?k4_2 ?k4_3 ?k4_4 ?k4_5 ?k4_6 ?k4_7 ?k4_8 ?k4_9 ?k4_10 ?kR4 ?kV4_ ?k5_0 ?k5_1 ?k5_2 ?k5_3 ?k5_4 ?k5_5 ?k5_6 ?k5_7 ?k5_8 ?k5_9 ?k5_10 ?kR5 ?kV5_ ?k6_0 ?k6_1 ?k6_2 ?k6_3 ?k6_4 ?k6_5 ?k6_6 ?k6_7 ?k6_8 ?k6_9 ?k6_10 ?kR6 ?kV6_ ?k7_0 ?k7_1 ?k7_2 ?k7_3 ?k7_4 ?k7_5 ?k7_6 ?k7_7 ?k7_8 ?k7_9 ?k7_10 ?kR7 ?kV7_ ?k8_0 ?k8_1 ?k8_2 ?k8_3 ?k8_4 ?k8_5 ?k8_6 ?k8_7 ?k8_8 ?k8_9 ?k8_10 ?kR8 ?kV8_ ?k9_0 ?k9_1 ?k9_2 ?k9_3 ?k9_4 ?k9_5 ?k9_6 ?k9_7 ?k9_8 ?k9_9 ?k9_10 ?kR9 ?kV9_ ?k10_0 ?k10_1 ?k10_2 ?k10_3 ?k10_4 ?k10_5 ?k10_6 ?k10_7 ?k10_8 ?k10_9 ?k10_10 ?kR10 ?kV10_ ?ve ?zV ?z0 ?z1 ?z2 ?z3 ?z4 ?z5 ?z6 ?z7 ?z8 ?z9 ?z10 ?z11 ?z12 ?z13 ?z14 ?z15
    (case a1 => first | k_is | rfl)
    (case l1 => first | k_is | rfl)
    (case c1 => first | k_is | rfl)
    (case k1 => first | k_is | rfl)
    (case a2 => first | k_is | rfl)
    (case l2 => first | k_is | rfl)
    (case c2 => first | k_is | rfl)
    (case k2 => first | k_is | rfl)
    (case a3 => first | k_is | rfl)
    (case l3 => first | k_is | rfl)
    (case c3 => first | k_is | rfl)
    (case k3 => first | k_is | rfl)
    (case a4 => first | k_is | rfl)
    (case l4 => first | k_is | rfl)
    (case c4 => first | k_is | rfl)
    (case k4 => first | k_is | rfl)
    (case a5 => first | k_is | rfl)
    (case l5 => first | k_is | rfl)
    (case c5 => first | k_is | rfl)
    (case k5 => first | k_is | rfl)
    (case a6 => first | k_is | rfl)
    (case l6 => first | k_is | rfl)
    (case c6 => first | k_is | rfl)
    (case k6 => first | k_is | rfl)
    (case a7 => first | k_is | rfl)
    (case l7 => first | k_is | rfl)
    (case c7 => first | k_is | rfl)
    (case k7 => first | k_is | rfl)
    (case aR => first | k_is | rfl)
    (case rg => first | k_is | rfl)
    (case rr => first | k_is | rfl)
    (case rf => first | k_is | rfl)
    (case rb => first | k_is | rfl)
    (case rh => first | k_is | rfl)
    (case rt => first | k_is | rfl)
    (case hn => first | k_is | rfl)
    (case ht => first | k_is | rfl)
    (case A0 => first | k_is | rfl)
    (case X0 => first | k_is | rfl)
    (case S0 => first | k_is | rfl)
    (case B0 => first | k_is | rfl)
    (case T0 => first | k_is | rfl)
    (case K0 => first | k_is | rfl)
    (case I0 => first | k_is | rfl)
    (case F0 => first | k_is | rfl)
    (case li0 => first | k_is | rfl)
    (case ci0 => first | k_is | rfl)
    (case ki0 => first | k_is | rfl)
    (case P0 => first | k_is | rfl)
    (case G0 => first | k_is | rfl)
    (case gat0 => first | k_is | rfl)
    (case H0 => first | k_is | rfl)
    (case E0 => first | k_is | rfl)
    (case h0 => first | k_is | rfl)
    (case M0 => first | k_is | rfl)
    (case A1 => first | k_is | rfl)
    (case X1 => first | k_is | rfl)
    (case S1 => first | k_is | rfl)
    (case B1 => first | k_is | rfl)
    (case T1 => first | k_is | rfl)
    (case K1 => first | k_is | rfl)
    (case I1 => first | k_is | rfl)
    (case F1 => first | k_is | rfl)
    (case li1 => first | k_is | rfl)
    (case ci1 => first | k_is | rfl)
    (case ki1 => first | k_is | rfl)
    (case P1 => first | k_is | rfl)
    (case G1 => first | k_is | rfl)
    (case gat1 => first | k_is | rfl)
    (case H1 => first | k_is | rfl)
    (case E1 => first | k_is | rfl)
    (case h1 => first | k_is | rfl)
    (case M1 => first | k_is | rfl)
    (case A2 => first | k_is | rfl)
    (case X2 => first | k_is | rfl)
    (case S2 => first | k_is | rfl)
    (case B2 => first | k_is | rfl)
    (case T2 => first | k_is | rfl)
    (case K2 => first | k_is | rfl)
    (case I2 => first | k_is | rfl)
    (case F2 => first | k_is | rfl)
    (case li2 => first | k_is | rfl)
    (case ci2 => first | k_is | rfl)
    (case ki2 => first | k_is | rfl)
    (case P2 => first | k_is | rfl)
    (case G2 => first | k_is | rfl)
    (case gat2 => first | k_is | rfl)
    (case H2 => first | k_is | rfl)
    (case E2 => first | k_is | rfl)
    (case h2 => first | k_is | rfl)
    (case M2 => first | k_is | rfl)
    (case A3 => first | k_is | rfl)
    (case X3 => first | k_is | rfl)
    (case S3 => first | k_is | rfl)
    (case B3 => first | k_is | rfl)
    (case T3 => first | k_is | rfl)
    (case K3 => first | k_is | rfl)
    (case I3 => first | k_is | rfl)
    (case F3 => first | k_is | rfl)
    (case li3 => first | k_is | rfl)
    (case ci3 => first | k_is | rfl)
    (case ki3 => first | k_is | rfl)
    (case P3 => first | k_is | rfl)
    (case G3 => first | k_is | rfl)
    (case gat3 => first | k_is | rfl)
    (case H3 => first | k_is | rfl)
    (case E3 => first | k_is | rfl)
    (case h3 => first | k_is | rfl)
    (case M3 => first | k_is | rfl)
    (case A4 => first | k_is | rfl)
    (case X4 => first | k_is | rfl)
    (case S4 => first | k_is | rfl)
    (case B4 => first | k_is | rfl)
    (case T4 => first | k_is | rfl)
    (case K4 => first | k_is | rfl)
    (case I4 => first | k_is | rfl)
    (case F4 => first | k_is | rfl)
    (case li4 => first | k_is | rfl)
    (case ci4 => first | k_is | rfl)
    (case ki4 => first | k_is | rfl)
    (case P4 => first | k_is | rfl)
    (case G4 => first | k_is | rfl)
    (case gat4 => first | k_is | rfl)
    (case H4 => first | k_is | rfl)
    (case E4 => first | k_is | rfl)
    (case h4 => first | k_is | rfl)
    (case M4 => first | k_is | rfl)
    (case A5 => first | k_is | rfl)
    (case X5 => first | k_is | rfl)
    (case S5 => first | k_is | rfl)
    (case B5 => first | k_is | rfl)
    (case T5 => first | k_is | rfl)
    (case K5 => first | k_is | rfl)
    (case I5 => first | k_is | rfl)
    (case F5 => first | k_is | rfl)
    (case li5 => first | k_is | rfl)
    (case ci5 => first | k_is | rfl)
    (case ki5 => first | k_is | rfl)
    (case P5 => first | k_is | rfl)
    (case G5 => first | k_is | rfl)
    (case gat5 => first | k_is | rfl)
    (case H5 => first | k_is | rfl)
    (case E5 => first | k_is | rfl)
    (case h5 => first | k_is | rfl)
    (case M5 => first | k_is | rfl)
    (case A6 => first | k_is | rfl)
    (case X6 => first | k_is | rfl)
    (case S6 => first | k_is | rfl)
    (case B6 => first | k_is | rfl)
    (case T6 => first | k_is | rfl)
    (case K6 => first | k_is | rfl)
    (case I6 => first | k_is | rfl)
    (case F6 => first | k_is | rfl)
    (case li6 => first | k_is | rfl)
    (case ci6 => first | k_is | rfl)
    (case ki6 => first | k_is | rfl)
    (case P6 => first | k_is | rfl)
    (case G6 => first | k_is | rfl)
    (case gat6 => first | k_is | rfl)
    (case H6 => first | k_is | rfl)
    (case E6 => first | k_is | rfl)
    (case h6 => first | k_is | rfl)
    (case M6 => first | k_is | rfl)
    (case A7 => first | k_is | rfl)
    (case X7 => first | k_is | rfl)
    (case S7 => first | k_is | rfl)
    (case B7 => first | k_is | rfl)
    (case T7 => first | k_is | rfl)
    (case K7 => first | k_is | rfl)
    (case I7 => first | k_is | rfl)
    (case F7 => first | k_is | rfl)
    (case li7 => first | k_is | rfl)
    (case ci7 => first | k_is | rfl)
    (case ki7 => first | k_is | rfl)
    (case P7 => first | k_is | rfl)
    (case G7 => first | k_is | rfl)
    (case gat7 => first | k_is | rfl)
    (case H7 => first | k_is | rfl)
    (case E7 => first | k_is | rfl)
    (case h7 => first | k_is | rfl)
    (case M7 => first | k_is | rfl)
    (case A8 => first | k_is | rfl)
    (case X8 => first | k_is | rfl)
    (case S8 => first | k_is | rfl)
    (case B8 => first | k_is | rfl)
    (case T8 => first | k_is | rfl)
    (case K8 => first | k_is | rfl)
    (case I8 => first | k_is | rfl)
    (case F8 => first | k_is | rfl)
    (case li8 => first | k_is | rfl)
    (case ci8 => first | k_is | rfl)
    (case ki8 => first | k_is | rfl)
    (case P8 => first | k_is | rfl)
    (case G8 => first | k_is | rfl)
    (case gat8 => first | k_is | rfl)
    (case H8 => first | k_is | rfl)
    (case E8 => first | k_is | rfl)
    (case h8 => first | k_is | rfl)
    (case M8 => first | k_is | rfl)
    (case A9 => first | k_is | rfl)
    (case X9 => first | k_is | rfl)
    (case S9 => first | k_is | rfl)
    (case B9 => first | k_is | rfl)
    (case T9 => first | k_is | rfl)
    (case K9 => first | k_is | rfl)
    (case I9 => first | k_is | rfl)
    (case F9 => first | k_is | rfl)
    (case li9 => first | k_is | rfl)
    (case ci9 => first | k_is | rfl)
    (case ki9 => first | k_is | rfl)
    (case G9 => first | k_is | rfl)
    (case gat9 => first | k_is | rfl)
    (case H9 => first | k_is | rfl)
    (case E9 => first | k_is | rfl)
    (case h9 => first | k_is | rfl)
    (case M9 => first | k_is | rfl)
    (case A10 => first | k_is | rfl)
    (case X10 => first | k_is | rfl)
    (case S10 => first | k_is | rfl)
    (case B10 => first | k_is | rfl)
    (case T10 => first | k_is | rfl)
    (case K10 => first | k_is | rfl)
    (case I10 => first | k_is | rfl)
    (case F10 => first | k_is | rfl)
    (case li10 => first | k_is | rfl)
    (case ci10 => first | k_is | rfl)
    (case ki10 => first | k_is | rfl)
    (case G10 => first | k_is | rfl)
    (case gat10 => first | k_is | rfl)
    (case H10 => first | k_is | rfl)
    (case E10 => first | k_is | rfl)
    (case h10 => first | k_is | rfl)
    (case M10 => first | k_is | rfl)
    (case k0_0 => kit_is)
    (case k0_1 => kit_is)
    (case k0_2 => kit_is)
    (case k0_3 => kit_is)
    (case k0_4 => kit_is)
    (case k0_5 => kit_is)
    (case k0_6 => kit_is)
    (case k0_7 => kit_is)
    (case k0_8 => kit_is)
    (case k0_9 => kit_is)
    (case k0_10 => kit_is)
    (case kR0 => kit_is)
    (case kV0_ => kit_is)
    (case k1_0 => kit_is)
    (case k1_1 => kit_is)
    (case k1_2 => kit_is)
    (case k1_3 => kit_is)
    (case k1_4 => kit_is)
    (case k1_5 => kit_is)
    (case k1_6 => kit_is)
    (case k1_7 => kit_is)
    (case k1_8 => kit_is)
    (case k1_9 => kit_is)
    (case k1_10 => kit_is)
    (case kR1 => kit_is)
    (case kV1_ => kit_is)
    (case k2_0 => kit_is)
    (case k2_1 => kit_is)
    (case k2_2 => kit_is)
    (case k2_3 => kit_is)
    (case k2_4 => kit_is)
    (case k2_5 => kit_is)
    (case k2_6 => kit_is)
    (case k2_7 => kit_is)
    (case k2_8 => kit_is)
    (case k2_9 => kit_is)
    (case k2_10 => kit_is)
    (case kR2 => kit_is)
    (case kV2_ => kit_is)
    (case k3_0 => kit_is)
    (case k3_1 => kit_is)
    (case k3_2 => kit_is)
    (case k3_3 => kit_is)
    (case k3_4 => kit_is)
    (case k3_5 => kit_is)
    (case k3_6 => kit_is)
    (case k3_7 => kit_is)
    (case k3_8 => kit_is)
    (case k3_9 => kit_is)
    (case k3_10 => kit_is)
    (case kR3 => kit_is)
    (case kV3_ => kit_is)
    (case k4_0 => kit_is)
    (case k4_1 => kit_is)
    (case k4_2 => kit_is)
    (case k4_3 => kit_is)
    (case k4_4 => kit_is)
    (case k4_5 => kit_is)
    (case k4_6 => kit_is)
    (case k4_7 => kit_is)
    (case k4_8 => kit_is)
    (case k4_9 => kit_is)
    (case k4_10 => kit_is)
    (case kR4 => kit_is)
    (case kV4_ => kit_is)
    (case k5_0 => kit_is)
    (case k5_1 => kit_is)
    (case k5_2 => kit_is)
    (case k5_3 => kit_is)
    (case k5_4 => kit_is)
    (case k5_5 => kit_is)
    (case k5_6 => kit_is)
    (case k5_7 => kit_is)
    (case k5_8 => kit_is)
    (case k5_9 => kit_is)
    (case k5_10 => kit_is)
    (case kR5 => kit_is)
    (case kV5_ => kit_is)
    (case k6_0 => kit_is)
    (case k6_1 => kit_is)
    (case k6_2 => kit_is)
    (case k6_3 => kit_is)
    (case k6_4 => kit_is)
    (case k6_5 => kit_is)
    (case k6_6 => kit_is)
    (case k6_7 => kit_is)
    (case k6_8 => kit_is)
    (case k6_9 => kit_is)
    (case k6_10 => kit_is)
    (case kR6 => kit_is)
    (case kV6_ => kit_is)
    (case k7_0 => kit_is)
    (case k7_1 => kit_is)
    (case k7_2 => kit_is)
    (case k7_3 => kit_is)
    (case k7_4 => kit_is)
    (case k7_5 => kit_is)
    (case k7_6 => kit_is)
    (case k7_7 => kit_is)
    (case k7_8 => kit_is)
    (case k7_9 => kit_is)
    (case k7_10 => kit_is)
    (case kR7 => kit_is)
    (case kV7_ => kit_is)
    (case k8_0 => kit_is)
    (case k8_1 => kit_is)
    (case k8_2 => kit_is)
    (case k8_3 => kit_is)
    (case k8_4 => kit_is)
    (case k8_5 => kit_is)
    (case k8_6 => kit_is)
    (case k8_7 => kit_is)
    (case k8_8 => kit_is)
    (case k8_9 => kit_is)
    (case k8_10 => kit_is)
    (case kR8 => kit_is)
    (case kV8_ => kit_is)
    (case k9_0 => kit_is)
    (case k9_1 => kit_is)
    (case k9_2 => kit_is)
    (case k9_3 => kit_is)
    (case k9_4 => kit_is)
    (case k9_5 => kit_is)
    (case k9_6 => kit_is)
    (case k9_7 => kit_is)
    (case k9_8 => kit_is)
    (case k9_9 => kit_is)
    (case k9_10 => kit_is)
    (case kR9 => kit_is)
    (case kV9_ => kit_is)
    (case k10_0 => kit_is)
    (case k10_1 => kit_is)
    (case k10_2 => kit_is)
    (case k10_3 => kit_is)
    (case k10_4 => kit_is)
    (case k10_5 => kit_is)
    (case k10_6 => kit_is)
    (case k10_7 => kit_is)
    (case k10_8 => kit_is)
    (case k10_9 => kit_is)
    (case k10_10 => kit_is)
    (case kR10 => kit_is)
    (case kV10_ => kit_is)
    (case ve => kit_is)
    (case zV => first | k_is | rfl)
    (case z0 => first | k_is | rfl)
    (case z1 => first | k_is | rfl)
    (case z2 => first | k_is | rfl)
    (case z3 => first | k_is | rfl)
    (case z4 => first | k_is | rfl)
    (case z5 => first | k_is | rfl)
    (case z6 => first | k_is | rfl)
    (case z7 => first | k_is | rfl)
    (case z8 => first | k_is | rfl)
    (case z9 => first | k_is | rfl)
    (case z10 => first | k_is | rfl)
    (case z11 => first | k_is | rfl)
    (case z12 => first | k_is | rfl)
    (case z13 => first | k_is | rfl)
    (case z14 => first | k_is | rfl)
    (case z15 => first | k_is | rfl)
