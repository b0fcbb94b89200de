import PyProof.Rows.All
import Wide.All
import OpenK.AllK
import Wide.FinOn
import HandS.ForMost
import HandS.Walk
import HandS.IsInst
import HandS.DictComp
import HandS.TupAny
import HandS.Finally
import HandS.More
import HandS.Codes
import PySem.Challenge.RW_flatrounds_k25_whole_pushes_done_many_ti
import KE.GoesEnum
import KE.KEqDict
import HandS.SetKeys
import HandS.Strs
import HandS.SetFor
import HandS.Gcd
import HandS.NoneIn
import HandS.Conv
import HandS.Sort
import HandS.Iter
import KE.KMathGC
import KE.KDictSum
import KE.KDictList
import HandS.WideBits
set_option Elab.async false
set_option linter.all false
set_option maxRecDepth 100000
set_option maxHeartbeats 8000000
namespace Y
open PySem PySem.Spec PyProof.Rows L2

/-- the def under the name x of the module keeps a promise -/
structure Has (P : Program) (w : World) (K : PySem.W.Frag) (mg : Str → Option Value) (base : Heap) (x : Str) (k : Nat) (ps : List Str) (sp : Sp) : Prop where
  ex : ∃ (f : Addr) (fd : FuncData), mg x = some (.ref f) ∧ FnOk P w K mg base CX0 k f fd ps sp ∧ Binds K fd ps [] ∧ PySem.W.keepIn K (.ref f) = true
section
variable {X : Cx} {k : Nat} {ps : List Str} {sp : Sp} {x : Str} {p pos : Pos} {e : Expr} {es : List Expr} {t : TA}
def tGo (sp : Sp) (t : TA) : TE := fun σ H Q => t σ H fun vs H1 => sp vs H1 Q E0
theorem Has.call (h : Has X.prog X.w X.K X.mg X.base x k ps sp) (hr : Room k X.A) (hg : Gl X x) (ha : PA X (e :: es) t) (hdb : (x == ("__debug__" : Str)) = false := by decide)
    (he : starEach (e :: es) X.env = (false, eval e X.env) :: starEach es X.env := by rfl) (hpl : (backTo pos (starEach es X.env)).any (·.1) = false := by rfl) : PE X (.Call (.Name x p) (e :: es) [] pos) (tGo sp t) := by
  obtain ⟨f, fd, hm, F, hb, hk⟩ := h.ex
  have q := pe_call (dvs := []) (p := p) (pos := pos) F hr hg hm hk hb .nil pass0 ha hdb he hpl
  refine ⟨fun pins s σ H Q I hw => q.run pins s σ H Q I ?_⟩
  have e0 : tCall sp [] E0 t = tGo sp t := by
    funext σ' H' Q'
    show (t σ' H' fun vs H1 => sp (vs ++ []) H1 Q' E0) = t σ' H' fun vs H1 => sp vs H1 Q' E0
    congr 1
    funext vs H1
    rw [List.append_nil]
  rw [e0]
  exact hw
theorem Has.call0 (h : Has X.prog X.w X.K X.mg X.base x k ps sp) (hr : Room k X.A) (hg : Gl X x) (hdb : (x == ("__debug__" : Str)) = false := by decide) : PE X (.Call (.Name x p) [] [] pos) (tGo sp tNil) := by
  obtain ⟨f, fd, hm, F, hb, hk⟩ := h.ex
  exact pe_call0 (dvs := []) F hr hg hm hk hb .nil pass0 hdb
end
theorem Has.mk' {P : Program} {w : World} {K : PySem.W.Frag} {mg : Str → Option Value} {base : Heap} {x : Str} {k : Nat} {ps : List Str} {sp : Sp} {f : Addr} {fd : FuncData} (hm : mg x = some (.ref f)) (F : FnOk P w K mg base CX0 k f fd ps sp) (b : Binds K fd ps []) (hk : PySem.W.keepIn K (.ref f) = true) :
    Has P w K mg base x k ps sp := ⟨f, fd, hm, F, b, hk⟩

/-! ### heaps -/
theorem same_upd {H : Hp} {p : Addr} {o : HO} (h : H p = none) : Same H (upd H p o) := fun b x e => by
  rw [upd_ne (ne_of_none e h)]
  exact e
/-- all that was tracked is as it was, but for what stands at the two places -/
def But (p g : Addr) (H H' : Hp) : Prop := ∀ b o, H b = some o → b ≠ p → b ≠ g → H' b = some o
theorem But.refl {p g : Addr} (H : Hp) : But p g H H := fun _ _ h _ _ => h
theorem But.trans {p g : Addr} {H H1 H2 : Hp} (a : But p g H H1) (b : But p g H1 H2) : But p g H H2 := fun c o h n m => b c o (a c o h n m) n m
theorem But.of {p g : Addr} {H H' : Hp} (s : Same H H') : But p g H H' := fun b o h _ _ => s b o h
theorem But.seq {p g : Addr} {K : PySem.W.Frag} {H H' : Hp} {a : Addr} {xs : List V} (e : But p g H H') (hp : H p ≠ none → a ≠ p) (hg : H g ≠ none → a ≠ g) (h : SqL K H a xs) : SqL K H' a xs := by
  have ne : ∀ {o}, H a = some o → a ≠ p ∧ a ≠ g := fun {o} q => ⟨fun z => hp (by rw [← z, q]; exact fun y => nomatch y) z, fun z => hg (by rw [← z, q]; exact fun y => nomatch y) z⟩
  rcases h with (h | ⟨o, h⟩) | h
  · exact .inl (.inl (e _ _ h (ne h).1 (ne h).2))
  · exact .inl (.inr ⟨o, e _ _ h (ne h).1 (ne h).2⟩)
  · exact .inr h
theorem _root_.L2.Same.tup {K : PySem.W.Frag} {H H' : Hp} {a : Addr} {xs : List V} (e : Same H H') (h : SqT K H a xs) : SqT K H' a xs := by
  rcases h with (h | ⟨o, h⟩) | h
  · exact .inl (.inl (e _ _ h))
  · exact .inl (.inr ⟨o, e _ _ h⟩)
  · exact .inr h

/-! ### numbers that are drawn -/
structure PotAt (H : Hp) (p g s : Addr) : Prop where
  ex : ∃ (gs ss : List Int) (lap q : Int), H p = some (.lst [.ref g, .ref s, .int lap, .int q]) ∧ H g = some (.lst (gs.map V.int)) ∧ H s = some (.lst (ss.map V.int)) ∧
    0 < ss.length ∧ 0 ≤ lap ∧ (∀ x ∈ gs, 0 ≤ x) ∧ (∀ x ∈ ss, 0 ≤ x) ∧ 0 ≤ q ∧ gs.length ≤ 63 ∧ ss.length ≤ 64
  pg : p ≠ g
  ps : p ≠ s
  gs : g ≠ s
theorem ixN_nat {n j : Nat} (h : j < n) : ixN n (j : Int) = some j := by
  unfold ixN
  rw [if_pos (Int.natCast_nonneg j), if_pos (by omega)]
  rfl
theorem at_mem {α : Type} {xs : List α} {i : Nat} {x : α} (h : xs[i]? = some x) : x ∈ xs := by
  obtain ⟨h1, e⟩ := List.getElem?_eq_some_iff.mp h
  rw [← e]
  exact List.getElem_mem h1
theorem map_at {α : Type} {f : α → V} {xs : List α} {i : Nat} {y : V} (h : (xs.map f)[i]? = some y) : ∃ x, xs[i]? = some x ∧ y = f x := by
  rw [List.getElem?_map] at h
  cases e : xs[i]? with
  | none => rw [e] at h; cases h
  | some x => rw [e] at h; exact ⟨x, rfl, (Option.some.inj h).symm⟩
end Y
namespace Y
open PySem PySem.Spec PyProof.Rows L2
theorem _root_.L2.Same.put {H H1 : Hp} {D : Addr} {o : HO} (s : Same H H1) (n : H D = none) : Same H (upd H1 D o) := fun b u e => by
  rw [upd_ne (ne_of_none e n)]
  exact s b u e
theorem _root_.L2.Same.freeOf {H H1 : Hp} {D : Addr} (s : Same H H1) (n : H1 D = none) : H D = none := s.free n
theorem cut_all {xs : List V} {n : Nat} (h : xs.length ≤ n) : cutV xs none (some (n : Int)) = xs := by
  unfold cutV
  rw [HT.sIx_none, show HT.sIx xs.length xs.length (some (n : Int)) = min n xs.length from HT.sIx_nat xs.length xs.length n, Nat.min_eq_right h, Nat.sub_zero, List.drop_zero, List.take_length]
theorem cut_take {xs : List V} {n : Nat} : cutV xs none (some (n : Int)) = xs.take n := by
  unfold cutV
  rw [HT.sIx_none, show HT.sIx xs.length xs.length (some (n : Int)) = min n xs.length from HT.sIx_nat xs.length xs.length n, Nat.sub_zero, List.drop_zero]
  rw [List.take_eq_take_iff]
  omega
theorem cut_drop {xs : List V} {n : Nat} : cutV xs (some (n : Int)) none = xs.drop n := by
  unfold cutV
  rw [HT.sIx_none, show HT.sIx xs.length 0 (some (n : Int)) = min n xs.length from HT.sIx_nat xs.length 0 n]
  by_cases h : n ≤ xs.length
  · rw [Nat.min_eq_left h, ← List.length_drop, List.take_length]
  · rw [Nat.min_eq_right (by omega), Nat.sub_self, List.take_zero, List.drop_eq_nil_iff.mpr (by omega)]
theorem take_next {α : Type} {xs : List α} {i : Nat} {x : α} (h : xs[i]? = some x) : xs.take (i + 1) = xs.take i ++ [x] := by
  rw [List.take_add_one, h]
  rfl
theorem big1 {n : Nat} (h : n ≤ 1000000) : n < sizeLine := Nat.lt_of_le_of_lt h (by decide)
theorem sum_nn : ∀ {l : List Int}, (∀ x ∈ l, 0 ≤ x) → 0 ≤ l.sum
  | [], _ => Int.le_refl _
  | a :: r, h => by
    have ih := sum_nn (l := r) fun x m => h x (List.mem_cons_of_mem _ m)
    have := h a List.mem_cons_self
    rw [List.sum_cons]
    omega
end Y

namespace Y
open PySem PySem.Spec PyProof.Rows L2
theorem seqI0 {n : Nat} (h : 0 < n) : seqIndex? 0 n = some 0 := by
  have q := (ixN_seq (ixN_nat (j := 0) h)).1
  exact q
def topS (i : Nat) : Stmt := PySem.Challenge.pw_flatrounds_k25_whole_pushes_done_many_ti.main.body.getD i (.Pass ⟨0, 0, 0, 0⟩)
theorem hu66 {A : Around} {k : Nat} (hr : Room k A) : A.units + 66 < cLine := by
  have := hr.un
  omega
/-- built-in names that the module does not hide -/
structure Bi (mg : Str → Option Value) : Prop where
  len : mg "len" = none
  int_ : mg "int" = none
  abs : mg "abs" = none
  sum : mg "sum" = none
  list_ : mg "list" = none
  tuple_ : mg "tuple" = none
  range : mg "range" = none
  isinstance : mg "isinstance" = none
  str_ : mg "str" = none
  bool_ : mg "bool" = none
  dict_ : mg "dict" = none
  all : mg "all" = none
  set_ : mg "set" = none
  enumerate : mg "enumerate" = none
section
variable {P : Program} {w : World} {K : PySem.W.Frag} {mg : Str → Option Value} {base : Heap}
abbrev s_l_draw : Stmt := topS 31
theorem sc_l_draw : FnScope ["_law_pot_here", "_law_many", "_law_lap", "_law_number", "_law_seed"] ["_law_pot_here", "_law_many"] (defScope s_l_draw) := ⟨rfl, rfl, rfl, by decide +kernel, rfl, by decide +kernel, by decide +kernel⟩
def spDraw : Sp := fun vs H Q _ => ∃ (p g s : Addr) (n : Int), vs = [.ref p, .int n] ∧ PotAt H p g s ∧ 1 ≤ n ∧ n < 1073741824 ∧ ∀ (r : Int) H', 0 ≤ r → r < n → PotAt H' p g s → But p g H H' → Q (.int r) H'
theorem ok_draw {f : Addr} {fd : FuncData} (F : Fun K "_law_draw" "_law_draw" s_l_draw f fd) (T : Bi mg) : FnOk P w K mg base CX0 1 f fd ["_law_pot_here", "_law_many"] spDraw := by
  refine F.ok sc_l_draw (fun vs H Q E h => ?_) (fun cdv A outer s₀ H vs Q E hr h => ?_)
  · obtain ⟨p, g, s, n, rfl, _⟩ := h
    rfl
  · obtain ⟨p, g, s, n, rfl, ⟨⟨gs, ss, lap, q, hp, hg, hs, hl, h0, hgs, hss, hq, l1, l2⟩, npg, nps, ngs⟩, n1, n2, kk⟩ := h
    refine ⟨_, (pss_cons (ps_set (i := 2) sc_l_draw.nd rfl (.inl rfl) (pe_ix ix_list (pv 0) pe_int (fun _ _ => rfl)))
 (pss_cons (ps_asg (pe_op op_add (pv 2) pe_int) (pg_sub (pv 0) pe_int set_list))
 (pss_cons (ps_if (pt_cmpR op_gt (pe_callB call_len_seq (by rfl) T.len PySem.boot_len (pa_cons (pe_ix ix_list (pv 0) pe_int (fun _ _ => rfl)) pa_nil)) pe_int (nomark _))
  (pss_cons (ps_set (i := 3) sc_l_draw.nd rfl (.inl rfl) (pe_ix ix_list (pe_ix ix_list (pv 0) pe_int (fun _ _ => rfl)) pe_int (fun _ _ => rfl)))
 (pss_cons (ps_asg (pe_op op_fdiv (pv 3) (pv 1)) (pg_sub (pe_ix ix_list (pv 0) pe_int (fun _ _ => rfl)) pe_int set_list))
 (pss_cons (ps_if (pt_cmpR op_lt (pv 3) (pv 1) (nomark _))
  (pss_one (ps_expr (pe_bm PySem.F.plainAttrs_list PySem.F.slot_list_pop PySem.F.type_list_pop mt_popAt (pe_ix ix_list (pv 0) pe_int (fun _ _ => rfl)) (pa_cons pe_int pa_nil))))
  pss_nil)
 (pss_one (ps_ret (pe_op op_mod (pe_callTy (T := "int") call_int1 (by rfl) T.int_ (by decide +kernel) (pa_cons (pv 3) pa_nil)) (pv 1)))))))
  pss_nil)
 (pss_cons (ps_set (i := 4) sc_l_draw.nd rfl (.inl rfl) (pe_op op_add (pe_op op_add (pe_op op_mul (pe_ix ix_list (pe_ix ix_list (pv 0) pe_int (fun _ _ => rfl)) (pe_op op_mod (pe_callTy (T := "int") call_int1 (by rfl) T.int_ (by decide +kernel) (pa_cons (pv 2) pa_nil)) (pe_callB call_len_seq (by rfl) T.len PySem.boot_len (pa_cons (pe_ix ix_list (pv 0) pe_int (fun _ _ => rfl)) pa_nil))) (fun _ _ => rfl)) pe_int) (pe_op op_mul pe_int (pv 2))) (pe_op op_mul (pe_ix ix_list (pv 0) pe_int (fun _ _ => rfl)) pe_int)))
 (pss_cons (ps_set (i := 3) sc_l_draw.nd rfl (.inl rfl) (pe_op op_mod (pe_callTy (T := "int") call_int1 (by rfl) T.int_ (by decide +kernel) (pa_cons (pe_op op_add (pe_op op_mul (pv 4) pe_int) pe_int) pa_nil)) pe_int))
 (pss_cons (ps_set (i := 3) sc_l_draw.nd rfl (.inl rfl) (pe_op op_mod (pe_callTy (T := "int") call_int1 (by rfl) T.int_ (by decide +kernel) (pa_cons (pe_op op_mul (pv 3) (pe_op op_add (pe_op op_fdiv (pv 3) pe_int) pe_int)) pa_nil)) pe_int))
 (pss_cons (ps_set (i := 3) sc_l_draw.nd rfl (.inl rfl) (pe_op op_mod (pe_callTy (T := "int") call_int1 (by rfl) T.int_ (by decide +kernel) (pa_cons (pe_op op_add (pe_op op_mul (pv 3) (pe_op op_add (pe_op op_fdiv (pv 3) pe_int) pe_int)) (pv 2)) pa_nil)) pe_int))
 (pss_one (ps_ret (pe_op op_mod (pe_callTy (T := "int") call_int1 (by rfl) T.int_ (by decide +kernel) (pa_cons (pe_op op_fdiv (pv 3) pe_int) pa_nil)) (pv 1))))))))))), ?_⟩
    -- lap = pot[2]; pot[2] = lap + 1
    refine ⟨_, rfl, p, _, _, _, rfl, rfl, SqL.of hp, rfl, _, rfl, _, _, rfl, rfl, _, rfl, p, _, _, 2, rfl, rfl, hp, rfl, ?_⟩
    generalize e1 : upd H p (.lst ([V.ref g, V.ref s, V.int lap, V.int q].set 2 (V.int (lap + 1)))) = H1
    have p1 : H1 p = some (.lst [V.ref g, V.ref s, V.int (lap + 1), V.int q]) := by rw [← e1]; exact upd_same
    have g1 : H1 g = some (.lst (gs.map V.int)) := by rw [← e1, upd_ne npg.symm]; exact hg
    have s1 : H1 s = some (.lst (ss.map V.int)) := by rw [← e1, upd_ne nps.symm]; exact hs
    have b1 : But p g H H1 := fun b o e n1 n2 => by rw [← e1, upd_ne n1]; exact e
    clear e1
    -- len(pot[0]) > 0
    refine ⟨_, rfl, p, _, _, _, rfl, rfl, SqL.of p1, rfl, g, _, rfl, .inl (SqL.of g1), _, _, rfl, rfl, _, rfl, ite2 (fun hc => ?_) (fun hc => ?_)⟩
    · have hlen : 0 < gs.length := by
        have z : (0 : Int) < ((gs.map V.int).length : Int) := of_decide_eq_true hc
        rw [List.length_map] at z
        omega
      obtain ⟨x, rs, rfl⟩ : ∃ x rs, gs = x :: rs := by
        cases gs with
        | nil => exact absurd hlen (Nat.lt_irrefl _)
        | cons x rs => exact ⟨x, rs, rfl⟩
      have x0 : 0 ≤ x := hgs x List.mem_cons_self
      -- number = pot[0][0]; pot[0][0] = number // many
      refine ⟨_, rfl, p, _, _, _, rfl, rfl, SqL.of p1, rfl, g, _, _, _, rfl, rfl, SqL.of g1, at_of rfl rfl, ?_⟩
      refine ⟨_, rfl, _, rfl, _, _, rfl, rfl, ⟨by omega, by omega⟩, _, rfl, p, _, _, _, rfl, rfl, SqL.of p1, rfl, g, _, _, 0, rfl, rfl, g1, ixN_nat (j := 0) (by rw [List.length_map]; exact hlen), ?_⟩
      generalize e2 : upd H1 g (.lst (((x :: rs).map V.int).set 0 (V.int (x / n)))) = H2
      have p2 : H2 p = some (.lst [V.ref g, V.ref s, V.int (lap + 1), V.int q]) := by rw [← e2, upd_ne npg]; exact p1
      have g2 : H2 g = some (.lst (((x / n) :: rs).map V.int)) := by rw [← e2, upd_same]; rfl
      have s2 : H2 s = some (.lst (ss.map V.int)) := by rw [← e2, upd_ne ngs.symm]; exact s1
      have b2 : But p g H H2 := b1.trans fun b o e _ m => by rw [← e2, upd_ne m]; exact e
      clear e2
      have y0 : 0 ≤ x / n := Int.ediv_nonneg x0 (by omega)
      have r0 : 0 ≤ x % n := Int.emod_nonneg x (by omega)
      have r1 : x % n < n := Int.emod_lt_of_pos x (by omega)
      -- if number < many: pot[0].pop(0)
      refine ⟨_, rfl, _, rfl, _, _, rfl, rfl, _, rfl, ite2 (fun hd => ?_) (fun hd => ?_)⟩
      · refine ⟨_, rfl, p, _, _, _, rfl, rfl, SqL.of p2, rfl, .inl ⟨rfl, _, SqL.of g2⟩, g, _, 0, 0, _, rfl, rfl, g2, by decide, by decide, seqI0 (by show 0 < (List.map V.int (x / n :: rs)).length; rw [List.length_map]; exact hlen), rfl, ?_⟩
        refine ⟨_, rfl, .inl ⟨_, rfl, _, rfl, _, _, rfl, rfl, (by show (0 : Int) < n; omega), ?_⟩⟩
        refine kk _ _ r0 r1 ⟨⟨rs, ss, lap + 1, q, ?_, ?_, ?_, hl, by omega, fun y hy => hgs y (List.mem_cons_of_mem _ hy), hss, hq, ?_, l2⟩, npg, nps, ngs⟩ fun b o e m1 m2 => ?_
        · rw [upd_ne npg]; exact p2
        · rw [upd_same]; rfl
        · rw [upd_ne ngs.symm]; exact s2
        · rw [List.length_cons] at l1; omega
        · rw [upd_ne m2]; exact b2 b o e m1 m2
      · refine ⟨_, rfl, .inl ⟨_, rfl, _, rfl, _, _, rfl, rfl, (by show (0 : Int) < n; omega), ?_⟩⟩
        exact kk _ _ r0 r1 ⟨⟨(x / n) :: rs, ss, lap + 1, q, p2, g2, s2, hl, by omega, fun y hy => (List.mem_cons.mp hy).elim (fun z => by rw [z]; exact y0) fun z => hgs y (List.mem_cons_of_mem _ z), hss, hq, l1, l2⟩, npg, nps, ngs⟩ b2
    · -- the seed
      have hL : (0 : Int) < ((ss.map V.int).length : Int) := by rw [List.length_map]; omega
      have m0 : 0 ≤ lap % ((ss.map V.int).length : Int) := Int.emod_nonneg _ (by omega)
      have m1 : lap % ((ss.map V.int).length : Int) < ((ss.map V.int).length : Int) := Int.emod_lt_of_pos _ hL
      obtain ⟨j, ej⟩ : ∃ j : Nat, lap % ((ss.map V.int).length : Int) = (j : Int) := ⟨_, (Int.toNat_of_nonneg m0).symm⟩
      have hj : j < ss.length := by rw [ej, List.length_map] at m1; omega
      obtain ⟨z, hz⟩ : ∃ z, ss[j]? = some z := ⟨_, List.getElem?_eq_getElem hj⟩
      have hz' : (ss.map V.int)[j]? = some (.int z) := by rw [List.getElem?_map, hz]; rfl
      refine ⟨_, rfl, p, _, _, _, rfl, rfl, SqL.of p1, rfl, _, rfl, .inl ⟨_, rfl, _, rfl, p, _, _, _, rfl, rfl, SqL.of p1, rfl, s, _, rfl, .inl (SqL.of s1), _, _, rfl, rfl, hL, s, _, _, _, rfl, rfl, SqL.of s1, at_of ej hz', ?_⟩⟩
      refine ⟨_, _, rfl, rfl, .inr (by decide), _, rfl, _, _, rfl, rfl, .inl (by decide), _, _, rfl, rfl, ?_⟩
      refine ⟨_, rfl, p, _, _, _, rfl, rfl, SqL.of p1, rfl, _, _, rfl, rfl, .inr (by decide), _, _, rfl, rfl, ?_⟩
      generalize z * 7919 + 104729 * lap + q * 31 = seed
      refine ⟨_, rfl, _, _, rfl, rfl, .inr (by decide), _, _, rfl, rfl, .inl ⟨_, rfl, _, _, rfl, rfl, (by decide : (0 : Int) < 2147483647), ?_⟩⟩
      have a0 : 0 ≤ (seed * 48271 + 11) % 2147483647 := Int.emod_nonneg _ (by decide)
      have a1 : (seed * 48271 + 11) % 2147483647 < 2147483647 := Int.emod_lt_of_pos _ (by decide)
      generalize (seed * 48271 + 11) % 2147483647 = a at a0 a1
      refine ⟨_, rfl, _, rfl, _, _, rfl, rfl, ⟨by decide, by decide⟩, _, _, rfl, rfl, _, _, rfl, rfl, .inl ⟨by omega, by omega⟩, .inl ⟨_, rfl, _, _, rfl, rfl, (by decide : (0 : Int) < 2147483629), ?_⟩⟩
      have c0 : 0 ≤ (a * (a / 1009 + 69621)) % 2147483629 := Int.emod_nonneg _ (by decide)
      have c1 : (a * (a / 1009 + 69621)) % 2147483629 < 2147483629 := Int.emod_lt_of_pos _ (by decide)
      generalize (a * (a / 1009 + 69621)) % 2147483629 = c at c0 c1
      refine ⟨_, rfl, _, rfl, _, _, rfl, rfl, ⟨by decide, by decide⟩, _, _, rfl, rfl, _, _, rfl, rfl, .inl ⟨by omega, by omega⟩, _, rfl, _, _, rfl, rfl, .inl ⟨_, rfl, _, _, rfl, rfl, (by decide : (0 : Int) < 2147483399), ?_⟩⟩
      have d0 : 0 ≤ (c * (c / 2003 + 40692) + lap) % 2147483399 := Int.emod_nonneg _ (by decide)
      generalize (c * (c / 2003 + 40692) + lap) % 2147483399 = d at d0
      refine ⟨_, rfl, _, _, rfl, rfl, ⟨by decide, by decide⟩, .inl ⟨_, rfl, _, rfl, _, _, rfl, rfl, (by show (0 : Int) < n; omega), ?_⟩⟩
      exact kk _ _ (Int.emod_nonneg _ (by omega)) (Int.emod_lt_of_pos _ (by omega)) ⟨⟨gs, ss, lap + 1, q, p1, g1, s1, hl, by omega, hgs, hss, hq, l1, l2⟩, npg, nps, ngs⟩ b1
end
end Y

namespace Y
open PySem PySem.Spec PyProof.Rows L2
section
variable {P : Program} {w : World} {K : PySem.W.Frag} {mg : Str → Option Value} {base : Heap}
abbrev s_l_pot : Stmt := topS 30
theorem sc_l_pot : FnScope ["_law_script", "_law_marks", "_law_greats", "_law_smalls", "_law_item"] ["_law_script"] (defScope s_l_pot) := ⟨rfl, rfl, rfl, by decide +kernel, rfl, by decide +kernel, by decide +kernel⟩
def absI (i : Int) : Int := if i < 0 then -i else i
theorem absI_nn (i : Int) : 0 ≤ absI i := by
  unfold absI
  split <;> omega
def spPot (K : PySem.W.Frag) : Sp := fun vs H Q _ => ∃ (a : Addr) (ns : List Int), vs = [.ref a] ∧ SqL K H a (ns.map V.int) ∧ ns.length ≤ 63 ∧ ∀ (p g s : Addr) H', Same H H' → H p = none → H g = none → H s = none → PotAt H' p g s → Q (.ref p) H'
theorem ok_pot {f : Addr} {fd : FuncData} (F : Fun K "_law_pot" "_law_pot" s_l_pot f fd) (T : Bi mg) : FnOk P w K mg base CX0 1 f fd ["_law_script"] (spPot K) := by
  refine F.ok sc_l_pot (fun vs H Q E h => ?_) (fun cdv A outer s₀ H vs Q E hr h => ?_)
  · obtain ⟨a, ns, rfl, _⟩ := h
    rfl
  · obtain ⟨a, ns, rfl, hS, hlen, kk⟩ := h
    refine ⟨_, (pss_cons (ps_setLc (i := 1) (own := [("_law_item", 4)]) (g := gName 4) (tt := tYes) (by rfl) sc_l_pot.nd rfl rfl (sw_true rfl rfl rfl (by decide +kernel)) (pi_list (pe_slice sl_list (pv 0) po_none (po_some pe_int))) (blkOk_by (N := ["_law_script", "_law_marks", "_law_greats", "_law_smalls", "_law_item"]) (sc := defScope s_l_pot) (by decide +kernel)) (fun _ _ _ _ _ => pg_name (i := 4) sc_l_pot.nd rfl (.inl rfl)) (fun _ _ _ _ _ => pts_nil) (fun _ _ _ _ _ => (pe_callTy (T := "int") call_int1 (by rfl) T.int_ (by decide +kernel) (pa_cons (pv 4) pa_nil))))
 (pss_cons (ps_setLc (i := 2) (own := [("_law_item", 4)]) (g := gName 4) (by rfl) sc_l_pot.nd rfl rfl (sw_true rfl rfl rfl (by decide +kernel)) (pi_list (pv 1)) (blkOk_by (N := ["_law_script", "_law_marks", "_law_greats", "_law_smalls", "_law_item"]) (sc := defScope s_l_pot) (by decide +kernel)) (fun _ _ _ _ _ => pg_name (i := 4) sc_l_pot.nd rfl (.inl rfl)) (fun _ _ _ _ _ => (pts_one (pt_cmpR op_ge (pe_callB (id := "abs") call_abs (by rfl) T.abs (by decide +kernel) (pa_cons (pv 4) pa_nil)) (pe_op op_pow pe_int pe_int) (nomark _)))) (fun _ _ _ _ _ => (pe_callB (id := "abs") call_abs (by rfl) T.abs (by decide +kernel) (pa_cons (pv 4) pa_nil))))
 (pss_cons (ps_set (i := 3) sc_l_pot.nd rfl (.inl rfl) (pe_op op_cat (pe_lc (own := [("_law_item", 4)]) (g := gName 4) (by rfl) sc_l_pot.nd (pi_list (pv 1)) (blkOk_by (N := ["_law_script", "_law_marks", "_law_greats", "_law_smalls", "_law_item"]) (sc := defScope s_l_pot) (by decide +kernel)) (fun _ _ _ _ _ => pg_name (i := 4) sc_l_pot.nd rfl (.inl rfl)) (fun _ _ _ _ _ => (pts_one (pt_cmpR op_lt (pe_callB (id := "abs") call_abs (by rfl) T.abs (by decide +kernel) (pa_cons (pv 4) pa_nil)) (pe_op op_pow pe_int pe_int) (nomark _)))) (fun _ _ _ _ _ => (pe_op op_mod (pe_callTy (T := "int") call_int1 (by rfl) T.int_ (by decide +kernel) (pa_cons (pv 4) pa_nil)) pe_int))) (pe_lst (pa_cons (pe_op op_add (pe_callB call_len_seq (by rfl) T.len PySem.boot_len (pa_cons (pv 1) pa_nil)) pe_int) pa_nil))))
 (pss_one (ps_ret (pe_lst (pa_cons (pv 2) (pa_cons (pv 3) (pa_cons pe_int (pa_cons (pe_op op_mod (pe_callTy (T := "int") call_int1 (by rfl) T.int_ (by decide +kernel) (pa_cons (pe_callB (id := "sum") (r := rSum K) (cr_sum (by rfl)) (by rfl) T.sum (by decide +kernel) (pa_cons (pv 3) pa_nil)) pa_nil)) pe_int) pa_nil)))))))))), ?_⟩
    -- marks
    refine ⟨_, rfl, _, rfl, a, _, rfl, hS, fun c nc => ?_⟩
    have ec : cutV (ns.map V.int) none (some 63) = ns.map V.int := cut_all (n := 63) (by rw [List.length_map]; exact hlen)
    rw [ec]
    have s1 : Same H (upd H c (.lst (ns.map V.int))) := same_upd nc
    refine ⟨c, rfl, ⟨_, SqL.of upd_same⟩, fun m nm => lc_list (K := K) (a := c) (xs := ns.map V.int) (fun i H1 => Same H H1 ∧ H1 c = some (.lst (ns.map V.int)) ∧ H1 m = some (.lst ((ns.take i).map V.int))) ⟨s1.put (s1.freeOf nm), ?_, upd_same⟩ (fun i H1 _ q => SqL.of q.2.1) (fun i x H1 hx q => ?_) fun H2 q => ?_⟩
    · rw [upd_ne (ne_of_none upd_same nm)]; exact upd_same
    · obtain ⟨z, hz, rfl⟩ := map_at hx
      obtain ⟨q1, q2, q3⟩ := q
      have ncm : c ≠ m := ne_of_none upd_same nm
      refine ⟨rfl, ?_⟩
      refine ⟨_, rfl, .inl ⟨_, rfl, _, q3, ?_, q1.put (s1.freeOf nm), (by rw [upd_ne ncm]; exact q2), (by rw [upd_same, take_next hz, List.map_append]; rfl)⟩⟩
      rw [List.length_map, List.length_take]
      exact big1 (by omega)
    obtain ⟨q1, q2, q3⟩ := q
    have nm0 : H m = none := s1.freeOf nm
    rw [List.length_map, List.take_length] at q3
    clear q2 s1 nc nm ec
    -- greats
    refine ⟨_, rfl, m, rfl, ⟨_, SqL.of q3⟩, fun g ng => lc_list (K := K) (a := m) (xs := ns.map V.int) (fun i H3 => Same H H3 ∧ H3 m = some (.lst (ns.map V.int)) ∧ ∃ gs : List Int, H3 g = some (.lst (gs.map V.int)) ∧ gs.length ≤ i ∧ ∀ x ∈ gs, 0 ≤ x) ⟨q1.put (q1.freeOf ng), ?_, [], upd_same, Nat.le_refl _, fun x z => nomatch z⟩ (fun i H1 _ q => SqL.of q.2.1) (fun i x H1 hx q => ?_) fun H4 q => ?_⟩
    · rw [upd_ne (ne_of_none q3 ng)]; exact q3
    · obtain ⟨z, hz, rfl⟩ := map_at hx
      obtain ⟨r1, r2, gs, r3, r4, r5⟩ := q
      have hi : i < ns.length := (List.getElem?_eq_some_iff.mp hz).1
      refine ⟨rfl, _, rfl, _, rfl, _, _, rfl, rfl, ⟨by decide, by decide, by decide⟩, _, _, rfl, rfl, _, rfl, ite2 (fun _ => ?_) (fun _ => ⟨r1, r2, gs, r3, by omega, r5⟩)⟩
      refine ⟨_, rfl, _, rfl, _, r3, ?_, r1.put (q1.freeOf ng), (by rw [upd_ne (ne_of_none q3 ng)]; exact r2), gs ++ [absI z], (by rw [upd_same, List.map_append]; rfl), (by rw [List.length_append]; show gs.length + 1 ≤ i + 1; omega), fun y hy => ?_⟩
      · rw [List.length_map]
        exact big1 (by omega)
      · rcases List.mem_append.mp hy with k | k
        · exact r5 y k
        · rw [List.mem_singleton.mp k]; exact absI_nn z
    obtain ⟨r1, r2, gs, r3, r4, r5⟩ := q
    rw [List.length_map] at r4
    have ng0 : H g = none := q1.freeOf ng
    have nmg : m ≠ g := ne_of_none q3 ng
    clear q1 q3 ng H2
    -- smalls
    refine ⟨_, rfl, m, rfl, ⟨_, SqL.of r2⟩, fun s ns' => lc_list (K := K) (a := m) (xs := ns.map V.int) (fun i H3 => Same H H3 ∧ H3 m = some (.lst (ns.map V.int)) ∧ H3 g = some (.lst (gs.map V.int)) ∧ ∃ ss : List Int, H3 s = some (.lst (ss.map V.int)) ∧ ss.length ≤ i ∧ ∀ x ∈ ss, 0 ≤ x) ⟨r1.put (r1.freeOf ns'), ?_, ?_, [], upd_same, Nat.le_refl _, fun x z => nomatch z⟩ (fun i H1 _ q => SqL.of q.2.1) (fun i x H1 hx q => ?_) fun H5 q => ?_⟩
    · rw [upd_ne (ne_of_none r2 ns')]; exact r2
    · rw [upd_ne (ne_of_none r3 ns')]; exact r3
    · obtain ⟨z, hz, rfl⟩ := map_at hx
      obtain ⟨t1, t2, tg, ss, t3, t4, t5⟩ := q
      have hi : i < ns.length := (List.getElem?_eq_some_iff.mp hz).1
      refine ⟨rfl, _, rfl, _, rfl, _, _, rfl, rfl, ⟨by decide, by decide, by decide⟩, _, _, rfl, rfl, _, rfl, ite2 (fun _ => ?_) (fun _ => ⟨t1, t2, tg, ss, t3, by omega, t5⟩)⟩
      refine ⟨_, rfl, .inl ⟨_, rfl, _, _, rfl, rfl, (by decide : (0 : Int) < 1000000007), _, t3, ?_, t1.put (r1.freeOf ns'), (by rw [upd_ne (ne_of_none r2 ns')]; exact t2), (by rw [upd_ne (ne_of_none r3 ns')]; exact tg), ss ++ [z % 1000000007], (by rw [upd_same, List.map_append]; rfl), (by rw [List.length_append]; show ss.length + 1 ≤ i + 1; omega), fun y hy => ?_⟩⟩
      · rw [List.length_map]
        exact big1 (by omega)
      · rcases List.mem_append.mp hy with k | k
        · exact t5 y k
        · rw [List.mem_singleton.mp k]; exact Int.emod_nonneg _ (by decide)
    obtain ⟨t1, t2, tg, ss, t3, t4, t5⟩ := q
    rw [List.length_map] at t4
    have nsm : m ≠ s := ne_of_none r2 ns'
    have ngs : g ≠ s := ne_of_none r3 ns'
    -- + [len(marks) + 1]
    refine ⟨_, rfl, m, _, rfl, .inl (SqL.of t2), _, _, rfl, rfl, (by show 1 ≤ sizeLine; decide), fun u nu => ?_⟩
    have nsu : s ≠ u := ne_of_none t3 nu
    have ngu : g ≠ u := ne_of_none tg nu
    refine ⟨s, u, _, _, rfl, rfl, (by rw [upd_ne nsu]; exact t3), upd_same, ?_, fun v nv => ?_⟩
    · rw [List.length_map]
      show ss.length + 1 ≤ sizeLine
      exact Nat.le_of_lt (big1 (by omega))
    have nuv : u ≠ v := ne_of_none upd_same nv
    have nv1 : H5 v = none := by rw [upd_ne nuv.symm] at nv; exact nv
    have ngv : g ≠ v := ne_of_none tg nv1
    have nv0 : H v = none := t1.freeOf nv1
    have sv : ∀ L : List Int, ss.map V.int ++ [V.int ((((ns.map V.int).length : Int)) + 1)] = (ss ++ [((ns.map V.int).length : Int) + 1]).map V.int := fun _ => by rw [List.map_append]; rfl
    rw [sv []]
    generalize eH : upd (upd H5 u (.lst [V.int (((ns.map V.int).length : Int) + 1)])) v (.lst ((ss ++ [((ns.map V.int).length : Int) + 1]).map V.int)) = H6
    have v6 : H6 v = some (.lst ((ss ++ [((ns.map V.int).length : Int) + 1]).map V.int)) := by rw [← eH]; exact upd_same
    have g6 : H6 g = some (.lst (gs.map V.int)) := by rw [← eH, upd_ne ngv, upd_ne ngu]; exact tg
    have s6 : Same H H6 := by rw [← eH]; exact (t1.put (t1.freeOf nu)).put nv0
    have hn : ∀ x ∈ ss ++ [((ns.map V.int).length : Int) + 1], 0 ≤ x := fun x hx => by
      rcases List.mem_append.mp hx with k | k
      · exact t5 x k
      · rw [List.mem_singleton.mp k]; omega
    have hL : 0 < (ss ++ [((ns.map V.int).length : Int) + 1]).length := by rw [List.length_append]; exact Nat.succ_pos _
    have hL2 : (ss ++ [((ns.map V.int).length : Int) + 1]).length ≤ 64 := by rw [List.length_append]; show ss.length + 1 ≤ 64; omega
    generalize ss ++ [((ns.map V.int).length : Int) + 1] = qs at v6 hn hL hL2 ⊢
    -- the pot
    refine ⟨_, rfl, _, rfl, _, rfl, v, _, rfl, SqL.of v6, .inl ⟨_, rfl, _, _, rfl, rfl, (by decide : (0 : Int) < 999983), ?_⟩⟩
    refine ⟨(by show 4 ≤ sizeLine; decide), fun p np => ?_⟩
    refine kk p g v _ (s6.put (s6.freeOf np)) (s6.freeOf np) ng0 nv0 ⟨⟨gs, qs, 0, _, upd_same, ?_, ?_, hL, Int.le_refl _, r5, hn, Int.emod_nonneg _ (by decide), by omega, hL2⟩, ?_, ?_, ngv⟩
    · rw [upd_ne (ne_of_none g6 np)]; exact g6
    · rw [upd_ne (ne_of_none v6 np)]; exact v6
    · exact (ne_of_none g6 np).symm
    · exact (ne_of_none v6 np).symm
end
end Y

namespace Y
open PySem PySem.Spec PyProof.Rows L2
/-! ### D.get(e), D a written dict with text keys -/
section
variable {X : Cx} {d : Addr} {es : Array DictEntry} {n : Nat} {o e : Expr} {td ty : TE} {apos cpos : Pos}
def tKGet (K : PySem.W.Frag) (d : Addr) (td ty : TE) : TE := fun σ H Q => td σ H fun x H1 => x = .ref d ∧ ty σ H1 fun y H2 => ∃ (z : Str) (r : Option Value) (v : V), y = .str z ∧ PySem.W.nsIn K d z = some r ∧ RelV v (r.getD .none) ∧ Q v H2
theorem pe_kget1 (D : KDict X.K X.w d es n) (ho : PE X o td) (he : PE X e ty) (m : M1 X o "get" apos e cpos) : PE X (.Call (.Attribute o "get" apos) [e] [] cpos) (tKGet X.K d td ty) := by
  refine ⟨fun pins s σ H Q I h => ?_⟩
  have kd : ∀ {s' : Shared} {H' : Hp}, Inv X pins σ H' s' → s'.heap.get? d = some ⟨.type "dict", none, .dict es n, #[]⟩ := fun J => J.kIn _ _ D.at_
  refine wpAny_Call_method m.base m.few m.line PySem.F.plainAttrs_dict PySem.F.slot_dict_get PySem.F.type_dict_get (thn (ho.run pins s σ H _ I h) fun u0 sa ⟨x, Ha, Ia, rx, ex, qa⟩ => ?_)
  subst ex
  obtain rfl : u0 = Value.ref d := rx
  refine ⟨⟨_, kd Ia, rfl⟩, fun b eb => ?_, ?_⟩
  · injection eb with eb'
    subst eb'
    exact ⟨_, kd Ia, rfl⟩
  rw [m.trees]
  refine Calls.callWith_builtin rfl (Calls.evalArgs_plain (Calls.spliced_cons (thn (he.run pins sa σ Ha _ Ia qa) fun uz sb ⟨y, Hb, Ib, ry, z, r, v, ey, ns, rv, qb⟩ => Calls.spliced_nil ?_)))
  subst ey
  obtain ⟨tz, rfl⟩ : ∃ t, uz = Value.str z t := ry
  have mp := PySem.W.mapOf_K (prog := X.prog) (w := X.w) Ib.kIn D.at_ D.lit
  refine call_meetsIn PySem.F.slot_dict_get mp.typeIs PySem.F.entry_dict_get (PySem.F.args_dict_get_2 _ _) (meets_dict_get (PySem.strKind X.prog X.w) d (PySem.strKind_is X.prog X.w z tz) D.low) ⟨_, mp, v, Hb, Ib.tok _, ?_, qb⟩
  show RelV v ((findBy Value.isStrOf es z).getD .none)
  rw [PySem.W.find_K D.at_ ns]
  exact rv
end
/-! ### dicts whose values are data, compared -/
theorem hits_data {P : Program} {w : World} {K : PySem.W.Frag} {H : Hp} {X : Cx} {pins : List (Addr × Obj)} {σ : L2.St} {s : Shared} {A : Around} (I : Inv X pins σ H s) (hA : A.in1.units + 64 < cLine) {ls : List (Key × V)} {vb : List (Key × Value)} (rb : KV ls vb) {ks : List (Key × V)} {va : List (Key × Value)} (ra : KV ks va) :
    (∀ p ∈ ks, ∃ u d, valV ls p.1 = some u ∧ Dp X.K H p.2 d ∧ Dp X.K H u d ∧ SeqAt.shaped d = true) → PySem.W.KeqHits A.in1 s vb va true := by
  unfold KV at ra
  induction ra with
  | nil => exact fun _ => .nil
  | @cons p q ps qs hd tl ih =>
    intro hall
    obtain ⟨kk, vv⟩ := q
    obtain ⟨hk, hv⟩ := hd
    obtain ⟨u, d, eu, d1, d2, sh⟩ := hall p List.mem_cons_self
    have rl : RelO (some u) (valueAt vb p.1) := by rw [← eu]; exact rb.val p.1
    obtain ⟨yy, hy, ry⟩ := rl.some_of
    have hk' : p.1 = kk := hk
    rw [hk'] at hy
    obtain ⟨as, r1⟩ := Dp.reads I d p.2 vv d1 hv
    obtain ⟨bs, r2⟩ := Dp.reads I d u yy d2 ry
    have eqd := PySem.W.keq_at r1 r2 sh sh hA
    rw [SeqAt.eqv_refl _ (SeqAt.canLay_of_shaped sh)] at eqd
    have fin := PySem.W.KeqHits.hit hy eqd (ih fun p' m => hall p' (List.mem_cons_of_mem _ m))
    exact fin
section
variable {X : Cx}
def rDicts (K : PySem.W.Frag) (ans : Bool) : R2 := fun x y H Q => ∃ (a b : Addr) (ks ls : List (Key × V)), x = .ref a ∧ y = .ref b ∧ H a = some (.dK ks) ∧ H b = some (.dK ls) ∧ ks.length = ls.length ∧
  (∀ p ∈ ks, ∃ u d, valV ls p.1 = some u ∧ Dp K H p.2 d ∧ Dp K H u d ∧ SeqAt.shaped d = true) ∧ Q (.bl ans) H
theorem op_eqDicts (hu : X.A.units + 66 < cLine) : OpR X (compareOp .Eq) (rDicts X.K true) := by
  intro pins s σ H x y v u Q I rx ry h
  obtain ⟨a, b, ks, ls, rfl, rfl, ea, eb, hlen, hall, q⟩ := h
  obtain rfl : v = Value.ref a := rx
  obtain rfl : u = Value.ref b := ry
  obtain ⟨_, na, va, ra, da⟩ := (show ObjOk X.prog X.w H s.heap a (.dK ks) from I.hok a _ ea)
  obtain ⟨_, nb, vb, rb, db⟩ := (show ObjOk X.prog X.w H s.heap b (.dK ls) from I.hok b _ eb)
  have hl : va.length = vb.length := by rw [← ra.length, ← rb.length]; exact hlen
  exact PySem.W.keq_eq (knd := mixKind X.prog X.w) (r := true) na nb da db (by omega) (fun _ => hits_data (P := X.prog) (w := X.w) (K := X.K) I (by show X.A.units + 1 + 64 < cLine; omega) rb ra hall) (fin_bl I q (by simp [hl]))
theorem op_neDicts (hu : X.A.units + 66 < cLine) : OpR X (compareOp .NotEq) (rDicts X.K false) := by
  intro pins s σ H x y v u Q I rx ry h
  obtain ⟨a, b, ks, ls, rfl, rfl, ea, eb, hlen, hall, q⟩ := h
  obtain rfl : v = Value.ref a := rx
  obtain rfl : u = Value.ref b := ry
  obtain ⟨_, na, va, ra, da⟩ := (show ObjOk X.prog X.w H s.heap a (.dK ks) from I.hok a _ ea)
  obtain ⟨_, nb, vb, rb, db⟩ := (show ObjOk X.prog X.w H s.heap b (.dK ls) from I.hok b _ eb)
  have hl : va.length = vb.length := by rw [← ra.length, ← rb.length]; exact hlen
  exact PySem.W.keq_ne (knd := mixKind X.prog X.w) (r := true) na nb da db (by omega) (fun _ => hits_data (P := X.prog) (w := X.w) (K := X.K) I (by show X.A.units + 1 + 64 < cLine; omega) rb ra hall) (fin_bl I q (by simp [hl]))
end
end Y

namespace Y
open PySem PySem.Spec PyProof.Rows L2
/-! ### enumerate(v), v told by how its iterator begins -/
theorem meets_enum_one {v : Value} {ob : Obj} {G : Heap → Prop} (B : Begins v ob G) :
    Meets (Builtin.«enumerate.__new__» ⟨[.type "enumerate", v], []⟩) (fun _ R st => G st.heap ∧
      R (.ok (.ret (.ref (st.heap.push ob).objs.size))) { st with heap := (st.heap.push ob).push { cls := .type "enumerate", data := .fields #[.none, .bool false, .ref st.heap.objs.size, rawInt 0, .none, .none] } }) :=
  .of_wp fun prog w A R st h => by
    obtain ⟨hp, gg, dd, tk, os⟩ := st
    obtain ⟨g1, h⟩ := h
    have hsub := sub_enumerate
    have pit : ∀ {A' : Around} {E : Value → Shared → Prop} {Q : Value → Shared → Prop}, Q (.ref hp.objs.size) ⟨hp.push ob, gg, dd, tk, os⟩ → wpAny (model prog w) A' (pyIter v) Q E ⟨hp, gg, dd, tk, os⟩ :=
      fun q => B.iter prog w _ _ ⟨hp, gg, dd, tk, os⟩ _ g1 q
    wp_walk using pit
    refine wpAny_stack_any fun sk => wpAny_pure ?_
    split
    · rename_i c _ _ _ _ _
      cases (c == Value.type "enumerate")
      all_goals
        wp_walk using pit
        exact ⟨_, rfl, h⟩
    · wp_walk using pit
      exact ⟨_, rfl, h⟩
section
variable {prog : Program} {w : World} {A : Around} {E : Value → Shared → Prop} {s : Shared}
theorem enum_one {v : Value} {ob : Obj} {G : Heap → Prop} {Q : Value → Shared → Prop} (B : Begins v ob G) (g1 : G s.heap)
    (h : ∀ h2, IsEnum h2 (s.heap.objs.size + 1) s.heap.objs.size 0 .none → h2.get? s.heap.objs.size = some ob → (∀ b o, s.heap.get? b = some o → h2.get? b = some o) → Q (.ref (s.heap.objs.size + 1)) { s with heap := h2 }) :
    wpAny (model prog w) A (call (.type "enumerate") [v]) Q E s := by
  refine callType_new F.called_enumerate (by decide) (F.typeCall_enumerate_1 _) (F.newCall_enumerate_1 _) (fun self => F.args_object_init_2 self _) F.entry_enumerate_new (meets_enum_one B) ⟨g1, ?_⟩
  have sz1 : (s.heap.push ob).objs.size = s.heap.objs.size + 1 := Heap.size_push ..
  show _ ∧ _
  rw [sz1]
  have at1 : IsEnum ((s.heap.push ob).push { cls := .type "enumerate", data := .fields #[.none, .bool false, .ref s.heap.objs.size, rawInt 0, .none, .none] }) (s.heap.objs.size + 1) s.heap.objs.size 0 .none := by
    have q := Heap.get?_push_size (s.heap.push ob) (o := { cls := .type "enumerate", data := .fields #[.none, .bool false, .ref s.heap.objs.size, rawInt 0, .none, .none] }) rfl
    rw [sz1] at q
    exact q
  exact ⟨⟨_, at1, rfl⟩, h _ at1 (Heap.get?_push_of_some _ (Heap.get?_push_size _ B.free)) fun b o e => Heap.get?_push_of_some _ (Heap.get?_push_of_some _ e)⟩
end
/-- the tuple at a, each item in a new pair with its number -/
def ItE (K : PySem.W.Frag) (a : Addr) : It :=
  ⟨fun i H => ∃ (xs : List V) (x : V), SqT K H a xs ∧ xs[i]? = some x,
   fun i H v H' => ∃ T x, v = .ref T ∧ H T = none ∧ H' = upd H T (.tup [.int (i : Nat), x]) ∧ ∀ xs, SqT K H a xs → xs[i]? = some x,
   fun i H => ∃ xs : List V, SqT K H a xs ∧ xs.length = i⟩
theorem turn_enumT {P : Program} {w : World} {K : PySem.W.Frag} {elts : List Expr} {kk : Nat} {tpos : Pos} (a e it : Addr) :
    Turn P w K (.Tuple elts kk tpos) (ItE K a) [e, it] e (fun i h => (∃ old, IsEnum h e it ((i : Nat) : Int) old) ∧ h.IsTupleIter it a i ∧ e ≠ it ∧ a ≠ it ∧ a ≠ e) where
  mem := by simp
  obj := fun i h st b hb => by
    obtain ⟨⟨old, he⟩, ⟨ob, ho, hc, hd⟩, _⟩ := st
    rcases (by simpa using hb : b = e ∨ b = it) with z | z
    · subst z
      exact ⟨_, he, fun v q => nomatch q⟩
    · subst z
      exact ⟨ob, ho, fun v q => by rw [hd] at q; cases q⟩
  keep := fun i h h' st k => by
    obtain ⟨⟨old, he⟩, hi, n1, n2, n3⟩ := st
    exact ⟨⟨old, k e (by simp) _ he⟩, hi.at fun ob q => k it (by simp) ob q, n1, n2, n3⟩
  item := by
    intro X hP hw hK hc i pins s σ H E I hf st hg
    subst hP hw hK
    obtain ⟨⟨old, he⟩, hit, n1, n2, n3⟩ := st
    obtain ⟨xs, x, hq, hx⟩ := hg
    obtain ⟨its, rv, tp, _⟩ := I.tuple hq
    obtain ⟨u, hu, ru⟩ := rv.get hx
    have lte : e < s.heap.objs.size := Heap.lt_size he
    have lti : it < s.heap.objs.size := by obtain ⟨_, q, _⟩ := hit; exact Heap.lt_size q
    have D := Draws.tuple (prog := X.prog) (w := X.w) (A := X.A.in1) (show X.A.in1.handled = none from by simpa using I.ok.hd hc) it a n2 its.toArray
    refine wpAny_pyNext_enum_itemC (c := (i : Int)) D he ⟨hit, tp⟩ (by rw [List.size_toArray]; exact (List.getElem?_eq_some_iff.mp hu).1) n1 (by simp [n1, n3.symm]) fun y h1 tk hy ho hst hT hsz hk => ?_
    have ey : y = u := by
      have q : its.toArray[i]? = some y := hy
      rw [List.getElem?_toArray, hu] at q
      exact (Option.some.inj q).symm
    subst ey
    refine ⟨_, rfl, wpAny_letOwnedTupleGo_enum (s := { s with heap := h1, toks := tk + 1 }) ho fun h2 he2 sb => ?_⟩
    have hT2 : h2.get? s.heap.objs.size = some { cls := .type "tuple", data := .seq #[.int i tk, y] } := (sb.2 _ (Nat.ne_of_gt lte)).trans hT
    have new : ObjOk X.prog X.w (upd H s.heap.objs.size (.tup [.int (i : Nat), x])) h2 s.heap.objs.size (.tup [.int (i : Nat), x]) :=
      ⟨by show 2 ≤ sizeLine; decide, [.int i tk, y], .cons ⟨_, rfl⟩ (.cons ru .nil), ⟨_, hT2, rfl, _, rfl⟩⟩
    have J : L2.Inv X pins σ (upd H s.heap.objs.size (.tup [.int (i : Nat), x])) { s with heap := h2, toks := tk + 1 } :=
      I.turnedNew (ch := [e, it]) (fun b ob hb q => (sb.2 b (fun z => hb (by simp [z]))).trans (hk b ob (fun z => hb (by simp [z])) (fun z => hb (by simp [z])) q)) hf (Nat.le_refl _) new
    have st2 : (∃ old', IsEnum h2 e it (((i + 1 : Nat)) : Int) old') ∧ h2.IsTupleIter it a (i + 1) ∧ e ≠ it ∧ a ≠ it ∧ a ≠ e := by
      refine ⟨⟨y, ?_⟩, hst.1.at fun ob q => (sb.2 it n1.symm).trans q, n1, n2, n3⟩
      rw [show ((i + 1 : Nat) : Int) = (i : Int) + 1 by omega]
      exact he2
    refine ⟨.ref s.heap.objs.size, _, J, rfl, ⟨_, x, rfl, I.hok.fresh (Nat.le_refl _), rfl, fun ys hy2 => by rw [I.tuple_inj hy2 hq]; exact hx⟩, st2, fun b hb => ?_⟩
    have lb : b < s.heap.objs.size := by
      rcases (by simpa using hb : b = e ∨ b = it) with z | z
      · rw [z]; exact lte
      · rw [z]; exact lti
    rw [upd_ne (Nat.ne_of_lt lb)]
    exact (hf b hb).1
  done := by
    intro X hP hw hK hc i pins s σ H E I hf st hg
    subst hP hw hK
    obtain ⟨⟨old, he⟩, hit, n1, n2, n3⟩ := st
    obtain ⟨xs, hq, hx⟩ := hg
    obtain ⟨its, rv, tp, _⟩ := I.tuple hq
    obtain ⟨f0, f1, f2, f3, f4, f5⟩ := hf it (by simp)
    have hl : its.toArray.size = i := by rw [List.size_toArray, ← rv.length]; exact hx
    have D := Draws.tuple (prog := X.prog) (w := X.w) (A := X.A.in1) (show X.A.in1.handled = none from by simpa using I.ok.hd hc) it a n2 its.toArray
    refine wpAny_pyNext_enum_endD D he ⟨by rw [hl]; exact hit, tp⟩ fun h' eb => ⟨rfl, I.turned (t' := s.toks) (fun b o hb q => eb b o hb q) f0 f1 f3 f4 f5⟩
  self := fun A i s Q E st h => by
    obtain ⟨⟨old, he⟩, _⟩ := st
    exact wpAny_pyIter_enum he h
def iEnT (K : PySem.W.Frag) (ta : TA) : TI := fun σ H R => ta σ H fun vs H1 => ∃ a xs, vs = [.ref a] ∧ SqT K H1 a xs ∧ R (ItE K a) H1
theorem pi_enumT {X : Cx} {e : Expr} {ta : TA} {p pos tpos : Pos} {elts : List Expr} {kk : Nat} (hg : Gl X "enumerate") (hm : X.mg "enumerate" = none) (ha : PA X [e] ta) (hs : starEach [e] X.env = [(false, eval e X.env)] := by rfl) :
    PI X (.Tuple elts kk tpos) (.Call (.Name "enumerate" p) [e] [] pos) (iEnT X.K ta) := by
  refine ⟨fun pins s σ H R I h => ?_⟩
  refine Call_ (ld_blt I hg hm boot_enumerate (PyProof.Rows.callWith_type1 (thn (ha.run pos pins s σ H _ I h) fun us sa ⟨vs, Ha, Ia, ra, qa⟩ => ?_) hs rfl))
  obtain ⟨a, xs, ex, hq, q⟩ := qa
  subst ex
  cases ra with
  | cons r rr =>
    cases rr
    cases r
    obtain ⟨its, rv, tp, _⟩ := Ia.tuple hq
    have lta : a < sa.heap.objs.size := by obtain ⟨_, z, _⟩ := tp; exact Heap.lt_size z
    refine enum_one (begins_tuple a its.toArray) tp fun h2 he hit hk => wpAny_pyIter_enum he ?_
    have J : L2.Inv X pins σ Ha { sa with heap := h2 } := Ia.kept (t' := sa.toks) hk
    refine ⟨sa.heap.objs.size + 1, [sa.heap.objs.size + 1, sa.heap.objs.size], _, _, Ha, rfl, J, turn_enumT a (sa.heap.objs.size + 1) sa.heap.objs.size, ⟨⟨.none, he⟩, ⟨_, hit, rfl, rfl⟩, Nat.succ_ne_self _, Nat.ne_of_lt lta, Nat.ne_of_lt (Nat.lt_succ_of_lt lta)⟩, fun b hb => ?_, q⟩
    have le : sa.heap.objs.size ≤ b := by
      rcases (by simpa using hb : b = sa.heap.objs.size + 1 ∨ b = sa.heap.objs.size) with z | z
      · rw [z]; exact Nat.le_add_right _ _
      · rw [z]; exact Nat.le_refl _
    exact Ia.fpOk le (Ia.hok.fresh le)
theorem walk_enumT {K : PySem.W.Frag} {a : Addr} {xs : List V} : Walk (ItE K a) xs.length (fun H => SqT K H a xs) (YPair (fun i => some (.int (i : Nat))) (fun i => xs[i]?)) := by
  refine ⟨fun i _ hi q => ⟨xs, xs[i], q, by simp [hi]⟩, fun _ q => ⟨xs, q, rfl⟩, fun i H v H' _ q y => ?_⟩
  obtain ⟨T, x, h1, h2, h3, h4⟩ := y
  exact ⟨T, .int (i : Nat), x, h1, h2, h3, rfl, h4 xs q⟩
end Y

namespace Y
open PySem PySem.Spec PyProof.Rows L2
/-! ### items, each once -/
def isIn {α : Type} [DecidableEq α] (l : List α) (x : α) : Bool := l.any fun y => decide (y = x)
theorem isIn_iff {α : Type} [DecidableEq α] {l : List α} {x : α} : isIn l x = true ↔ x ∈ l := by
  unfold isIn
  rw [List.any_eq_true]
  exact ⟨fun ⟨y, m, e⟩ => of_decide_eq_true e ▸ m, fun m => ⟨x, m, decide_eq_true rfl⟩⟩
def stp {α : Type} [DecidableEq α] (acc : List α) (x : α) : List α := if isIn acc x = true then acc else acc ++ [x]
def uqF {α : Type} [DecidableEq α] : List α → List α → List α
  | acc, [] => acc
  | acc, x :: r => uqF (stp acc x) r
def uq {α : Type} [DecidableEq α] (l : List α) : List α := uqF [] l
section
variable {α : Type} [DecidableEq α]
theorem mem_stp {acc : List α} {x y : α} : y ∈ stp acc x ↔ y ∈ acc ∨ y = x := by
  unfold stp
  by_cases h : isIn acc x = true
  · rw [if_pos h]
    exact ⟨.inl, fun k => k.elim id fun e => by rw [e]; exact isIn_iff.mp h⟩
  · rw [if_neg h, List.mem_append, List.mem_singleton]
theorem mem_uqF : ∀ {l acc : List α} {y : α}, y ∈ uqF acc l ↔ y ∈ acc ∨ y ∈ l
  | [], acc, y => by simp [uqF]
  | x :: r, acc, y => by
    show y ∈ uqF (stp acc x) r ↔ _
    rw [mem_uqF, mem_stp, List.mem_cons, or_assoc]
theorem mem_uq {l : List α} {y : α} : y ∈ uq l ↔ y ∈ l := by
  unfold uq
  rw [mem_uqF]
  simp
theorem uqF_snoc : ∀ {l acc : List α} {x : α}, uqF acc (l ++ [x]) = stp (uqF acc l) x
  | [], _, _ => rfl
  | _ :: r, acc, x => by
    show uqF _ (r ++ [x]) = _
    rw [uqF_snoc]
    rfl
theorem uq_snoc {l : List α} {x : α} : uq (l ++ [x]) = if isIn l x = true then uq l else uq l ++ [x] := by
  show uqF [] (l ++ [x]) = _
  rw [uqF_snoc]
  unfold stp
  have h : x ∈ uqF [] l ↔ x ∈ l := mem_uq
  by_cases k : isIn l x = true
  · rw [if_pos (isIn_iff.mpr (h.mpr (isIn_iff.mp k))), if_pos k]; rfl
  · rw [if_neg fun z => k (isIn_iff.mpr (h.mp (isIn_iff.mp z))), if_neg k]; rfl
theorem stp_len {acc : List α} {x : α} : acc.length ≤ (stp acc x).length := by
  unfold stp
  split
  · exact Nat.le_refl _
  · rw [List.length_append]; exact Nat.le_add_right _ _
theorem uqF_ge : ∀ {l acc : List α}, acc.length ≤ (uqF acc l).length
  | [], _ => Nat.le_refl _
  | _ :: _, _ => Nat.le_trans stp_len uqF_ge
theorem uqF_app : ∀ {l r acc : List α}, uqF acc (l ++ r) = uqF (uqF acc l) r
  | [], _, _ => rfl
  | x :: l, r, acc => by
    show uqF _ (l ++ r) = _
    rw [uqF_app]
    rfl
theorem uq_take_len (l : List α) (i : Nat) : (uq (l.take i)).length ≤ (uq l).length := by
  have e : uq l = uqF (uq (l.take i)) (l.drop i) := by
    show uqF [] l = uqF (uqF [] (l.take i)) (l.drop i)
    rw [← uqF_app, List.take_append_drop]
  rw [e]
  exact uqF_ge
theorem uqF_nd : ∀ {l acc : List α}, (acc ++ l).Nodup → uqF acc l = acc ++ l
  | [], acc, _ => by simp [uqF]
  | x :: r, acc, h => by
    have hx : x ∉ acc := fun m => by
      have q := (List.nodup_append.mp h).2.2 x m x List.mem_cons_self
      exact q rfl
    show uqF (stp acc x) r = _
    unfold stp
    rw [if_neg fun z => hx (isIn_iff.mp z), uqF_nd (by rw [List.append_assoc]; exact h), List.append_assoc]
    rfl
theorem uq_nd {l : List α} (h : l.Nodup) : uq l = l := uqF_nd (acc := []) h
theorem uq_le : ∀ (l : List α), (uq l).length ≤ l.length := by
  have go : ∀ (l acc : List α), (uqF acc l).length ≤ acc.length + l.length := by
    intro l
    induction l with
    | nil => intro acc; exact Nat.le_refl _
    | cons x r ih =>
      intro acc
      have k := ih (stp acc x)
      have j : (stp acc x).length ≤ acc.length + 1 := by
        unfold stp
        split
        · exact Nat.le_succ _
        · rw [List.length_append]; exact Nat.le_refl _
      show (uqF (stp acc x) r).length ≤ acc.length + (r.length + 1)
      omega
  intro l
  have q := go l []
  rw [List.length_nil, Nat.zero_add] at q
  exact q
end
theorem paired_at {α β : Type} {F : α → β → Prop} : ∀ {xs : List α} {ys : List β} {i : Nat} {y : β}, Paired F xs ys → ys[i]? = some y → ∃ x, xs[i]? = some x ∧ F x y
  | _, _, _, _, .nil, h => by simp at h
  | _, _, 0, _, .cons f _, h => by
    have e := Option.some.inj h
    subst e
    exact ⟨_, rfl, f⟩
  | _, _, i + 1, _, .cons _ t, h => paired_at (i := i) t h
/-! ### set(v), v a list or a tuple of keys -/
section
variable {P : Program} {w : World} {A : Around} {E : Value → Shared → Prop} {s : Shared}
theorem keys_into {I : Addr} {fp wr : List Addr} {G : Array GenState → Array GenState → Prop} {n : Nat} {Pv : Nat → Value → Prop} {St : Nat → Shared → Prop} {R : Result → Shared → Prop}
    (W : WalksS P w A.in1 I fp wr G n Pv St) (S : Addr) (apart : S ∉ fp) (ks : List Key) (hn : n = ks.length) (few : (uq ks).length + 1 < scanBound) (vals : ∀ i v, Pv i v → ∃ k, ks[i]? = some k ∧ keyIs k v = true) :
    ∀ (left i : Nat) (st : Shared), n - i = left → i ≤ n → St i st → st.heap.SetOf (mixKind P w) S (isIn (ks.take i)) (uq (ks.take i)).length →
      (∀ st', Moved (S :: wr) G st st' → st'.heap.SetOf (mixKind P w) S (isIn ks) (uq ks).length → R (.ok (.ret .none)) st') → codeAny (model P w) A (.builtin "set.update.loop" ⟨[.ref S, .ref I], []⟩) R st := by
  have notw : S ∉ wr := fun m => apart (W.sub _ m)
  have more : ∀ b ∈ wr, b ∈ S :: wr := fun b m => List.mem_cons_of_mem _ m
  have stays : ∀ {st st' : Shared} {T : Key → Bool} {c : Nat}, Moved wr G st st' → st.heap.SetOf (mixKind P w) S T c → st'.heap.SetOf (mixKind P w) S T c := fun mv ⟨o, es, ep, tb, ho, rest⟩ => ⟨o, es, ep, tb, mv.heap S _ notw ho, rest⟩
  intro left
  induction left with
  | zero =>
    intro i st hl hi hst hS hR
    obtain rfl : i = n := by omega
    refine codeAny_builtin F.entry_set_update_loop ?_
    rw [Around.under_plainId F.plain_set_update_loop _]
    refine wpAny_bind (m := pyNext (.ref I)) (W.done st _ _ hst fun st' mv => ?_)
    have all : ks.take i = ks := List.take_of_length_le (by omega)
    rw [all] at hS
    exact wpAny_pure (hR st' (mv.mono more) (stays mv hS))
  | succ left ih =>
    intro i st hl hi hst hS hR
    have lt : i < n := by omega
    refine codeAny_builtin F.entry_set_update_loop ?_
    rw [Around.under_plainId F.plain_set_update_loop _]
    refine wpAny_bind (m := pyNext (.ref I)) (W.item i st _ _ lt hst fun v st' hP hst' mv => ?_)
    obtain ⟨k, hk, kis⟩ := vals i v hP
    have hS' := stays mv hS
    refine wpAny_bind (m := holding [v] (setAdd S v)) (wpAny_holding ?_)
    unfold setAdd
    refine wpAny_holding ?_
    have sc : v.scannable = true := by
      rcases keyIs_shape kis with ⟨_, _, _, rfl⟩ | ⟨_, _, _, rfl⟩ <;> rfl
    refine wpAny_bind ((mixKind P w).pyHash (k := k) kis ?_)
    have room : (uq (ks.take i)).length + 1 < scanBound := Nat.lt_of_le_of_lt (Nat.succ_le_succ (uq_take_len ks i)) few
    refine wpAny_setAddHashed_of (knd := mixKind P w) (s := { st' with toks := st'.toks + 1 }) kis sc hS' room fun h' sb hS2 => ?_
    have hS3 : h'.SetOf (mixKind P w) S (isIn (ks.take (i + 1))) (uq (ks.take (i + 1))).length := by
      rw [take_next hk, uq_snoc]
      have e1 : (fun j => isIn (ks.take i) j || decide (j = k)) = isIn (ks.take i ++ [k]) := by
        funext j
        unfold isIn
        rw [List.any_append]
        congr 1
        simp [eq_comm]
      have e2 : (if isIn (ks.take i) k = true then (uq (ks.take i)).length else (uq (ks.take i)).length + 1) = (if isIn (ks.take i) k = true then uq (ks.take i) else uq (ks.take i) ++ [k]).length := by
        by_cases h1 : isIn (ks.take i) k = true
        · rw [if_pos h1, if_pos h1]
        · rw [if_neg h1, if_neg h1, List.length_append]; rfl
      rw [← e1, ← e2]
      exact hS2
    refine wpAny_pure ⟨plainId_quiet F.plain_set_update_loop _, ih (i + 1) _ (by omega) lt (W.frame _ st' _ _ hst' (Nat.le_succ _) fun b m o e => ?_) hS3 fun st2 mv2 hS4 => ?_⟩
    · exact (sb.2 b fun z => apart (z ▸ m)).trans e
    · refine hR st2 (Moved.trans W.gtrans ((mv.mono more).then_heap (Nat.le_succ _) fun b o m e => ?_) mv2) hS4
      exact (sb.2 b fun z => m (z ▸ List.mem_cons_self)).trans e
end
end Y

namespace Y
open PySem PySem.Spec PyProof.Rows L2
section
variable {P : Program} {w : World} {A : Around} {E : Value → Shared → Prop} {s : Shared}
theorem set_of_tuple {l : Addr} {items : Array Value} (ks : List Key) {Q : Value → Shared → Prop} (free : A.handled = none) (hl : s.heap.IsTuple l items) (hk : Paired (fun k v => keyIs k v = true) ks items.toList) (few : (uq ks).length + 1 < scanBound)
    (fin : ∀ (h2 : Heap) (tk : Nat), h2.SetOf (mixKind P w) s.heap.objs.size (isIn ks) (uq ks).length → (∀ b o, s.heap.get? b = some o → h2.get? b = some o) → Q (.ref s.heap.objs.size) { s with heap := h2, toks := tk }) :
    wpAny (model P w) A (call (.type "set") [.ref l]) Q E s := by
  have size : items.size = ks.length := by
    have q := Paired.length hk
    rw [Array.length_toList] at q
    exact q.symm
  obtain ⟨cc, tl, hmro⟩ := PySem.F.called_set.mro
  have mk1 := PySem.F.called_set.made
  have mk2 := PySem.F.called_set.sub
  have mk3 := PySem.F.called_set.notType
  have mk4 := PySem.F.called_set.canCreate
  have mk5 := PySem.F.typeCall_set_1 (.ref l)
  refine wpAny_call (codeAny_of_tree ?_)
  refine wpAny_pure ⟨Code.quiet_builtin _ (by decide +kernel), codeAny_builtin PySem.F.entry_type_call ?_⟩
  rw [Around.under_plain (weight_type_call_type "set" [.ref l] []) rfl]
  repeat (any_goals (first | assumption | wp_step))
  refine codeAny_mono (code_set_new_1 (.ref l) (E := E) (Q₁ := fun self st1 => ∃ led : Bool, self = .ref s.heap.objs.size ∧ st1 = { s with heap := s.heap.push { cls := .type "set", dict := none, data := .set #[] 0 (.fresh 0 0 led) } }) fun led => ⟨led, rfl, rfl⟩) fun r st1 hr => ?_
  cases r with
  | error e => exact hr
  | ok fl =>
    cases fl with
    | ret self =>
      obtain ⟨led, rfl, rfl⟩ := hr
      generalize fresh : (Obj.mk (.type "set") none (.set #[] 0 (.fresh 0 0 led)) #[]) = ob
      have atS : (s.heap.push ob).get? s.heap.objs.size = some ob := Heap.get?_push_size _ (by rw [← fresh]; rfl)
      have isS : Shared.TypeIs { s with heap := s.heap.push ob } (.ref s.heap.objs.size) "set" := ⟨_, atS, by rw [← fresh]⟩
      have in1 := PySem.F.called_set.init.lookup
      have in2 := PySem.F.called_set.init.bind (.ref s.heap.objs.size)
      repeat (any_goals (first | assumption | wp_step))
      refine codeAny_mono (codeAny_call_builtin (R := wants (fun r st2 => r = .none ∧ ∃ h2 tk, st2 = { s with heap := h2, toks := tk } ∧ h2.SetOf (mixKind P w) s.heap.objs.size (isIn ks) (uq ks).length ∧
          (∀ b o, s.heap.get? b = some o → h2.get? b = some o)) E) PySem.F.called_set.init.plain PySem.F.entry_set_init (check_set_init_1 isS ?_)) fun r2 st2 hr2 => ?_
      · obtain ⟨lo, hlo, hcl, nl, hdl⟩ := hl
        obtain ⟨lcls, ldict, ldata, lslots⟩ := lo
        simp only at hcl hdl
        subst hcl; subst hdl
        have hlo' : (s.heap.push ob).get? l = some { cls := .type "tuple", dict := ldict, data := .seq items nl, slots := lslots } := Heap.get?_push_of_some _ hlo
        have no1 := PySem.F.sub_tuple_set
        have no2 := PySem.F.sub_tuple_frozenset
        have no3 : (Value.type "tuple" == Value.type "dict") = false := by decide
        have hl1 : (s.heap.push ob).IsTuple l items := ⟨_, hlo', rfl, nl, rfl⟩
        have hS0 : (s.heap.push ob).get? s.heap.objs.size = some { cls := .type "set", dict := none, data := .set #[] 0 (.fresh 0 0 led) } := by rw [atS, ← fresh]
        unfold Builtin.«set.__init__» noKeywords Builtin.Frozenset.updateFrom
        generalize hPI : pyIter = PI
        wp_walk
        subst hPI
        refine wpAny_pyIter_tuple hl1 ?_
        refine wpAny_bind (wpAny_runValue ?_)
        have ltl : l < s.heap.objs.size := Heap.lt_size hlo
        have free3 : A.in1.in1.in1.handled = none := by simp [free]
        have szp : (s.heap.push ob).objs.size = s.heap.objs.size + 1 := Heap.size_push ..
        have ne1 : l ≠ (s.heap.push ob).objs.size := by rw [szp]; exact Nat.ne_of_lt (Nat.lt_succ_of_lt ltl)
        have ne2 : s.heap.objs.size ∉ [(s.heap.push ob).objs.size, l] := by
          rw [szp]
          simp only [List.mem_cons, List.not_mem_nil, or_false, not_or]
          exact ⟨Nat.ne_of_lt (Nat.lt_succ_self _), Nat.ne_of_gt ltl⟩
        have vals : ∀ (i : Nat) (v : Value), items[i]? = some v → ∃ k, ks[i]? = some k ∧ keyIs k v = true := fun i v hv => by
          rw [← Array.getElem?_toList] at hv
          exact paired_at (F := fun k v => keyIs k v = true) hk hv
        refine keys_into ((Walks.tuple free3 _ l ne1 items).toS) s.heap.objs.size ne2 ks size few vals (items.size - 0) 0 _ (by omega) (Nat.zero_le _) ⟨⟨_, Heap.get?_push_size _ rfl, rfl, rfl⟩, (hl1.push _)⟩ ?hS0 ?hR
        case hS0 =>
          have got : ((s.heap.push ob).push { cls := .type "tuple_iterator", data := .fields #[.ref l, .int 0 0] }).get? s.heap.objs.size = some { cls := .type "set", dict := none, data := .set #[] 0 (.fresh 0 0 led) } := Heap.get?_push_of_some _ hS0
          have z : Heap.SetOf (mixKind P w) _ s.heap.objs.size (fun _ => false) 0 := ⟨_, #[], 0, _, got, ⟨rfl, rfl, rfl⟩, rfl, (fun e he => by simp at he), (fun k => by simp), (by decide), (by rfl), rfl⟩
          exact z
        case hR =>
          intro st' mv hS'
          obtain ⟨h2, g2, d2, tk2, os2⟩ := st'
          obtain rfl : g2 = s.gens := mv.gens
          obtain rfl : d2 = s.drawn := mv.drawn
          obtain rfl : os2 = s.os := mv.os
          refine wpAny_pure ?_
          refine wpAny_pure ⟨rfl, h2, tk2, rfl, hS', fun b o e => ?_⟩
          have ltb : b < s.heap.objs.size := Heap.lt_size e
          refine mv.heap b o ?_ (Heap.get?_push_of_some _ (Heap.get?_push_of_some _ e))
          simp only [List.mem_cons, List.not_mem_nil, or_false, not_or, szp]
          exact ⟨Nat.ne_of_lt ltb, Nat.ne_of_lt (Nat.lt_succ_of_lt ltb)⟩
      · cases r2 with
        | error e => exact hr2
        | ok fl2 =>
          cases fl2 with
          | ret r =>
            obtain ⟨rfl, h2, tk, rfl, hS', keep⟩ := hr2
            repeat (any_goals (first | assumption | wp_step))
            exact fin _ _ hS' keep
          | _ => exact hr2.elim
    | _ => exact hr.elim
end
end Y

namespace Y
open PySem PySem.Spec PyProof.Rows L2
section
variable {P : Program} {w : World} {A : Around} {E : Value → Shared → Prop} {s : Shared}
theorem set_of_list {l : Addr} {items : Array Value} (ks : List Key) {Q : Value → Shared → Prop} (free : A.handled = none) (hl : s.heap.IsList l items) (hk : Paired (fun k v => keyIs k v = true) ks items.toList) (few : (uq ks).length + 1 < scanBound)
    (fin : ∀ (h2 : Heap) (tk : Nat), h2.SetOf (mixKind P w) s.heap.objs.size (isIn ks) (uq ks).length → (∀ b o, s.heap.get? b = some o → h2.get? b = some o) → Q (.ref s.heap.objs.size) { s with heap := h2, toks := tk }) :
    wpAny (model P w) A (call (.type "set") [.ref l]) Q E s := by
  have size : items.size = ks.length := by
    have q := Paired.length hk
    rw [Array.length_toList] at q
    exact q.symm
  obtain ⟨cc, tl, hmro⟩ := PySem.F.called_set.mro
  have mk1 := PySem.F.called_set.made
  have mk2 := PySem.F.called_set.sub
  have mk3 := PySem.F.called_set.notType
  have mk4 := PySem.F.called_set.canCreate
  have mk5 := PySem.F.typeCall_set_1 (.ref l)
  refine wpAny_call (codeAny_of_tree ?_)
  refine wpAny_pure ⟨Code.quiet_builtin _ (by decide +kernel), codeAny_builtin PySem.F.entry_type_call ?_⟩
  rw [Around.under_plain (weight_type_call_type "set" [.ref l] []) rfl]
  repeat (any_goals (first | assumption | wp_step))
  refine codeAny_mono (code_set_new_1 (.ref l) (E := E) (Q₁ := fun self st1 => ∃ led : Bool, self = .ref s.heap.objs.size ∧ st1 = { s with heap := s.heap.push { cls := .type "set", dict := none, data := .set #[] 0 (.fresh 0 0 led) } }) fun led => ⟨led, rfl, rfl⟩) fun r st1 hr => ?_
  cases r with
  | error e => exact hr
  | ok fl =>
    cases fl with
    | ret self =>
      obtain ⟨led, rfl, rfl⟩ := hr
      generalize fresh : (Obj.mk (.type "set") none (.set #[] 0 (.fresh 0 0 led)) #[]) = ob
      have atS : (s.heap.push ob).get? s.heap.objs.size = some ob := Heap.get?_push_size _ (by rw [← fresh]; rfl)
      have isS : Shared.TypeIs { s with heap := s.heap.push ob } (.ref s.heap.objs.size) "set" := ⟨_, atS, by rw [← fresh]⟩
      have in1 := PySem.F.called_set.init.lookup
      have in2 := PySem.F.called_set.init.bind (.ref s.heap.objs.size)
      repeat (any_goals (first | assumption | wp_step))
      refine codeAny_mono (codeAny_call_builtin (R := wants (fun r st2 => r = .none ∧ ∃ h2 tk, st2 = { s with heap := h2, toks := tk } ∧ h2.SetOf (mixKind P w) s.heap.objs.size (isIn ks) (uq ks).length ∧
          (∀ b o, s.heap.get? b = some o → h2.get? b = some o)) E) PySem.F.called_set.init.plain PySem.F.entry_set_init (check_set_init_1 isS ?_)) fun r2 st2 hr2 => ?_
      · obtain ⟨lo, hlo, hcl, nl, hdl⟩ := hl
        obtain ⟨lcls, ldict, ldata, lslots⟩ := lo
        simp only at hcl hdl
        subst hcl; subst hdl
        have hlo' : (s.heap.push ob).get? l = some { cls := .type "list", dict := ldict, data := .seq items nl, slots := lslots } := Heap.get?_push_of_some _ hlo
        have no1 := PySem.F.sub_list_set
        have no2 := PySem.F.sub_list_frozenset
        have no3 : (Value.type "list" == Value.type "dict") = false := by decide
        have hl1 : (s.heap.push ob).IsList l items := ⟨_, hlo', rfl, nl, rfl⟩
        have hS0 : (s.heap.push ob).get? s.heap.objs.size = some { cls := .type "set", dict := none, data := .set #[] 0 (.fresh 0 0 led) } := by rw [atS, ← fresh]
        unfold Builtin.«set.__init__» noKeywords Builtin.Frozenset.updateFrom
        generalize hPI : pyIter = PI
        wp_walk
        subst hPI
        refine wpAny_pyIter_list hl1 ?_
        refine wpAny_bind (wpAny_runValue ?_)
        have ltl : l < s.heap.objs.size := Heap.lt_size hlo
        have free3 : A.in1.in1.in1.handled = none := by simp [free]
        have szp : (s.heap.push ob).objs.size = s.heap.objs.size + 1 := Heap.size_push ..
        have ne1 : l ≠ (s.heap.push ob).objs.size := by rw [szp]; exact Nat.ne_of_lt (Nat.lt_succ_of_lt ltl)
        have ne2 : s.heap.objs.size ∉ [(s.heap.push ob).objs.size, l] := by
          rw [szp]
          simp only [List.mem_cons, List.not_mem_nil, or_false, not_or]
          exact ⟨Nat.ne_of_lt (Nat.lt_succ_self _), Nat.ne_of_gt ltl⟩
        have vals : ∀ (i : Nat) (v : Value), items[i]? = some v → ∃ k, ks[i]? = some k ∧ keyIs k v = true := fun i v hv => by
          rw [← Array.getElem?_toList] at hv
          exact paired_at (F := fun k v => keyIs k v = true) hk hv
        refine keys_into ((Walks.list free3 _ l ne1 items).toS) s.heap.objs.size ne2 ks size few vals (items.size - 0) 0 _ (by omega) (Nat.zero_le _) ⟨⟨_, Heap.get?_push_size _ rfl, rfl, rfl⟩, (hl1.push _)⟩ ?hS0 ?hR
        case hS0 =>
          have got : ((s.heap.push ob).push { cls := .type "list_iterator", data := .fields #[.ref l, .int 0 0] }).get? s.heap.objs.size = some { cls := .type "set", dict := none, data := .set #[] 0 (.fresh 0 0 led) } := Heap.get?_push_of_some _ hS0
          have z : Heap.SetOf (mixKind P w) _ s.heap.objs.size (fun _ => false) 0 := ⟨_, #[], 0, _, got, ⟨rfl, rfl, rfl⟩, rfl, (fun e he => by simp at he), (fun k => by simp), (by decide), (by rfl), rfl⟩
          exact z
        case hR =>
          intro st' mv hS'
          obtain ⟨h2, g2, d2, tk2, os2⟩ := st'
          obtain rfl : g2 = s.gens := mv.gens
          obtain rfl : d2 = s.drawn := mv.drawn
          obtain rfl : os2 = s.os := mv.os
          refine wpAny_pure ?_
          refine wpAny_pure ⟨rfl, h2, tk2, rfl, hS', fun b o e => ?_⟩
          have ltb : b < s.heap.objs.size := Heap.lt_size e
          refine mv.heap b o ?_ (Heap.get?_push_of_some _ (Heap.get?_push_of_some _ e))
          simp only [List.mem_cons, List.not_mem_nil, or_false, not_or, szp]
          exact ⟨Nat.ne_of_lt ltb, Nat.ne_of_lt (Nat.lt_succ_of_lt ltb)⟩
      · cases r2 with
        | error e => exact hr2
        | ok fl2 =>
          cases fl2 with
          | ret r =>
            obtain ⟨rfl, h2, tk, rfl, hS', keep⟩ := hr2
            repeat (any_goals (first | assumption | wp_step))
            exact fin _ _ hS' keep
          | _ => exact hr2.elim
    | _ => exact hr.elim
end
end Y

namespace Y
open PySem PySem.Spec PyProof.Rows L2
section
variable {P : Program} {w : World} {A : Around} {E : Value → Shared → Prop} {s : Shared}
end
section
variable {X : Cx}
theorem key_is {k : Key} {u : Value} (r : L2.RelV (kV k) u) : keyIs k u = true := by
  cases k with
  | inl i => obtain ⟨t, rfl⟩ : ∃ t, u = Value.int i t := r; exact keyIs_int i t
  | inr x => obtain ⟨t, rfl⟩ : ∃ t, u = Value.str x t := r; exact keyIs_str x t
theorem keys_of_vals : ∀ {ks : List Key} {us : List Value}, Vals (ks.map kV) us → Paired (fun k v => keyIs k v = true) ks us
  | [], _, .nil => .nil
  | k :: ks, _, .cons r t => .cons (key_is r) (keys_of_vals t)
def rSetK (K : PySem.W.Frag) (P : Program) (w : World) : List V → Hp → VK → Prop := fun xs H Q => ∃ (a : Addr) (ks : List Key), xs = [.ref a] ∧ (SqL K H a (ks.map kV) ∨ SqT K H a (ks.map kV)) ∧ (uq ks).length ≤ 4000 ∧
  ∀ p, H p = none → Q (.ref p) (upd H p (SetK P w p (isIn ks) (uq ks).length))
theorem cr_setK (hc : X.calm = true) : CallR X (.type "set") (rSetK X.K X.prog X.w) := by
  intro pins s σ H xs us Q I r h
  obtain ⟨a, ks, rfl, hq, few, q⟩ := h
  obtain ⟨u, rfl, ru⟩ := vals1 r
  cases ru
  have room : (uq ks).length + 1 < scanBound := by show (uq ks).length + 1 < 4096; omega
  have done : ∀ (h2 : Heap) (tk : Nat), h2.SetOf (mixKind X.prog X.w) s.heap.objs.size (isIn ks) (uq ks).length → (∀ b o, s.heap.get? b = some o → h2.get? b = some o) → EP X pins σ Q (.ref s.heap.objs.size) { s with heap := h2, toks := tk } := fun h2 tk hS keep =>
    ⟨.ref _, _, I.laid (t' := tk) keep (Nat.le_refl _) (setK_new hS), rfl, q _ (I.hok.fresh (Nat.le_refl _))⟩
  rcases hq with hq | hq
  · obtain ⟨its, rv, pl, _⟩ := I.list hq
    exact set_of_list ks (I.ok.hd hc) pl.isList (by simpa using keys_of_vals rv) room done
  · obtain ⟨its, rv, tp, _⟩ := I.tuple hq
    exact set_of_tuple ks (I.ok.hd hc) tp (by simpa using keys_of_vals rv) room done
theorem call_lenK : CallR X (.builtin "len") (fun xs H Q => ∃ (a : Addr) (S : Key → Bool) (n : Nat), xs = [.ref a] ∧ H a = some (SetK X.prog X.w a S n) ∧ n ≤ 100000 ∧ Q (.int (n : Nat)) H) := by
  intro pins s σ H xs us Q I r h
  obtain ⟨a, S, n, rfl, ha, few, q⟩ := h
  obtain ⟨u, rfl, ru⟩ := vals1 r
  cases ru
  obtain ⟨o, es, ep, t, ho, hex, hd, _, _, _, hf, hn⟩ := setK_get I ha
  exact call_len_set ho hex hd hf (by rw [hn]; omega) ⟨.int (n : Nat), H, I.tok _, ⟨_, by rw [hn]⟩, q⟩
end
end Y

namespace Y
open PySem PySem.Spec PyProof.Rows L2
theorem PotAt.p_ne {H : Hp} {p g s a : Addr} {xs : List V} (Z : PotAt H p g s) (h : H a = some (.tup xs)) : a ≠ p ∧ a ≠ g := by
  obtain ⟨⟨gs, ss, lap, q, hp, hg, _⟩, _⟩ := Z
  exact ⟨fun e => (by rw [e, hp] at h; cases h), fun e => (by rw [e, hg] at h; cases h)⟩
theorem PotAt.p_neD {H : Hp} {p g s a : Addr} {xs : List (Key × V)} (Z : PotAt H p g s) (h : H a = some (.dK xs)) : a ≠ p ∧ a ≠ g := by
  obtain ⟨⟨gs, ss, lap, q, hp, hg, _⟩, _⟩ := Z
  exact ⟨fun e => (by rw [e, hp] at h; cases h), fun e => (by rw [e, hg] at h; cases h)⟩
theorem PotAt.free {H : Hp} {p g s a : Addr} (Z : PotAt H p g s) (h : H a = none) : a ≠ p ∧ a ≠ g ∧ a ≠ s := by
  obtain ⟨⟨gs, ss, lap, q, hp, hg, hs, _⟩, _⟩ := Z
  exact ⟨(ne_of_none hp h).symm, (ne_of_none hg h).symm, (ne_of_none hs h).symm⟩
/-- the pot stays where nothing that it holds is touched -/
theorem PotAt.same {H H' : Hp} {p g s : Addr} (Z : PotAt H p g s) (e : Same H H') : PotAt H' p g s := by
  obtain ⟨⟨gs, ss, lap, q, hp, hg, hs, r⟩, k1, k2, k3⟩ := Z
  exact ⟨⟨gs, ss, lap, q, e _ _ hp, e _ _ hg, e _ _ hs, r⟩, k1, k2, k3⟩
theorem PotAt.put {H : Hp} {p g s a : Addr} {o : HO} (Z : PotAt H p g s) (n : a ≠ p ∧ a ≠ g ∧ a ≠ s) : PotAt (upd H a o) p g s := by
  obtain ⟨⟨gs, ss, lap, q, hp, hg, hs, r⟩, k1, k2, k3⟩ := Z
  exact ⟨⟨gs, ss, lap, q, by rw [upd_ne n.1.symm]; exact hp, by rw [upd_ne n.2.1.symm]; exact hg, by rw [upd_ne n.2.2.symm]; exact hs, r⟩, k1, k2, k3⟩
theorem PotAt.ne_s {H H' : Hp} {p g s a : Addr} (Z : PotAt H p g s) (b : But p g H H') (h : H' a = none) : a ≠ s := by
  obtain ⟨⟨gs, ss, lap, q, hp, hg, hs, r⟩, k1, k2, k3⟩ := Z
  exact (ne_of_none (b _ _ hs k2.symm k3.symm) h).symm
theorem But.tup {p g : Addr} {K : PySem.W.Frag} {H H' : Hp} {a s : Addr} {xs : List V} (e : But p g H H') (Z : PotAt H p g s) (h : SqT K H a xs) : SqT K H' a xs := by
  obtain ⟨⟨gs, ss, lap, q, hp, hg, _⟩, _⟩ := Z
  have ne : ∀ {o}, H a = some o → (∀ ys, o ≠ .lst ys) → a ≠ p ∧ a ≠ g := fun {o} k n => ⟨fun z => n _ (by rw [z, hp] at k; exact (Option.some.inj k).symm), fun z => n _ (by rw [z, hg] at k; exact (Option.some.inj k).symm)⟩
  rcases h with (h | ⟨o, h⟩) | h
  · have k := ne h fun ys z => nomatch z
    exact .inl (.inl (e _ _ h k.1 k.2))
  · have k := ne h fun ys z => nomatch z
    exact .inl (.inr ⟨o, e _ _ h k.1 k.2⟩)
  · exact .inr h
theorem But.free {p g : Addr} {H H' : Hp} (e : But p g H H') {l : Addr} (h : H' l = none) (np : l ≠ p) (ng : l ≠ g) : H l = none := by
  cases q : H l with
  | none => rfl
  | some o =>
    rw [e l o q np ng] at h
    cases h
theorem But.put {p g : Addr} {H H' : Hp} {D : Addr} {o : HO} (s : But p g H H') (n : H D = none) : But p g H (upd H' D o) := fun b u e n1 n2 => by
  rw [upd_ne (ne_of_none e n)]
  exact s b u e n1 n2
section
variable {P : Program} {w : World} {K : PySem.W.Frag} {mg : Str → Option Value} {base : Heap}
abbrev s_l_any : Stmt := topS 32
theorem sc_l_any : FnScope ["_law_pot_here", "_law_items"] ["_law_pot_here", "_law_items"] (defScope s_l_any) := ⟨rfl, rfl, rfl, by decide +kernel, rfl, by decide +kernel, by decide +kernel⟩
def spAny (K : PySem.W.Frag) : Sp := fun vs H Q _ => ∃ (p g s a : Addr) (xs : List V), vs = [.ref p, .ref a] ∧ PotAt H p g s ∧ (SqL K H a xs ∧ a ≠ p ∧ a ≠ g ∨ SqT K H a xs) ∧ 0 < xs.length ∧ xs.length ≤ 1000000 ∧
  ∀ (j : Nat) (x : V) H', xs[j]? = some x → PotAt H' p g s → But p g H H' → Q x H'
theorem ok_any {f : Addr} {fd : FuncData} (F : Fun K "_law_any" "_law_any" s_l_any f fd) (T : Bi mg) (D_l_draw : Has P w K mg base "_law_draw" 1 ["_law_pot_here", "_law_many"] spDraw) : FnOk P w K mg base CX0 2 f fd ["_law_pot_here", "_law_items"] (spAny K) := by
  refine F.ok sc_l_any (fun vs H Q E h => ?_) (fun cdv A outer s₀ H vs Q E hr h => ?_)
  · obtain ⟨p, g, s, a, xs, rfl, _⟩ := h
    rfl
  · obtain ⟨p, g, s, a, xs, rfl, Z, hS, l0, l1, kk⟩ := h
    refine ⟨_, (pss_one (ps_ret (pe_ix ix_seq (pv 1) (D_l_draw.call (hr.mono (by decide)) (by rfl) (pa_cons (pv 0) (pa_cons (pe_callB call_len_seq (by rfl) T.len PySem.boot_len (pa_cons (pv 1) pa_nil)) pa_nil))) (fun _ _ => rfl)))), ?_⟩
    have hS' : SqL K H a xs ∨ SqT K H a xs := hS.elim (fun z => .inl z.1) .inr
    refine ⟨_, rfl, _, rfl, _, rfl, a, xs, rfl, hS', p, g, s, _, rfl, Z, by omega, by omega, fun r H1 r0 r1 Z1 b1 => ?_⟩
    obtain ⟨j, rfl⟩ : ∃ j : Nat, r = (j : Int) := ⟨_, (Int.toNat_of_nonneg r0).symm⟩
    have hj : j < xs.length := by omega
    have hx : xs[j]? = some xs[j] := List.getElem?_eq_getElem hj
    rcases hS with ⟨hS, n1, n2⟩ | hS
    · exact .inl ⟨a, xs, _, _, rfl, rfl, b1.seq (fun _ => n1) (fun _ => n2) hS, atI_nat hx, kk j _ _ hx Z1 b1⟩
    · exact .inr (.inl ⟨a, xs, _, _, rfl, rfl, b1.tup Z hS, atI_nat hx, kk j _ _ hx Z1 b1⟩)
abbrev s_l_mixed : Stmt := topS 33
theorem sc_l_mixed : FnScope ["_law_pot_here", "_law_items", "_law_line", "_law_at", "_law_other"] ["_law_pot_here", "_law_items"] (defScope s_l_mixed) := ⟨rfl, rfl, rfl, by decide +kernel, rfl, by decide +kernel, by decide +kernel⟩
def spMixed (K : PySem.W.Frag) : Sp := fun vs H Q _ => ∃ (p g s a : Addr) (xs : List V), vs = [.ref p, .ref a] ∧ PotAt H p g s ∧ (SqL K H a xs ∨ SqT K H a xs) ∧ 0 < xs.length ∧ xs.length ≤ 1000000 ∧
  ∀ (l : Addr) (ys : List V) H', ys.Perm xs → H l = none → H' l = some (.lst ys) → PotAt H' p g s → But p g H H' → Q (.ref l) H'
theorem ok_mixed {f : Addr} {fd : FuncData} (F : Fun K "_law_mixed" "_law_mixed" s_l_mixed f fd) (T : Bi mg) (D_l_draw : Has P w K mg base "_law_draw" 1 ["_law_pot_here", "_law_many"] spDraw) : FnOk P w K mg base CX0 2 f fd ["_law_pot_here", "_law_items"] (spMixed K) := by
  refine F.ok sc_l_mixed (fun vs H Q E h => ?_) (fun cdv A outer s₀ H vs Q E hr h => ?_)
  · obtain ⟨p, g, s, a, xs, rfl, _⟩ := h
    rfl
  · obtain ⟨p, g, s, a, xs, rfl, Z, hS, l0, l1, kk⟩ := h
    refine ⟨_, (pss_cons (ps_set (i := 2) sc_l_mixed.nd rfl (.inl rfl) (pe_callTy (T := "list") (call_list_of) (by rfl) T.list_ (by decide +kernel) (pa_cons (pv 1) pa_nil)))
 (pss_cons (ps_for PassesOwn.never rfl (pi_range1 (by rfl) T.range (pa_cons (pe_callB call_len_seq (by rfl) T.len PySem.boot_len (pa_cons (pv 2) pa_nil)) pa_nil)) (pg_name (i := 3) sc_l_mixed.nd rfl (.inl rfl))
  (pss_cons (ps_set (i := 4) sc_l_mixed.nd rfl (.inl rfl) (D_l_draw.call (hr.mono (by decide)) (by rfl) (pa_cons (pv 0) (pa_cons (pe_callB call_len_seq (by rfl) T.len PySem.boot_len (pa_cons (pv 2) pa_nil)) pa_nil))))
 (pss_one (ps_asg (pe_tup (pa_cons (pe_ix ix_list (pv 2) (pv 4) (fun _ _ => rfl)) (pa_cons (pe_ix ix_list (pv 2) (pv 3) (fun _ _ => rfl)) pa_nil))) (pg_tup (by rfl) (pgs_cons (pg_sub (pv 2) (pv 3) set_list) (pgs_cons (pg_sub (pv 2) (pv 4) set_list) pgs_nil)))))))
 (pss_one (ps_ret (pv 2))))), ?_⟩
    refine ⟨_, rfl, a, xs, rfl, hS, fun l nl => ?_⟩
    have nls := Z.free nl
    refine ⟨_, rfl, l, xs, rfl, .inl (SqL.of upd_same), _, rfl, by omega, by omega, ?_⟩
    refine for_range (lo := 0) (n := ((xs.length : Nat) : Int).toNat) (fun i σ H1 => ∃ y3 y4 ys, σ = [some (.ref p), some (.ref a), some (.ref l), y3, y4] ∧ H1 l = some (.lst ys) ∧ ys.Perm xs ∧ PotAt H1 p g s ∧ But p g H H1)
      ⟨none, none, xs, rfl, upd_same, List.Perm.refl _, Z.put nls, (But.refl H).put nl⟩ ?_ ?_
    · rintro i σ H1 hi ⟨y3, y4, ys, rfl, hl, pm, Z1, b1⟩
      have ly := pm.length_eq
      have hi' : i < ys.length := by omega
      refine ⟨_, rfl, _, rfl, l, ys, rfl, .inl (SqL.of hl), p, g, s, _, rfl, Z1, by omega, by omega, fun r H2 r0 r1 Z2 b2 => ?_⟩
      obtain ⟨j, rfl⟩ : ∃ j : Nat, r = (j : Int) := ⟨_, (Int.toNat_of_nonneg r0).symm⟩
      have hj : j < ys.length := by omega
      have hl2 : H2 l = some (.lst ys) := b2 _ _ hl nls.1 nls.2.1
      have gi : atI ys ((0 : Int) + (i : Nat)) = some ys[i] := at_of (Int.zero_add _) (List.getElem?_eq_getElem hi')
      have gj : atI ys (j : Int) = some ys[j] := atI_nat (List.getElem?_eq_getElem hj)
      refine ⟨_, rfl, _, rfl, l, ys, _, _, rfl, rfl, SqL.of hl2, gj, _, rfl, _, rfl, l, ys, _, _, rfl, rfl, SqL.of hl2, gi, (by show 2 ≤ sizeLine; decide), fun t nt => ?_⟩
      have nlt : l ≠ t := ne_of_none hl2 nt
      have h3 : (upd H2 t (.tup [ys[j], ys[i]])) l = some (.lst ys) := by rw [upd_ne nlt]; exact hl2
      refine ⟨t, [ys[j], ys[i]], rfl, SqT.of upd_same, rfl, ys[j], [ys[i]], rfl, ?_⟩
      refine ⟨_, rfl, _, rfl, l, ys, _, i, rfl, rfl, h3, (by rw [show (0 : Int) + (i : Nat) = (i : Int) from Int.zero_add _]; exact ixN_nat hi'), ys[i], [], rfl, ?_⟩
      refine ⟨_, rfl, _, rfl, l, _, _, j, rfl, rfl, upd_same, (by rw [List.length_set]; exact ixN_nat hj), rfl, ?_⟩
      refine ⟨_, _, (ys.set i ys[j]).set j ys[i], rfl, upd_same, (List.set_set_perm hi' hj).trans pm, ?_, ?_⟩
      · exact ((Z2.put (Z2.free nt)).put nls).put nls
      · exact (((b1.trans b2).put (b1.free (b2.free nt (Z2.free nt).1 (Z2.free nt).2.1) (Z2.free nt).1 (Z2.free nt).2.1)).put nl).put nl
    · rintro σ H1 ⟨y3, y4, ys, rfl, hl, pm, Z1, b1⟩
      exact ⟨_, rfl, kk l ys H1 pm nl hl Z1 b1⟩
end
end Y

namespace Y
open PySem PySem.Spec PyProof.Rows L2
/-! ### names -/
def NM8 : List Str := ["a", "b", "c", "d", "e", "x", "yy", "half"]
def nmB (x : Str) : Bool := decide (1 ≤ x.cps.size) && decide (x.cps.size ≤ 8) && x.cps.toList.all fun c => decide (97 ≤ c) && decide (c ≤ 122)
theorem nm8_ok : ∀ x ∈ NM8, nmB x = true := by decide +kernel
theorem nm8_nd : NM8.Nodup := by decide +kernel
theorem perm_map {α β : Type} {f : α → β} {ys zs : List β} (h : ys.Perm zs) : ∀ {xs : List α}, zs = xs.map f → ∃ ws : List α, ws.Perm xs ∧ ys = ws.map f := by
  induction h with
  | nil =>
    intro xs e
    cases xs with
    | nil => exact ⟨[], .nil, rfl⟩
    | cons a r => simp at e
  | cons y _ ih =>
    intro xs e
    cases xs with
    | nil => simp at e
    | cons a r =>
      simp only [List.map_cons, List.cons.injEq] at e
      obtain ⟨e1, e2⟩ := e
      obtain ⟨ws, p, q⟩ := ih e2
      exact ⟨a :: ws, p.cons a, by rw [List.map_cons, ← e1, ← q]⟩
  | swap y z l =>
    intro xs e
    match xs, e with
    | [], e => simp at e
    | [_], e => simp at e
    | a :: b :: r, e =>
      simp only [List.map_cons, List.cons.injEq] at e
      obtain ⟨e1, e2, e3⟩ := e
      exact ⟨b :: a :: r, List.Perm.swap a b r, by rw [List.map_cons, List.map_cons, ← e1, ← e2, ← e3]⟩
  | trans _ _ ih1 ih2 =>
    intro xs e
    obtain ⟨ws, p, q⟩ := ih2 e
    obtain ⟨vs, p2, q2⟩ := ih1 q
    exact ⟨vs, p2.trans p, q2⟩
/-! ### deeds, pushes: the mathematics -/
inductive De where
  | zero (x : Str) | copy (x y : Str) | more (x : Str)
def De.fst : De → Str
  | .zero x => x
  | .copy x _ => x
  | .more x => x
def De.ns : De → List Str
  | .zero x => [x]
  | .copy x y => [x, y]
  | .more x => [x]
def deV : De → List V
  | .zero x => [.str "zero", .str x]
  | .copy x y => [.str "copy", .str x, .str y]
  | .more x => [.str "more", .str x]
abbrev PF := Str → Option Str × Int
def upF {β : Type} (F : Str → β) (x : Str) (e : β) : Str → β := fun y => if y = x then e else F y
theorem upF_same {β : Type} {F : Str → β} {x : Str} {e : β} : upF F x e x = e := if_pos rfl
theorem upF_ne {β : Type} {F : Str → β} {x y : Str} {e : β} (h : y ≠ x) : upF F x e y = F y := if_neg h
def stillF : PF := fun x => (some x, 0)
def behF (F : PF) : De → Option Str × Int
  | .zero _ => (none, 0)
  | .copy _ y => F y
  | .more x => ((F x).1, (F x).2 + 1)
def stepF (F : PF) (d : De) : PF := upF F d.fst (behF F d)
def pushF (ds : List De) : PF := ds.foldl stepF stillF
def doV (v : Str → Int) : De → Int
  | .zero _ => 0
  | .copy _ y => v y
  | .more x => v x + 1
def doF (v : Str → Int) (d : De) : Str → Int := upF v d.fst (doV v d)
def evP (F : PF) (v : Str → Int) : Str → Int := fun x => (match (F x).1 with | none => 0 | some y => v y) + (F x).2
theorem ev_still (v : Str → Int) : evP stillF v = v := by
  funext x
  show v x + 0 = v x
  omega
theorem ev_step (F : PF) (v : Str → Int) (d : De) : evP (stepF F d) v = doF (evP F v) d := by
  funext x
  unfold evP stepF doF
  by_cases h : x = d.fst
  · subst h
    rw [upF_same, upF_same]
    cases d with
    | zero x => show (0 : Int) + 0 = 0; rfl
    | copy x y => rfl
    | more x =>
      show (match (F x).1 with | none => 0 | some y => v y) + ((F x).2 + 1) = ((match (F x).1 with | none => 0 | some y => v y) + (F x).2) + 1
      omega
  · rw [upF_ne h, upF_ne h]
theorem ev_fold (v : Str → Int) : ∀ (ds : List De) (F : PF), evP (ds.foldl stepF F) v = ds.foldl doF (evP F v)
  | [], _ => rfl
  | d :: ds, F => by
    show evP (ds.foldl stepF (stepF F d)) v = ds.foldl doF (doF (evP F v) d)
    rw [ev_fold v ds, ev_step]
theorem ev_push (v : Str → Int) (ds : List De) : evP (pushF ds) v = ds.foldl doF v := by
  unfold pushF
  rw [ev_fold, ev_still]
def thenF (A B : PF) : PF := fun x => match (B x).1 with | none => (none, (B x).2) | some y => ((A y).1, (A y).2 + (B x).2)
theorem then_still (A : PF) : thenF A stillF = A := by
  funext x
  show ((A x).1, (A x).2 + 0) = A x
  rw [Int.add_zero]
theorem then_step (A B : PF) (d : De) : thenF A (stepF B d) = stepF (thenF A B) d := by
  funext x
  unfold stepF
  by_cases h : x = d.fst
  · subst h
    rw [upF_same]
    unfold thenF
    rw [upF_same]
    cases d with
    | zero x => rfl
    | copy x y => rfl
    | more x =>
      show (match (B x).1 with | none => (none, (B x).2 + 1) | some y => ((A y).1, (A y).2 + ((B x).2 + 1))) = _
      show _ = ((match (B x).1 with | none => ((none : Option Str), (B x).2) | some y => ((A y).1, (A y).2 + (B x).2)).1, (match (B x).1 with | none => ((none : Option Str), (B x).2) | some y => ((A y).1, (A y).2 + (B x).2)).2 + 1)
      cases (B x).1 with
      | none => rfl
      | some y => show ((A y).1, (A y).2 + ((B x).2 + 1)) = ((A y).1, ((A y).2 + (B x).2) + 1); rw [Int.add_assoc]
  · rw [upF_ne h]
    unfold thenF
    rw [upF_ne h]
theorem then_fold (A : PF) : ∀ (ds : List De) (B : PF), thenF A (ds.foldl stepF B) = ds.foldl stepF (thenF A B)
  | [], _ => rfl
  | d :: ds, B => by
    show thenF A (ds.foldl stepF (stepF B d)) = ds.foldl stepF (stepF (thenF A B) d)
    rw [then_fold A ds, then_step]
theorem then_push (ds es : List De) : thenF (pushF ds) (pushF es) = pushF (ds ++ es) := by
  show thenF (pushF ds) (es.foldl stepF stillF) = _
  rw [then_fold, then_still]
  unfold pushF
  rw [List.foldl_append]
/-- sources stay among the names, mores within the number of deeds -/
structure Within (ns : List Str) (n : Int) (F : PF) : Prop where
  src : ∀ x ∈ ns, ∀ y, (F x).1 = some y → y ∈ ns
  lo : ∀ x, 0 ≤ (F x).2
  hi : ∀ x, (F x).2 ≤ n
theorem within_still (ns : List Str) : Within ns 0 stillF := ⟨fun x hx y e => by cases e; exact hx, fun _ => Int.le_refl _, fun _ => Int.le_refl _⟩
theorem within_step {ns : List Str} {n : Int} {F : PF} {d : De} (h : Within ns n F) (hd : ∀ x ∈ d.ns, x ∈ ns) : Within ns (n + 1) (stepF F d) := by
  have hn : 0 ≤ n := Int.le_trans (h.lo d.fst) (h.hi d.fst)
  refine ⟨fun x hx y e => ?_, fun x => ?_, fun x => ?_⟩
  · unfold stepF at e
    by_cases k : x = d.fst
    · subst k
      rw [upF_same] at e
      cases d with
      | zero x => cases e
      | copy x z => exact h.src z (hd z (by simp [De.ns])) y e
      | more x => exact h.src x hx y e
    · rw [upF_ne k] at e
      exact h.src x hx y e
  · unfold stepF
    by_cases k : x = d.fst
    · subst k
      rw [upF_same]
      cases d with
      | zero x => exact Int.le_refl _
      | copy x z => exact h.lo z
      | more x => have := h.lo x; show 0 ≤ (F x).2 + 1; omega
    · rw [upF_ne k]; exact h.lo x
  · unfold stepF
    by_cases k : x = d.fst
    · subst k
      rw [upF_same]
      cases d with
      | zero x => show (0 : Int) ≤ n + 1; omega
      | copy x z => have := h.hi z; show (F z).2 ≤ n + 1; omega
      | more x => have := h.hi x; show (F x).2 + 1 ≤ n + 1; omega
    · rw [upF_ne k]; have := h.hi x; omega
theorem within_fold {ns : List Str} : ∀ (ds : List De) (n : Int) (F : PF), Within ns n F → (∀ d ∈ ds, ∀ x ∈ d.ns, x ∈ ns) → Within ns (n + (ds.length : Nat)) (ds.foldl stepF F)
  | [], n, F, h, _ => by simpa using h
  | d :: ds, n, F, h, hd => by
    have q := within_fold ds (n + 1) (stepF F d) (within_step h (hd d List.mem_cons_self)) fun e m => hd e (List.mem_cons_of_mem _ m)
    have e : n + ((d :: ds).length : Nat) = n + 1 + (ds.length : Nat) := by rw [List.length_cons]; omega
    rw [e]
    exact q
theorem within_push {ns : List Str} (ds : List De) (h : ∀ d ∈ ds, ∀ x ∈ d.ns, x ∈ ns) : Within ns (ds.length : Nat) (pushF ds) := by
  have q := within_fold ds 0 stillF (within_still ns) h
  rw [Int.zero_add] at q
  exact q
/-! ### how they stand in the heap -/
def osV : Option Str → V
  | none => .non
  | some x => .str x
/-- a dict with the names as keys, in their order, and values of which something is told -/
def DicAt (G : Hp → Str → V → Prop) (H : Hp) (d : Addr) (ns : List Str) : Prop := ∃ kvs : List (Key × V), H d = some (.dK kvs) ∧ kvs.map (·.1) = ns.map Sum.inr ∧ ∀ x ∈ ns, ∃ v, valV kvs (.inr x) = some v ∧ G H x v
def isPair (F : PF) (H : Hp) (x : Str) (v : V) : Prop := ∃ t, v = .ref t ∧ H t = some (.tup [osV (F x).1, .int (F x).2])
def isNum (u : Str → Int) (_ : Hp) (x : Str) (v : V) : Prop := v = .int (u x)
/-- what is told as kvs (whoever locks it) -/
structure Dic (G : Hp → Str → V → Prop) (H : Hp) (kvs : List (Key × V)) (ns : List Str) : Prop where
  keys : kvs.map (·.1) = ns.map Sum.inr
  val : ∀ x ∈ ns, ∃ v, valV kvs (.inr x) = some v ∧ G H x v
theorem inr_nd {ns : List Str} (h : ns.Nodup) : (ns.map (Sum.inr : Str → Key)).Nodup := by
  induction ns with
  | nil => exact List.nodup_nil
  | cons a r ih =>
    obtain ⟨h1, h2⟩ := List.nodup_cons.mp h
    rw [List.map_cons]
    refine List.nodup_cons.mpr ⟨fun m => ?_, ih h2⟩
    obtain ⟨z, hz, e⟩ := List.mem_map.mp m
    cases e
    exact h1 hz
section
variable {G : Hp → Str → V → Prop} {H : Hp} {kvs : List (Key × V)} {ns : List Str}
theorem Dic.len (D : Dic G H kvs ns) : kvs.length = ns.length := by
  have q := congrArg List.length D.keys
  simpa using q
theorem Dic.at_ (D : Dic G H kvs ns) (nd : ns.Nodup) {i : Nat} {k : Key} {v : V} (h : kvs[i]? = some (k, v)) : ∃ x, ns[i]? = some x ∧ x ∈ ns ∧ k = Sum.inr x ∧ valV kvs (.inr x) = some v ∧ G H x v := by
  have e : (kvs.map (·.1))[i]? = some k := by rw [List.getElem?_map, h]; rfl
  rw [D.keys] at e
  rw [List.getElem?_map] at e
  cases q : ns[i]? with
  | none => rw [q] at e; cases e
  | some x =>
    rw [q] at e
    have ek : Sum.inr x = k := Option.some.inj e
    subst ek
    have hx := at_mem q
    have hv : valV kvs (Sum.inr x : Key) = some v := val_nodup (by rw [D.keys]; exact inr_nd nd) ((Sum.inr x : Key), v) (at_mem h)
    obtain ⟨v', h1, h2⟩ := D.val x hx
    rw [hv] at h1
    cases h1
    exact ⟨x, rfl, hx, rfl, hv, h2⟩
theorem Dic.mono {G' : Hp → Str → V → Prop} {H' : Hp} (D : Dic G H kvs ns) (h : ∀ x v, x ∈ ns → G H x v → G' H' x v) : Dic G' H' kvs ns := ⟨D.keys, fun x hx => by obtain ⟨v, e, g⟩ := D.val x hx; exact ⟨v, e, h x v hx g⟩⟩
theorem putK_keys {k : Key} {v : V} : ∀ {kvs : List (Key × V)}, (valV kvs k).isSome = true → (putK kvs k v).map (·.1) = kvs.map (·.1) := fun {kvs} h => by
  unfold putK
  rw [valV_any, h, if_pos rfl, List.map_map]
  apply List.map_congr_left
  intro p _
  show (if p.1 = k then (p.1, v) else p).1 = p.1
  by_cases e : p.1 = k
  · rw [if_pos e]
  · rw [if_neg e]
/-- a value is stored under a name -/
theorem Dic.put {G' : Hp → Str → V → Prop} {H' : Hp} (D : Dic G H kvs ns) {x : Str} {v : V} (hx : x ∈ ns) (g : G' H' x v) (h : ∀ y u, y ∈ ns → y ≠ x → G H y u → G' H' y u) : Dic G' H' (putK kvs (.inr x) v) ns := by
  obtain ⟨v0, e0, _⟩ := D.val x hx
  refine ⟨(putK_keys (by rw [e0]; rfl)).trans D.keys, fun y hy => ?_⟩
  rw [valV_put]
  by_cases e : y = x
  · subst e
    exact ⟨v, if_pos rfl, g⟩
  · obtain ⟨u, e1, g1⟩ := D.val y hy
    exact ⟨u, (if_neg fun z => e (Sum.inr.inj z)).trans e1, h y u hy e g1⟩
theorem Dic.none_of (D : Dic G H kvs ns) {x : Str} (hx : x ∉ ns) : valV kvs (.inr x) = none := by
  cases e : valV kvs (.inr x) with
  | none => rfl
  | some v =>
    have q := valV_in e
    rw [D.keys] at q
    obtain ⟨z, hz, e2⟩ := List.mem_map.mp q
    cases e2
    exact (hx hz).elim
/-- a further name -/
theorem Dic.snoc {G' : Hp → Str → V → Prop} {H' : Hp} (D : Dic G H kvs ns) {x : Str} {v : V} (hx : x ∉ ns) (g : G' H' x v) (h : ∀ y u, y ∈ ns → G H y u → G' H' y u) : Dic G' H' (putK kvs (.inr x) v) (ns ++ [x]) := by
  have e0 := D.none_of hx
  rw [putK_new v e0]
  refine ⟨by rw [List.map_append, List.map_append, D.keys]; rfl, fun y hy => ?_⟩
  rw [valV_snoc _ _ _ _ e0]
  rcases List.mem_append.mp hy with m | m
  · have ne : y ≠ x := fun z => hx (z ▸ m)
    obtain ⟨u, e1, g1⟩ := D.val y m
    exact ⟨u, (if_neg fun z => ne (Sum.inr.inj z)).trans e1, h y u m g1⟩
  · rw [List.mem_singleton.mp m]
    exact ⟨v, if_pos rfl, g⟩
theorem Dic.nil : Dic G H [] [] := ⟨rfl, fun x h => nomatch h⟩
theorem pair_keep {F : PF} {H H' : Hp} (h : ∀ t xs, H t = some (.tup xs) → H' t = some (.tup xs)) {x : Str} {v : V} (g : isPair F H x v) : isPair F H' x v := by
  obtain ⟨t, e, k⟩ := g
  exact ⟨t, e, h _ _ k⟩
end
/-- the deeds' tuples -/
abbrev DeT (H : Hp) (ts : List V) (ds : List De) : Prop := Paired (fun v d => ∃ t, v = .ref t ∧ H t = some (.tup (deV d))) ts ds
theorem DeT.keep {H H' : Hp} (h : ∀ t xs, H t = some (.tup xs) → H' t = some (.tup xs)) {ts : List V} {ds : List De} (D : DeT H ts ds) : DeT H' ts ds := Paired.mapP D fun v d ⟨t, e, k⟩ => ⟨t, e, h _ _ k⟩
theorem Paired.get {α β : Type} {F : α → β → Prop} : ∀ {xs : List α} {ys : List β} {i : Nat} {x : α}, Paired F xs ys → xs[i]? = some x → ∃ y, ys[i]? = some y ∧ F x y
  | _, _, _, _, .nil, h => by simp at h
  | _, _, 0, _, .cons f _, h => by
    have e := Option.some.inj h
    subst e
    exact ⟨_, rfl, f⟩
  | _, _, i + 1, _, .cons _ t, h => Paired.get (i := i) t h
theorem Paired.snoc {α β : Type} {F : α → β → Prop} : ∀ {xs : List α} {ys : List β} {x : α} {y : β}, Paired F xs ys → F x y → Paired F (xs ++ [x]) (ys ++ [y])
  | _, _, _, _, .nil, f => .cons f .nil
  | _, _, _, _, .cons g t, f => .cons g (Paired.snoc t f)
theorem Paired.app {α β : Type} {F : α → β → Prop} : ∀ {xs us : List α} {ys vs : List β}, Paired F xs ys → Paired F us vs → Paired F (xs ++ us) (ys ++ vs)
  | _, _, _, _, .nil, t => t
  | _, _, _, _, .cons g t, u => .cons g (Paired.app t u)
theorem Paired.takeP {α β : Type} {F : α → β → Prop} : ∀ {xs : List α} {ys : List β} (n : Nat), Paired F xs ys → Paired F (xs.take n) (ys.take n)
  | _, _, 0, _ => by simp; exact .nil
  | _, _, _ + 1, .nil => .nil
  | _, _, n + 1, .cons g t => .cons g (Paired.takeP n t)
theorem Paired.dropP {α β : Type} {F : α → β → Prop} : ∀ {xs : List α} {ys : List β} (n : Nat), Paired F xs ys → Paired F (xs.drop n) (ys.drop n)
  | _, _, 0, h => h
  | _, _, _ + 1, .nil => .nil
  | _, _, n + 1, .cons _ t => Paired.dropP n t
end Y

namespace Y
open PySem PySem.Spec PyProof.Rows L2
def spIsInt : Sp := fun vs H Q _ => ∃ i : Int, vs = [.int i] ∧ Q (.bl true) H
end Y

namespace Y
open PySem PySem.Spec PyProof.Rows L2
theorem But.tupP {p g s : Addr} {H H' : Hp} (e : But p g H H') (Z : PotAt H p g s) : ∀ t xs, H t = some (.tup xs) → H' t = some (.tup xs) := fun t xs h => e t _ h (Z.p_ne h).1 (Z.p_ne h).2
theorem _root_.L2.Same.tupP {H H' : Hp} (e : Same H H') : ∀ t xs, H t = some (.tup xs) → H' t = some (.tup xs) := fun t xs h => e t _ h
theorem strs_get {ns : List Str} {i : Nat} {v : V} (h : (ns.map V.str)[i]? = some v) : ∃ x, x ∈ ns ∧ v = .str x := by
  obtain ⟨x, hx, e⟩ := map_at h
  exact ⟨x, at_mem hx, e⟩
section
variable {P : Program} {w : World} {K : PySem.W.Frag} {mg : Str → Option Value} {base : Heap}
abbrev s_l_push_names : Stmt := topS 35
theorem sc_l_push_names : FnScope ["_law_pot_here"] ["_law_pot_here"] (defScope s_l_push_names) := ⟨rfl, rfl, rfl, by decide +kernel, rfl, by decide +kernel, by decide +kernel⟩
def spPushNames : Sp := fun vs H Q _ => ∃ (p g s : Addr), vs = [.ref p] ∧ PotAt H p g s ∧
  ∀ (t : Addr) (ns : List Str) H', ns.Nodup → (∀ x ∈ ns, x ∈ NM8) → 1 ≤ ns.length → ns.length ≤ 7 → H t = none → H' t = some (.tup (ns.map V.str)) → PotAt H' p g s → But p g H H' → Q (.ref t) H'
theorem ok_push_names {f : Addr} {fd : FuncData} (F : Fun K "_law_push_names" "_law_push_names" s_l_push_names f fd) (T : Bi mg) (D_l_draw : Has P w K mg base "_law_draw" 1 ["_law_pot_here", "_law_many"] spDraw)
    (D_l_mixed : Has P w K mg base "_law_mixed" 2 ["_law_pot_here", "_law_items"] (spMixed K)) : FnOk P w K mg base CX0 3 f fd ["_law_pot_here"] spPushNames := by
  refine F.ok sc_l_push_names (fun vs H Q E h => ?_) (fun cdv A outer s₀ H vs Q E hr h => ?_)
  · obtain ⟨p, g, s, rfl, _⟩ := h
    rfl
  · obtain ⟨p, g, s, rfl, Z, kk⟩ := h
    refine ⟨_, (pss_one (ps_ret (pe_callTy (T := "tuple") (call_tuple_of) (by rfl) T.tuple_ (by decide +kernel) (pa_cons (pe_slice sl_list (D_l_mixed.call (hr.mono (by decide)) (by rfl) (pa_cons (pv 0) (pa_cons (pe_lst (pa_cons pe_str (pa_cons pe_str (pa_cons pe_str (pa_cons pe_str (pa_cons pe_str (pa_cons pe_str (pa_cons pe_str (pa_cons pe_str pa_nil))))))))) pa_nil))) po_none (po_some (pe_op op_add pe_int (D_l_draw.call (hr.mono (by decide)) (by rfl) (pa_cons (pv 0) (pa_cons pe_int pa_nil)))))) pa_nil)))), ?_⟩
    refine ⟨_, rfl, (by show 8 ≤ sizeLine; decide), fun a na => ?_⟩
    have na3 := Z.free na
    refine ⟨p, g, s, a, NM8.map V.str, rfl, Z.put na3, .inl (SqL.of upd_same), by decide, by decide, fun l ys H1 pm nl hl Z1 b1 => ?_⟩
    obtain ⟨ns, pn, rfl⟩ := perm_map pm rfl
    have b1' : But p g H H1 := (But.of (same_upd na)).trans b1
    have nl3 := (Z.put (o := .lst (NM8.map V.str)) na3).free nl
    have nl0 : H l = none := (same_upd na).free nl
    refine ⟨_, rfl, p, g, s, 7, rfl, Z1, by decide, by decide, fun r H2 r0 r1 Z2 b2 => ?_⟩
    obtain ⟨n, rfl⟩ : ∃ n : Nat, r = (n : Int) := ⟨_, (Int.toNat_of_nonneg r0).symm⟩
    have hl2 := b2 _ _ hl nl3.1 nl3.2.1
    refine ⟨_, _, rfl, rfl, _, rfl, l, _, rfl, SqL.of hl2, fun c nc => ?_⟩
    have ec : cutV (ns.map V.str) none (some (1 + (n : Int))) = (ns.take (n + 1)).map V.str := by
      rw [show (1 + (n : Int)) = ((n + 1 : Nat) : Int) by omega, cut_take, List.map_take]
    rw [ec]
    refine ⟨c, _, rfl, .inl ⟨SqL.of upd_same, fun t nt => ?_⟩⟩
    have len8 : ns.length = 8 := pn.length_eq
    have nc3 := Z2.free nc
    have nt3 := (Z2.put (o := .lst ((ns.take (n + 1)).map V.str)) nc3).free nt
    have b12 := b1'.trans b2
    have nc0 : H c = none := b12.free nc nc3.1 nc3.2.1
    have nt2 : H2 t = none := (same_upd nc).free nt
    have nt0 : H t = none := b12.free nt2 nt3.1 nt3.2.1
    refine kk t (ns.take (n + 1)) _ ((List.take_sublist _ _).nodup (pn.nodup_iff.mpr nm8_nd)) (fun x hx => pn.mem_iff.mp (List.mem_of_mem_take hx)) ?_ ?_ nt0 upd_same ((Z2.put nc3).put nt3) ((b12.put nc0).put nt0)
    · rw [List.length_take, len8]; omega
    · rw [List.length_take, len8]; omega
abbrev s_l_is_int : Stmt := topS 34
theorem sc_l_is_int : FnScope ["_law_thing"] ["_law_thing"] (defScope s_l_is_int) := ⟨rfl, rfl, rfl, by decide +kernel, rfl, by decide +kernel, by decide +kernel⟩
theorem ok_lis_int {f : Addr} {fd : FuncData} (F : Fun K "_law_is_int" "_law_is_int" s_l_is_int f fd) (T : Bi mg) : FnOk P w K mg base CX0 1 f fd ["_law_thing"] spIsInt := by
  refine F.ok sc_l_is_int (fun vs H Q E h => ?_) (fun cdv A outer s₀ H vs Q E hr h => ?_)
  · obtain ⟨i, rfl, _⟩ := h
    rfl
  · obtain ⟨i, rfl, kk⟩ := h
    refine ⟨_, (pss_one (ps_ret (pe_and (pe_callB (id := "isinstance") (r := rIsi K) call_isi (by rfl) T.isinstance (by decide +kernel) (pa_cons (pv 0) (pa_cons (pe_bltn (v := .ty "int") (by rfl) T.int_ (by decide +kernel) rfl) pa_nil))) (pe_one (pe_not (pe_callB (id := "isinstance") (r := rIsi K) call_isi (by rfl) T.isinstance (by decide +kernel) (pa_cons (pv 0) (pa_cons (pe_bltn (v := .ty "bool") (by rfl) T.bool_ (by decide +kernel) rfl) pa_nil)))))))), ?_⟩
    refine ⟨_, rfl, _, _, _, _, true, rfl, .ty "int", .base (.int i), kit_ty (by decide +kernel), true, rfl, ?_⟩
    exact ⟨_, rfl, _, _, _, _, false, rfl, .ty "bool", .base (.int i), kit_ty (by decide +kernel), false, rfl, kk⟩
abbrev s_l_great : Stmt := topS 40
theorem sc_l_great : FnScope ["_law_pot_here", "_law_some"] ["_law_pot_here"] (defScope s_l_great) := ⟨rfl, rfl, rfl, by decide +kernel, rfl, by decide +kernel, by decide +kernel⟩
def spGreat : Sp := fun vs H Q _ => ∃ (p g s : Addr), vs = [.ref p] ∧ PotAt H p g s ∧ ∀ (n : Int) H', 0 ≤ n → PotAt H' p g s → But p g H H' → Q (.int n) H'
theorem ok_great {f : Addr} {fd : FuncData} (F : Fun K "_law_great" "_law_great" s_l_great f fd) (T : Bi mg) (D_l_draw : Has P w K mg base "_law_draw" 1 ["_law_pot_here", "_law_many"] spDraw) : FnOk P w K mg base CX0 2 f fd ["_law_pot_here"] spGreat := by
  refine F.ok sc_l_great (fun vs H Q E h => ?_) (fun cdv A outer s₀ H vs Q E hr h => ?_)
  · obtain ⟨p, g, s, rfl, _⟩ := h
    rfl
  · obtain ⟨p, g, s, rfl, Z, kk⟩ := h
    refine ⟨_, (pss_cons (ps_set (i := 1) sc_l_great.nd rfl (.inl rfl) (D_l_draw.call (hr.mono (by decide)) (by rfl) (pa_cons (pv 0) (pa_cons (pe_op op_pow pe_int pe_int) pa_nil))))
 (pss_one (ps_ret (pe_ix ix_list (pe_lst (pa_cons (pe_op op_mod (pe_callTy (T := "int") call_int1 (by rfl) T.int_ (by decide +kernel) (pa_cons (pv 1) pa_nil)) pe_int) (pa_cons (pe_op op_add (pe_op op_pow pe_int pe_int) (pv 1)) (pa_cons (pe_op op_sub (pe_op op_sub (pe_op op_pow pe_int pe_int) pe_int) (pv 1)) pa_nil)))) (D_l_draw.call (hr.mono (by decide)) (by rfl) (pa_cons (pv 0) (pa_cons pe_int pa_nil))) (fun _ _ => rfl))))), ?_⟩
    refine ⟨_, rfl, 10, 9, rfl, rfl, ⟨by decide, by decide, by decide⟩, p, g, s, _, rfl, Z, by decide, by decide, fun n H1 n0 n1 Z1 b1 => ?_⟩
    have n2 : n < 1000000000 := n1
    refine ⟨_, rfl, .inl ⟨_, rfl, _, _, rfl, rfl, (by decide : (0 : Int) < 30), 10, 20, rfl, rfl, ⟨by decide, by decide, by decide⟩, _, rfl, _, _, rfl, rfl, ?_⟩⟩
    refine ⟨10, 39, rfl, rfl, ⟨by decide, by decide, by decide⟩, _, _, rfl, rfl, _, rfl, _, _, rfl, rfl, (by show 3 ≤ sizeLine; decide), fun l nl => ?_⟩
    have nl3 := Z1.free nl
    have nl0 := b1.free nl nl3.1 nl3.2.1
    refine ⟨_, rfl, p, g, s, 3, rfl, Z1.put nl3, by decide, by decide, fun r H2 r0 r1 Z2 b2 => ?_⟩
    obtain ⟨j, rfl⟩ : ∃ j : Nat, r = (j : Int) := ⟨_, (Int.toNat_of_nonneg r0).symm⟩
    have hl2 := b2 _ _ upd_same nl3.1 nl3.2.1
    have b12 := (b1.put (o := .lst [V.int (n % 30), V.int (10 ^ (20 : Int).toNat + n), V.int (10 ^ (39 : Int).toNat - 1 - n)]) nl0).trans b2
    have e1 : (0 : Int) ≤ 10 ^ (20 : Int).toNat + n := by
      have : (10 : Int) ^ (20 : Int).toNat = 100000000000000000000 := by decide
      omega
    have e2 : (0 : Int) ≤ 10 ^ (39 : Int).toNat - 1 - n := by
      have : (10 : Int) ^ (39 : Int).toNat = 1000000000000000000000000000000000000000 := by decide
      omega
    match j, (show j < 3 by omega) with
    | 0, _ => exact ⟨l, _, _, _, rfl, rfl, SqL.of hl2, atI_nat rfl, kk _ _ (Int.emod_nonneg _ (by decide)) Z2 b12⟩
    | 1, _ => exact ⟨l, _, _, _, rfl, rfl, SqL.of hl2, atI_nat rfl, kk _ _ e1 Z2 b12⟩
    | 2, _ => exact ⟨l, _, _, _, rfl, rfl, SqL.of hl2, atI_nat rfl, kk _ _ e2 Z2 b12⟩
end
end Y

namespace Y
open PySem PySem.Spec PyProof.Rows L2
theorem yesB {c : Bool} {A B : Prop} (hc : c = true) (h : A) : if c = true then A else B := by
  rw [if_pos hc]
  exact h
theorem noB {c : Bool} {A B : Prop} (hc : c = false) (h : B) : if c = true then A else B := by
  rw [hc]
  exact h
def trs (n : Nat) : List Bool := List.replicate n true
theorem trs_all (n : Nat) : (trs n).all id = true := by
  unfold trs
  rw [List.all_eq_true]
  intro b hb
  rw [List.eq_of_mem_replicate hb]
  rfl
theorem trs_next (n : Nat) : (trs n).map V.bl ++ [V.bl true] = (trs (n + 1)).map V.bl := by
  unfold trs
  rw [List.replicate_succ', List.map_append]
  rfl
theorem trs_len (n : Nat) : ((trs n).map V.bl).length = n := by
  unfold trs
  rw [List.length_map, List.length_replicate]
theorem cps_a : ("a" : Str).cps.toList = [97] := by decide +kernel
theorem cps_z : ("z" : Str).cps.toList = [122] := by decide +kernel
theorem not_lt_one {a b : Nat} (h : b ≤ a) : ¬ ([a] : List Nat) < [b] := by
  intro k
  rw [List.cons_lt_cons_iff] at k
  rcases k with k | ⟨_, k⟩
  · omega
  · exact List.not_lt_nil _ k
theorem nmB_parts {x : Str} (h : nmB x = true) : 1 ≤ x.cps.size ∧ x.cps.size ≤ 8 ∧ ∀ c ∈ x.cps.toList, 97 ≤ c ∧ c ≤ 122 := by
  unfold nmB at h
  simp only [Bool.and_eq_true, decide_eq_true_eq, List.all_eq_true] at h
  exact ⟨h.1.1, h.1.2, h.2⟩
section
variable {P : Program} {w : World} {K : PySem.W.Frag} {mg : Str → Option Value} {base : Heap}
abbrev s_is_integer : Stmt := topS 11
theorem sc_is_integer : FnScope ["thing"] ["thing"] (defScope s_is_integer) := ⟨rfl, rfl, rfl, by decide +kernel, rfl, by decide +kernel, by decide +kernel⟩
theorem ok_is_integer {f : Addr} {fd : FuncData} (F : Fun K "is_integer" "is_integer" s_is_integer f fd) (T : Bi mg) : FnOk P w K mg base CX0 1 f fd ["thing"] spIsInt := by
  refine F.ok sc_is_integer (fun vs H Q E h => ?_) (fun cdv A outer s₀ H vs Q E hr h => ?_)
  · obtain ⟨i, rfl, _⟩ := h
    rfl
  · obtain ⟨i, rfl, kk⟩ := h
    refine ⟨_, (pss_one (ps_ret (pe_and (pe_callB (id := "isinstance") (r := rIsi K) call_isi (by rfl) T.isinstance (by decide +kernel) (pa_cons (pv 0) (pa_cons (pe_bltn (v := .ty "int") (by rfl) T.int_ (by decide +kernel) rfl) pa_nil))) (pe_one (pe_not (pe_callB (id := "isinstance") (r := rIsi K) call_isi (by rfl) T.isinstance (by decide +kernel) (pa_cons (pv 0) (pa_cons (pe_bltn (v := .ty "bool") (by rfl) T.bool_ (by decide +kernel) rfl) pa_nil)))))))), ?_⟩
    refine ⟨_, rfl, _, _, _, _, true, rfl, .ty "int", .base (.int i), kit_ty (by decide +kernel), true, rfl, ?_⟩
    exact ⟨_, rfl, _, _, _, _, false, rfl, .ty "bool", .base (.int i), kit_ty (by decide +kernel), false, rfl, kk⟩
abbrev s_is_number : Stmt := topS 12
theorem sc_is_number : FnScope ["thing"] ["thing"] (defScope s_is_number) := ⟨rfl, rfl, rfl, by decide +kernel, rfl, by decide +kernel, by decide +kernel⟩
def spIsNum : Sp := fun vs H Q _ => ∃ i : Int, vs = [.int i] ∧ 0 ≤ i ∧ Q (.bl true) H
theorem ok_is_number {f : Addr} {fd : FuncData} (F : Fun K "is_number" "is_number" s_is_number f fd) (D_is_integer : Has P w K mg base "is_integer" 1 ["thing"] spIsInt) : FnOk P w K mg base CX0 2 f fd ["thing"] spIsNum := by
  refine F.ok sc_is_number (fun vs H Q E h => ?_) (fun cdv A outer s₀ H vs Q E hr h => ?_)
  · obtain ⟨i, rfl, _⟩ := h
    rfl
  · obtain ⟨i, rfl, i0, kk⟩ := h
    refine ⟨_, (pss_one (ps_ret (pe_and (D_is_integer.call (hr.mono (by decide)) (by rfl) (pa_cons (pv 0) pa_nil)) (pe_one (pe_cmpR op_ge (pv 0) pe_int (nomark _)))))), ?_⟩
    refine ⟨_, rfl, i, rfl, true, rfl, _, rfl, _, _, rfl, rfl, ?_⟩
    show Q (.bl (decide (0 ≤ i))) H
    rw [decide_eq_true i0]
    exact kk
abbrev s_is_name : Stmt := topS 13
theorem sc_is_name : FnScope ["thing", "letter"] ["thing"] (defScope s_is_name) := ⟨rfl, rfl, rfl, by decide +kernel, rfl, by decide +kernel, by decide +kernel⟩
def spIsName : Sp := fun vs H Q _ => ∃ x : Str, vs = [.str x] ∧ nmB x = true ∧ ∀ H', Same H H' → Q (.bl true) H'
theorem ok_is_name {f : Addr} {fd : FuncData} (F : Fun K "is_name" "is_name" s_is_name f fd) (T : Bi mg) {tML : Tok} (c_MOST_LETTERS : mg "MOST_LETTERS" = some (.int 8 tML)) : FnOk P w K mg base CX0 1 f fd ["thing"] spIsName := by
  refine F.ok sc_is_name (fun vs H Q E h => ?_) (fun cdv A outer s₀ H vs Q E hr h => ?_)
  · obtain ⟨i, rfl, _⟩ := h
    rfl
  · obtain ⟨x, rfl, hx, kk⟩ := h
    obtain ⟨x1, x8, xc⟩ := nmB_parts hx
    refine ⟨_, (pss_cons (ps_if ((pw_or (pt_not (pt_val (pe_callB (id := "isinstance") (r := rIsi K) call_isi (by rfl) T.isinstance (by decide +kernel) (pa_cons (pv 0) (pa_cons (pe_bltn (v := .ty "str") (by rfl) T.str_ (by decide +kernel) rfl) pa_nil))))) (pw_or1 (pt_not (pt_chain op_le op_le pe_int (pe_callB call_len_str (by rfl) T.len PySem.boot_len (pa_cons (pv 0) pa_nil)) (pe_glob (v := .int 8) (by rfl) c_MOST_LETTERS ⟨_, rfl⟩)))))).pt
  (pss_one (ps_ret pe_bl))
  pss_nil)
 (pss_one (ps_ret (pe_callB (id := "all") (r := rAll K) (cr_all (by rfl)) (by rfl) T.all (by decide +kernel) (pa_cons (pe_lc (own := [("letter", 1)]) (g := gName 1) (tt := tYes) (by rfl) sc_is_name.nd (pi_str (pv 0)) (blkOk_by (N := ["thing", "letter"]) (sc := defScope s_is_name) (by decide +kernel)) (fun _ _ _ _ _ => pg_name (i := 1) sc_is_name.nd rfl (.inl rfl)) (fun _ _ _ _ _ => pts_nil) (fun _ _ _ _ _ => (pe_chain op_le_str op_le_str pe_str (pv 1) pe_str))) pa_nil))))), ?_⟩
    refine ⟨_, rfl, _, _, _, _, true, rfl, .ty "str", .base (.str x), kit_ty (by decide +kernel), true, rfl, ?_⟩
    refine ⟨_, rfl, _, rfl, Nat.le_of_lt (big1 (show x.cps.size ≤ 1000000 by omega)), _, _, rfl, rfl, _, rfl, ?_⟩
    refine yesB (decide_eq_true (show (1 : Int) ≤ (x.cps.size : Nat) by omega)) ?_
    refine ⟨_, _, rfl, rfl, _, rfl, ?_⟩
    refine noB (by rw [decide_eq_true (show ((x.length : Nat) : Int) ≤ 8 by show ((x.cps.size : Nat) : Int) ≤ 8; omega)]; rfl) ?_
    refine ⟨_, rfl, x, rfl, fun D nD => lc_it (walk_str (z := x)) (fun i H1 => Same H H1 ∧ H1 D = some (.lst ((trs i).map V.bl))) ⟨same_upd nD, upd_same⟩ (fun _ _ _ _ => trivial) (fun i v H1 H1' hi q y => ?_) fun H1 q => ?_⟩
    · obtain ⟨rfl, c, hc, rfl⟩ := y
      obtain ⟨q1, q2⟩ := q
      obtain ⟨c1, c2⟩ := xc c (at_mem (i := i) (by rw [Array.getElem?_toList]; exact hc))
      refine ⟨rfl, _, rfl, _, _, rfl, rfl, _, rfl, ?_⟩
      refine yesB (by rw [decide_eq_false (by rw [cps_a]; exact not_lt_one c1)]; rfl) ?_
      refine ⟨_, _, rfl, rfl, _, q2, by rw [trs_len]; exact big1 (by omega), q1.put nD, ?_⟩
      rw [upd_same, decide_eq_false (by rw [cps_z]; exact not_lt_one c2)]
      show some (HO.lst ((trs i).map V.bl ++ [V.bl true])) = _
      rw [trs_next]
    · obtain ⟨q1, q2⟩ := q
      refine ⟨D, _, rfl, SqL.of q2, ?_⟩
      rw [trs_all]
      exact kk H1 q1
abbrev s_has : Stmt := topS 18
theorem sc_has : FnScope ["push", "thing"] ["push", "thing"] (defScope s_has) := ⟨rfl, rfl, rfl, by decide +kernel, rfl, by decide +kernel, by decide +kernel⟩
def spHas : Sp := fun vs H Q _ => ∃ (d : Addr) (kvs : List (Key × V)) (x : Str), vs = [.ref d, .str x] ∧ Rd H d (.dK kvs) ∧ (valV kvs (.inr x)).isSome = true ∧ Q (.bl true) H
theorem ok_has {f : Addr} {fd : FuncData} (F : Fun K "_has" "_has" s_has f fd) (T : Bi mg) : FnOk P w K mg base CX0 1 f fd ["push", "thing"] spHas := by
  refine F.ok sc_has (fun vs H Q E h => ?_) (fun cdv A outer s₀ H vs Q E hr h => ?_)
  · obtain ⟨d, kvs, x, rfl, _⟩ := h
    rfl
  · obtain ⟨d, kvs, x, rfl, hd, hx, kk⟩ := h
    have hu := hu_of hr
    refine ⟨_, (pss_one (ps_ret (pe_and (pe_callB (id := "isinstance") (r := rIsi K) call_isi (by rfl) T.isinstance (by decide +kernel) (pa_cons (pv 1) (pa_cons (pe_bltn (v := .ty "str") (by rfl) T.str_ (by decide +kernel) rfl) pa_nil))) (pe_one (pe_cmp (pc_din hu (pv 1) (pv 0))))))), ?_⟩
    refine ⟨_, rfl, _, _, _, _, true, rfl, .ty "str", .base (.str x), kit_ty (by decide +kernel), true, rfl, ?_⟩
    refine ⟨_, rfl, _, rfl, d, _, rfl, .inl ⟨kvs, Sum.inr x, hd, rfl, rfl⟩, ?_⟩
    rw [hx]
    exact kk
abbrev s_is_pair_in : Stmt := topS 17
theorem sc_is_pair_in : FnScope ["push", "thing", "source", "more"] ["push", "thing"] (defScope s_is_pair_in) := ⟨rfl, rfl, rfl, by decide +kernel, rfl, by decide +kernel, by decide +kernel⟩
def spIsPair : Sp := fun vs H Q _ => ∃ (d t : Addr) (kvs : List (Key × V)) (so : Option Str) (m : Int), vs = [.ref d, .ref t] ∧ Rd H d (.dK kvs) ∧ H t = some (.tup [osV so, .int m]) ∧ (∀ y, so = some y → (valV kvs (.inr y)).isSome = true) ∧ 0 ≤ m ∧ Q (.bl true) H
theorem ok_is_pair_in {f : Addr} {fd : FuncData} (F : Fun K "_is_pair_in" "_is_pair_in" s_is_pair_in f fd) (T : Bi mg) (D_has : Has P w K mg base "_has" 1 ["push", "thing"] spHas) (D_is_number : Has P w K mg base "is_number" 2 ["thing"] spIsNum) :
    FnOk P w K mg base CX0 3 f fd ["push", "thing"] spIsPair := by
  refine F.ok sc_is_pair_in (fun vs H Q E h => ?_) (fun cdv A outer s₀ H vs Q E hr h => ?_)
  · obtain ⟨d, t, kvs, so, m, rfl, _⟩ := h
    rfl
  · obtain ⟨d, t, kvs, so, m, rfl, hd, ht, hs, m0, kk⟩ := h
    refine ⟨_, (pss_cons (ps_if ((pw_or (pt_not (pt_val (pe_callB (id := "isinstance") (r := rIsi K) call_isi (by rfl) T.isinstance (by decide +kernel) (pa_cons (pv 1) (pa_cons (pe_bltn (v := .ty "tuple") (by rfl) T.tuple_ (by decide +kernel) rfl) pa_nil))))) (pw_or1 (pt_cmpR op_ne (pe_callB call_len_seq (by rfl) T.len PySem.boot_len (pa_cons (pv 1) pa_nil)) pe_int (nomark _))))).pt
  (pss_one (ps_ret pe_bl))
  pss_nil)
 (pss_cons (ps_asg (pv 1) (pg_tup (by rfl) (pgs_cons (pg_name (i := 2) sc_is_pair_in.nd rfl (.inl rfl)) (pgs_cons (pg_name (i := 3) sc_is_pair_in.nd rfl (.inl rfl)) pgs_nil))))
 (pss_one (ps_ret (pe_and (pe_or (pe_cmp (pc_isN (pv 2))) (pe_one (D_has.call (hr.mono (by decide)) (by rfl) (pa_cons (pv 0) (pa_cons (pv 2) pa_nil))))) (pe_one (D_is_number.call (hr.mono (by decide)) (by rfl) (pa_cons (pv 3) pa_nil)))))))), ?_⟩
    refine ⟨_, rfl, _, _, _, _, true, rfl, .ty "tuple", .base (.tup ht), kit_ty (by decide +kernel), true, rfl, ?_⟩
    refine ⟨_, rfl, t, _, rfl, .inr (SqT.of ht), rfl, _, rfl, ?_⟩
    refine ⟨_, rfl, t, _, rfl, SqT.of ht, rfl, _, _, rfl, _, _, rfl, rfl, ?_⟩
    cases so with
    | none =>
      refine ⟨_, rfl, _, rfl, _, rfl, ?_⟩
      exact ⟨_, rfl, m, rfl, m0, kk⟩
    | some y =>
      refine ⟨_, rfl, _, rfl, _, rfl, _, rfl, d, kvs, y, rfl, hd, hs y rfl, true, rfl, ?_⟩
      exact ⟨_, rfl, m, rfl, m0, kk⟩
end
end Y

namespace Y
open PySem PySem.Spec PyProof.Rows L2
/-- a thing is locked as the object od while all else stays -/
structure Lk (b : Addr) (od : Obj) (u : HO) (H H1 : Hp) : Prop where
  fz : H1 b = some (.frz od u)
  st : ∀ c o, c ≠ b → H c = some o → H1 c = some o
theorem Lk.start {b : Addr} {od : Obj} {u : HO} {H : Hp} : Lk b od u H (upd H b (.frz od u)) := ⟨upd_same, fun c o n e => by rw [upd_ne n]; exact e⟩
theorem Lk.step {b : Addr} {od : Obj} {u : HO} {H H1 H2 : Hp} (L : Lk b od u H H1) (s : Same H1 H2) : Lk b od u H H2 := ⟨s _ _ L.fz, fun c o n e => s _ _ (L.st c o n e)⟩
theorem Lk.put {b D : Addr} {od : Obj} {u o : HO} {H H1 : Hp} (L : Lk b od u H H1) (nb : D ≠ b) (n : H D = none) : Lk b od u H (upd H1 D o) := ⟨by rw [upd_ne nb.symm]; exact L.fz, fun c x k e => by rw [upd_ne (ne_of_none e n)]; exact L.st c x k e⟩
theorem Lk.done {b : Addr} {od : Obj} {u : HO} {H H1 : Hp} (L : Lk b od u H H1) (h : H b = some u) : Same H (upd H1 b u) := fun c o e => by
  by_cases k : c = b
  · subst k
    rw [h] at e
    cases e
    exact upd_same
  · rw [upd_ne k]
    exact L.st c o k e
theorem Lk.tup {b : Addr} {od : Obj} {kvs : List (Key × V)} {H H1 : Hp} (L : Lk b od (.dK kvs) H H1) (h : H b = some (.dK kvs)) : ∀ t xs, H t = some (.tup xs) → H1 t = some (.tup xs) := fun t xs e => L.st t _ (fun z => by rw [z, h] at e; cases e) e
theorem Lk.free {b D : Addr} {od : Obj} {u : HO} {H H1 : Hp} (L : Lk b od u H H1) (n : H1 D = none) : D ≠ b ∧ (D ≠ b → H D = none) := by
  have nb : D ≠ b := fun z => by rw [z, L.fz] at n; cases n
  refine ⟨nb, fun _ => ?_⟩
  cases e : H D with
  | none => rfl
  | some o =>
    rw [L.st D o nb e] at n
    cases n
/-- a dict that is walked: locked now, or already locked while another thing is locked in its stead -/
def Lz (H : Hp) (d : Addr) (kvs : List (Key × V)) : Prop := ∃ z u, H z = some u ∧ Mut (some u) ∧ ∀ od, ∃ o, ∀ H1, Lk z od u H H1 → H1 d = some (.frz o (.dK kvs))
theorem Lz.of {H : Hp} {d : Addr} {kvs : List (Key × V)} (h : H d = some (.dK kvs)) : Lz H d kvs := ⟨d, _, h, trivial, fun od => ⟨od, fun _ L => L.fz⟩⟩
theorem Lz.frz {H : Hp} {d z : Addr} {kvs : List (Key × V)} {o : Obj} {u : HO} (h : H d = some (.frz o (.dK kvs))) (hz : H z = some u) (m : Mut (some u)) : Lz H d kvs :=
  ⟨z, u, hz, m, fun od => ⟨o, fun H1 L => L.st d _ (fun e => by rw [e, hz] at h; cases h; exact m) h⟩⟩
theorem Lz.same {H H' : Hp} {d : Addr} {kvs : List (Key × V)} (L : Lz H d kvs) (s : Same H H') : Lz H' d kvs := by
  obtain ⟨z, u, hz, m, k⟩ := L
  exact ⟨z, u, s _ _ hz, m, fun od => (k od).imp fun o q H1 L1 => q H1 ⟨L1.fz, fun c w n e => L1.st c w n (s _ _ e)⟩⟩
theorem Lk.tupM {b : Addr} {od : Obj} {u : HO} {H H1 : Hp} (L : Lk b od u H H1) (hb : H b = some u) (m : Mut (some u)) : ∀ t xs, H t = some (.tup xs) → H1 t = some (.tup xs) := fun t xs e => L.st t _ (fun z => by rw [z, hb] at e; cases e; exact m) e
theorem rdTy {K : PySem.W.Frag} {H : Hp} {d : Addr} {kvs : List (Key × V)} (h : Rd H d (.dK kvs)) : TyX K H (.ref d) (.type "dict") := by
  rcases h with h | ⟨o, h⟩
  · exact .base (.dK h)
  · exact .fDict h
theorem call_lenR {X : Cx} : CallR X (.builtin "len") (fun xs H Q => ∃ a kvs, xs = [V.ref a] ∧ Rd H a (.dK kvs) ∧ Q (.int kvs.length) H) := by
  intro pins s σ H xs us Q I r h
  obtain ⟨a, kvs, rfl, ha, q⟩ := h
  obtain ⟨v, rfl, rv⟩ := vals1 r
  cases rv
  exact d_len I ha fun t s' I' => ⟨.int kvs.length, H, I', ⟨t, rfl⟩, q⟩
theorem _root_.L2.Same.rdK {H H' : Hp} {d : Addr} {o : HO} (s : Same H H') (h : Rd H d o) : Rd H' d o := by
  rcases h with k | ⟨u, k⟩
  · exact .inl (s _ _ k)
  · exact .inr ⟨u, s _ _ k⟩
theorem nd_take {α : Type} {xs : List α} (nd : xs.Nodup) {i : Nat} {x : α} (h : xs[i]? = some x) : x ∉ xs.take i := by
  intro m
  obtain ⟨j, hj⟩ := List.mem_iff_getElem?.mp m
  obtain ⟨hl, _⟩ := List.getElem?_eq_some_iff.mp hj
  rw [List.length_take] at hl
  have e : xs[j]? = some x := by
    rw [List.getElem?_take] at hj
    split at hj
    · exact hj
    · cases hj
  have := nd_ix nd e h
  omega
section
variable {P : Program} {w : World} {K : PySem.W.Frag} {mg : Str → Option Value} {base : Heap}
abbrev s_is_dict_of : Stmt := topS 14
theorem sc_is_dict_of : FnScope ["names", "thing", "key", "name"] ["names", "thing"] (defScope s_is_dict_of) := ⟨rfl, rfl, rfl, by decide +kernel, rfl, by decide +kernel, by decide +kernel⟩
def spIsDictOf : Sp := fun vs H Q _ => ∃ (a b : Addr) (ks ls : List (Key × V)), vs = [.ref a, .ref b] ∧ H a = some (.dK ks) ∧ H b = some (.dK ls) ∧ a ≠ b ∧ ks.length = ls.length ∧ ls.length ≤ 1000 ∧ (∀ p ∈ ls, ∃ x, p.1 = Sum.inr x) ∧ (∀ p ∈ ks, (valV ls p.1).isSome = true) ∧ ∀ H', Same H H' → Q (.bl true) H'
theorem ok_is_dict_of {f : Addr} {fd : FuncData} (F : Fun K "is_dict_of" "is_dict_of" s_is_dict_of f fd) (T : Bi mg) : FnOk P w K mg base CX0 1 f fd ["names", "thing"] spIsDictOf := by
  refine F.ok sc_is_dict_of (fun vs H Q E h => ?_) (fun cdv A outer s₀ H vs Q E hr h => ?_)
  · obtain ⟨a, b, ks, ls, rfl, _⟩ := h
    rfl
  · obtain ⟨a, b, ks, ls, rfl, ha, hb, nab, hl, l1, hk, hv, kk⟩ := h
    have hu := hu_of hr
    refine ⟨_, (pss_cons (ps_if ((pw_or (pt_not (pt_val (pe_callB (id := "isinstance") (r := rIsi K) call_isi (by rfl) T.isinstance (by decide +kernel) (pa_cons (pv 1) (pa_cons (pe_bltn (v := .ty "dict") (by rfl) T.dict_ (by decide +kernel) rfl) pa_nil))))) (pw_or1 (pt_cmpR op_ne (pe_callB call_lenD (by rfl) T.len PySem.boot_len (pa_cons (pv 1) pa_nil)) (pe_callB call_lenD (by rfl) T.len PySem.boot_len (pa_cons (pv 0) pa_nil)) (nomark _))))).pt
  (pss_one (ps_ret pe_bl))
  pss_nil)
 (pss_one (ps_ret (pe_and (pe_callB (id := "all") (r := rAll K) (cr_all (by rfl)) (by rfl) T.all (by decide +kernel) (pa_cons (pe_lock (pe_lc (own := [("key", 2)]) (g := gName 2) (tt := tYes) (by rfl) sc_is_dict_of.nd (pi_keys (pv 1)) (blkOk_by (N := ["names", "thing", "key", "name"]) (sc := defScope s_is_dict_of) (by decide +kernel)) (fun _ _ _ _ _ => pg_name (i := 2) sc_is_dict_of.nd rfl (.inl rfl)) (fun _ _ _ _ _ => pts_nil) (fun _ _ _ _ _ => (pe_callB (id := "isinstance") (r := rIsi K) call_isi (by rfl) T.isinstance (by decide +kernel) (pa_cons (pv 2) (pa_cons (pe_bltn (v := .ty "str") (by rfl) T.str_ (by decide +kernel) rfl) pa_nil)))))) pa_nil)) (pe_one (pe_callB (id := "all") (r := rAll K) (cr_all (by rfl)) (by rfl) T.all (by decide +kernel) (pa_cons (pe_lock (pe_lc (own := [("name", 3)]) (g := gName 3) (tt := tYes) (by rfl) sc_is_dict_of.nd (pi_keys (pv 0)) (blkOk_by (N := ["names", "thing", "key", "name"]) (sc := defScope s_is_dict_of) (by decide +kernel)) (fun _ _ _ _ _ => pg_name (i := 3) sc_is_dict_of.nd rfl (.inl rfl)) (fun _ _ _ _ _ => pts_nil) (fun _ _ _ _ _ => (pe_cmp (pc_din hu (pv 3) (pv 1)))))) pa_nil))))))), ?_⟩
    refine ⟨_, rfl, _, _, _, _, true, rfl, .ty "dict", .base (.dK hb), kit_ty (by decide +kernel), true, rfl, ?_⟩
    refine ⟨_, rfl, b, ls, rfl, hb, _, rfl, a, ks, rfl, ha, rfl, _, rfl, ?_⟩
    refine noB (by rw [hl, decide_eq_true rfl]; rfl) ?_
    -- the keys are texts
    refine ⟨b, _, hb, trivial, fun od => ⟨_, rfl, b, od, rfl, .inl ⟨ls, upd_same, fun D nD => lc_it (walk_keys (d := b) (o := od) (kvs := ls)) (fun i H1 => Lk b od (.dK ls) H H1 ∧ H1 D = some (.lst ((trs i).map V.bl)))
      ⟨?_, upd_same⟩ (fun i H1 _ q => q.1.fz) (fun i v H1 H1' hi q y => ?_) fun H1 q => ?_⟩⟩⟩
    · have k := Lk.free (Lk.start (u := .dK ls)) nD
      exact Lk.start.put k.1 (k.2 k.1)
    · obtain ⟨rfl, kx, v0, hx, rfl⟩ := y
      obtain ⟨q1, q2⟩ := q
      obtain ⟨x, ex⟩ := hk _ (at_mem hx)
      have ex : kx = Sum.inr x := ex
      subst ex
      have k := Lk.free (Lk.start (u := .dK ls)) nD
      refine ⟨rfl, _, rfl, _, _, _, _, true, rfl, .ty "str", .base (.str x), kit_ty (by decide +kernel), _, q2, by rw [trs_len]; exact big1 (by omega), q1.put k.1 (k.2 k.1), ?_⟩
      rw [upd_same, trs_next]
    obtain ⟨q1, q2⟩ := q
    have k := Lk.free (Lk.start (u := .dK ls)) nD
    have s1 := q1.done hb
    have d1 : (upd H1 b (.dK ls)) D = some (.lst ((trs ls.length).map V.bl)) := by rw [upd_ne k.1]; exact q2
    refine ⟨q1.fz, D, _, rfl, SqL.of d1, true, by rw [trs_all], ?_⟩
    have ha2 := s1 _ _ ha
    have hb2 := s1 _ _ hb
    generalize upd H1 b (.dK ls) = H2 at s1 d1 ha2 hb2
    clear q1 q2
    -- the names are keys
    refine ⟨a, _, ha2, trivial, fun od2 => ⟨_, rfl, a, od2, rfl, .inl ⟨ks, upd_same, fun D2 nD2 => lc_it (walk_keys (d := a) (o := od2) (kvs := ks)) (fun i H3 => Lk a od2 (.dK ks) H2 H3 ∧ H3 D2 = some (.lst ((trs i).map V.bl)))
      ⟨?_, upd_same⟩ (fun i H1 _ q => q.1.fz) (fun i v H3 H3' hi q y => ?_) fun H3 q => ?_⟩⟩⟩
    · have k := Lk.free (Lk.start (u := .dK ks)) nD2
      exact Lk.start.put k.1 (k.2 k.1)
    · obtain ⟨rfl, kx, v0, hx, rfl⟩ := y
      obtain ⟨q1, q2⟩ := q
      have hp := hv _ (at_mem hx)
      have k := Lk.free (Lk.start (u := .dK ks)) nD2
      refine ⟨rfl, _, rfl, _, rfl, b, _, rfl, DGet.k (k := kx) (q1.st b _ nab.symm hb2), _, q2, by rw [trs_len]; exact big1 (by omega), q1.put k.1 (k.2 k.1), ?_⟩
      rw [upd_same, hp, trs_next]
    · obtain ⟨q1, q2⟩ := q
      have k := Lk.free (Lk.start (u := .dK ks)) nD2
      have s2 := q1.done ha2
      refine ⟨q1.fz, D2, _, rfl, SqL.of (by rw [upd_ne k.1]; exact q2), ?_⟩
      rw [trs_all]
      exact kk _ (s1.trans s2)
/-- what the module says of the lengths of deeds -/
structure Dls (K : PySem.W.Frag) (w : World) (mg : Str → Option Value) (d : Addr) (es : Array DictEntry) (n : Nat) : Prop where
  at_ : mg "DEED_LENGTHS" = some (.ref d)
  kd : KDict K w d es n
  z : ∃ t, PySem.W.nsIn K d "zero" = some (some (.int 2 t))
  c : ∃ t, PySem.W.nsIn K d "copy" = some (some (.int 3 t))
  m : ∃ t, PySem.W.nsIn K d "more" = some (some (.int 2 t))
end
end Y

namespace Y
open PySem PySem.Spec PyProof.Rows L2
theorem Dic.keep {F : PF} {H H' : Hp} {kvs : List (Key × V)} {ns : List Str} (D : Dic (isPair F) H kvs ns) (h : ∀ t xs, H t = some (.tup xs) → H' t = some (.tup xs)) : Dic (isPair F) H' kvs ns := D.mono fun _ _ _ g => pair_keep h g
section
variable {P : Program} {w : World} {K : PySem.W.Frag} {mg : Str → Option Value} {base : Heap}
abbrev s_is_push : Stmt := topS 16
theorem sc_is_push : FnScope ["thing", "name", "pair"] ["thing"] (defScope s_is_push) := ⟨rfl, rfl, rfl, by decide +kernel, rfl, by decide +kernel, by decide +kernel⟩
def spIsPush : Sp := fun vs H Q _ => ∃ (d : Addr) (kvs : List (Key × V)) (ns : List Str) (F : PF), vs = [.ref d] ∧ Rd H d (.dK kvs) ∧ Lz H d kvs ∧ Dic (isPair F) H kvs ns ∧ ns.Nodup ∧ 0 < ns.length ∧ ns.length ≤ 1000 ∧ (∀ x ∈ ns, nmB x = true) ∧ (∀ x ∈ ns, ∀ y, (F x).1 = some y → y ∈ ns) ∧ (∀ x, 0 ≤ (F x).2) ∧ ∀ H', Same H H' → Q (.bl true) H'
theorem ok_is_push {f : Addr} {fd : FuncData} (F : Fun K "is_push" "is_push" s_is_push f fd) (T : Bi mg) (D_is_name : Has P w K mg base "is_name" 1 ["thing"] spIsName) (D_is_pair_in : Has P w K mg base "_is_pair_in" 3 ["push", "thing"] spIsPair) : FnOk P w K mg base CX0 4 f fd ["thing"] spIsPush := by
  refine F.ok sc_is_push (fun vs H Q E h => ?_) (fun cdv A outer s₀ H vs Q E hr h => ?_)
  · obtain ⟨d, kvs, ns, F0, rfl, _⟩ := h
    rfl
  · obtain ⟨d, kvs, ns, F0, rfl, hd, lz, D, nd, l0, l1, hn, hs, hm, kk⟩ := h
    have hu := hu_of hr
    refine ⟨_, (pss_cons (ps_if ((pw_or (pt_not (pt_val (pe_callB (id := "isinstance") (r := rIsi K) call_isi (by rfl) T.isinstance (by decide +kernel) (pa_cons (pv 0) (pa_cons (pe_bltn (v := .ty "dict") (by rfl) T.dict_ (by decide +kernel) rfl) pa_nil))))) (pw_or1 (pt_cmpR op_eq (pe_callB call_lenR (by rfl) T.len PySem.boot_len (pa_cons (pv 0) pa_nil)) pe_int (nomark _))))).pt
  (pss_one (ps_ret pe_bl))
  pss_nil)
 (pss_cons (ps_if (pt_not (pt_val (pe_callB (id := "all") (r := rAll K) (cr_all (by rfl)) (by rfl) T.all (by decide +kernel) (pa_cons (pe_lock (pe_lc (own := [("name", 1)]) (g := gName 1) (tt := tYes) (by rfl) sc_is_push.nd (pi_keys (pv 0)) (blkOk_by (N := ["thing", "name", "pair"]) (sc := defScope s_is_push) (by decide +kernel)) (fun _ _ _ _ _ => pg_name (i := 1) sc_is_push.nd rfl (.inl rfl)) (fun _ _ _ _ _ => pts_nil) (fun _ _ _ _ _ => (D_is_name.call (hr.mono (by decide)) (by rfl) (pa_cons (pv 1) pa_nil))))) pa_nil))))
  (pss_one (ps_ret pe_bl))
  pss_nil)
 (pss_one (ps_ret (pe_callB (id := "all") (r := rAll K) (cr_all (by rfl)) (by rfl) T.all (by decide +kernel) (pa_cons (pe_lock (pe_lc (own := [("pair", 2)]) (g := gName 2) (tt := tYes) (by rfl) sc_is_push.nd (pi_values (pv 0)) (blkOk_by (N := ["thing", "name", "pair"]) (sc := defScope s_is_push) (by decide +kernel)) (fun _ _ _ _ _ => pg_name (i := 2) sc_is_push.nd rfl (.inl rfl)) (fun _ _ _ _ _ => pts_nil) (fun _ _ _ _ _ => (D_is_pair_in.call (hr.mono (by decide)) (by rfl) (pa_cons (pv 0) (pa_cons (pv 2) pa_nil)))))) pa_nil)))))), ?_⟩
    refine ⟨_, rfl, _, _, _, _, true, rfl, .ty "dict", rdTy hd, kit_ty (by decide +kernel), true, rfl, ?_⟩
    refine ⟨_, rfl, d, kvs, rfl, hd, rfl, _, rfl, ?_⟩
    refine noB (decide_eq_false fun z => ?_) ?_
    · have z := V.int.inj z
      rw [D.len] at z
      omega
    -- the names
    obtain ⟨z, u, hz, mu, wk⟩ := lz
    refine ⟨z, u, hz, mu, fun od => ?_⟩
    obtain ⟨o, wk⟩ := wk od
    refine ⟨_, rfl, d, o, rfl, .inl ⟨kvs, wk _ Lk.start, fun D1 nD => lc_it (walk_keys (d := d) (o := o) (kvs := kvs)) (fun i H1 => Lk z od u H H1 ∧ H1 D1 = some (.lst ((trs i).map V.bl)))
      ⟨?_, upd_same⟩ (fun i H1 _ q => wk _ q.1) (fun i v H1 H1' hi q y => ?_) fun H1 q => ?_⟩⟩
    · have k := Lk.free (Lk.start (u := u)) nD
      exact Lk.start.put k.1 (k.2 k.1)
    · obtain ⟨rfl, kx, v0, hx, rfl⟩ := y
      obtain ⟨q1, q2⟩ := q
      obtain ⟨x, _, xm, rfl, _⟩ := D.at_ nd hx
      have k := Lk.free (Lk.start (u := u)) nD
      refine ⟨rfl, _, rfl, x, rfl, hn x xm, fun H2 s2 => ⟨_, s2 _ _ q2, by rw [trs_len, ]; rw [D.len] at hi; exact big1 (by omega), (q1.step s2).put k.1 (k.2 k.1), ?_⟩⟩
      rw [upd_same, trs_next]
    obtain ⟨q1, q2⟩ := q
    have k := Lk.free (Lk.start (u := u)) nD
    have s1 := q1.done hz
    have d1 : (upd H1 z u) D1 = some (.lst ((trs kvs.length).map V.bl)) := by rw [upd_ne k.1]; exact q2
    refine ⟨q1.fz, D1, _, rfl, SqL.of d1, true, by rw [trs_all], ?_⟩
    have D2 := D.keep s1.tupP
    have hd2 := s1.rdK hd
    have lz2 : Lz (upd H1 z u) d kvs := Lz.same ⟨z, u, hz, mu, fun od' => by
      by_cases e : d = z
      · subst e
        rcases hd with h | ⟨w, h⟩
        · rw [h] at hz; cases hz; exact ⟨od', fun _ L => L.fz⟩
        · rw [h] at hz; cases hz; exact mu.elim
      · rcases hd with h | ⟨w, h⟩
        · have := wk _ (Lk.start (b := z) (od := od) (u := u) (H := H))
          rw [upd_ne e, h] at this
          cases this
        · exact ⟨w, fun _ L => L.st d _ e h⟩⟩ s1
    generalize upd H1 z u = H2 at s1 d1 D2 hd2 lz2
    clear q1 q2 wk hz mu k
    -- the pairs
    obtain ⟨z2, u2, hz2, mu2, wk⟩ := lz2
    refine ⟨z2, u2, hz2, mu2, fun od2 => ?_⟩
    obtain ⟨o2, wk⟩ := wk od2
    refine ⟨_, rfl, d, o2, kvs, rfl, wk _ Lk.start, fun D3 nD3 => lc_it (walk_values (d := d) (o := o2) (kvs := kvs)) (fun i H3 => Lk z2 od2 u2 H2 H3 ∧ H3 D3 = some (.lst ((trs i).map V.bl)))
      ⟨?_, upd_same⟩ (fun i H1 _ q => wk _ q.1) (fun i v H3 H3' hi q y => ?_) fun H3 q => ?_⟩
    · have k := Lk.free (Lk.start (u := u2)) nD3
      exact Lk.start.put k.1 (k.2 k.1)
    · obtain ⟨rfl, kx, hx⟩ := y
      obtain ⟨q1, q2⟩ := q
      obtain ⟨x, _, xm, rfl, _, t, rfl, ht⟩ := D2.at_ nd hx
      have k := Lk.free (Lk.start (u := u2)) nD3
      refine ⟨rfl, _, rfl, _, rfl, d, t, kvs, (F0 x).1, (F0 x).2, rfl, .inr ⟨o2, wk _ q1⟩, q1.tupM hz2 mu2 _ _ ht, fun y ey => ?_, hm x, _, q2, by rw [trs_len]; rw [D.len] at hi; exact big1 (by omega), q1.put k.1 (k.2 k.1), ?_⟩
      · obtain ⟨v, ev, _⟩ := D.val y (hs x xm y ey)
        rw [ev]
        rfl
      · rw [upd_same, trs_next]
    · obtain ⟨q1, q2⟩ := q
      have k := Lk.free (Lk.start (u := u2)) nD3
      have s2 := q1.done hz2
      refine ⟨q1.fz, D3, _, rfl, SqL.of (by rw [upd_ne k.1]; exact q2), ?_⟩
      rw [trs_all]
      exact kk _ (s1.trans s2)
end
end Y

namespace Y
open PySem PySem.Spec PyProof.Rows L2
theorem Dic.num {u : Str → Int} {H H' : Hp} {kvs : List (Key × V)} {ns : List Str} (D : Dic (isNum u) H kvs ns) : Dic (isNum u) H' kvs ns := D.mono fun _ _ _ g => g
theorem Dic.cong {F F' : PF} {H : Hp} {kvs : List (Key × V)} {ns : List Str} (D : Dic (isPair F) H kvs ns) (h : ∀ x ∈ ns, F x = F' x) : Dic (isPair F') H kvs ns := D.mono fun x v m g => by
  obtain ⟨t, e, k⟩ := g
  rw [h x m] at k
  exact ⟨t, e, k⟩
theorem fold_take {ds : List De} {i : Nat} {d : De} (h : ds[i]? = some d) : pushF (ds.take (i + 1)) = stepF (pushF (ds.take i)) d := by
  unfold pushF
  rw [take_next h, List.foldl_append]
  rfl
theorem nm_strOk {y : Str} (h : nmB y = true) : PyData.strOk y = true := by
  obtain ⟨_, _, hc⟩ := nmB_parts h
  show y.cps.all (fun c => decide (c < 0x110000)) = true
  rw [Array.all_eq_true]
  intro i hi
  have := hc y.cps[i] (by rw [Array.mem_toList_iff]; exact Array.getElem_mem hi)
  exact decide_eq_true (by omega)
/-- two dicts of one kind hold the same -/
theorem dicts_same {F : PF} {K : PySem.W.Frag} {H : Hp} {ks ls : List (Key × V)} {ns : List Str} (D : Dic (isPair F) H ks ns) (D' : Dic (isPair F) H ls ns) (nd : ns.Nodup) (ok : ∀ x ∈ ns, ∀ y, (F x).1 = some y → nmB y = true) :
    ks.length = ls.length ∧ ∀ p ∈ ks, ∃ u d, valV ls p.1 = some u ∧ Dp K H p.2 d ∧ Dp K H u d ∧ SeqAt.shaped d = true := by
  refine ⟨by rw [D.len, D'.len], fun p hp => ?_⟩
  obtain ⟨i, hi⟩ := List.mem_iff_getElem?.mp hp
  obtain ⟨kx, v⟩ := p
  obtain ⟨x, _, xm, rfl, _, t, rfl, ht⟩ := D.at_ nd hi
  obtain ⟨u, eu, t2, rfl, ht2⟩ := D'.val x xm
  have mk : ∀ c, H c = some (.tup [osV (F x).1, .int (F x).2]) → Dp K H (.ref c) (.tuple [(match (F x).1 with | none => .none | some y => .str y), .int (F x).2]) := fun c hc => by
    refine .tup (SqT.of hc) (.cons ?_ (.cons (.int _) .nil))
    cases (F x).1 with
    | none => exact .non
    | some y => exact .str y
  refine ⟨_, _, eu, mk t ht, mk t2 ht2, ?_⟩
  have okx := ok x xm
  revert okx
  cases (F x).1 with
  | none => intro _; rfl
  | some y =>
    intro okx
    show (PyData.strOk y && true && decide _) = true
    rw [nm_strOk (okx y rfl)]
    rfl
theorem nums_same {u : Str → Int} {K : PySem.W.Frag} {H : Hp} {ks ls : List (Key × V)} {ns : List Str} (D : Dic (isNum u) H ks ns) (D' : Dic (isNum u) H ls ns) (nd : ns.Nodup) :
    ks.length = ls.length ∧ ∀ p ∈ ks, ∃ u d, valV ls p.1 = some u ∧ Dp K H p.2 d ∧ Dp K H u d ∧ SeqAt.shaped d = true := by
  refine ⟨by rw [D.len, D'.len], fun p hp => ?_⟩
  obtain ⟨i, hi⟩ := List.mem_iff_getElem?.mp hp
  obtain ⟨kx, v⟩ := p
  obtain ⟨x, _, xm, rfl, _, hg⟩ := D.at_ nd hi
  have hg : v = V.int (u x) := hg
  obtain ⟨w, eu, hg2⟩ := D'.val x xm
  have hg2 : w = V.int (u x) := hg2
  subst hg hg2
  exact ⟨_, _, eu, .int _, .int _, rfl⟩
section
variable {P : Program} {w : World} {K : PySem.W.Frag} {mg : Str → Option Value} {base : Heap}
end
end Y

namespace Y
open PySem PySem.Spec PyProof.Rows L2
theorem Lk.begin {b : Addr} {od : Obj} {u : HO} {H H4 : Hp} (s : Same H H4) : Lk b od u H (upd H4 b (.frz od u)) := ⟨upd_same, fun c o n e => by rw [upd_ne n]; exact s c o e⟩
theorem Lk.sameT {b : Addr} {od : Obj} {u : HO} {H H1 : Hp} (L : Lk b od u H H1) {D : Addr} {o : HO} (n : H1 D = none) : Lk b od u H (upd H1 D o) := L.step (same_upd n)
theorem ev_none {F : PF} {u : Str → Int} {x : Str} {m : Int} (h : F x = (none, m)) : evP F u x = m := by
  unfold evP
  rw [h]
  exact Int.zero_add m
theorem ev_some {F : PF} {u : Str → Int} {x y : Str} {m : Int} (h : F x = (some y, m)) : evP F u x = u y + m := by
  unfold evP
  rw [h]
theorem then_none {A B : PF} {x : Str} {m : Int} (h : B x = (none, m)) : thenF A B x = (none, m) := by
  unfold thenF
  rw [h]
theorem then_some {A B : PF} {x y : Str} {m : Int} (h : B x = (some y, m)) : thenF A B x = ((A y).1, (A y).2 + m) := by
  unfold thenF
  rw [h]
section
variable {P : Program} {w : World} {K : PySem.W.Frag} {mg : Str → Option Value} {base : Heap}
abbrev s_pushed : Stmt := topS 19
theorem sc_pushed : FnScope ["push", "numbers", "behind", "name", "source", "more", "number"] ["push", "numbers"] (defScope s_pushed) := ⟨rfl, rfl, rfl, by decide +kernel, rfl, by decide +kernel, by decide +kernel⟩
def spPushed : Sp := fun vs H Q _ => ∃ (d e : Addr) (ks ls : List (Key × V)) (ns : List Str) (F : PF) (u : Str → Int), vs = [.ref d, .ref e] ∧ H d = some (.dK ks) ∧ Dic (isPair F) H ks ns ∧ H e = some (.dK ls) ∧ Dic (isNum u) H ls ns ∧ d ≠ e ∧ ns.Nodup ∧ 0 < ns.length ∧ ns.length ≤ 1000 ∧
  (∀ x ∈ ns, nmB x = true) ∧ (∀ x ∈ ns, ∀ y, (F x).1 = some y → y ∈ ns) ∧ (∀ x, 0 ≤ (F x).2) ∧ (∀ x ∈ ns, 0 ≤ u x) ∧
  ∀ (f : Addr) (kvs : List (Key × V)) H', Same H H' → H f = none → H' f = some (.dK kvs) → Dic (isNum (evP F u)) H' kvs ns → Q (.ref f) H'
theorem dic_of {G G' : Hp → Str → V → Prop} {H H' : Hp} {ks ls : List (Key × V)} {ns : List Str} (D : Dic G H ks ns) (D' : Dic G' H' ls ns) (nd : ns.Nodup) : ks.length = ls.length ∧ (∀ p ∈ ls, ∃ x, p.1 = Sum.inr x) ∧ (∀ p ∈ ks, (valV ls p.1).isSome = true) := by
  refine ⟨by rw [D.len, D'.len], fun p hp => ?_, fun p hp => ?_⟩
  · obtain ⟨i, hi⟩ := List.mem_iff_getElem?.mp hp
    obtain ⟨kx, v⟩ := p
    obtain ⟨x, _, _, e, _⟩ := D'.at_ nd hi
    exact ⟨x, e⟩
  · obtain ⟨i, hi⟩ := List.mem_iff_getElem?.mp hp
    obtain ⟨kx, v⟩ := p
    obtain ⟨x, _, xm, e, _⟩ := D.at_ nd hi
    subst e
    obtain ⟨z, ez, _⟩ := D'.val x xm
    show (valV ls (Sum.inr x)).isSome = true
    rw [ez]
    rfl
theorem ok_pushed {f : Addr} {fd : FuncData} (F : Fun K "pushed" "pushed" s_pushed f fd) (T : Bi mg) (D_is_push : Has P w K mg base "is_push" 4 ["thing"] spIsPush) (D_is_dict_of : Has P w K mg base "is_dict_of" 1 ["names", "thing"] spIsDictOf)
    (D_is_number : Has P w K mg base "is_number" 2 ["thing"] spIsNum) : FnOk P w K mg base CX0 5 f fd ["push", "numbers"] spPushed := by
  refine F.ok sc_pushed (fun vs H Q E h => ?_) (fun cdv A outer s₀ H vs Q E hr h => ?_)
  · obtain ⟨d, e, ks, ls, ns, F0, u, rfl, _⟩ := h
    rfl
  · obtain ⟨d, e, ks, ls, ns, F0, u, rfl, hd, D, he, N, nde, nd, l0, l1, ok, hs, hm, hu0, kk⟩ := h
    have hu := hu_of hr
    refine ⟨_, (pss_cons (ps_if (pt_not (pt_val (D_is_push.call (hr.mono (by decide)) (by rfl) (pa_cons (pv 0) pa_nil))))
  (pss_one ps_never)
  pss_nil)
 (pss_cons (ps_if ((pw_or (pt_not (pt_val (D_is_dict_of.call (hr.mono (by decide)) (by rfl) (pa_cons (pv 0) (pa_cons (pv 1) pa_nil))))) (pw_or1 (pt_not (pt_val (pe_callB (id := "all") (r := rAll K) (cr_all (by rfl)) (by rfl) T.all (by decide +kernel) (pa_cons (pe_lock (pe_lc (own := [("number", 6)]) (g := gName 6) (tt := tYes) (by rfl) sc_pushed.nd (pi_values (pv 1)) (blkOk_by (N := ["push", "numbers", "behind", "name", "source", "more", "number"]) (sc := defScope s_pushed) (by decide +kernel)) (fun _ _ _ _ _ => pg_name (i := 6) sc_pushed.nd rfl (.inl rfl)) (fun _ _ _ _ _ => pts_nil) (fun _ _ _ _ _ => (D_is_number.call (hr.mono (by decide)) (by rfl) (pa_cons (pv 6) pa_nil))))) pa_nil))))))).pt
  (pss_one ps_never)
  pss_nil)
 (pss_cons (ps_set (i := 2) sc_pushed.nd rfl (.inl rfl) pe_dnewK)
 (pss_cons (ps_lock (ps_for PassesOwn.never rfl (pi_items (pv 0)) (pg_tup (by rfl) (pgs_cons (pg_name (i := 3) sc_pushed.nd rfl (.inl rfl)) (pgs_cons (pg_tup (by rfl) (pgs_cons (pg_name (i := 4) sc_pushed.nd rfl (.inl rfl)) (pgs_cons (pg_name (i := 5) sc_pushed.nd rfl (.inl rfl)) pgs_nil))) pgs_nil)))
  (pss_one (ps_dput hu (pv 2) (pv 3) (pe_ifExp (pt_cmp (pc_isN (pv 4))) (pv 5) (pe_op op_add (pe_dget hu (pv 1) (pv 4) (fun _ _ => rfl)) (pv 5))) rfl))))
 (pss_one (ps_ret (pv 2))))))), ?_⟩
    obtain ⟨dl, dk, dv⟩ := dic_of D N nd
    refine ⟨_, rfl, d, ks, ns, F0, rfl, .inl hd, Lz.of hd, D, nd, l0, l1, ok, hs, hm, fun H1 s1 => ⟨true, rfl, ?_⟩⟩
    refine ⟨_, rfl, _, rfl, d, e, ks, ls, rfl, s1 _ _ hd, s1 _ _ he, nde, dl, by rw [N.len]; exact l1, dk, dv, fun H2 s2 => ⟨true, rfl, ?_⟩⟩
    have s12 := s1.trans s2
    have he2 := s12 _ _ he
    -- the numbers are numbers
    refine ⟨e, _, he2, trivial, fun od => ⟨_, rfl, e, od, ls, rfl, upd_same, fun D1 nD => lc_it (walk_values (d := e) (o := od) (kvs := ls)) (fun i H3 => Lk e od (.dK ls) H2 H3 ∧ H3 D1 = some (.lst ((trs i).map V.bl)))
      ⟨?_, upd_same⟩ (fun i H1 _ q => q.1.fz) (fun i v H3 H3' hi q y => ?_) fun H3 q => ?_⟩⟩
    · have k := Lk.free (Lk.start (u := .dK ls)) nD
      exact Lk.start.put k.1 (k.2 k.1)
    · obtain ⟨rfl, kx, hx⟩ := y
      obtain ⟨q1, q2⟩ := q
      obtain ⟨x, _, xm, rfl, _, g⟩ := N.at_ nd hx
      have g : v = V.int (u x) := g
      subst g
      have k := Lk.free (Lk.start (u := .dK ls)) nD
      refine ⟨rfl, _, rfl, u x, rfl, hu0 x xm, _, q2, by rw [trs_len]; rw [N.len] at hi; exact big1 (by omega), q1.put k.1 (k.2 k.1), ?_⟩
      rw [upd_same, trs_next]
    obtain ⟨q1, q2⟩ := q
    have k := Lk.free (Lk.start (u := .dK ls)) nD
    have s23 := q1.done he2
    refine ⟨q1.fz, D1, _, rfl, SqL.of (by rw [upd_ne k.1]; exact q2), true, by rw [trs_all], ?_⟩
    have s3 := s12.trans s23
    generalize upd H3 e (.dK ls) = H4 at s3
    have hd4 := s3 _ _ hd
    have he4 := s3 _ _ he
    have D4 := D.keep s3.tupP
    clear q1 q2 k s23 s12 s1 s2 he2
    -- behind = {}
    intro b nb
    have nb0 : H b = none := s3.free nb
    have ndb : d ≠ b := ne_of_none hd4 nb
    have neb : e ≠ b := ne_of_none he4 nb
    refine ⟨d, .dK ks, (by rw [upd_ne ndb]; exact hd4), trivial, fun od => ⟨_, rfl, d, od, ks, rfl, upd_same, for_it (walk_items (d := d) (o := od) (kvs := ks)) (fun i σ H5 => ∃ y3 y4 y5 y6, σ = [some (.ref d), some (.ref e), some (.ref b), y3, y4, y5, y6] ∧ Lk d od (.dK ks) H4 H5 ∧ ∃ kvs, H5 b = some (.dK kvs) ∧ Dic (isNum (evP F0 u)) H5 kvs (ns.take i))
      ⟨none, none, none, none, rfl, Lk.begin (same_upd nb), [], by rw [upd_ne ndb.symm, upd_same], Dic.nil⟩ (fun i σ H5 _ q => by obtain ⟨_, _, _, _, _, q, _⟩ := q; exact q.fz) (fun i v σ H5 H5' hi q y => ?_) fun σ H5 q => ?_⟩⟩
    · obtain ⟨y3, y4, y5, y6, rfl, L, kvs, hb5, N5⟩ := q
      obtain ⟨T1, x1, x2, rfl, nT, rfl, e1, e2⟩ := y
      obtain ⟨⟨kx, v0⟩, hx⟩ : ∃ p, ks[i]? = some p := ⟨_, List.getElem?_eq_getElem hi⟩
      have e1 : (ks[i]?.map fun kv => kV kv.1) = some x1 := e1
      have e2 : (ks[i]?.map Prod.snd) = some x2 := e2
      rw [hx] at e1 e2
      cases e1
      cases e2
      obtain ⟨x, hxi, xm, rfl, _, t, rfl, ht⟩ := D4.at_ nd hx
      have L2 := L.sameT (o := .tup [kV (Sum.inr x), V.ref t]) nT
      have ht5 := L2.tup hd4 _ _ ht
      have he5 := L2.st e _ nde.symm he4
      have hb5' : (upd H5 T1 (.tup [kV (Sum.inr x), V.ref t])) b = some (.dK kvs) := by rw [upd_ne (ne_of_none hb5 nT)]; exact hb5
      have hT5 : (upd H5 T1 (.tup [kV (Sum.inr x), V.ref t])) T1 = some (.tup [kV (Sum.inr x), V.ref t]) := upd_same
      generalize upd H5 T1 (.tup [kV (Sum.inr x), V.ref t]) = H6 at L2 ht5 he5 hb5' hT5 ⊢
      have size : kvs.length < sizeLine := by rw [N5.len, List.length_take]; exact big1 (by omega)
      have next : ∀ m : Int, m = evP F0 u x → Dic (isNum (evP F0 u)) (upd H6 b (.dK (putK kvs (Sum.inr x) (.int m)))) (putK kvs (Sum.inr x) (.int m)) (ns.take (i + 1)) := fun m em => by
        rw [take_next hxi]
        exact N5.snoc (nd_take nd hxi) (by rw [em]; rfl) fun y v _ g => g
      have sx := hs x xm
      generalize hF : F0 x = fx at ht5 sx
      obtain ⟨so, m⟩ := fx
      refine ⟨T1, _, rfl, SqT.of hT5, rfl, _, _, rfl, _, _, rfl, t, _, rfl, SqT.of ht5, rfl, _, _, rfl, _, _, rfl, rfl, rfl, ?_⟩
      cases so with
      | none =>
        refine ⟨_, rfl, _, rfl, _, rfl, _, rfl, _, rfl, b, _, rfl, DPut.k (k := Sum.inr x) hb5' size, ?_⟩
        exact ⟨_, _, _, _, rfl, L2.put ndb.symm nb, _, upd_same, next m (ev_none hF).symm⟩
      | some y =>
        obtain ⟨w, ew, hw⟩ := N.val y (sx y rfl)
        have hw : w = V.int (u y) := hw
        subst hw
        refine ⟨_, rfl, _, rfl, _, rfl, _, rfl, e, _, rfl, (by rw [← ew]; exact DGet.k (k := Sum.inr y) he5), _, rfl, _, _, rfl, rfl, _, rfl, _, rfl, b, _, rfl, DPut.k (k := Sum.inr x) hb5' size, ?_⟩
        exact ⟨_, _, _, _, rfl, L2.put ndb.symm nb, _, upd_same, next (u y + m) (ev_some hF).symm⟩
    · obtain ⟨y3, y4, y5, y6, rfl, L, kvs, hb5, N5⟩ := q
      rw [D.len, List.take_length] at N5
      have s5 := L.done hd4
      refine ⟨L.fz, _, rfl, kk b kvs _ (s3.trans s5) nb0 (by rw [upd_ne ndb.symm]; exact hb5) N5.num⟩
abbrev s_then : Stmt := topS 21
theorem sc_then : FnScope ["push", "other", "behind", "name", "source", "more", "first", "less"] ["push", "other"] (defScope s_then) := ⟨rfl, rfl, rfl, by decide +kernel, rfl, by decide +kernel, by decide +kernel⟩
theorem Lk.rd {z d : Addr} {od : Obj} {u : HO} {H H1 : Hp} {ks : List (Key × V)} (L : Lk z od u H H1) (hz : H z = some u) (m : Mut (some u)) (h : Rd H d (.dK ks)) : Rd H1 d (.dK ks) := by
  by_cases e : d = z
  · subst e
    rcases h with h | ⟨w, h⟩
    · rw [h] at hz
      cases hz
      exact .inr ⟨od, L.fz⟩
    · rw [h] at hz
      cases hz
      exact m.elim
  · rcases h with h | ⟨w, h⟩
    · exact .inl (L.st _ _ e h)
    · exact .inr ⟨w, L.st _ _ e h⟩
def spThen : Sp := fun vs H Q _ => ∃ (d e : Addr) (ks ls : List (Key × V)) (ns es : List Str) (A B : PF), vs = [.ref d, .ref e] ∧ Rd H d (.dK ks) ∧ Dic (isPair A) H ks ns ∧ Lz H e ls ∧ Dic (isPair B) H ls es ∧ es.Nodup ∧ es.length ≤ 1000 ∧ (∀ x ∈ es, ∀ y, (B x).1 = some y → y ∈ ns) ∧
  ∀ (f : Addr) (kvs : List (Key × V)) H', Same H H' → H f = none → H' f = some (.dK kvs) → Dic (isPair (thenF A B)) H' kvs es → Q (.ref f) H'
theorem ok_then {f : Addr} {fd : FuncData} (F : Fun K "_then" "_then" s_then f fd) (T : Bi mg) : FnOk P w K mg base CX0 1 f fd ["push", "other"] spThen := by
  refine F.ok sc_then (fun vs H Q E h => ?_) (fun cdv A outer s₀ H vs Q E hr h => ?_)
  · obtain ⟨d, e, ks, ls, ns, es, A0, B0, rfl, _⟩ := h
    rfl
  · obtain ⟨d, e, ks, ls, ns, es, A0, B0, rfl, hd, DA, ⟨z, u, hz, mu, wk⟩, DB, nd, l1, hs, kk⟩ := h
    have hu := hu_of hr
    refine ⟨_, (pss_cons (ps_set (i := 2) sc_then.nd rfl (.inl rfl) pe_dnewK)
 (pss_cons (ps_lock (ps_for PassesOwn.never rfl (pi_items (pv 1)) (pg_tup (by rfl) (pgs_cons (pg_name (i := 3) sc_then.nd rfl (.inl rfl)) (pgs_cons (pg_tup (by rfl) (pgs_cons (pg_name (i := 4) sc_then.nd rfl (.inl rfl)) (pgs_cons (pg_name (i := 5) sc_then.nd rfl (.inl rfl)) pgs_nil))) pgs_nil)))
  (pss_one (ps_if (pt_cmp (pc_isN (pv 4)))
  (pss_one (ps_dput hu (pv 2) (pv 3) (pe_tup (pa_cons pe_non (pa_cons (pv 5) pa_nil))) rfl))
  (pss_cons (ps_asg (pe_dget hu (pv 0) (pv 4) (fun _ _ => rfl)) (pg_tup (by rfl) (pgs_cons (pg_name (i := 6) sc_then.nd rfl (.inl rfl)) (pgs_cons (pg_name (i := 7) sc_then.nd rfl (.inl rfl)) pgs_nil))))
 (pss_one (ps_dput hu (pv 2) (pv 3) (pe_tup (pa_cons (pv 6) (pa_cons (pe_op op_add (pv 7) (pv 5)) pa_nil))) rfl)))))))
 (pss_one (ps_ret (pv 2))))), ?_⟩
    intro b nb
    have nzb : z ≠ b := ne_of_none hz nb
    refine ⟨z, u, (by rw [upd_ne nzb]; exact hz), mu, fun od => ?_⟩
    obtain ⟨o, wk⟩ := wk od
    refine ⟨_, rfl, e, o, ls, rfl, wk _ (Lk.begin (same_upd nb)), for_it (walk_items (d := e) (o := o) (kvs := ls)) (fun i σ H5 => ∃ y3 y4 y5 y6 y7, σ = [some (.ref d), some (.ref e), some (.ref b), y3, y4, y5, y6, y7] ∧ Lk z od u H H5 ∧ ∃ kvs, H5 b = some (.dK kvs) ∧ Dic (isPair (thenF A0 B0)) H5 kvs (es.take i))
      ⟨none, none, none, none, none, rfl, Lk.begin (same_upd nb), [], by rw [upd_ne nzb.symm, upd_same], Dic.nil⟩ (fun i σ H5 _ q => by obtain ⟨_, _, _, _, _, _, q, _⟩ := q; exact wk _ q) (fun i v σ H5 H5' hi q y => ?_) fun σ H5 q => ?_⟩
    · obtain ⟨y3, y4, y5, y6, y7, rfl, L, kvs, hb5, N5⟩ := q
      obtain ⟨T1, x1, x2, rfl, nT, rfl, e1, e2⟩ := y
      obtain ⟨⟨kx, v0⟩, hx⟩ : ∃ p, ls[i]? = some p := ⟨_, List.getElem?_eq_getElem hi⟩
      have e1 : (ls[i]?.map fun kv => kV kv.1) = some x1 := e1
      have e2 : (ls[i]?.map Prod.snd) = some x2 := e2
      rw [hx] at e1 e2
      cases e1
      cases e2
      obtain ⟨x, hxi, xm, rfl, _, t, rfl, ht⟩ := DB.at_ nd hx
      have L2 := L.sameT (o := .tup [kV (Sum.inr x), V.ref t]) nT
      have ht5 := L2.tupM hz mu _ _ ht
      have hd5 := L2.rd hz mu hd
      have hb5' : (upd H5 T1 (.tup [kV (Sum.inr x), V.ref t])) b = some (.dK kvs) := by rw [upd_ne (ne_of_none hb5 nT)]; exact hb5
      have hT5 : (upd H5 T1 (.tup [kV (Sum.inr x), V.ref t])) T1 = some (.tup [kV (Sum.inr x), V.ref t]) := upd_same
      have N6 := N5.keep (same_upd (o := .tup [kV (Sum.inr x), V.ref t]) nT).tupP
      generalize upd H5 T1 (.tup [kV (Sum.inr x), V.ref t]) = H6 at L2 ht5 hd5 hb5' hT5 N6 ⊢
      have size : kvs.length < sizeLine := by rw [N5.len, List.length_take]; exact big1 (by omega)
      have next : ∀ (so : Option Str) (m : Int) (c : Addr), H6 c = none → (so, m) = thenF A0 B0 x → (upd H6 c (.tup [osV so, .int m])) b = some (.dK kvs) ∧ Lk z od u H (upd (upd H6 c (.tup [osV so, .int m])) b (.dK (putK kvs (Sum.inr x) (.ref c)))) ∧
          Dic (isPair (thenF A0 B0)) (upd (upd H6 c (.tup [osV so, .int m])) b (.dK (putK kvs (Sum.inr x) (.ref c)))) (putK kvs (Sum.inr x) (.ref c)) (es.take (i + 1)) := fun so m c nc em => by
        have nbc : b ≠ c := ne_of_none hb5' nc
        refine ⟨by rw [upd_ne nbc]; exact hb5', (L2.sameT nc).put nzb.symm nb, ?_⟩
        rw [take_next hxi]
        refine N6.snoc (nd_take nd hxi) ⟨c, rfl, ?_⟩ fun y v _ g => pair_keep (fun t' xs k => ?_) g
        · rw [upd_ne nbc.symm, upd_same, ← em]
        · rw [upd_ne (fun z => by rw [z, hb5'] at k; cases k), upd_ne (ne_of_none k nc)]; exact k
      have sx := hs x xm
      generalize hF : B0 x = fx at ht5 sx
      obtain ⟨so, m⟩ := fx
      refine ⟨T1, _, rfl, SqT.of hT5, rfl, _, _, rfl, _, _, rfl, t, _, rfl, SqT.of ht5, rfl, _, _, rfl, _, _, rfl, rfl, rfl, ?_⟩
      cases so with
      | none =>
        refine ⟨_, rfl, _, rfl, _, rfl, (by show 2 ≤ sizeLine; decide), fun c nc => ?_⟩
        obtain ⟨n1, n2, n3⟩ := next none m c nc (then_none hF).symm
        refine ⟨_, rfl, _, rfl, b, _, rfl, DPut.k (k := Sum.inr x) n1 size, ?_⟩
        exact ⟨_, _, _, _, _, rfl, n2, _, upd_same, n3⟩
      | some y =>
        obtain ⟨w, ew, t3, rfl, ht3⟩ := DA.val y (sx y rfl)
        have ht6 := L2.tupM hz mu _ _ ht3
        refine ⟨_, rfl, _, rfl, _, rfl, _, rfl, d, _, rfl, .inl ⟨ks, Sum.inr y, hd5, rfl, ew.symm⟩, ?_⟩
        refine ⟨t3, _, rfl, SqT.of ht6, rfl, _, _, rfl, _, _, rfl, rfl, ?_⟩
        refine ⟨_, rfl, _, rfl, _, rfl, _, _, rfl, rfl, (by show 2 ≤ sizeLine; decide), fun c nc => ?_⟩
        obtain ⟨n1, n2, n3⟩ := next (A0 y).1 ((A0 y).2 + m) c nc (then_some hF).symm
        refine ⟨_, rfl, _, rfl, b, _, rfl, DPut.k (k := Sum.inr x) n1 size, ?_⟩
        exact ⟨_, _, _, _, _, rfl, n2, _, upd_same, n3⟩
    · obtain ⟨y3, y4, y5, y6, y7, rfl, L, kvs, hb5, N5⟩ := q
      rw [DB.len, List.take_length] at N5
      have s5 := L.done hz
      have hb6 : (upd H5 z u) b = some (.dK kvs) := by rw [upd_ne nzb.symm]; exact hb5
      refine ⟨L.fz, _, rfl, kk b kvs _ s5 nb hb6 (N5.keep fun t xs k => ?_)⟩
      rw [upd_ne (fun z => by rw [z, L.fz] at k; cases k)]
      exact k
abbrev s_one_more : Stmt := topS 20
theorem sc_one_more : FnScope ["push", "other"] ["push", "other"] (defScope s_one_more) := ⟨rfl, rfl, rfl, by decide +kernel, rfl, by decide +kernel, by decide +kernel⟩
def spOneMore : Sp := fun vs H Q _ => ∃ (d e : Addr) (ks ls : List (Key × V)) (ns es : List Str) (A B : PF), vs = [.ref d, .ref e] ∧ H d = some (.dK ks) ∧ Dic (isPair A) H ks ns ∧ H e = some (.dK ls) ∧ Dic (isPair B) H ls es ∧ d ≠ e ∧ ns.Nodup ∧ es.Perm ns ∧ 0 < ns.length ∧ ns.length ≤ 1000 ∧ (∀ x ∈ ns, nmB x = true) ∧
  (∀ x ∈ ns, ∀ y, (A x).1 = some y → y ∈ ns) ∧ (∀ x, 0 ≤ (A x).2) ∧ (∀ x ∈ es, ∀ y, (B x).1 = some y → y ∈ es) ∧ (∀ x, 0 ≤ (B x).2) ∧
  ∀ (f : Addr) (kvs : List (Key × V)) H', Same H H' → H f = none → H' f = some (.dK kvs) → Dic (isPair (thenF A B)) H' kvs es → Q (.ref f) H'
theorem dic_ofP {G G' : Hp → Str → V → Prop} {H H' : Hp} {ks ls : List (Key × V)} {ns es : List Str} (D : Dic G H ks ns) (D' : Dic G' H' ls es) (nd : ns.Nodup) (pm : es.Perm ns) : ks.length = ls.length ∧ (∀ p ∈ ls, ∃ x, p.1 = Sum.inr x) ∧ (∀ p ∈ ks, (valV ls p.1).isSome = true) := by
  refine ⟨by rw [D.len, D'.len, pm.length_eq], fun p hp => ?_, fun p hp => ?_⟩
  · obtain ⟨i, hi⟩ := List.mem_iff_getElem?.mp hp
    obtain ⟨kx, v⟩ := p
    obtain ⟨x, _, _, e, _⟩ := D'.at_ (pm.nodup_iff.mpr nd) hi
    exact ⟨x, e⟩
  · obtain ⟨i, hi⟩ := List.mem_iff_getElem?.mp hp
    obtain ⟨kx, v⟩ := p
    obtain ⟨x, _, xm, e, _⟩ := D.at_ nd hi
    subst e
    obtain ⟨z, ez, _⟩ := D'.val x (pm.mem_iff.mpr xm)
    show (valV ls (Sum.inr x)).isSome = true
    rw [ez]
    rfl
theorem ok_one_more {f : Addr} {fd : FuncData} (F : Fun K "one_more" "one_more" s_one_more f fd) (T : Bi mg) (D_is_push : Has P w K mg base "is_push" 4 ["thing"] spIsPush) (D_is_dict_of : Has P w K mg base "is_dict_of" 1 ["names", "thing"] spIsDictOf)
    (D_then : Has P w K mg base "_then" 1 ["push", "other"] spThen) : FnOk P w K mg base CX0 5 f fd ["push", "other"] spOneMore := by
  refine F.ok sc_one_more (fun vs H Q E h => ?_) (fun cdv A outer s₀ H vs Q E hr h => ?_)
  · obtain ⟨d, e, ks, ls, ns, es, A0, B0, rfl, _⟩ := h
    rfl
  · obtain ⟨d, e, ks, ls, ns, es, A0, B0, rfl, hd, DA, he, DB, nde, nd, pm, l0, l1, ok, hsA, hmA, hsB, hmB, kk⟩ := h
    refine ⟨_, (pss_cons (ps_if ((pw_or (pt_not (pt_val (D_is_push.call (hr.mono (by decide)) (by rfl) (pa_cons (pv 0) pa_nil)))) (pw_or1 (pt_not (pt_val (D_is_push.call (hr.mono (by decide)) (by rfl) (pa_cons (pv 1) pa_nil))))))).pt
  (pss_one ps_never)
  pss_nil)
 (pss_cons (ps_if (pt_not (pt_val (D_is_dict_of.call (hr.mono (by decide)) (by rfl) (pa_cons (pv 0) (pa_cons (pv 1) pa_nil)))))
  (pss_one ps_never)
  pss_nil)
 (pss_one (ps_ret (D_then.call (hr.mono (by decide)) (by rfl) (pa_cons (pv 0) (pa_cons (pv 1) pa_nil))))))), ?_⟩
    obtain ⟨dl, dk, dv⟩ := dic_ofP DA DB nd pm
    have nde2 : es.Nodup := pm.nodup_iff.mpr nd
    have le := pm.length_eq
    refine ⟨_, rfl, d, ks, ns, A0, rfl, .inl hd, Lz.of hd, DA, nd, l0, l1, ok, hsA, hmA, fun H1 s1 => ⟨true, rfl, ?_⟩⟩
    refine ⟨_, rfl, e, ls, es, B0, rfl, .inl (s1 _ _ he), Lz.of (s1 _ _ he), DB.keep s1.tupP, nde2, by omega, by omega, fun x m => ok x (pm.mem_iff.mp m), hsB, hmB, fun H2 s2 => ⟨true, rfl, ?_⟩⟩
    have s12 := s1.trans s2
    refine ⟨_, rfl, _, rfl, d, e, ks, ls, rfl, s12 _ _ hd, s12 _ _ he, nde, dl, by rw [DB.len]; omega, dk, dv, fun H3 s3 => ⟨true, rfl, ?_⟩⟩
    have s13 := s12.trans s3
    exact ⟨_, rfl, _, rfl, d, e, ks, ls, ns, es, A0, B0, rfl, .inl (s13 _ _ hd), DA.keep s13.tupP, Lz.of (s13 _ _ he), DB.keep s13.tupP, nde2, by omega, fun x m y e => pm.mem_iff.mp (hsB x m y e), fun f kvs H4 s4 nf hf Df => kk f kvs H4 (s13.trans s4) (s13.free nf) hf Df⟩
/-- as the laws of pushes in one order ask it -/
def spOneMore0 : Sp := fun vs H Q _ => ∃ (d e : Addr) (ks ls : List (Key × V)) (ns : List Str) (A B : PF), vs = [.ref d, .ref e] ∧ H d = some (.dK ks) ∧ Dic (isPair A) H ks ns ∧ H e = some (.dK ls) ∧ Dic (isPair B) H ls ns ∧ d ≠ e ∧ ns.Nodup ∧ 0 < ns.length ∧ ns.length ≤ 1000 ∧ (∀ x ∈ ns, nmB x = true) ∧
  (∀ x ∈ ns, ∀ y, (A x).1 = some y → y ∈ ns) ∧ (∀ x, 0 ≤ (A x).2) ∧ (∀ x ∈ ns, ∀ y, (B x).1 = some y → y ∈ ns) ∧ (∀ x, 0 ≤ (B x).2) ∧
  ∀ (f : Addr) (kvs : List (Key × V)) H', Same H H' → H f = none → H' f = some (.dK kvs) → Dic (isPair (thenF A B)) H' kvs ns → Q (.ref f) H'
theorem one_more0 (vs : List V) (H : Hp) (Q : VK) (E : XK) (h : spOneMore0 vs H Q E) : spOneMore vs H Q E := by
  obtain ⟨d, e, ks, ls, ns, A, B, a1, a2, a3, a4, a5, a6, a7, a8, a9, a10, a11, a12, a13, a14, kk⟩ := h
  exact ⟨d, e, ks, ls, ns, ns, A, B, a1, a2, a3, a4, a5, a6, a7, List.Perm.refl _, a8, a9, a10, a11, a12, a13, a14, kk⟩
end
end Y

namespace Y
open PySem PySem.Spec PyProof.Rows L2
section
variable {X : Cx}
def rLcm : List V → Hp → VK → Prop := fun vs H Q => ∃ a b : Int, vs = [.int a, .int b] ∧ a.natAbs < 2 ^ 64 ∧ b.natAbs < 2 ^ 64 ∧ Q (.int ((Nat.lcm a.natAbs b.natAbs : Nat) : Int)) H
theorem cr_lcm : CallR X (.builtin "math.lcm") rLcm := by
  intro pins s σ H vs us Q I rv h
  obtain ⟨a, b, rfl, h1, h2, q⟩ := h
  obtain ⟨t, u, rfl⟩ := Vals.int2 rv
  exact PySem.W.mc_lcm h1 h2 fun _ => ⟨.int _, H, I.tok _, ⟨_, rfl⟩, q⟩

/-- d.get(y, z), y may be None -/
def tGetN (td ty tx : TE) : TE := fun σ H Q => td σ H fun x H1 => ∃ a, x = .ref a ∧ IsD H1 a ∧ ty σ H1 fun y H2 => tx σ H2 fun z H3 => (∃ o, DGet H3 a y o ∧ Q (o.getD z) H3) ∨ ∃ kvs, y = .non ∧ Rd H3 a (.dK kvs) ∧ Q z H3
variable {o e f : Expr} {td ty tx : TE} {p pos apos cpos mpos : Pos}
theorem pe_getN (hu : X.A.units + 1 < cLine) (ho : PE X o td) (he : PE X e ty) (hf : PE X f tx) (m : M2 X o "get" apos e f cpos) : PE X (.Call (.Attribute o "get" apos) [e, f] [] cpos) (tGetN td ty tx) := by
  refine ⟨fun pins s σ H Q I hw => ?_⟩
  refine wpAny_Call_method m.base m.few m.line PySem.F.plainAttrs_dict PySem.F.slot_dict_get PySem.F.type_dict_get (thn (ho.run pins s σ H _ I hw) fun dv s1 ⟨x, H1, I1, rx, a, ex, isd, q1⟩ => ?_)
  subst ex
  obtain rfl : dv = Value.ref a := rx
  obtain ⟨w1, w2, _⟩ := isD_at I1 isd
  refine ⟨w1, w2, ?_⟩
  rw [m.trees]
  refine Calls.callWith_builtin rfl (Calls.evalArgs_plain (Calls.spliced_cons (thn (he.run pins s1 σ H1 _ I1 q1) fun kv s2 ⟨y, H2, I2, ry, q2⟩ =>
    Calls.spliced_cons (thn (hf.run pins s2 σ H2 _ I2 q2) fun zv s3 ⟨z, H3, I3, rz, q3⟩ => Calls.spliced_nil ?_))))
  rcases q3 with ⟨ov, g, q3⟩ | ⟨kvs, ey, g, q3⟩
  · exact d_get2 hu I3 g ry rz fun w' s4 I4 rw' => ⟨_, H3, I4, rw', q3⟩
  · subst ey
    obtain rfl : kv = Value.none := ry
    obtain ⟨_, lo, vs, _, dof⟩ := dk_rd I3.hok g
    obtain ⟨fn, mo, at0⟩ := none_map dof
    refine call_meetsIn PySem.F.slot_dict_get dof.typeIs PySem.F.entry_dict_get (PySem.F.args_dict_get_3 _ _ _) (meets_dict_get_default (noneKind X.prog X.w) a (show (noneKind X.prog X.w).is none .none = true from rfl) lo zv) ⟨_, mo, ?_⟩
    refine ⟨z, H3, I3.tok _, ?_, q3⟩
    rw [at0]
    exact rz
end
section
variable {prog : Program} {w : World} {A : Around} {E : Value → Shared → Prop} {s : Shared} {r d : Addr} {n : Nat} {Pi : Nat → Value → Prop} {OK : Heap → Prop}
theorem code_tuple_dict {G : Value → Shared → Prop} (K : PySem.W.KdlSrc prog w "dict" r d n Pi OK) (hh : A.handled = none) (ok : OK s.heap) (le : n ≤ sizeLine)
    (k : ∀ (h' : Heap) (tk : Nat) (acc : Array Value), (∀ b o, s.heap.get? b = some o → h'.get? b = some o) → ItemsOf Pi acc n → G (.ref h'.objs.size) { s with heap := h'.push { cls := .type "tuple", data := .seq acc }, toks := tk }) :
    codeAny (model prog w) A (.call (.builtin "tuple.__new__") ⟨[.type "tuple", .ref r], []⟩) (wants G E) s := by
  refine codeAny_of_tree ?_
  show wpAny _ A.in1 (do
    checkBuiltinCall "tuple.__new__" ⟨[.type "tuple", .ref r], []⟩
    again (.builtin "tuple.__new__" ⟨[.type "tuple", .ref r], []⟩)) _ _ s
  refine wpAny_bind (wpAny_of_eq (PySem.F.newCall_tuple_1 _) ?_)
  refine wpAny_pure ⟨plainId_quiet PySem.F.plain_tuple_new _, codeAny_builtin PySem.F.entry_tuple_new ?_⟩
  rw [Around.under_plainId PySem.F.plain_tuple_new _]
  have q1 := sub_tuple_self
  have q2 := init_tuple_lookup
  have q3 := madeHere_tuple
  have q4 : s.TypeIs (.ref r) "dict" := K.type _ ok
  have q5 : A.in1.handled = none := hh
  wp_walk using wpAny_typeOf q4, PySem.W.kdu_collect (A := A.in1) K q5 ok le
  intro h' tk acc kp it
  show wpAny _ _ (Builtin.Tuple.tupleExact acc.toList.toArray >>= fun u => ret u) _ _ _
  unfold Builtin.Tuple.tupleExact
  have e : acc.toList.toArray = acc := by simp
  rw [e]
  refine wpAny_bind (wpAny_newObj_type ?_ (by show acc.size ≤ sizeLine; rw [it.1]; exact le))
  exact wpAny_pure (k h' tk acc kp it)
end
section
variable {X : Cx}
/-- tuple(d): its keys -/
theorem call_tupleD (hc : X.calm = true) : CallR X (.type "tuple") (fun xs H Q => ∃ (a : Addr) (kvs : List (Key × V)), xs = [.ref a] ∧ Rd H a (.dK kvs) ∧ ∀ t, H t = none → Q (.ref t) (upd H t (.tup (kvs.map fun kv => kV kv.1)))) := by
  intro pins s σ H xs us Q I rv h
  obtain ⟨a, kvs, rfl, rd, q⟩ := h
  obtain ⟨u, rfl, rx⟩ := vals1 rv
  cases rx
  obtain ⟨z, lo, vs, rel, dof⟩ := dk_rd I.hok rd
  obtain ⟨ep, da⟩ := dof.dictAt
  have lk : kvs.length = vs.length := rel.length
  refine callType_codes (Q₁ := fun ob s₁ => s₁.TypeIs ob "tuple" ∧ EP X pins σ Q ob s₁) PySem.F.called_tuple (PySem.F.typeCall_tuple_1 _) PySem.F.entry_object_init
    (code_tuple_dict (PySem.W.kdl_dict (knd := mixKind X.prog X.w) (kvs := vs) (ep := ep) lo) (I.ok.hd hc) da (by rw [← lk]; exact z) fun h' tk acc kp it => ⟨⟨_, Heap.get?_push_size _ rfl, rfl⟩, ?_⟩) fun ob s₁ h₁ => ?_
  · have I2 : Inv X pins σ H { s with heap := h', toks := tk } := I.kept kp
    have hv : Vals (kvs.map fun kv => kV kv.1) acc.toList := by
      refine vals_of_at (show (kvs.map fun kv => kV kv.1).length = acc.toList.length by have e1 : acc.toList.length = acc.size := Array.length_toList; rw [e1, it.1, List.length_map]; exact lk) fun j x v h1 h2 => ?_
      obtain ⟨k, y, hky, is⟩ := it.2 j v (by rw [← Array.getElem?_toList]; exact h2)
      have e1 : (kvs.map (·.1))[j]? = some k := by
        rw [KV.keys rel, List.getElem?_map, hky]
        rfl
      have e2 : ((kvs.map (·.1)).map kV)[j]? = some (kV k) := by rw [List.getElem?_map, e1]; rfl
      rw [List.map_map] at e2
      have e3 := h1.symm.trans e2
      cases e3
      exact keyIs_rel is
    refine ⟨.ref h'.objs.size, upd H h'.objs.size (.tup (kvs.map fun kv => kV kv.1)), I2.laid (t' := tk) (fun b o e => Heap.get?_push_of_some _ e) (Nat.le_refl _) (show ObjOk X.prog X.w _ _ _ (.tup (kvs.map fun kv => kV kv.1)) from ⟨?_, acc.toList, hv, ?_⟩), rfl, q _ (I2.hok.fresh (Nat.le_refl _))⟩
    · rw [List.length_map]; exact z
    · rw [Array.toArray_toList]; exact IsTup.new _ _
  · exact ⟨h₁.1, PySem.F.args_object_init_2 ob _, object_init_meets PySem.F.called_tuple.init.lookup PySem.F.called_tuple.made (by decide) X.prog X.w _ _ s₁ ⟨h₁.1, rfl, h₁.2⟩⟩
end
end Y
namespace Y
open PySem PySem.Spec PyProof.Rows L2
section
variable {X : Cx} {o : Expr} {p pos apos mpos : Pos} {td : TE}
/-- max(o.values()) of a dict of ints -/
def tMaxV (td : TE) : TE := fun σ H Q => td σ H fun x H1 => ∃ a kvs is, x = V.ref a ∧ H1 a = some (.dK kvs) ∧ kvs.map (·.2) = is.map V.int ∧ is ≠ [] ∧ ∀ m, m ∈ is → (∀ j ∈ is, j ≤ m) → Q (.int m) H1
theorem pe_maxV (hc : X.calm = true) (hg : Gl X "max") (hm : X.mg "max" = none) (hd : PE X o td) (hb : attributeBase o "values" X.env (eval o X.env) = eval o X.env := by rfl) (hl : (apos.endLine == mpos.line) = true := by rfl)
    (hse : starEach [Expr.Call (.Attribute o "values" apos) [] [] mpos] X.env = [(false, eval (Expr.Call (.Attribute o "values" apos) [] [] mpos) X.env)] := by rfl) :
    PE X (.Call (.Name "max" p) [.Call (.Attribute o "values" apos) [] [] mpos] [] pos) (tMaxV td) := by
  refine ⟨fun pins s σ H Q I hw => ?_⟩
  refine wpAny_Call_Name_kw (ld_blt I hg hm (u := .builtin "max") (by first | rfl | decide +kernel) ?_ (by first | decide +kernel | decide) (by first | decide +kernel | decide))
  rw [hse]
  refine PySem.callWith_builtin1 (wpAny_Call_method0_late hb hl (thn (hd.run pins s σ H _ I hw) fun dv s1 ⟨x, H1, I1, rx, a, kvs, is, ex, ha, hv, ne, q⟩ => ?_))
  subst ex
  obtain rfl : dv = Value.ref a := rx
  obtain ⟨_, lo, vs, rel, dof⟩ := dk_of I1.hok ha
  obtain ⟨ep, dat⟩ := dof.dictAt
  have dat0 := dat
  obtain ⟨ob, es, ho, ex, hdt, _, _, _⟩ := dat0
  refine ⟨"dict", "dict.values", PySem.F.plainAttrs_dict, PySem.F.slot_dict_values, PySem.F.type_dict_values, ⟨ob, ho, ex.1⟩, fun b e => ?_, Calls.callWith_builtin rfl (PySem.evalArgs_none ?_)⟩
  · cases e
    exact ⟨ob, ho, ex.2.1⟩
  refine call_meetsIn PySem.F.slot_dict_values ⟨ob, ho, ex.1⟩ PySem.F.entry_dict_values (PySem.F.args_dict_values_1 _) (meets_dict_values (mixKind X.prog X.w) a lo) ⟨⟨vs, dof⟩, ?_⟩
  generalize vo : ({ cls := .type "dict_values", data := .fields #[.ref a] } : Obj) = view
  have kp : ∀ b u, s1.heap.get? b = some u → (s1.heap.push view).get? b = some u := fun b u e => Heap.get?_push_of_some _ e
  have da1 : (s1.heap.push view).DictAt (mixKind X.prog X.w) a vs ep := dat.keep kp
  have lv : vs.length = is.length := by
    have e := congrArg List.length hv
    rw [List.length_map, List.length_map] at e
    rw [← e]
    exact (KV.length rel).symm
  have l0 : 0 < vs.length := by
    rw [lv]
    exact List.length_pos_iff.mpr ne
  have isI : ∀ (i : Nat) (v : Value), (∃ k, vs[i]? = some (k, v)) → ∃ t, v = Value.int (is.getD i 0) t := fun i v ⟨k, hk⟩ => by
    obtain ⟨x, h1, h2⟩ := KV.at' rel hk
    have z : (kvs.map (·.2))[i]? = some x := by
      rw [List.getElem?_map, h1]
      rfl
    rw [hv, List.getElem?_map] at z
    obtain ⟨j, hj, z2⟩ := Option.map_eq_some_iff.mp z
    subst z2
    obtain ⟨t, z3⟩ := h2
    refine ⟨t, ?_⟩
    rw [z3, List.getD_eq_getElem?_getD, hj]
    rfl
  have hsz : (s1.heap.push view).objs.size = s1.heap.objs.size + 1 := Heap.size_push _ _
  have hlt : a < s1.heap.objs.size := Heap.lt_size ho
  subst vo
  refine call_max_walk (wpAny_pyIter_values (v := s1.heap.objs.size) (d := a) ⟨_, Heap.get?_push_size _ rfl, rfl, rfl⟩ da1 ?_)
  refine ⟨_, _, _, _, _, _, _, rfl, Walks.dictValues (knd := mixKind X.prog X.w) (A := X.A.in1) (I.ok.hd hc) (s1.heap.push _).objs.size a (by rw [hsz]; exact Nat.ne_of_lt (Nat.lt_succ_of_lt hlt)) vs ep,
    ⟨⟨_, Heap.get?_push_size _ rfl, rfl, rfl⟩, da1.keep fun b u e => Heap.get?_push_of_some _ e⟩, fun b hbm => ?_, l0, CmpOf.ints_gt (fun i => is.getD i 0) isI, fun v h' tk hP hk => ?_⟩
  · show b < ((s1.heap.push _).push _).objs.size
    rw [Heap.size_push, hsz]
    rw [hsz] at hbm
    rcases List.mem_cons.mp hbm with z | z
    · rw [z]
      exact Nat.lt_succ_self _
    · rw [List.mem_singleton.mp z]
      exact Nat.lt_succ_of_lt (Nat.lt_succ_of_lt hlt)
  · obtain ⟨t, rfl⟩ := isI _ v hP
    obtain ⟨m1, m2⟩ := argBest_gt (fun i => is.getD i 0) (vs.length - 1)
    refine ⟨.int _, H1, I1.kept (t' := tk) fun b u e => hk b u (fun hmem => ?_) (Heap.get?_push_of_some _ (kp b u e)), ⟨t, rfl⟩, q _ ?_ fun j hj => ?_⟩
    · have z1 := List.mem_singleton.mp hmem
      have z2 := Heap.lt_size e
      rw [hsz] at z1
      exact absurd z2 (by rw [z1]; exact Nat.not_lt.mpr (Nat.le_succ _))
    · exact PySem.getD_mem (by omega)
    · obtain ⟨i, hi, z⟩ := List.mem_iff_getElem.mp hj
      have z2 := m2 i (by omega)
      have z3 : is.getD i 0 = j := by
        rw [List.getD_eq_getElem?_getD, List.getElem?_eq_getElem hi, ← z]
        rfl
      rw [z3] at z2
      exact z2
end
end Y

namespace Y
open PySem PySem.Spec PyProof.Rows L2
/-! ### ways: the mathematics -/
def hd (t : List Str) (b : Option Str) : Option Str := match t with | [] => b | y :: _ => some y
/-- each has the next one as its source, the last one b -/
inductive Chain (F : PF) : List Str → Option Str → Prop
  | nil {b : Option Str} : Chain F [] b
  | cons {x : Str} {t : List Str} {b : Option Str} : (F x).1 = hd t b → Chain F t b → Chain F (x :: t) b
theorem hd_app {s t : List Str} {b : Option Str} : hd (s ++ t) b = hd s (hd t b) := by
  cases s <;> rfl
theorem hd_get {t : List Str} {b : Option Str} (h : 0 < t.length) : hd t b = t[0]? := by
  cases t with
  | nil => cases h
  | cons x t => rfl
theorem chain_app {F : PF} : ∀ {s t : List Str} {b : Option Str}, Chain F (s ++ t) b ↔ Chain F s (hd t b) ∧ Chain F t b
  | [], _, _ => ⟨fun h => ⟨.nil, h⟩, fun h => h.2⟩
  | x :: s, t, b => by
    constructor
    · intro h
      cases h with
      | cons h1 h2 =>
        obtain ⟨a, c⟩ := chain_app.mp h2
        exact ⟨.cons (h1.trans (hd_app (s := s))) a, c⟩
    · rintro ⟨h, c⟩
      cases h with
      | cons h1 h2 => exact .cons (h1.trans (hd_app (s := s)).symm) (chain_app.mpr ⟨h2, c⟩)
theorem Chain.snoc {F : PF} {row : List Str} {h : Str} (c : Chain F row (some h)) : Chain F (row ++ [h]) (F h).1 := chain_app.mpr ⟨c, .cons rfl .nil⟩
theorem chain_in {F : PF} {kn : List Str} (cl : ∀ x ∈ kn, ∀ y, (F x).1 = some y → y ∈ kn) : ∀ {row : List Str} {b : Option Str}, Chain F row b → (∀ z, hd row b = some z → z ∈ kn) → ∀ y ∈ row, y ∈ kn
  | [], _, _, _, _, m => nomatch m
  | x :: t, b, .cons h1 h2, hx, y, m => by
    have xm := hx x rfl
    rcases List.mem_cons.mp m with e | m
    · rw [e]; exact xm
    · exact chain_in cl h2 (fun z hz => cl x xm z (h1.trans hz)) y m
theorem chain_pre {F : PF} : ∀ {row row' : List Str} {b b' : Option Str}, Chain F row b → Chain F row' b' → hd row b = hd row' b' → row.length ≤ row'.length → ∃ s, row' = row ++ s ∧ hd s b' = b
  | [], row', b, b', _, _, h, _ => ⟨row', rfl, h.symm⟩
  | x :: t, [], _, _, _, _, _, hl => absurd hl (by simp)
  | x :: t, y :: u, b, b', .cons h1 h2, .cons k1 k2, h, hl => by
    have e : x = y := Option.some.inj h
    subst e
    obtain ⟨s, e1, e2⟩ := chain_pre h2 k2 (h1.symm.trans k1) (Nat.le_of_succ_le_succ hl)
    exact ⟨s, by rw [e1]; rfl, e2⟩
/-- the lead and the ring of a name's way -/
structure WayOf (F : PF) (x : Str) (l r : List Str) : Prop where
  ch : Chain F (l ++ r) r[0]?
  nd : (l ++ r).Nodup
  hd : hd (l ++ r) r[0]? = some x
theorem way_same {F : PF} {x : Str} {l r l' r' : List Str} (W : WayOf F x l r) (W' : WayOf F x l' r') (h : (l ++ r).length ≤ (l' ++ r').length) : l = l' ∧ r = r' := by
  obtain ⟨s, e, q⟩ := chain_pre W.ch W'.ch (W.hd.trans W'.hd.symm) h
  cases s with
  | cons z t =>
    have q : some z = r[0]? := q
    have m1 : z ∈ l ++ r := List.mem_append_right _ (at_mem q.symm)
    have nd := W'.nd
    rw [e] at nd
    exact absurd rfl ((List.nodup_append.mp nd).2.2 z m1 z List.mem_cons_self)
  | nil =>
    rw [List.append_nil] at e
    have q : r'[0]? = r[0]? := q
    cases r with
    | nil =>
      cases r' with
      | nil => rw [List.append_nil, List.append_nil] at e; exact ⟨e.symm, rfl⟩
      | cons z t => cases q
    | cons z t =>
      have g1 : (l ++ z :: t)[l.length]? = some z := by rw [List.getElem?_append_right (Nat.le_refl _), Nat.sub_self]; rfl
      have g2 : (l' ++ r')[l'.length]? = some z := by rw [List.getElem?_append_right (Nat.le_refl _), Nat.sub_self]; exact q
      rw [e] at g2
      have el := nd_ix W.nd g1 g2
      exact List.append_inj e.symm el
theorem way_uniq {F : PF} {x : Str} {l r l' r' : List Str} (W : WayOf F x l r) (W' : WayOf F x l' r') : l = l' ∧ r = r' := by
  by_cases h : (l ++ r).length ≤ (l' ++ r').length
  · exact way_same W W' h
  · obtain ⟨a, b⟩ := way_same W' W (by omega)
    exact ⟨a.symm, b.symm⟩
theorem way_none {F : PF} {x : Str} (h : (F x).1 = none) : WayOf F x [x] [] := ⟨.cons h .nil, List.nodup_cons.mpr ⟨fun m => (nomatch m), List.nodup_nil⟩, rfl⟩
theorem way_cons {F : PF} {x y : Str} {l r : List Str} (h : (F x).1 = some y) (W : WayOf F y l r) (n : x ∉ l ++ r) : WayOf F x (x :: l) r := ⟨.cons (h.trans W.hd.symm) W.ch, List.nodup_cons.mpr ⟨n, W.nd⟩, rfl⟩
/-- what leads on to a known way -/
theorem way_suffix {F : PF} {l r : List Str} {b : Option Str} (hb : b = none ∧ l = [] ∧ r = [] ∨ ∃ z, b = some z ∧ WayOf F z l r) :
    ∀ {row : List Str}, Chain F row b → row.Nodup → (∀ x ∈ row, x ∉ l ++ r) → ∀ {x : Str} {t : List Str}, row = x :: t → WayOf F x (x :: t ++ l) r
  | _, .nil, _, _, _, _, e => nomatch e
  | w :: u, .cons h1 h2, nd, dj, x, t, e => by
    obtain ⟨rfl, rfl⟩ : w = x ∧ u = t := by simpa using e
    obtain ⟨n1, n2⟩ := List.nodup_cons.mp nd
    cases u with
    | nil =>
      rcases hb with ⟨e1, e2, e3⟩ | ⟨z, e1, W⟩
      · subst e1 e2 e3
        exact way_none h1
      · subst e1
        exact way_cons h1 W (dj w List.mem_cons_self)
    | cons y v =>
      have W := way_suffix hb h2 n2 (fun w m => dj w (List.mem_cons_of_mem _ m)) rfl
      refine way_cons h1 W fun m => ?_
      have m : w ∈ (y :: v) ++ l ++ r := m
      rw [List.append_assoc] at m
      rcases List.mem_append.mp m with m | m
      · exact n1 m
      · exact dj w List.mem_cons_self m
/-- a ring, from any of its names -/
theorem way_ring {F : PF} {a c : List Str} {y : Str} (h : Chain F (a ++ y :: c) (a ++ y :: c)[0]?) (nd : (a ++ y :: c).Nodup) : WayOf F y [] (y :: c ++ a) := by
  have p : (y :: c ++ a).Perm (a ++ y :: c) := List.perm_append_comm
  refine ⟨?_, p.nodup_iff.mpr nd, rfl⟩
  obtain ⟨h1, h2⟩ := chain_app.mp h
  show Chain F (y :: c ++ a) (some y)
  refine chain_app.mpr ⟨?_, h1⟩
  cases a with
  | nil => exact h2
  | cons z a => exact h2
theorem WayOf.inNs {F : PF} {x : Str} {l r kn : List Str} (W : WayOf F x l r) (cl : ∀ x ∈ kn, ∀ y, (F x).1 = some y → y ∈ kn) (hx : x ∈ kn) : ∀ y ∈ l ++ r, y ∈ kn :=
  chain_in cl W.ch fun z hz => by
    rw [W.hd] at hz
    cases hz
    exact hx
theorem nd_sub_len {α : Type} : ∀ {l m : List α}, l.Nodup → (∀ x ∈ l, x ∈ m) → l.length ≤ m.length
  | [], _, _, _ => Nat.zero_le _
  | x :: t, m, nd, h => by
    obtain ⟨n1, n2⟩ := List.nodup_cons.mp nd
    obtain ⟨m1, m2, rfl⟩ := List.append_of_mem (h x List.mem_cons_self)
    have q := nd_sub_len (l := t) (m := m1 ++ m2) n2 fun y hy => by
      rcases List.mem_append.mp (h y (List.mem_cons_of_mem _ hy)) with k | k
      · exact List.mem_append_left _ k
      · rcases List.mem_cons.mp k with e | k
        · rw [e] at hy; exact (n1 hy).elim
        · exact List.mem_append_right _ k
    rw [List.length_append] at q
    rw [List.length_cons, List.length_append, List.length_cons]
    omega
/-! ### numbers along a way -/
def stepsF (F : PF) (u : Str → Int) : Nat → Str → Int
  | 0 => u
  | n + 1 => evP F (stepsF F u n)
def moreS (F : PF) (row : List Str) : Int := (row.map fun x => (F x).2).sum
theorem moreS_cons {F : PF} {x : Str} {t : List Str} : moreS F (x :: t) = (F x).2 + moreS F t := by
  unfold moreS
  rw [List.map_cons, List.sum_cons]
theorem unroll {F : PF} {u : Str → Int} {e : Str} : ∀ {row : List Str}, Chain F row (some e) → ∀ {x : Str}, hd row (some e) = some x → ∀ n, stepsF F u (n + row.length) x = stepsF F u n e + moreS F row
  | [], _, x, h, n => by
    have e : e = x := Option.some.inj h
    subst e
    show stepsF F u n e = stepsF F u n e + 0
    omega
  | y :: t, .cons h1 h2, x, h, n => by
    have e : y = x := Option.some.inj h
    subst e
    obtain ⟨z, hz⟩ : ∃ z, hd t (some e) = some z := by cases t <;> exact ⟨_, rfl⟩
    have q := unroll (u := u) h2 hz n
    rw [List.length_cons, show n + (t.length + 1) = (n + t.length) + 1 by omega, moreS_cons]
    show (match (F y).1 with | none => 0 | some w => stepsF F u (n + t.length) w) + (F y).2 = _
    rw [h1, hz]
    show stepsF F u (n + t.length) z + (F y).2 = _
    rw [q]
    omega
theorem unroll0 {F : PF} {u : Str → Int} : ∀ {row : List Str}, Chain F row none → ∀ {x : Str}, hd row none = some x → ∀ n, stepsF F u (n + row.length) x = moreS F row
  | [], _, x, h, n => nomatch h
  | y :: t, .cons h1 h2, x, h, n => by
    have e : y = x := Option.some.inj h
    subst e
    rw [List.length_cons, show n + (t.length + 1) = (n + t.length) + 1 by omega, moreS_cons]
    show (match (F y).1 with | none => 0 | some w => stepsF F u (n + t.length) w) + (F y).2 = _
    rw [h1]
    cases t with
    | nil =>
      show 0 + (F y).2 = (F y).2 + 0
      omega
    | cons z v =>
      have q := unroll0 (u := u) h2 (x := z) rfl n
      show stepsF F u (n + (z :: v).length) z + (F y).2 = _
      rw [q]
      omega
theorem ring_times {F : PF} {u : Str → Int} {e : Str} {r : List Str} (h : Chain F r (some e)) (h0 : hd r (some e) = some e) : ∀ (q n : Nat), stepsF F u (n + q * r.length) e = stepsF F u n e + (q : Int) * moreS F r
  | 0, n => by rw [Nat.zero_mul]; show stepsF F u n e = stepsF F u n e + (0 : Int) * moreS F r; rw [Int.zero_mul]; omega
  | q + 1, n => by
    rw [Nat.succ_mul, show n + (q * r.length + r.length) = (n + q * r.length) + r.length by omega, unroll h h0, ring_times h h0 q n]
    rw [show ((q + 1 : Nat) : Int) = (q : Int) + 1 by omega, Int.add_mul, Int.one_mul]
    omega
/-- the first fact -/
theorem first_fact {F : PF} {u : Str → Int} {x : Str} {l r : List Str} (W : WayOf F x l r) {n q R : Nat} (hn : l.length ≤ n) (hR : R = q * r.length) :
    stepsF F u (n + R) x - stepsF F u n x = (q : Int) * moreS F r := by
  obtain ⟨n, rfl⟩ : ∃ k, n = k + l.length := ⟨n - l.length, by omega⟩
  obtain ⟨c1, c2⟩ := chain_app.mp W.ch
  have h0 := W.hd
  rw [hd_app] at h0
  cases r with
  | nil =>
    have z : moreS F [] = 0 := rfl
    rw [hR, z, Int.mul_zero, List.length_nil, Nat.mul_zero, Nat.add_zero]
    omega
  | cons e t =>
    have c1 : Chain F l (some e) := c1
    have c2 : Chain F (e :: t) (some e) := c2
    rw [show n + l.length + R = (n + R) + l.length by omega, unroll c1 h0, unroll c1 h0, hR, ring_times c2 rfl]
    omega
end Y
namespace Y
open PySem PySem.Spec PyProof.Rows L2
/-- at which place a name stands -/
def idI : List Str → Str → Nat
  | [], _ => 0
  | a :: r, x => if a = x then 0 else idI r x + 1
theorem idI_at : ∀ {ns : List Str} {x : Str}, x ∈ ns → ns[idI ns x]? = some x
  | [], _, h => nomatch h
  | a :: r, x, h => by
    unfold idI
    by_cases e : a = x
    · rw [if_pos e, e]; rfl
    · rw [if_neg e]
      exact idI_at ((List.mem_cons.mp h).resolve_left fun z => e z.symm)
theorem idI_app : ∀ {ns s : List Str} {x : Str}, x ∈ ns → idI (ns ++ s) x = idI ns x
  | [], _, _, h => nomatch h
  | a :: r, s, x, h => by
    show (if a = x then 0 else idI (r ++ s) x + 1) = if a = x then 0 else idI r x + 1
    by_cases e : a = x
    · rw [if_pos e, if_pos e]
    · rw [if_neg e, if_neg e, idI_app ((List.mem_cons.mp h).resolve_left fun z => e z.symm)]
theorem idI_new : ∀ {ns : List Str} {x : Str}, x ∉ ns → idI (ns ++ [x]) x = ns.length
  | [], x, _ => if_pos rfl
  | a :: r, x, h => by
    show (if a = x then 0 else idI (r ++ [x]) x + 1) = r.length + 1
    rw [if_neg (fun e => h (by rw [e]; exact List.mem_cons_self)), idI_new fun m => h (List.mem_cons_of_mem _ m)]
theorem idI_lt {ns : List Str} {x : Str} (h : x ∈ ns) : idI ns x < ns.length := (List.getElem?_eq_some_iff.mp (idI_at h)).1
theorem drop_first {row : List Str} {j : Nat} {z : Str} (h : row[j]? = some z) : (row.drop j)[0]? = some z := by
  rw [List.getElem?_drop, Nat.add_zero]
  exact h
/-- the way as it is found -/
theorem way_found {F : PF} {x z : Str} {row : List Str} (c : Chain F row (some z)) (h : hd row (some z) = some x) (nd : row.Nodup) {j : Nat} (e : row[j]? = some z) : WayOf F x (row.take j) (row.drop j) := by
  refine ⟨?_, ?_, ?_⟩
  · rw [List.take_append_drop, drop_first e]; exact c
  · rw [List.take_append_drop]; exact nd
  · rw [List.take_append_drop, drop_first e]; exact h
theorem way_found0 {F : PF} {x : Str} {row : List Str} (c : Chain F row none) (h : hd row none = some x) (nd : row.Nodup) : WayOf F x row [] := by
  refine ⟨?_, ?_, ?_⟩
  · rw [List.append_nil]; exact c
  · rw [List.append_nil]; exact nd
  · rw [List.append_nil]; exact h
end Y
namespace Y
open PySem PySem.Spec PyProof.Rows L2
theorem first_fact0 {F : PF} {u : Str → Int} {x : Str} {l : List Str} (W : WayOf F x l []) {n R : Nat} (hn : l.length ≤ n) : stepsF F u (n + R) x - stepsF F u n x = 0 := by
  obtain ⟨n, rfl⟩ : ∃ k, n = k + l.length := ⟨n - l.length, by omega⟩
  have c := W.ch
  have h0 := W.hd
  rw [List.append_nil] at c h0
  have c : Chain F l none := c
  have h0 : hd l none = some x := h0
  rw [show n + l.length + R = (n + R) + l.length by omega, unroll0 c h0, unroll0 c h0]
  omega
theorem moreS_in {F : PF} (h0 : ∀ x, 0 ≤ (F x).2) (h3 : ∀ x, (F x).2 ≤ 3) : ∀ (r : List Str), 0 ≤ moreS F r ∧ moreS F r ≤ 3 * (r.length : Nat)
  | [] => by show (0 : Int) ≤ 0 ∧ (0 : Int) ≤ 3 * (0 : Nat); omega
  | x :: t => by
    obtain ⟨a, b⟩ := moreS_in h0 h3 t
    have := h0 x
    have := h3 x
    rw [moreS_cons, List.length_cons]
    omega
end Y

namespace Y
open PySem PySem.Spec PyProof.Rows L2
/-- further built-in names -/
structure Bj (mg : Str → Option Value) : Prop extends Bi mg where
  max : mg "max" = none
  any : mg "any" = none
  reversed : mg "reversed" = none
  sorted : mg "sorted" = none
/-- a push as a dict -/
structure Pu (H : Hp) (d : Addr) (kvs : List (Key × V)) (ns : List Str) (F : PF) : Prop where
  at_ : Rd H d (.dK kvs)
  lz : Lz H d kvs
  dic : Dic (isPair F) H kvs ns
  nd : ns.Nodup
  l0 : 0 < ns.length
  l1 : ns.length ≤ 1000
  ok : ∀ x ∈ ns, nmB x = true
  cl : ∀ x ∈ ns, ∀ y, (F x).1 = some y → y ∈ ns
  mo : ∀ x, 0 ≤ (F x).2
theorem keepD {H H' : Hp} (k : ∀ b o, H b = some o → (∀ xs, o ≠ .lst xs) → H' b = some o) : ∀ t xs, H t = some (.tup xs) → H' t = some (.tup xs) := fun t xs e => k _ _ e fun ys z => nomatch z
section
variable {P : Program} {w : World} {K : PySem.W.Frag} {mg : Str → Option Value} {base : Heap}
abbrev s_l_drawn_push : Stmt := topS 36
theorem sc_l_drawn_push : FnScope ["_law_pot_here", "_law_names", "_law_line", "_law_sort", "_law_found", "_law_at", "_law_name", "_law_source"] ["_law_pot_here"] (defScope s_l_drawn_push) := ⟨rfl, rfl, rfl, by decide +kernel, rfl, by decide +kernel, by decide +kernel⟩
def spDrawnPush : Sp := fun vs H Q _ => ∃ (p g s : Addr), vs = [.ref p] ∧ PotAt H p g s ∧
  ∀ (d : Addr) (kvs : List (Key × V)) (ns : List Str) (F : PF) H', Dic (isPair F) H' kvs ns → ns.Nodup → (∀ x ∈ ns, x ∈ NM8) → 0 < ns.length → ns.length ≤ 7 → (∀ x ∈ ns, ∀ y, (F x).1 = some y → y ∈ ns) → (∀ x, 0 ≤ (F x).2) → (∀ x, (F x).2 ≤ 3) →
    H d = none → H' d = some (.dK kvs) → PotAt H' p g s → But p g H H' → Q (.ref d) H'
theorem ok_drawn_push {f : Addr} {fd : FuncData} (F : Fun K "_law_drawn_push" "_law_drawn_push" s_l_drawn_push f fd) (T : Bi mg) (D_l_draw : Has P w K mg base "_law_draw" 1 ["_law_pot_here", "_law_many"] spDraw)
    (D_l_any : Has P w K mg base "_law_any" 2 ["_law_pot_here", "_law_items"] (spAny K)) (D_l_mixed : Has P w K mg base "_law_mixed" 2 ["_law_pot_here", "_law_items"] (spMixed K)) (D_l_push_names : Has P w K mg base "_law_push_names" 3 ["_law_pot_here"] spPushNames) :
    FnOk P w K mg base CX0 4 f fd ["_law_pot_here"] spDrawnPush := by
  refine F.ok sc_l_drawn_push (fun vs H Q E h => ?_) (fun cdv A outer s₀ H vs Q E hr h => ?_)
  · obtain ⟨p, g, s, rfl, _⟩ := h
    rfl
  · obtain ⟨p, g, s, rfl, Z, kk⟩ := h
    have hu := hu_of hr
    refine ⟨_, (pss_cons (ps_set (i := 1) sc_l_drawn_push.nd rfl (.inl rfl) (D_l_push_names.call (hr.mono (by decide)) (by rfl) (pa_cons (pv 0) pa_nil)))
 (pss_cons (ps_set (i := 2) sc_l_drawn_push.nd rfl (.inl rfl) (D_l_mixed.call (hr.mono (by decide)) (by rfl) (pa_cons (pv 0) (pa_cons (pv 1) pa_nil))))
 (pss_cons (ps_set (i := 3) sc_l_drawn_push.nd rfl (.inl rfl) (D_l_draw.call (hr.mono (by decide)) (by rfl) (pa_cons (pv 0) (pa_cons pe_int pa_nil))))
 (pss_cons (ps_set (i := 4) sc_l_drawn_push.nd rfl (.inl rfl) pe_dnewK)
 (pss_cons (ps_for PassesOwn.never rfl (pi_enumT (by rfl) T.enumerate (pa_cons (pv 1) pa_nil)) (pg_tup (by rfl) (pgs_cons (pg_name (i := 5) sc_l_drawn_push.nd rfl (.inl rfl)) (pgs_cons (pg_name (i := 6) sc_l_drawn_push.nd rfl (.inl rfl)) pgs_nil)))
  (pss_cons (ps_set (i := 7) sc_l_drawn_push.nd rfl (.inl rfl) (D_l_any.call (hr.mono (by decide)) (by rfl) (pa_cons (pv 0) (pa_cons (pv 1) pa_nil))))
 (C8.pss_cut (ps_if (pt_cmpR op_eq (pv 3) pe_int (nomark _))
  (pss_one (ps_set (i := 7) sc_l_drawn_push.nd rfl (.inl rfl) (pe_ix ix_list (pv 2) (pv 5) (fun _ _ => rfl))))
  pss_nil)
 (C8.pss_cut (ps_if ((pw_and (pt_cmpR op_eq (pv 3) pe_int (nomark _)) (pw_and1 (pt_cmpR op_gt (pv 5) pe_int (nomark _))))).pt
  (pss_one (ps_set (i := 7) sc_l_drawn_push.nd rfl (.inl rfl) (pe_ix ix_tup (pv 1) (pe_op op_sub (pv 5) pe_int) (fun _ _ => rfl))))
  pss_nil)
 (C8.pss_cut (ps_if (pt_cmpR op_eq (D_l_draw.call (hr.mono (by decide)) (by rfl) (pa_cons (pv 0) (pa_cons pe_int pa_nil))) pe_int (nomark _))
  (pss_one (ps_set (i := 7) sc_l_drawn_push.nd rfl (.inl rfl) pe_non))
  pss_nil)
 (pss_one (ps_dput hu (pv 4) (pv 6) (pe_tup (pa_cons (pv 7) (pa_cons (pe_ix ix_list (pe_lst (pa_cons pe_int (pa_cons pe_int (pa_cons pe_int (pa_cons (D_l_draw.call (hr.mono (by decide)) (by rfl) (pa_cons (pv 0) (pa_cons pe_int pa_nil))) pa_nil))))) (D_l_draw.call (hr.mono (by decide)) (by rfl) (pa_cons (pv 0) (pa_cons pe_int pa_nil))) (fun _ _ => rfl)) pa_nil))) rfl)))))))
 (pss_one (ps_ret (pv 4)))))))), ?_⟩
    refine ⟨_, rfl, p, g, s, rfl, Z, fun t ns H1 nd n8 l1 l7 nt ht Z1 b1 => ?_⟩
    -- line, sort, found
    refine ⟨_, rfl, _, rfl, p, g, s, t, _, rfl, Z1, .inr (SqT.of ht), by rw [List.length_map]; omega, by rw [List.length_map]; omega, fun l ys H2 pm nl hl Z2 b2 => ?_⟩
    obtain ⟨ls, pl, rfl⟩ := perm_map pm rfl
    have nl3 := Z1.free nl
    refine ⟨_, rfl, p, g, s, 4, rfl, Z2, by decide, by decide, fun sort H3 _ _ Z3 b3 => ?_⟩
    have hl3 := b3 _ _ hl nl3.1 nl3.2.1
    have ht3 := (b2.trans b3).tupP Z1 _ _ ht
    have b13 := b1.trans (b2.trans b3)
    intro d nd0
    have nd3 := Z3.free nd0
    have nd00 := b13.free nd0 nd3.1 nd3.2.1
    have ntd : t ≠ d := ne_of_none ht3 nd0
    have nld : l ≠ d := ne_of_none hl3 nd0
    refine ⟨_, rfl, t, _, rfl, SqT.of (by rw [upd_ne ntd]; exact ht3), for_it walk_enumT (fun i σ H4 => ∃ y5 y6 y7, σ = [some (.ref p), some (.ref t), some (.ref l), some (.int sort), some (.ref d), y5, y6, y7] ∧ H4 t = some (.tup (ns.map V.str)) ∧ H4 l = some (.lst (ls.map V.str)) ∧ PotAt H4 p g s ∧ But p g H H4 ∧
        ∃ kvs G, H4 d = some (.dK kvs) ∧ Dic (isPair G) H4 kvs (ns.take i) ∧ (∀ x ∈ ns, ∀ y, (G x).1 = some y → y ∈ ns) ∧ (∀ x, 0 ≤ (G x).2) ∧ (∀ x, (G x).2 ≤ 3))
      ⟨none, none, none, rfl, by rw [upd_ne ntd]; exact ht3, by rw [upd_ne nld]; exact hl3, Z3.put nd3, b13.put nd00, [], fun _ => (none, 0), upd_same, Dic.nil, fun _ _ _ e => (nomatch e), fun _ => Int.le_refl _, fun _ => (by decide : (0 : Int) ≤ 3)⟩ (fun i σ H4 _ q => by obtain ⟨_, _, _, _, q, _⟩ := q; exact SqT.of q) (fun i v σ H4 H4' hi q y => ?_) fun σ H4 q => ?_⟩
    · obtain ⟨y5, y6, y7, rfl, ht4, hl4, Z4, b4, kvs, G, hd4, D4, cl4, mo4, mi4⟩ := q
      obtain ⟨T1, x1, x2, rfl, nT, rfl, e1, e2⟩ := y
      cases e1
      obtain ⟨x, hx, rfl⟩ := map_at e2
      have xm := at_mem hx
      have hi' : i < ns.length := (List.getElem?_eq_some_iff.mp hx).1
      have nT3 := Z4.free nT
      have nT0 := b4.free nT nT3.1 nT3.2.1
      have Z5 : PotAt (upd H4 T1 (.tup [V.int (i : Nat), V.str x])) p g s := Z4.put nT3
      have b5 := b4.put (o := .tup [V.int (i : Nat), V.str x]) nT0
      have s5 := same_upd (o := .tup [V.int (i : Nat), V.str x]) nT
      have ht5 := s5 _ _ ht4
      have hl5 := s5 _ _ hl4
      have hd5 := s5 _ _ hd4
      have D5 := D4.keep s5.tupP
      have hT5 : (upd H4 T1 (.tup [V.int (i : Nat), V.str x])) T1 = some (.tup [V.int (i : Nat), V.str x]) := upd_same
      refine ⟨T1, _, rfl, SqT.of hT5, rfl, _, _, rfl, _, _, rfl, rfl, ?_⟩
      generalize upd H4 T1 (.tup [V.int (i : Nat), V.str x]) = H5 at Z5 b5 ht5 hl5 hd5 D5
      clear hT5 s5 nT nT0 nT3 Z4 b4 ht4 hl4 hd4 D4
      refine ⟨_, rfl, _, rfl, p, g, s, t, _, rfl, Z5, .inr (SqT.of ht5), by rw [List.length_map]; omega, by rw [List.length_map]; omega, fun j v H6 hv Z6 b6 => ?_⟩
      obtain ⟨z0, z0m, rfl⟩ := strs_get hv
      have ht6 := b6.tupP Z5 _ _ ht5
      have hl6 := b6 _ _ hl5 nl3.1 nl3.2.1
      have hd6 := b6 _ _ hd5 nd3.1 nd3.2.1
      have D6 := D5.keep (b6.tupP Z5)
      have b56 := b5.trans b6
      clear ht5 hl5 hd5 D5
      -- if sort == 1
      refine ⟨fun σ H7 => ∃ z, z ∈ ns ∧ σ = [some (.ref p), some (.ref t), some (.ref l), some (.int sort), some (.ref d), some (.int (i : Nat)), some (.str x), some (.str z)] ∧ H7 = H6, ?_, ?_⟩
      · refine ⟨_, rfl, rfl, _, rfl, ite2 (fun _ => ?_) (fun _ => ⟨z0, z0m, rfl, rfl⟩)⟩
        have hi2 : i < ls.length := by rw [pl.length_eq]; exact hi'
        have e : (ls.map V.str)[i]? = some (.str ls[i]) := by rw [List.getElem?_map, List.getElem?_eq_getElem hi2]; rfl
        exact ⟨_, rfl, _, rfl, l, _, _, _, rfl, rfl, SqL.of hl6, atI_nat e, ls[i], pl.mem_iff.mp (List.getElem_mem hi2), rfl, rfl⟩
      rintro σ H7 ⟨z, zm, rfl, rfl⟩
      refine ⟨fun σ H7' => ∃ z, z ∈ ns ∧ σ = [some (.ref p), some (.ref t), some (.ref l), some (.int sort), some (.ref d), some (.int (i : Nat)), some (.str x), some (.str z)] ∧ H7' = H7, ?_, ?_⟩
      · refine ⟨_, rfl, rfl, _, rfl, ite2 (fun _ => ?_) (fun _ => ⟨z, zm, rfl, rfl⟩)⟩
        refine ⟨_, rfl, _, _, rfl, rfl, _, rfl, ite2 (fun hc => ?_) (fun _ => ⟨z, zm, rfl, rfl⟩)⟩
        have hc : (0 : Int) < (i : Nat) := of_decide_eq_true hc
        have hi2 : i - 1 < ns.length := by omega
        have e : (ns.map V.str)[i - 1]? = some (.str ns[i - 1]) := by rw [List.getElem?_map, List.getElem?_eq_getElem hi2]; rfl
        exact ⟨_, rfl, _, rfl, _, _, rfl, rfl, t, _, _, _, rfl, rfl, SqT.of ht6, at_of (j := i - 1) (by omega) e, ns[i - 1], List.getElem_mem hi2, rfl, rfl⟩
      clear zm z
      rintro σ H7' ⟨z, zm, rfl, rfl⟩
      refine ⟨fun σ H8 => ∃ so : Option Str, (∀ y, so = some y → y ∈ ns) ∧ σ = [some (.ref p), some (.ref t), some (.ref l), some (.int sort), some (.ref d), some (.int (i : Nat)), some (.str x), some (osV so)] ∧ PotAt H8 p g s ∧ But p g H H8 ∧
          H8 t = some (.tup (ns.map V.str)) ∧ H8 l = some (.lst (ls.map V.str)) ∧ H8 d = some (.dK kvs) ∧ Dic (isPair G) H8 kvs (ns.take i), ?_, ?_⟩
      · refine ⟨_, rfl, p, g, s, 8, rfl, Z6, by decide, by decide, fun r8 H8 _ _ Z8 b8 => ⟨rfl, _, rfl, ?_⟩⟩
        have ht8 := b8.tupP Z6 _ _ ht6
        have hl8 := b8 _ _ hl6 nl3.1 nl3.2.1
        have hd8 := b8 _ _ hd6 nd3.1 nd3.2.1
        have D8 := D6.keep (b8.tupP Z6)
        refine ite2 (fun _ => ⟨none, fun _ e => (nomatch e), rfl, Z8, b56.trans b8, ht8, hl8, hd8, D8⟩) (fun _ => ⟨some z, fun y e => by cases e; exact zm, rfl, Z8, b56.trans b8, ht8, hl8, hd8, D8⟩)
      clear Z6 b6 ht6 hl6 hd6 D6 b56 b5 Z5
      rintro σ H8 ⟨so, som, rfl, Z8, b8, ht8, hl8, hd8, D8⟩
      -- the pair
      refine ⟨_, rfl, _, rfl, p, g, s, 4, rfl, Z8, by decide, by decide, fun m H9 m0 m1 Z9 b9 => ⟨(by show 4 ≤ sizeLine; decide), fun q nq => ?_⟩⟩
      have nq3 := Z9.free nq
      have b89 := b8.trans b9
      have nq0 := b89.free nq nq3.1 nq3.2.1
      refine ⟨_, rfl, p, g, s, 4, rfl, Z9.put nq3, by decide, by decide, fun r H10 r0 r1 Z10 b10 => ?_⟩
      obtain ⟨j2, rfl⟩ : ∃ j : Nat, r = (j : Int) := ⟨_, (Int.toNat_of_nonneg r0).symm⟩
      have hq10 := b10 _ _ upd_same nq3.1 nq3.2.1
      obtain ⟨n, hn, n1, n2⟩ : ∃ n : Int, atI [V.int 0, V.int 0, V.int 1, V.int m] (j2 : Int) = some (.int n) ∧ 0 ≤ n ∧ n ≤ 3 := by
        match j2, (show j2 < 4 by omega) with
        | 0, _ => exact ⟨0, atI_nat rfl, by decide, by decide⟩
        | 1, _ => exact ⟨0, atI_nat rfl, by decide, by decide⟩
        | 2, _ => exact ⟨1, atI_nat rfl, by decide, by decide⟩
        | 3, _ => exact ⟨m, atI_nat rfl, m0, by omega⟩
      refine ⟨q, _, _, _, rfl, rfl, SqL.of hq10, hn, (by show 2 ≤ sizeLine; decide), fun c nc => ?_⟩
      have s9q := same_upd (o := .lst [V.int 0, V.int 0, V.int 1, V.int m]) nq
      have Z9q : PotAt (upd H9 q (.lst [V.int 0, V.int 0, V.int 1, V.int m])) p g s := Z9.put nq3
      have up : ∀ a o, H8 a = some o → a ≠ p → a ≠ g → H10 a = some o := fun a o e k1 k2 => b10 _ _ (s9q _ _ (b9 _ _ e k1 k2)) k1 k2
      have ht10 := up _ _ ht8 (Z8.p_ne ht8).1 (Z8.p_ne ht8).2
      have hl10 := up _ _ hl8 nl3.1 nl3.2.1
      have hd10 := up _ _ hd8 nd3.1 nd3.2.1
      have D10 : Dic (isPair G) H10 kvs (ns.take i) := D8.keep fun a xs e => up _ _ e (Z8.p_ne e).1 (Z8.p_ne e).2
      have b910 : But p g H H10 := (b89.put (o := .lst [V.int 0, V.int 0, V.int 1, V.int m]) nq0).trans b10
      have nc3 := Z10.free nc
      have nc0 := b910.free nc nc3.1 nc3.2.1
      have ndc : d ≠ c := ne_of_none hd10 nc
      have hd11 : (upd H10 c (.tup [osV so, V.int n])) d = some (.dK kvs) := by rw [upd_ne ndc]; exact hd10
      refine ⟨_, rfl, _, rfl, d, _, rfl, DPut.k (k := Sum.inr x) hd11 (by rw [D10.len, List.length_take]; exact big1 (by omega)), ?_⟩
      have nx := nd_take nd hx
      refine ⟨_, _, _, rfl, by rw [upd_ne ntd, upd_ne (ne_of_none ht10 nc)]; exact ht10, by rw [upd_ne nld, upd_ne (ne_of_none hl10 nc)]; exact hl10, (Z10.put nc3).put nd3, (b910.put nc0).put nd00, _, upF G x (so, n), upd_same, ?_, fun y ym w hw => ?_, fun y => ?_, fun y => ?_⟩
      · rw [take_next hx]
        refine D10.snoc nx ⟨c, rfl, ?_⟩ fun y v ym g => ?_
        · rw [upd_ne ndc.symm, upd_same, upF_same]
        · obtain ⟨t', e', k'⟩ := g
          refine ⟨t', e', ?_⟩
          rw [upF_ne (fun e : y = x => nx (by rw [← e]; exact ym)), upd_ne (fun z => by rw [z, hd10] at k'; cases k'), upd_ne (ne_of_none k' nc)]
          exact k'
      · by_cases e : y = x
        · subst e
          rw [upF_same] at hw
          exact som w hw
        · rw [upF_ne e] at hw
          exact cl4 y ym w hw
      · by_cases e : y = x
        · subst e; rw [upF_same]; exact n1
        · rw [upF_ne e]; exact mo4 y
      · by_cases e : y = x
        · subst e; rw [upF_same]; exact n2
        · rw [upF_ne e]; exact mi4 y
    · obtain ⟨y5, y6, y7, rfl, ht4, hl4, Z4, b4, kvs, G, hd4, D4, cl4, mo4, mi4⟩ := q
      rw [List.length_map, List.take_length] at D4
      exact ⟨_, rfl, kk d kvs ns G H4 D4 nd n8 (by omega) l7 cl4 mo4 mi4 nd00 hd4 Z4 b4⟩
end
end Y

namespace Y
open PySem PySem.Spec PyProof.Rows L2
theorem cut_all2 {xs : List V} {lo hi : Option Int} (h : HT.sIx xs.length 0 lo = 0 ∧ HT.sIx xs.length xs.length hi = xs.length) : cutV xs lo hi = xs := by
  unfold cutV
  rw [h.1, h.2, List.drop_zero, Nat.sub_zero, List.take_length]
/-- a slice of a tuple, whole or not -/
theorem slTup {K : PySem.W.Frag} {H : Hp} {b : Addr} {xs : List V} {lo hi : Option Int} {Q : VK} (hb : H b = some (.tup xs)) (k : ∀ c H', Same H H' → H' c = some (.tup (cutV xs lo hi)) → Q (.ref c) H') : rSlA K (.ref b) lo hi H Q :=
  ⟨b, xs, rfl, SqT.of hb, fun h => k b H (Same.refl H) (by rw [cut_all2 h]; exact hb), fun _ c nc => k c _ (same_upd nc) upd_same⟩
theorem strs_flat {ns : List Str} : (ns.map V.str).all flatV = true := by
  rw [List.all_eq_true]
  intro x hx
  obtain ⟨y, _, rfl⟩ := List.mem_map.mp hx
  rfl
theorem inV_strs {ns : List Str} {x : Str} : inV (V.str x) (ns.map V.str) = decide (x ∈ ns) := by
  unfold inV
  rw [List.any_map]
  by_cases h : x ∈ ns
  · rw [decide_eq_true h, List.any_eq_true]
    exact ⟨x, h, decide_eq_true rfl⟩
  · rw [decide_eq_false h, List.any_eq_false]
    intro y hy
    intro k
    have k : y = x := by
      have := of_decide_eq_true k
      exact this
    exact h (k ▸ hy)
theorem cut_takeS {ns : List Str} {j : Nat} : cutV (ns.map V.str) none (some (j : Int)) = (ns.take j).map V.str := by rw [cut_take, List.map_take]
theorem cut_dropS {ns : List Str} {j : Nat} : cutV (ns.map V.str) (some (j : Int)) none = (ns.drop j).map V.str := by rw [cut_drop, List.map_drop]
section
variable {P : Program} {w : World} {K : PySem.W.Frag} {mg : Str → Option Value} {base : Heap}
abbrev s_l_push_done : Stmt := topS 37
theorem sc_l_push_done : FnScope ["_law_push", "_law_numbers", "_law_found", "_law_name", "_law_source", "_law_more"] ["_law_push", "_law_numbers"] (defScope s_l_push_done) := ⟨rfl, rfl, rfl, by decide +kernel, rfl, by decide +kernel, by decide +kernel⟩
def spPushDone : Sp := fun vs H Q _ => ∃ (d e : Addr) (ks ls : List (Key × V)) (ns : List Str) (F : PF) (u : Str → Int), vs = [.ref d, .ref e] ∧ H d = some (.dK ks) ∧ Dic (isPair F) H ks ns ∧ H e = some (.dK ls) ∧ Dic (isNum u) H ls ns ∧ d ≠ e ∧ ns.Nodup ∧ ns.length ≤ 1000 ∧
  (∀ x ∈ ns, ∀ y, (F x).1 = some y → y ∈ ns) ∧ ∀ (f : Addr) (kvs : List (Key × V)) H', Same H H' → H f = none → H' f = some (.dK kvs) → Dic (isNum (evP F u)) H' kvs ns → Q (.ref f) H'
theorem ok_push_done {f : Addr} {fd : FuncData} (F : Fun K "_law_push_done" "_law_push_done" s_l_push_done f fd) (T : Bi mg) : FnOk P w K mg base CX0 1 f fd ["_law_push", "_law_numbers"] spPushDone := by
  refine F.ok sc_l_push_done (fun vs H Q E h => ?_) (fun cdv A outer s₀ H vs Q E hr h => ?_)
  · obtain ⟨d, e, ks, ls, ns, F0, u, rfl, _⟩ := h
    rfl
  · obtain ⟨d, e, ks, ls, ns, F0, u, rfl, hd, D, he, N, nde, nd, l1, hs, kk⟩ := h
    have hu := hu_of hr
    refine ⟨_, (pss_cons (ps_set (i := 2) sc_l_push_done.nd rfl (.inl rfl) pe_dnewK)
 (pss_cons (ps_lock (ps_for PassesOwn.never rfl (pi_keys (pv 0)) (pg_name (i := 3) sc_l_push_done.nd rfl (.inl rfl))
  (pss_cons (ps_asg (pe_dget hu (pv 0) (pv 3) (fun _ _ => rfl)) (pg_tup (by rfl) (pgs_cons (pg_name (i := 4) sc_l_push_done.nd rfl (.inl rfl)) (pgs_cons (pg_name (i := 5) sc_l_push_done.nd rfl (.inl rfl)) pgs_nil))))
 (pss_one (ps_dput hu (pv 2) (pv 3) (pe_op op_add (pv 5) (pe_ifExp (pt_cmp (pc_isN (pv 4))) pe_int (pe_dget hu (pv 1) (pv 4) (fun _ _ => rfl)))) rfl)))))
 (pss_one (ps_ret (pv 2))))), ?_⟩
    intro b nb
    have ndb : d ≠ b := ne_of_none hd nb
    have neb : e ≠ b := ne_of_none he nb
    refine ⟨d, .dK ks, (by rw [upd_ne ndb]; exact hd), trivial, fun od => ⟨_, rfl, d, od, rfl, .inl ⟨ks, upd_same, for_it (walk_keys (d := d) (o := od) (kvs := ks)) (fun i σ H5 => ∃ y3 y4 y5, σ = [some (.ref d), some (.ref e), some (.ref b), y3, y4, y5] ∧ Lk d od (.dK ks) H H5 ∧ ∃ kvs, H5 b = some (.dK kvs) ∧ Dic (isNum (evP F0 u)) H5 kvs (ns.take i))
      ⟨none, none, none, rfl, Lk.begin (same_upd nb), [], by rw [upd_ne ndb.symm, upd_same], Dic.nil⟩ (fun i σ H5 _ q => by obtain ⟨_, _, _, _, q, _⟩ := q; exact q.fz) (fun i v σ H5 H5' hi q y => ?_) fun σ H5 q => ?_⟩⟩⟩
    · obtain ⟨y3, y4, y5, rfl, L, kvs, hb5, N5⟩ := q
      obtain ⟨e1, kx, v0, hx, rfl⟩ := y
      subst e1
      obtain ⟨x, hxi, xm, rfl, ev, t, rfl, ht⟩ := D.at_ nd hx
      have ht5 := L.tup hd _ _ ht
      have he5 := L.st e _ nde.symm he
      have size : kvs.length < sizeLine := by rw [N5.len, List.length_take]; exact big1 (by omega)
      have next : ∀ m : Int, m = evP F0 u x → Dic (isNum (evP F0 u)) (upd H5' b (.dK (putK kvs (Sum.inr x) (.int m)))) (putK kvs (Sum.inr x) (.int m)) (ns.take (i + 1)) := fun m em => by
        rw [take_next hxi]
        exact N5.snoc (nd_take nd hxi) (by rw [em]; rfl) fun y v _ g => g
      have sx := hs x xm
      generalize hF : F0 x = fx at ht5 sx
      obtain ⟨so, m⟩ := fx
      refine ⟨_, rfl, _, rfl, d, _, rfl, (by rw [← ev]; exact .inl ⟨ks, Sum.inr x, .inr ⟨od, L.fz⟩, rfl, rfl⟩), t, _, rfl, SqT.of ht5, rfl, _, _, rfl, _, _, rfl, rfl, ?_⟩
      cases so with
      | none =>
        refine ⟨_, rfl, _, rfl, _, rfl, _, _, rfl, rfl, _, rfl, _, rfl, b, _, rfl, DPut.k (k := Sum.inr x) hb5 size, ?_⟩
        exact ⟨_, _, _, rfl, L.put ndb.symm nb, _, upd_same, next (m + 0) (by rw [ev_none hF, Int.add_zero])⟩
      | some y =>
        obtain ⟨w0, ew, hw⟩ := N.val y (sx y rfl)
        have hw : w0 = V.int (u y) := hw
        subst hw
        refine ⟨_, rfl, _, rfl, _, rfl, _, rfl, _, rfl, e, _, rfl, (by rw [← ew]; exact DGet.k (k := Sum.inr y) he5), _, _, rfl, rfl, _, rfl, _, rfl, b, _, rfl, DPut.k (k := Sum.inr x) hb5 size, ?_⟩
        exact ⟨_, _, _, rfl, L.put ndb.symm nb, _, upd_same, next (m + u y) (by rw [ev_some hF, Int.add_comm])⟩
    · obtain ⟨y3, y4, y5, rfl, L, kvs, hb5, N5⟩ := q
      rw [D.len, List.take_length] at N5
      exact ⟨L.fz, _, rfl, kk b kvs _ (L.done hd) nb (by rw [upd_ne ndb.symm]; exact hb5) N5.num⟩
abbrev s_met : Stmt := topS 23
theorem sc_met : FnScope ["push", "name", "known", "met", "at"] ["push", "name", "known"] (defScope s_met) := ⟨rfl, rfl, rfl, by decide +kernel, rfl, by decide +kernel, by decide +kernel⟩
def spMet : Sp := fun vs H Q _ => ∃ (d k : Addr) (kvs lv : List (Key × V)) (ns kn : List Str) (F : PF) (x : Str) (G : Hp → Str → V → Prop), vs = [.ref d, .str x, .ref k] ∧ Rd H d (.dK kvs) ∧ Dic (isPair F) H kvs ns ∧ ns.length ≤ 1000 ∧ (∀ x ∈ ns, ∀ y, (F x).1 = some y → y ∈ ns) ∧ x ∈ ns ∧ H k = some (.dK lv) ∧ Dic G H lv kn ∧
  ∀ (t m : Addr) (mk : List (Key × V)) (row : List Str) (b : Option Str) H', Chain F row b → hd row b = some x → row.Nodup → (∀ y ∈ row, y ∈ ns) → (∀ y ∈ row, y ∉ kn) → (∀ z, b = some z → z ∈ ns ∧ (z ∈ row ∨ z ∈ kn)) → Same H H' → H m = none → H' t = some (.tup [.ref m, osV b]) → H' m = some (.dK mk) →
    Dic (isNum fun y => (idI row y : Nat)) H' mk row → Q (.ref t) H'
theorem Dic.isSome {G : Hp → Str → V → Prop} {H : Hp} {kvs : List (Key × V)} {ns : List Str} (D : Dic G H kvs ns) (z : Str) : (valV kvs (.inr z)).isSome = decide (z ∈ ns) := by
  by_cases h : z ∈ ns
  · obtain ⟨v, e, _⟩ := D.val z h
    rw [e, decide_eq_true h]
    rfl
  · rw [D.none_of h, decide_eq_false h]
    rfl
theorem Same.rd {H H' : Hp} {d : Addr} {o : HO} (s : Same H H') (h : Rd H d o) : Rd H' d o := by
  rcases h with k | ⟨u, k⟩
  · exact .inl (s _ _ k)
  · exact .inr ⟨u, s _ _ k⟩
theorem ok_met {f : Addr} {fd : FuncData} (F : Fun K "_met" "_met" s_met f fd) (T : Bi mg) : FnOk P w K mg base CX0 1 f fd ["push", "name", "known"] spMet := by
  refine F.ok sc_met (fun vs H Q E h => ?_) (fun cdv A outer s₀ H vs Q E hr h => ?_)
  · obtain ⟨d, k, kvs, lv, ns, kn, F0, x, G, rfl, _⟩ := h
    rfl
  · obtain ⟨d, k, kvs, lv, ns, kn, F0, x, G, rfl, hd0, D, l1, cl, xm, hk, DK, kk⟩ := h
    have hu := hu_of hr
    refine ⟨_, (pss_cons (ps_set (i := 3) sc_met.nd rfl (.inl rfl) pe_dnewK)
 (pss_cons (ps_set (i := 4) sc_met.nd rfl (.inl rfl) (pv 1))
 (pss_cons (ps_while PassesOwn.never ((pw_and (pt_cmp (pc_notN (pv 4))) (pw_and (pt_cmp (pc_dnotin hu (pv 4) (pv 3))) (pw_and1 (pt_cmp (pc_dnotin hu (pv 4) (pv 2))))))).pt
  (pss_cons (ps_dput hu (pv 3) (pv 4) (pe_callB call_lenD (by rfl) T.len PySem.boot_len (pa_cons (pv 3) pa_nil)) rfl)
 (pss_one (ps_set (i := 4) sc_met.nd rfl (.inl rfl) (pe_ix ix_tup (pe_dget hu (pv 0) (pv 4) (fun _ _ => rfl)) pe_int (fun _ _ => rfl))))))
 (pss_one (ps_ret (pe_tup (pa_cons (pv 3) (pa_cons (pv 4) pa_nil)))))))), ?_⟩
    intro l nl
    refine ⟨_, rfl, ?_⟩
    have nkl : k ≠ l := ne_of_none hk nl
    refine ⟨fun m σ H1 => ∃ row b mk, σ = [some (.ref d), some (.str x), some (.ref k), some (.ref l), some (osV b)] ∧ H1 l = some (.dK mk) ∧ Dic (isNum fun y => (idI row y : Nat)) H1 mk row ∧ Chain F0 row b ∧ hd row b = some x ∧ row.Nodup ∧ (∀ y ∈ row, y ∈ ns) ∧ (∀ y ∈ row, y ∉ kn) ∧ (∀ z, b = some z → z ∈ ns) ∧ m = ns.length - row.length ∧ Same H H1,
      ⟨_, [], some x, [], rfl, upd_same, Dic.nil, .nil, rfl, List.nodup_nil, fun _ m => (nomatch m), fun _ m => (nomatch m), fun z e => by cases e; exact xm, rfl, same_upd nl⟩, ?_⟩
    rintro m σ H1 ⟨row, b, mk, rfl, hl, M, ch, hh, nd, rn, rk, bn, rfl, s1⟩
    have rd := Same.rd s1 hd0
    have hk1 := s1 _ _ hk
    have ll : row.length ≤ ns.length := nd_sub_len nd rn
    have fin : (∀ z, b = some z → z ∈ row ∨ z ∈ kn) → ∀ t, H1 t = none → Q (.ref t) (upd H1 t (.tup [.ref l, osV b])) := fun hb t nt => by
      have st := same_upd (o := .tup [.ref l, osV b]) nt
      exact kk t l mk row b _ ch hh nd rn rk (fun z e => ⟨bn z e, hb z e⟩) (s1.trans st) nl upd_same (st _ _ hl) M.num
    cases b with
    | none =>
      refine ⟨_, rfl, _, rfl, ?_⟩
      exact ⟨_, rfl, _, rfl, (by show 2 ≤ sizeLine; decide), fun t nt => fin (fun _ e => nomatch e) t nt⟩
    | some z =>
      refine ⟨_, rfl, _, rfl, ?_⟩
      refine ⟨_, rfl, _, rfl, l, _, rfl, .inl ⟨mk, Sum.inr z, .inl hl, rfl, rfl⟩, _, rfl, ?_⟩
      rw [M.isSome]
      by_cases zr : z ∈ row
      · refine noB (by rw [decide_eq_true zr]; rfl) ?_
        exact ⟨_, rfl, _, rfl, (by show 2 ≤ sizeLine; decide), fun t nt => fin (fun y e => by cases e; exact .inl zr) t nt⟩
      · refine yesB (by rw [decide_eq_false zr]; rfl) ?_
        refine ⟨_, rfl, _, rfl, k, _, rfl, .inl ⟨lv, Sum.inr z, .inl hk1, rfl, rfl⟩, _, rfl, ?_⟩
        rw [DK.isSome]
        by_cases zk : z ∈ kn
        · refine noB (by rw [decide_eq_true zk]; rfl) ?_
          exact ⟨_, rfl, _, rfl, (by show 2 ≤ sizeLine; decide), fun t nt => fin (fun y e => by cases e; exact .inr zk) t nt⟩
        · refine yesB (by rw [decide_eq_false zk]; rfl) ?_
          have zn := bn z rfl
          have l2 : row.length < ns.length := by
            have q := nd_sub_len (l := z :: row) (m := ns) (List.nodup_cons.mpr ⟨zr, nd⟩) fun y m => by
              rcases List.mem_cons.mp m with k | k
              · rw [k]; exact zn
              · exact rn y k
            exact q
          refine ⟨fun σ' H' => ∃ row' b' mk', σ' = [some (.ref d), some (.str x), some (.ref k), some (.ref l), some (osV b')] ∧ H' l = some (.dK mk') ∧ Dic (isNum fun y => (idI row' y : Nat)) H' mk' row' ∧ Chain F0 row' b' ∧ hd row' b' = some x ∧ row'.Nodup ∧ (∀ y ∈ row', y ∈ ns) ∧ (∀ y ∈ row', y ∉ kn) ∧ (∀ z, b' = some z → z ∈ ns) ∧ row'.length = row.length + 1 ∧ Same H H', fun σ' H' q => ?_, ?_⟩
          · obtain ⟨row', b', mk', e1, e2, e3, e4, e5, e6, e7, e8, e9, e10, e11⟩ := q
            exact ⟨ns.length - row'.length, by omega, row', b', mk', e1, e2, e3, e4, e5, e6, e7, e8, e9, rfl, e11⟩
          obtain ⟨v, ev, t, rfl, ht⟩ := D.val z zn
          have ll1 : mk.length < sizeLine := by rw [M.len]; exact big1 (by omega)
          refine ⟨_, rfl, l, mk, rfl, hl, _, rfl, _, rfl, l, _, rfl, DPut.k (k := Sum.inr z) hl ll1, ?_⟩
          have nv := M.len
          generalize hH2 : upd H1 l (.dK (putK mk (Sum.inr z) (V.int (mk.length : Nat)))) = H2
          have s2 : Same H H2 := by rw [← hH2]; exact s1.put nl
          have hl2 : H2 l = some (.dK (putK mk (Sum.inr z) (V.int (mk.length : Nat)))) := by rw [← hH2]; exact upd_same
          have ht2 := s2 _ _ ht
          refine ⟨_, rfl, _, rfl, d, _, rfl, .inl ⟨kvs, Sum.inr z, Same.rd s2 hd0, rfl, ev.symm⟩, t, _, _, _, rfl, rfl, SqT.of ht2, atI_nat (j := 0) rfl, ?_⟩
          refine ⟨row ++ [z], (F0 z).1, _, rfl, hl2, ?_, ch.snoc, by rw [hd_app]; exact hh, ?_, fun y m => ?_, fun y m => ?_, fun y e => cl z zn y e, by rw [List.length_append]; rfl, s2⟩
          · refine M.snoc zr ?_ fun y v ym g => ?_
            · show V.int (mk.length : Nat) = V.int (idI (row ++ [z]) z : Nat)
              rw [idI_new zr, nv]
            · have g : v = V.int (idI row y : Nat) := g
              show v = V.int (idI (row ++ [z]) y : Nat)
              rw [idI_app ym]
              exact g
          · rw [List.nodup_append]
            exact ⟨nd, List.nodup_cons.mpr ⟨fun m => (nomatch m), List.nodup_nil⟩, fun a ha b hb e => zr (by rw [List.mem_singleton.mp hb] at e; rw [← e]; exact ha)⟩
          · rcases List.mem_append.mp m with k | k
            · exact rn y k
            · rw [List.mem_singleton.mp k]; exact zn
          · rcases List.mem_append.mp m with k | k
            · exact rk y k
            · rw [List.mem_singleton.mp k]; exact zk
theorem Dic.keyVs {G : Hp → Str → V → Prop} {H : Hp} {kvs : List (Key × V)} {ns : List Str} (D : Dic G H kvs ns) : (kvs.map fun kv => kV kv.1) = ns.map V.str := by
  have e := congrArg (List.map kV) D.keys
  rw [List.map_map, List.map_map] at e
  exact e
theorem Pu.same {H H' : Hp} {d : Addr} {kvs : List (Key × V)} {ns : List Str} {F : PF} (p : Pu H d kvs ns F) (s : Same H H') : Pu H' d kvs ns F := ⟨Same.rd s p.at_, p.lz.same s, p.dic.keep s.tupP, p.nd, p.l0, p.l1, p.ok, p.cl, p.mo⟩
abbrev s_way : Stmt := topS 24
theorem sc_way : FnScope ["push", "name", "met", "behind", "first", "found"] ["push", "name"] (defScope s_way) := ⟨rfl, rfl, rfl, by decide +kernel, rfl, by decide +kernel, by decide +kernel⟩
def spWay : Sp := fun vs H Q _ => ∃ (d : Addr) (kvs : List (Key × V)) (ns : List Str) (F : PF) (x : Str), vs = [.ref d, .str x] ∧ Pu H d kvs ns F ∧ x ∈ ns ∧
  ∀ (t a b : Addr) (l r : List Str) H', WayOf F x l r → Same H H' → H' t = some (.tup [.ref a, .ref b]) → H' a = some (.tup (l.map V.str)) → H' b = some (.tup (r.map V.str)) → Q (.ref t) H'
theorem ok_way {f : Addr} {fd : FuncData} (F : Fun K "way" "way" s_way f fd) (T : Bi mg) (D_is_push : Has P w K mg base "is_push" 4 ["thing"] spIsPush) (D_has : Has P w K mg base "_has" 1 ["push", "thing"] spHas) (D_met : Has P w K mg base "_met" 1 ["push", "name", "known"] spMet) :
    FnOk P w K mg base CX0 5 f fd ["push", "name"] spWay := by
  refine F.ok sc_way (fun vs H Q E h => ?_) (fun cdv A outer s₀ H vs Q E hr h => ?_)
  · obtain ⟨d, kvs, ns, F0, x, rfl, _⟩ := h
    rfl
  · obtain ⟨d, kvs, ns, F0, x, rfl, p, xm, kk⟩ := h
    have hu := hu_of hr
    refine ⟨_, (pss_cons (ps_if (pt_not (pt_val (D_is_push.call (hr.mono (by decide)) (by rfl) (pa_cons (pv 0) pa_nil))))
  (pss_one ps_never)
  pss_nil)
 (pss_cons (ps_if (pt_not (pt_val (D_has.call (hr.mono (by decide)) (by rfl) (pa_cons (pv 0) (pa_cons (pv 1) pa_nil)))))
  (pss_one ps_never)
  pss_nil)
 (pss_cons (ps_asg (D_met.call (hr.mono (by decide)) (by rfl) (pa_cons (pv 0) (pa_cons (pv 1) (pa_cons pe_dnewK pa_nil)))) (pg_tup (by rfl) (pgs_cons (pg_name (i := 2) sc_way.nd rfl (.inl rfl)) (pgs_cons (pg_name (i := 3) sc_way.nd rfl (.inl rfl)) pgs_nil))))
 (pss_cons (ps_set (i := 4) sc_way.nd rfl (.inl rfl) (pe_ifExp (pt_cmp (pc_isN (pv 3))) (pe_callB call_lenD (by rfl) T.len PySem.boot_len (pa_cons (pv 2) pa_nil)) (pe_dget hu (pv 2) (pv 3) (fun _ _ => rfl))))
 (pss_cons (ps_set (i := 5) sc_way.nd rfl (.inl rfl) (pe_callTy (T := "tuple") (call_tupleD (by rfl)) (by rfl) T.tuple_ (by decide +kernel) (pa_cons (pv 2) pa_nil)))
 (pss_one (ps_ret (pe_tup (pa_cons (pe_slice sl_tupA (pv 5) po_none (po_some (pv 4))) (pa_cons (pe_slice sl_tupA (pv 5) (po_some (pv 4)) po_none) pa_nil)))))))))), ?_⟩
    refine ⟨_, rfl, d, kvs, ns, F0, rfl, p.at_, p.lz, p.dic, p.nd, p.l0, p.l1, p.ok, p.cl, p.mo, fun H1 s1 => ⟨true, rfl, ?_⟩⟩
    have p1 := p.same s1
    refine ⟨_, rfl, _, rfl, d, kvs, x, rfl, p1.at_, by rw [p.dic.isSome]; exact decide_eq_true xm, true, rfl, ?_⟩
    refine ⟨_, rfl, _, rfl, fun k nk => ?_⟩
    have s2 := same_upd (o := .dK []) nk
    have p2 := p1.same s2
    refine ⟨d, k, kvs, [], ns, [], F0, x, fun _ _ _ => True, rfl, p2.at_, p2.dic, p.l1, p.cl, xm, upd_same, Dic.nil, fun t m mk row b H3 ch hh nd rn _ bn s3 _ ht hm M => ?_⟩
    have s13 := (s1.trans s2).trans s3
    refine ⟨t, _, rfl, SqT.of ht, rfl, _, _, rfl, _, _, rfl, rfl, ?_⟩
    have fin : ∀ j : Nat, WayOf F0 x (row.take j) (row.drop j) → (∀ a H4, Same H3 H4 → H4 a = some (.tup (row.map V.str)) → ∀ b H5, Same H4 H5 → H5 b = some (.tup (cutV (row.map V.str) none (some (j : Int)))) → ∀ c H6, Same H5 H6 → H6 c = some (.tup (cutV (row.map V.str) (some (j : Int)) none)) → ∀ u, H6 u = none →
        Q (.ref u) (upd H6 u (.tup [.ref b, .ref c]))) := fun j W a H4 s4 _ b H5 s5 hb c H6 s6 hc u nu => by
      rw [cut_takeS] at hb
      rw [cut_dropS] at hc
      have su := same_upd (o := .tup [.ref b, .ref c]) nu
      exact kk u b c _ _ _ W ((((s13.trans s4).trans s5).trans s6).trans su) upd_same (su _ _ (s6 _ _ hb)) (su _ _ hc)
    cases b with
    | none =>
      have W : WayOf F0 x (row.take row.length) (row.drop row.length) := by
        rw [List.take_length, List.drop_length]
        exact way_found0 ch hh nd
      have g := fin row.length W
      refine ⟨_, rfl, _, rfl, _, rfl, m, mk, rfl, hm, ?_⟩
      rw [M.len]
      refine ⟨_, rfl, m, mk, rfl, .inl hm, fun a na => ?_⟩
      rw [M.keyVs]
      refine ⟨_, rfl, _, rfl, _, rfl, ?_⟩
      dsimp only [tNoPart]
      refine slTup (xs := row.map V.str) upd_same fun b H5 s5 hb => ⟨_, rfl, _, rfl, _, rfl, ?_⟩
      dsimp only [tNoPart]
      refine slTup (xs := row.map V.str) (s5 _ _ upd_same) fun c H6 s6 hc => ⟨(by show 2 ≤ sizeLine; decide), fun u nu => ?_⟩
      exact g a _ (same_upd na) upd_same b H5 s5 hb c H6 s6 hc u nu
    | some z =>
      have zr : z ∈ row := (bn z rfl).2.resolve_right fun m => nomatch m
      have W := way_found ch hh nd (idI_at zr)
      have g := fin (idI row z) W
      obtain ⟨v, ev, ge⟩ := M.val z zr
      have ge : v = V.int (idI row z : Nat) := ge
      subst ge
      refine ⟨_, rfl, _, rfl, _, rfl, _, rfl, m, _, rfl, .inl ⟨mk, Sum.inr z, .inl hm, rfl, ev.symm⟩, ?_⟩
      refine ⟨_, rfl, m, mk, rfl, .inl hm, fun a na => ?_⟩
      rw [M.keyVs]
      refine ⟨_, rfl, _, rfl, _, rfl, ?_⟩
      dsimp only [tNoPart]
      refine slTup (xs := row.map V.str) upd_same fun b H5 s5 hb => ⟨_, rfl, _, rfl, _, rfl, ?_⟩
      dsimp only [tNoPart]
      refine slTup (xs := row.map V.str) (s5 _ _ upd_same) fun c H6 s6 hc => ⟨(by show 2 ≤ sizeLine; decide), fun u nu => ?_⟩
      exact g a _ (same_upd na) upd_same b H5 s5 hb c H6 s6 hc u nu
abbrev s_gain : Stmt := topS 25
theorem sc_gain : FnScope ["push", "name", "_", "ring", "at"] ["push", "name"] (defScope s_gain) := ⟨rfl, rfl, rfl, by decide +kernel, rfl, by decide +kernel, by decide +kernel⟩
def spGain : Sp := fun vs H Q _ => ∃ (d : Addr) (kvs : List (Key × V)) (ns : List Str) (F : PF) (x : Str), vs = [.ref d, .str x] ∧ Pu H d kvs ns F ∧ x ∈ ns ∧
  ∀ (l r : List Str) H', WayOf F x l r → Same H H' → Q (.int (moreS F r)) H'
theorem ok_gain {f : Addr} {fd : FuncData} (F : Fun K "gain" "gain" s_gain f fd) (T : Bi mg) (D_way : Has P w K mg base "way" 5 ["push", "name"] spWay) : FnOk P w K mg base CX0 6 f fd ["push", "name"] spGain := by
  refine F.ok sc_gain (fun vs H Q E h => ?_) (fun cdv A outer s₀ H vs Q E hr h => ?_)
  · obtain ⟨d, kvs, ns, F0, x, rfl, _⟩ := h
    rfl
  · obtain ⟨d, kvs, ns, F0, x, rfl, p, xm, kk⟩ := h
    have hu := hu_of hr
    refine ⟨_, (pss_cons (ps_asg (D_way.call (hr.mono (by decide)) (by rfl) (pa_cons (pv 0) (pa_cons (pv 1) pa_nil))) (pg_tup (by rfl) (pgs_cons (pg_name (i := 2) sc_gain.nd rfl (.inl rfl)) (pgs_cons (pg_name (i := 3) sc_gain.nd rfl (.inl rfl)) pgs_nil))))
 (pss_one (ps_ret (pe_callB (id := "sum") (r := rSum K) (cr_sum (by rfl)) (by rfl) T.sum (by decide +kernel) (pa_cons (pe_lc (own := [("at", 4)]) (g := gName 4) (tt := tYes) (by rfl) sc_gain.nd (pi_tup (pv 3)) (blkOk_by (N := ["push", "name", "_", "ring", "at"]) (sc := defScope s_gain) (by decide +kernel)) (fun _ _ _ _ _ => pg_name (i := 4) sc_gain.nd rfl (.inl rfl)) (fun _ _ _ _ _ => pts_nil) (fun _ _ _ _ _ => (pe_ix (show IxR _ (rIxT K) from ix_tup) (pe_dget hu (pv 0) (pv 4) (fun _ _ => rfl)) pe_int (fun _ _ => rfl)))) pa_nil))))), ?_⟩
    refine ⟨_, rfl, _, rfl, d, kvs, ns, F0, x, rfl, p, xm, fun t a b l r H1 W s1 ht ha hb => ?_⟩
    refine ⟨t, _, rfl, SqT.of ht, rfl, _, _, rfl, _, _, rfl, rfl, ?_⟩
    have rn : ∀ y ∈ r, y ∈ ns := fun y m => W.inNs p.cl xm y (List.mem_append_right _ m)
    have lr : r.length ≤ ns.length := nd_sub_len (List.nodup_append.mp W.nd).2.1 rn
    have p1 := p.same s1
    refine ⟨_, rfl, b, rfl, ⟨_, SqT.of hb⟩, fun D nD => lc_tup (K := K) (a := b) (xs := r.map V.str) (fun i H2 => Same H1 H2 ∧ H2 D = some (.lst (((r.take i).map fun y => (F0 y).2).map V.int))) ⟨same_upd nD, upd_same⟩ (fun i H2 _ q => q.1.tup (SqT.of hb)) (fun i v H2 hv q => ?_) fun H2 q => ?_⟩
    · obtain ⟨y, hy, rfl⟩ := map_at hv
      obtain ⟨q1, q2⟩ := q
      obtain ⟨v, ev, t2, rfl, ht2⟩ := (p1.same q1).dic.val y (rn y (at_mem hy))
      refine ⟨rfl, _, rfl, _, rfl, d, _, rfl, .inl ⟨kvs, Sum.inr y, (p1.same q1).at_, rfl, ev.symm⟩, t2, _, _, _, rfl, rfl, SqT.of ht2, atI_nat (j := 1) rfl, ?_⟩
      refine ⟨_, q2, ?_, q1.put nD, ?_⟩
      · rw [List.length_map, List.length_map, List.length_take]
        exact big1 (by have := p.l1; omega)
      · rw [upd_same, take_next hy, List.map_append, List.map_append]
        rfl
    · obtain ⟨q1, q2⟩ := q
      rw [List.length_map, List.take_length] at q2
      exact ⟨D, _, rfl, SqL.of q2, kk l r H2 W (s1.trans q1)⟩
end
end Y

namespace Y
open PySem PySem.Spec PyProof.Rows L2
/-- what is known of leads and rings -/
structure Shp (F : PF) (ns kn : List Str) (lead : Str → Int) (rings : List Int) : Prop where
  nd : kn.Nodup
  sub : ∀ x ∈ kn, x ∈ ns
  cl : ∀ x ∈ kn, ∀ y, (F x).1 = some y → y ∈ kn
  way : ∀ x ∈ kn, ∃ l r, WayOf F x l r ∧ lead x = (l.length : Nat)
  ring : ∀ x ∈ kn, ∀ l r, WayOf F x l r → r ≠ [] → ((r.length : Nat) : Int) ∈ rings
  from_ : ∀ q ∈ rings, ∃ x ∈ ns, ∃ l r, WayOf F x l r ∧ r ≠ [] ∧ q = (r.length : Nat)
theorem shp0 {F : PF} {ns : List Str} {lead : Str → Int} : Shp F ns [] lead [] := ⟨List.nodup_nil, fun _ m => (nomatch m), fun _ m => (nomatch m), fun _ m => (nomatch m), fun _ m => (nomatch m), fun _ m => (nomatch m)⟩
/-- a whole ring more -/
theorem shp_ring {F : PF} {ns kn : List Str} {lead lead' : Str → Int} {rings : List Int} (S : Shp F ns kn lead rings) {D : List Str} {z : Str} (ch : Chain F D (some z)) (hz : D[0]? = some z) (nd : D.Nodup) (dn : ∀ y ∈ D, y ∈ ns) (dk : ∀ y ∈ D, y ∉ kn)
    (h1 : ∀ y ∈ kn, lead' y = lead y) (h2 : ∀ y ∈ D, lead' y = 0) : Shp F ns (kn ++ D) lead' (rings ++ [((D.length : Nat) : Int)]) := by
  have W : ∀ y ∈ D, ∃ r, WayOf F y [] r ∧ r.length = D.length ∧ r ≠ [] := fun y m => by
    obtain ⟨a, c, rfl⟩ := List.append_of_mem m
    refine ⟨y :: c ++ a, way_ring (by rw [hz]; exact ch) nd, ?_, fun e => nomatch e⟩
    rw [List.length_append, List.length_append, Nat.add_comm]
  refine ⟨?_, fun y m => ?_, fun y m w e => ?_, fun y m => ?_, fun y m l r V k => ?_, fun q m => ?_⟩
  · rw [List.nodup_append]
    exact ⟨S.nd, nd, fun a ha b hb e => dk b hb (e ▸ ha)⟩
  · rcases List.mem_append.mp m with k | k
    · exact S.sub y k
    · exact dn y k
  · rcases List.mem_append.mp m with k | k
    · exact List.mem_append_left _ (S.cl y k w e)
    · refine List.mem_append_right _ ?_
      obtain ⟨a, c, rfl⟩ := List.append_of_mem k
      obtain ⟨_, h⟩ := chain_app.mp ch
      cases h with
      | cons g _ =>
        rw [g] at e
        cases c with
        | nil =>
          have e : z = w := Option.some.inj e
          rw [← e]
          exact at_mem hz
        | cons v c =>
          have e : v = w := Option.some.inj e
          rw [← e]
          simp
  · rcases List.mem_append.mp m with k | k
    · obtain ⟨l, r, V, e⟩ := S.way y k
      exact ⟨l, r, V, by rw [h1 y k]; exact e⟩
    · obtain ⟨r, V, _⟩ := W y k
      exact ⟨[], r, V, by rw [h2 y k]; rfl⟩
  · rcases List.mem_append.mp m with k2 | k2
    · exact List.mem_append_left _ (S.ring y k2 l r V k)
    · obtain ⟨r', V', e, _⟩ := W y k2
      rw [(way_uniq V V').2, e]
      exact List.mem_append_right _ List.mem_cons_self
  · rcases List.mem_append.mp m with k | k
    · exact S.from_ q k
    · have zm : z ∈ D := at_mem hz
      obtain ⟨r, V, e, ne⟩ := W z zm
      exact ⟨z, dn z zm, [], r, V, ne, by rw [List.mem_singleton.mp k, e]⟩
/-- names that lead on to a known one, or to an end -/
structure Lead (F : PF) (ns kn p : List Str) (b : Option Str) (l0 r0 : List Str) : Prop where
  ch : Chain F p b
  nd : p.Nodup
  pn : ∀ y ∈ p, y ∈ ns
  dj : ∀ y ∈ p, y ∉ kn
  hb : b = none ∧ l0 = [] ∧ r0 = [] ∨ ∃ z, b = some z ∧ z ∈ kn ∧ WayOf F z l0 r0
theorem Lead.way {F : PF} {ns kn p : List Str} {b : Option Str} {l0 r0 : List Str} {lead : Str → Int} {rings : List Int} (S : Shp F ns kn lead rings) (L : Lead F ns kn p b l0 r0) {i : Nat} {x : Str} (h : p[i]? = some x) : WayOf F x (p.drop i ++ l0) r0 := by
  obtain ⟨hi, e⟩ := List.getElem?_eq_some_iff.mp h
  have ep : p.drop i = x :: p.drop (i + 1) := by rw [List.drop_eq_getElem_cons hi, e]
  have dj : ∀ y ∈ p.drop i, y ∉ l0 ++ r0 := fun y m k => by
    have yp := List.mem_of_mem_drop m
    rcases L.hb with ⟨_, e2, e3⟩ | ⟨z, _, zk, W⟩
    · subst e2 e3
      exact nomatch k
    · exact L.dj y yp (W.inNs S.cl zk y k)
  have ch : Chain F (p.drop i) b := by
    have c := L.ch
    rw [← List.take_append_drop i p] at c
    exact (chain_app.mp c).2
  have q := way_suffix (l := l0) (r := r0) (b := b) (L.hb.imp id fun ⟨z, a, _, c⟩ => ⟨z, a, c⟩) ch ((List.drop_sublist _ _).nodup L.nd) dj ep
  rw [ep]
  exact q
theorem shp_lead {F : PF} {ns kn p : List Str} {b : Option Str} {l0 r0 : List Str} {lead lead' : Str → Int} {rings : List Int} (S : Shp F ns kn lead rings) (L : Lead F ns kn p b l0 r0)
    (h1 : ∀ y ∈ kn, lead' y = lead y) (h2 : ∀ (i : Nat) y, p[i]? = some y → lead' y = ((p.length - i + l0.length : Nat) : Int)) : Shp F ns (kn ++ p.reverse) lead' rings := by
  refine ⟨?_, fun y m => ?_, fun y m w e => ?_, fun y m => ?_, fun y m l r V k => ?_, S.from_⟩
  · rw [List.nodup_append]
    exact ⟨S.nd, (List.reverse_perm p).nodup_iff.mpr L.nd, fun a ha b hb e => L.dj b (List.mem_reverse.mp hb) (e ▸ ha)⟩
  · rcases List.mem_append.mp m with k | k
    · exact S.sub y k
    · exact L.pn y (List.mem_reverse.mp k)
  · rcases List.mem_append.mp m with k | k
    · exact List.mem_append_left _ (S.cl y k w e)
    · obtain ⟨a, c, rfl⟩ := List.append_of_mem (List.mem_reverse.mp k)
      obtain ⟨_, h⟩ := chain_app.mp L.ch
      cases h with
      | cons g _ =>
        rw [g] at e
        cases c with
        | nil =>
          have e : b = some w := e
          rcases L.hb with ⟨e1, _⟩ | ⟨z, e1, zk, _⟩
          · rw [e1] at e; cases e
          · rw [e1] at e; cases e
            exact List.mem_append_left _ zk
        | cons v c =>
          have e : v = w := Option.some.inj e
          rw [← e]
          simp
  · rcases List.mem_append.mp m with k | k
    · obtain ⟨l, r, V, e⟩ := S.way y k
      exact ⟨l, r, V, by rw [h1 y k]; exact e⟩
    · obtain ⟨i, hi⟩ := List.mem_iff_getElem?.mp (List.mem_reverse.mp k)
      exact ⟨_, _, L.way S hi, by rw [h2 i y hi, List.length_append, List.length_drop]⟩
  · rcases List.mem_append.mp m with k2 | k2
    · exact S.ring y k2 l r V k
    · obtain ⟨i, hi⟩ := List.mem_iff_getElem?.mp (List.mem_reverse.mp k2)
      have er := (way_uniq V (L.way S hi)).2
      rcases L.hb with ⟨_, _, e3⟩ | ⟨z, _, zk, W⟩
      · exact absurd (er.trans e3) k
      · rw [er]
        rw [er] at k
        exact S.ring z zk l0 r0 W k
end Y
namespace Y
open PySem PySem.Spec PyProof.Rows L2
theorem ring_way {F : PF} {D : List Str} {z : Str} (ch : Chain F D (some z)) (hz : D[0]? = some z) (nd : D.Nodup) : WayOf F z [] D := by
  refine ⟨?_, nd, ?_⟩
  · show Chain F D D[0]?
    rw [hz]; exact ch
  · show hd D D[0]? = some z
    rw [hz]
    cases D with
    | nil => rfl
    | cons y t => exact hz
theorem chain_cut {F : PF} {row : List Str} {z : Str} {j : Nat} (ch : Chain F row (some z)) (hj : row[j]? = some z) : Chain F (row.take j) (some z) ∧ Chain F (row.drop j) (some z) := by
  rw [← List.take_append_drop j row] at ch
  obtain ⟨a, b⟩ := chain_app.mp ch
  refine ⟨?_, b⟩
  have q := drop_first hj
  cases e : row.drop j with
  | nil => rw [e] at q; cases q
  | cons y t =>
    rw [e] at q a
    have q : y = z := Option.some.inj q
    rw [← q]
    rw [← q] at a
    exact a
end Y

namespace Y
open PySem PySem.Spec PyProof.Rows L2
/-! ### a push done so many times -/
theorem then_assoc (A B C : PF) : thenF (thenF A B) C = thenF A (thenF B C) := by
  funext x
  unfold thenF
  generalize C x = c
  obtain ⟨o, m⟩ := c
  cases o with
  | none => rfl
  | some y =>
    show ((match (B y).1 with | none => ((none : Option Str), (B y).2) | some z => ((A z).1, (A z).2 + (B y).2)).1, (match (B y).1 with | none => ((none : Option Str), (B y).2) | some z => ((A z).1, (A z).2 + (B y).2)).2 + m) =
      (match (B y).1 with | none => (none, (B y).2 + m) | some z => ((A z).1, (A z).2 + ((B y).2 + m)))
    cases (B y).1 with
    | none => rfl
    | some z => show ((A z).1, ((A z).2 + (B y).2) + m) = ((A z).1, (A z).2 + ((B y).2 + m)); rw [Int.add_assoc]
theorem still_then (A : PF) : thenF stillF A = A := by
  funext x
  unfold thenF
  generalize A x = a
  obtain ⟨o, m⟩ := a
  cases o with
  | none => rfl
  | some y => show ((stillF y).1, (stillF y).2 + m) = (some y, m); show (some y, (0 : Int) + m) = (some y, m); rw [Int.zero_add]
def powF (F : PF) : Nat → PF
  | 0 => stillF
  | n + 1 => thenF (powF F n) F
theorem pow_one (F : PF) : powF F 1 = F := still_then F
theorem pow_add (F : PF) (a : Nat) : ∀ b, thenF (powF F a) (powF F b) = powF F (a + b)
  | 0 => then_still _
  | b + 1 => by
    show thenF (powF F a) (thenF (powF F b) F) = thenF (powF F (a + b)) F
    rw [← then_assoc, pow_add F a b]
theorem then_cl {A B : PF} {ns : List Str} (ha : ∀ x ∈ ns, ∀ y, (A x).1 = some y → y ∈ ns) (hb : ∀ x ∈ ns, ∀ y, (B x).1 = some y → y ∈ ns) : ∀ x ∈ ns, ∀ y, (thenF A B x).1 = some y → y ∈ ns := fun x xm y e => by
  have hb := hb x xm
  unfold thenF at e
  revert e hb
  generalize B x = b
  obtain ⟨o, m⟩ := b
  cases o with
  | none => intro e _; cases e
  | some z => intro e hb; exact ha z (hb z rfl) y e
theorem then_mo {A B : PF} (ha : ∀ x, 0 ≤ (A x).2) (hb : ∀ x, 0 ≤ (B x).2) : ∀ x, 0 ≤ (thenF A B x).2 := fun x => by
  have hb := hb x
  unfold thenF
  revert hb
  generalize B x = b
  obtain ⟨o, m⟩ := b
  cases o with
  | none => exact id
  | some z => intro hb; have := ha z; show 0 ≤ (A z).2 + m; have hb : 0 ≤ m := hb; omega
theorem pow_cl {F : PF} {ns : List Str} (h : ∀ x ∈ ns, ∀ y, (F x).1 = some y → y ∈ ns) : ∀ n, ∀ x ∈ ns, ∀ y, (powF F n x).1 = some y → y ∈ ns
  | 0 => fun x xm y e => by cases e; exact xm
  | n + 1 => then_cl (pow_cl h n) h
theorem pow_mo {F : PF} (h : ∀ x, 0 ≤ (F x).2) : ∀ n, ∀ x, 0 ≤ (powF F n x).2
  | 0 => fun _ => Int.le_refl _
  | n + 1 => then_mo (pow_mo h n) h
theorem pow_chain {F : PF} {e : Str} : ∀ {row : List Str}, Chain F row (some e) → ∀ {x : Str}, hd row (some e) = some x → ∀ n, powF F (n + row.length) x = ((powF F n e).1, (powF F n e).2 + moreS F row)
  | [], _, x, h, n => by
    have e : e = x := Option.some.inj h
    subst e
    show powF F n e = ((powF F n e).1, (powF F n e).2 + 0)
    rw [Int.add_zero]
  | y :: t, .cons h1 h2, x, h, n => by
    have e : y = x := Option.some.inj h
    subst e
    obtain ⟨z, hz⟩ : ∃ z, hd t (some e) = some z := by cases t <;> exact ⟨_, rfl⟩
    have q := pow_chain h2 hz n
    rw [List.length_cons, show n + (t.length + 1) = (n + t.length) + 1 by omega, moreS_cons]
    show thenF (powF F (n + t.length)) F y = _
    unfold thenF
    rw [h1, hz]
    show ((powF F (n + t.length) z).1, (powF F (n + t.length) z).2 + (F y).2) = _
    rw [q]
    show ((powF F n e).1, (powF F n e).2 + moreS F t + (F y).2) = ((powF F n e).1, (powF F n e).2 + ((F y).2 + moreS F t))
    rw [Int.add_assoc, Int.add_comm (moreS F t)]
theorem pow_ring {F : PF} {x : Str} {r : List Str} (W : WayOf F x [] r) (rne : r ≠ []) : ∀ q, powF F (q * r.length) x = (some x, (q : Int) * moreS F r)
  | 0 => by
    rw [Nat.zero_mul]
    show (some x, (0 : Int)) = (some x, (0 : Int) * moreS F r)
    rw [Int.zero_mul]
  | q + 1 => by
    have h0 : hd r r[0]? = some x := W.hd
    have ch : Chain F r r[0]? := W.ch
    have e0 : r[0]? = some x := by
      cases r with
      | nil => exact absurd rfl rne
      | cons y t => exact h0
    rw [e0] at ch h0
    rw [Nat.succ_mul, pow_chain ch h0, pow_ring W rne q]
    show (some x, (q : Int) * moreS F r + moreS F r) = (some x, ((q + 1 : Nat) : Int) * moreS F r)
    rw [show ((q + 1 : Nat) : Int) = (q : Int) + 1 by omega, Int.add_mul, Int.one_mul]
/-- a dict comprehension over a walk -/
theorem dc_it {J : It} {n : Nat} {G : Hp → Prop} {Y : Nat → Hp → V → Hp → Prop} (w : Walk J n G Y) {g : TG} {tt : TT} {tk tv : TE} {vs : List Nat} {σ : L2.St} {H1 : Hp} {D : Addr} {Qd : Hp → Prop} (Pv : Nat → Hp → Prop) (h0 : Pv 0 (upd H1 D (.dK []))) (hG : ∀ i H, i ≤ n → Pv i H → G H)
    (hs : ∀ i x H H', i < n → Pv i H → Y i H x H' → g x (wipe σ vs) H' fun σ2 H2 => wipe σ2 vs = wipe σ vs ∧ tt σ2 H2 fun b H3 => if b = true then tk σ2 H3 fun y H4 => tv σ2 H4 fun z H5 => ∃ kvs k, y = kV k ∧ H5 D = some (.dK kvs) ∧ kvs.length < sizeLine ∧ Pv (i + 1) (upd H5 D (.dK (putK kvs k z))) else Pv (i + 1) H3)
    (hd : ∀ H, Pv n H → Qd H) :
    ∃ W : Nat → Nat → Hp → Prop, (∃ m, W 0 m (upd H1 D (.dK []))) ∧ ∀ i m H, W i m H → (J.stop i H ∧ Qd H) ∨ (J.go i H ∧ ∃ Nx : Hp → Prop, (∀ H', Nx H' → ∃ m', m' < m ∧ W (i + 1) m' H') ∧ ∀ x H', J.yld i H x H' → g x (wipe σ vs) H' fun σ2 H2 => wipe σ2 vs = wipe σ vs ∧ tt σ2 H2 fun b H3 =>
      if b = true then tk σ2 H3 fun y H4 => tv σ2 H4 fun z H5 => ∃ kvs k, y = kV k ∧ H5 D = some (.dK kvs) ∧ kvs.length < sizeLine ∧ Nx (upd H5 D (.dK (putK kvs k z))) else Nx H3) := by
  refine ⟨fun i m H => m = n - i ∧ i ≤ n ∧ Pv i H, ⟨n, rfl, Nat.zero_le _, h0⟩, ?_⟩
  rintro i m H ⟨rfl, le, pv⟩
  have gh := hG i H le pv
  rcases Nat.lt_or_ge i n with lt | ge
  · exact .inr ⟨w.goes i H lt gh, Pv (i + 1), fun H' pv' => ⟨n - (i + 1), by omega, rfl, lt, pv'⟩, fun x H' y => hs i x H H' lt pv (w.yields i H x H' lt gh y)⟩
  · obtain rfl : i = n := by omega
    exact .inl ⟨w.stops H gh, hd H pv⟩
end Y

namespace Y
open PySem PySem.Spec PyProof.Rows L2
/-! ### a push made ready: posts and spots -/
/-- what the first j of a ring gone around twice raise by -/
def preS (F : PF) (D : List Str) (j : Nat) : Int := moreS F ((D ++ D).take j)
theorem moreS_app {F : PF} {a b : List Str} : moreS F (a ++ b) = moreS F a + moreS F b := by
  induction a with
  | nil => show moreS F b = 0 + moreS F b; rw [Int.zero_add]
  | cons x t ih => rw [List.cons_append, moreS_cons, moreS_cons, ih, Int.add_assoc]
theorem moreS_one {F : PF} {x : Str} : moreS F [x] = (F x).2 := by
  show (F x).2 + 0 = _
  rw [Int.add_zero]
theorem preS_next {F : PF} {D : List Str} {j : Nat} {y : Str} (h : (D ++ D)[j]? = some y) : preS F D (j + 1) = preS F D j + (F y).2 := by
  show moreS F ((D ++ D).take (j + 1)) = _
  rw [take_next h, moreS_app, moreS_one]
  rfl
theorem preS_full {F : PF} {D : List Str} : preS F D D.length = moreS F D := by
  show moreS F ((D ++ D).take D.length) = _
  rw [List.take_left]
theorem preS_turn {F : PF} {D : List Str} {k : Nat} : preS F D (k + D.length) = moreS F D + preS F D k ∨ D.length < k := by
  rcases Nat.lt_or_ge D.length k with h | h
  · exact .inr h
  · left
    show moreS F ((D ++ D).take (k + D.length)) = moreS F D + moreS F ((D ++ D).take k)
    rw [Nat.add_comm, List.take_length_add_append, moreS_app, List.take_append_of_le_length h]
/-- a ring: each leads on to the next one, the last to the first -/
structure RingOf (F : PF) (D : List Str) : Prop where
  ch : Chain F D D[0]?
  nd : D.Nodup
  ne : D ≠ []
theorem RingOf.two {F : PF} {D : List Str} (R : RingOf F D) : Chain F (D ++ D) D[0]? := by
  refine chain_app.mpr ⟨?_, R.ch⟩
  have e : hd D D[0]? = D[0]? := by
    cases D with
    | nil => rfl
    | cons y t => rfl
  rw [e]
  exact R.ch
theorem chain_at {F : PF} : ∀ {row : List Str} {b : Option Str} {i : Nat} {y z : Str}, Chain F row b → row[i]? = some y → row[i + 1]? = some z → (F y).1 = some z
  | x :: t, b, 0, y, z, .cons h1 h2, hy, hz => by
    have e : x = y := Option.some.inj hy
    subst e
    cases t with
    | nil => cases hz
    | cons v u =>
      have e : v = z := Option.some.inj hz
      rw [h1, ← e]
      rfl
  | x :: t, b, i + 1, y, z, .cons h1 h2, hy, hz => chain_at (i := i) h2 hy hz
theorem pow_next {F : PF} {x y : Str} (h : (F x).1 = some y) (n : Nat) : powF F (n + 1) x = ((powF F n y).1, (powF F n y).2 + (F x).2) := by
  show thenF (powF F n) F x = _
  unfold thenF
  rw [h]
theorem seg {F : PF} {D : List Str} (R : RingOf F D) : ∀ (s j n : Nat) {y z : Str}, (D ++ D)[j]? = some y → (D ++ D)[j + s]? = some z →
    powF F (n + s) y = ((powF F n z).1, (powF F n z).2 + (preS F D (j + s) - preS F D j))
  | 0, j, n, y, z, hy, hz => by
    rw [Nat.add_zero] at hz
    rw [hy] at hz
    cases hz
    show powF F n y = ((powF F n y).1, (powF F n y).2 + (preS F D j - preS F D j))
    rw [Int.sub_self, Int.add_zero]
  | s + 1, j, n, y, z, hy, hz => by
    have lt := (List.getElem?_eq_some_iff.mp hz).1
    have hm : (D ++ D)[j + 1]? = some (D ++ D)[j + 1] := List.getElem?_eq_getElem (by omega)
    have q := seg R s (j + 1) n hm (by rw [show j + 1 + s = j + (s + 1) by omega]; exact hz)
    rw [← Nat.add_assoc, pow_next (chain_at R.two hy hm), q, show j + 1 + s = j + (s + 1) by omega, preS_next hy]
    show ((powF F n z).1, (powF F n z).2 + (preS F D (j + (s + 1)) - (preS F D j + (F y).2)) + (F y).2) = _
    congr 1
    omega
theorem two_mod {D : List Str} {i : Nat} {z : Str} (h : (D ++ D)[i]? = some z) : D[i % D.length]? = some z := by
  rcases Nat.lt_or_ge i D.length with lt | ge
  · rw [List.getElem?_append_left lt] at h
    rw [Nat.mod_eq_of_lt lt]
    exact h
  · rw [List.getElem?_append_right ge] at h
    have l2 := (List.getElem?_eq_some_iff.mp h).1
    rw [Nat.mod_eq_sub_mod ge, Nat.mod_eq_of_lt l2]
    exact h
/-- so many whole turns and a rest -/
theorem turns {F : PF} {D : List Str} (R : RingOf F D) {k : Nat} {e : Str} (he : D[k]? = some e) (s : Nat) : ∀ q : Nat, powF F (s + q * D.length) e = ((powF F s e).1, (powF F s e).2 + (q : Int) * moreS F D)
  | 0 => by
    rw [Nat.zero_mul]
    show powF F s e = ((powF F s e).1, (powF F s e).2 + (0 : Int) * moreS F D)
    rw [Int.zero_mul, Int.add_zero]
  | q + 1 => by
    have lk := (List.getElem?_eq_some_iff.mp he).1
    have h1 : (D ++ D)[k]? = some e := by rw [List.getElem?_append_left lk]; exact he
    have h2 : (D ++ D)[k + D.length]? = some e := by
      rw [List.getElem?_append_right (by omega), show k + D.length - D.length = k by omega]
      exact he
    rw [Nat.succ_mul, ← Nat.add_assoc, seg R D.length k _ h1 h2, turns R he s q, preS_turn.resolve_right (by omega)]
    congr 1
    show (powF F s e).2 + (q : Int) * moreS F D + (moreS F D + preS F D k - preS F D k) = (powF F s e).2 + ((q + 1 : Nat) : Int) * moreS F D
    rw [show ((q + 1 : Nat) : Int) = (q : Int) + 1 by omega, Int.add_mul, Int.one_mul]
    omega
theorem pow_ringed {F : PF} {x e : Str} {l D : List Str} {k n : Nat} {r : List Str} (W : WayOf F x l r) (hr : r[0]? = some e) (R : RingOf F D) (he : D[k]? = some e) (hn : l.length ≤ n) :
    ∃ z, D[(k + (n - l.length) % D.length) % D.length]? = some z ∧
      powF F n x = (some z, moreS F l + (((n - l.length) / D.length : Nat) : Int) * preS F D D.length + preS F D (k + (n - l.length) % D.length) - preS F D k) := by
  have lk := (List.getElem?_eq_some_iff.mp he).1
  have l0 : 0 < D.length := by omega
  have md := Nat.mod_lt (n - l.length) l0
  have h1 : (D ++ D)[k]? = some e := by rw [List.getElem?_append_left lk]; exact he
  have hz : (D ++ D)[k + (n - l.length) % D.length]? = some ((D ++ D)[k + (n - l.length) % D.length]'(by rw [List.length_append]; omega)) := List.getElem?_eq_getElem _
  generalize ((D ++ D)[k + (n - l.length) % D.length]'(by rw [List.length_append]; omega)) = z at hz
  refine ⟨z, two_mod hz, ?_⟩
  have ch : Chain F l (some e) := by
    have c := W.ch
    rw [hr] at c
    have c := (chain_app.mp c).1
    have eh : hd r (some e) = some e := by
      cases r with
      | nil => cases hr
      | cons y t => exact hr
    rw [eh] at c
    exact c
  have hh : hd l (some e) = some x := by
    have q := W.hd
    rw [hr, hd_app] at q
    have eh : hd r (some e) = some e := by
      cases r with
      | nil => cases hr
      | cons y t => exact hr
    rw [eh] at q
    exact q
  have e1 : n = (n - l.length) + l.length := by omega
  have e2 : n - l.length = 0 + (n - l.length) % D.length + (n - l.length) / D.length * D.length := by
    have := Nat.mod_add_div (n - l.length) D.length
    rw [Nat.mul_comm] at this
    omega
  have q := pow_chain ch hh (n - l.length)
  rw [← e1] at q
  rw [q]
  have t := turns R he (0 + (n - l.length) % D.length) ((n - l.length) / D.length)
  rw [← e2, seg R _ k 0 h1 hz] at t
  rw [t, preS_full]
  show (some z, (0 : Int) + (preS F D (k + (n - l.length) % D.length) - preS F D k) + _ + _) = _
  congr 1
  omega
theorem pow_ended {F : PF} : ∀ {row : List Str}, Chain F row none → ∀ {x : Str}, hd row none = some x → ∀ n, powF F (n + row.length) x = (none, moreS F row)
  | [], _, x, h, n => by cases h
  | y :: t, .cons h1 h2, x, h, n => by
    have e : y = x := Option.some.inj h
    subst e
    rw [List.length_cons, ← Nat.add_assoc, moreS_cons]
    cases t with
    | nil =>
      show thenF (powF F (n + 0)) F y = _
      unfold thenF
      rw [show (F y).1 = none from h1]
      show (none, (F y).2) = (none, (F y).2 + 0)
      rw [Int.add_zero]
    | cons z u =>
      rw [pow_next (y := z) h1, pow_ended h2 (x := z) rfl n]
      show (none, moreS F (z :: u) + (F y).2) = (none, (F y).2 + moreS F (z :: u))
      rw [Int.add_comm]
/-- rings found: of each name its ring and its index there -/
structure Spo (F : PF) (sn : List Str) (Df : Str → List Str) (kf : Str → Nat) : Prop where
  nd : sn.Nodup
  ring : ∀ x ∈ sn, RingOf F (Df x)
  at_ : ∀ x ∈ sn, (Df x)[kf x]? = some x
  all : ∀ x ∈ sn, ∀ y ∈ Df x, y ∈ sn ∧ Df y = Df x
theorem spo0 {F : PF} {Df : Str → List Str} {kf : Str → Nat} : Spo F [] Df kf := ⟨List.nodup_nil, fun _ m => (nomatch m), fun _ m => (nomatch m), fun _ m => (nomatch m)⟩
theorem Spo.more {F : PF} {sn D : List Str} {Df Df' : Str → List Str} {kf kf' : Str → Nat} (S : Spo F sn Df kf) (R : RingOf F D) (dj : ∀ y ∈ D, y ∉ sn) (h1 : ∀ y ∈ sn, Df' y = Df y ∧ kf' y = kf y) (h2 : ∀ y ∈ D, Df' y = D) (h3 : ∀ (i : Nat) y, D[i]? = some y → kf' y = i) : Spo F (sn ++ D) Df' kf' := by
  refine ⟨?_, fun x m => ?_, fun x m => ?_, fun x m y ym => ?_⟩
  · rw [List.nodup_append]
    exact ⟨S.nd, R.nd, fun a ha b hb e => dj b hb (e ▸ ha)⟩
  · rcases List.mem_append.mp m with k | k
    · rw [(h1 x k).1]; exact S.ring x k
    · rw [h2 x k]; exact R
  · rcases List.mem_append.mp m with k | k
    · rw [(h1 x k).1, (h1 x k).2]; exact S.at_ x k
    · obtain ⟨i, hi⟩ := List.mem_iff_getElem?.mp k
      rw [h2 x k, h3 i x hi]; exact hi
  · rcases List.mem_append.mp m with k | k
    · rw [(h1 x k).1] at ym ⊢
      obtain ⟨a, b⟩ := S.all x k y ym
      exact ⟨List.mem_append_left _ a, by rw [(h1 y a).1]; exact b⟩
    · rw [h2 x k] at ym ⊢
      exact ⟨List.mem_append_right _ ym, h2 y ym⟩
/-- posts found -/
structure Pos_ (F : PF) (ns kn sn : List Str) : Prop where
  nd : kn.Nodup
  sub : ∀ x ∈ kn, x ∈ ns
  cl : ∀ x ∈ kn, ∀ y, (F x).1 = some y → y ∈ kn
  way : ∀ x ∈ kn, ∃ l r, WayOf F x l r ∧ ∀ e, r[0]? = some e → e ∈ sn
  ss : ∀ x ∈ sn, x ∈ kn
theorem pos0 {F : PF} {ns : List Str} : Pos_ F ns [] [] := ⟨List.nodup_nil, fun _ m => (nomatch m), fun _ m => (nomatch m), fun _ m => (nomatch m), fun _ m => (nomatch m)⟩
theorem ring_each {F : PF} {D : List Str} (R : RingOf F D) {y : Str} (m : y ∈ D) : ∃ r, WayOf F y [] r ∧ r.length = D.length ∧ r[0]? = some y := by
  obtain ⟨a, c, rfl⟩ := List.append_of_mem m
  refine ⟨y :: c ++ a, way_ring R.ch R.nd, ?_, rfl⟩
  rw [List.length_append, List.length_append, Nat.add_comm]
theorem ring_of {F : PF} {D : List Str} {z : Str} (ch : Chain F D (some z)) (hz : D[0]? = some z) (nd : D.Nodup) : RingOf F D := ⟨by rw [hz]; exact ch, nd, fun e => by rw [e] at hz; cases hz⟩
theorem Pos_.ring {F : PF} {ns kn sn D : List Str} (S : Pos_ F ns kn sn) (R : RingOf F D) (dn : ∀ y ∈ D, y ∈ ns) (dk : ∀ y ∈ D, y ∉ kn) : Pos_ F ns (kn ++ D) (sn ++ D) := by
  refine ⟨?_, fun y m => ?_, fun y m w e => ?_, fun y m => ?_, fun y m => ?_⟩
  · rw [List.nodup_append]
    exact ⟨S.nd, R.nd, fun a ha b hb e => dk b hb (e ▸ ha)⟩
  · rcases List.mem_append.mp m with k | k
    · exact S.sub y k
    · exact dn y k
  · rcases List.mem_append.mp m with k | k
    · exact List.mem_append_left _ (S.cl y k w e)
    · refine List.mem_append_right _ ?_
      obtain ⟨i, hi⟩ := List.mem_iff_getElem?.mp k
      have li := (List.getElem?_eq_some_iff.mp hi).1
      have h1 : (D ++ D)[i]? = some y := by rw [List.getElem?_append_left li]; exact hi
      have h2 : (D ++ D)[i + 1]? = some ((D ++ D)[i + 1]'(by rw [List.length_append]; omega)) := List.getElem?_eq_getElem _
      have q := chain_at R.two h1 h2
      rw [q] at e
      have m2 := at_mem h2
      rw [Option.some.inj e] at m2
      exact (List.mem_append.mp m2).elim id id
  · rcases List.mem_append.mp m with k | k
    · obtain ⟨l, r, W, h⟩ := S.way y k
      exact ⟨l, r, W, fun e he => List.mem_append_left _ (h e he)⟩
    · obtain ⟨r, W, _, h0⟩ := ring_each R k
      exact ⟨[], r, W, fun e he => by rw [h0] at he; cases he; exact List.mem_append_right _ k⟩
  · rcases List.mem_append.mp m with k | k
    · exact List.mem_append_left _ (S.ss y k)
    · exact List.mem_append_right _ k
/-- names that lead on to a known one, or to an end -/
theorem Lead.way' {F : PF} {ns kn p : List Str} {b : Option Str} {l0 r0 : List Str} (cl : ∀ x ∈ kn, ∀ y, (F x).1 = some y → y ∈ kn) (L : Lead F ns kn p b l0 r0) {i : Nat} {x : Str} (h : p[i]? = some x) : WayOf F x (p.drop i ++ l0) r0 := by
  obtain ⟨hi, e⟩ := List.getElem?_eq_some_iff.mp h
  have ep : p.drop i = x :: p.drop (i + 1) := by rw [List.drop_eq_getElem_cons hi, e]
  have dj : ∀ y ∈ p.drop i, y ∉ l0 ++ r0 := fun y m k => by
    have yp := List.mem_of_mem_drop m
    rcases L.hb with ⟨_, e2, e3⟩ | ⟨z, _, zk, W⟩
    · subst e2 e3
      exact nomatch k
    · exact L.dj y yp (W.inNs cl zk y k)
  have ch : Chain F (p.drop i) b := by
    have c := L.ch
    rw [← List.take_append_drop i p] at c
    exact (chain_app.mp c).2
  have q := way_suffix (l := l0) (r := r0) (b := b) (L.hb.imp id fun ⟨z, a, _, c⟩ => ⟨z, a, c⟩) ch ((List.drop_sublist _ _).nodup L.nd) dj ep
  rw [ep]
  exact q
theorem Pos_.lead {F : PF} {ns kn sn p : List Str} {b : Option Str} {l0 r0 : List Str} (S : Pos_ F ns kn sn) (L : Lead F ns kn p b l0 r0) : Pos_ F ns (kn ++ p.reverse) sn := by
  refine ⟨?_, fun y m => ?_, fun y m w e => ?_, fun y m => ?_, fun y m => List.mem_append_left _ (S.ss y m)⟩
  · rw [List.nodup_append]
    exact ⟨S.nd, (List.reverse_perm p).nodup_iff.mpr L.nd, fun a ha b hb e => L.dj b (List.mem_reverse.mp hb) (e ▸ ha)⟩
  · rcases List.mem_append.mp m with k | k
    · exact S.sub y k
    · exact L.pn y (List.mem_reverse.mp k)
  · rcases List.mem_append.mp m with k | k
    · exact List.mem_append_left _ (S.cl y k w e)
    · obtain ⟨a, c, rfl⟩ := List.append_of_mem (List.mem_reverse.mp k)
      obtain ⟨_, h⟩ := chain_app.mp L.ch
      cases h with
      | cons g _ =>
        rw [g] at e
        cases c with
        | nil =>
          have e : b = some w := e
          rcases L.hb with ⟨e1, _⟩ | ⟨z, e1, zk, _⟩
          · rw [e1] at e; cases e
          · rw [e1] at e; cases e
            exact List.mem_append_left _ zk
        | cons v c =>
          have e : v = w := Option.some.inj e
          rw [← e]
          simp
  · rcases List.mem_append.mp m with k | k
    · exact S.way y k
    · obtain ⟨i, hi⟩ := List.mem_iff_getElem?.mp (List.mem_reverse.mp k)
      refine ⟨_, _, L.way' S.cl hi, fun e he => ?_⟩
      rcases L.hb with ⟨_, _, e3⟩ | ⟨z, _, zk, W⟩
      · rw [e3] at he; cases he
      · obtain ⟨l', r', W', h⟩ := S.way z zk
        rw [(way_uniq W W').2] at he
        exact h e he
end Y

namespace Y
open PySem PySem.Spec PyProof.Rows L2
/-- the method m of the class C keeps a promise -/
structure HasM (P : Program) (w : World) (K : PySem.W.Frag) (mg : Str → Option Value) (base : Heap) (C : Addr) (m : Str) (k : Nat) (ps : List Str) (sp : Sp) : Prop where
  cl : Cls K C
  ex : ∃ (f : Addr) (fd : FuncData), Meth K C m f ∧ FnOk P w K mg base CX0 k f fd ps sp ∧ L2.Binds K fd ps []
section
variable {X : Cx} {C : Addr} {m : Str} {k : Nat} {ps : List Str} {sp : Sp} {apos pos : Pos} {o e : Expr} {es : List Expr} {ta : TE} {t : TA} {pl : Sem Bool}
def tGoM (C : Addr) (m : Str) (sp : Sp) (ta : TE) (t : TA) : TE := fun σ H Q => ta σ H fun x H1 => ∃ a dx fs, x = .ref a ∧ H1 a = some (.ins C dx fs) ∧ fs.lookup m = none ∧ t σ H1 fun vs H2 => sp (x :: vs) H2 Q E0
theorem tM_eq : tMeth C m sp [] E0 ta t = tGoM C m sp ta t := by
  funext σ H Q
  show (ta σ H fun x H1 => ∃ a dx fs, x = .ref a ∧ H1 a = some (.ins C dx fs) ∧ fs.lookup m = none ∧ t σ H1 fun vs H2 => sp (x :: (vs ++ [])) H2 Q E0) = _
  unfold tGoM
  congr 1
  funext x H1
  congr 1
  funext a
  congr 1
  funext dx
  congr 1
  funext fs
  congr 1
  congr 1
  congr 1
  congr 1
  funext vs H2
  rw [List.append_nil]
theorem HasM.call (h : HasM X.prog X.w X.K X.mg X.base C m k ps sp) (hr : Room k X.A) (ho : PE X o ta) (ha : PA X (e :: es) t)
    (he : starEach (e :: es) X.env = (false, eval e X.env) :: starEach es X.env := by rfl) (hpl : (backTo pos (starEach es X.env)).any (·.1) = false := by rfl)
    (hev : eval ((o.Attribute m apos).Call (e :: es) [] pos) X.env = (do
      let ov ← eval o X.env
      standAt apos.atName
      let __x ← holding [ov] (getMethod ov m pl)
      match __x with
        | (f, first) => callWith pos f first (backTo pos (starEach (e :: es) X.env)) (backToKw pos (keywordEach [] X.env))) := by rfl) : PE X (.Call (.Attribute o m apos) (e :: es) [] pos) (tGoM C m sp ta t) := by
  obtain ⟨f, fd, hm, F, hb⟩ := h.ex
  have q := pe_meth (apos := apos) (pos := pos) (pl := pl) ho h.cl hm F hr hb .nil pass0 ha he hpl hev
  rw [tM_eq] at q
  exact q
theorem HasM.call0 (h : HasM X.prog X.w X.K X.mg X.base C m k ps sp) (hr : Room k X.A) (ho : PE X o ta)
    (hev : eval ((o.Attribute m apos).Call [] [] pos) X.env = (do
      let ov ← eval o X.env
      standAt apos.atName
      let __x ← holding [ov] (getMethod ov m pl)
      match __x with
        | (f, first) => callWith pos f first (backTo pos (starEach [] X.env)) (backToKw pos (keywordEach [] X.env))) := by rfl) : PE X (.Call (.Attribute o m apos) [] [] pos) (tGoM C m sp ta tNil) := by
  obtain ⟨f, fd, hm, F, hb⟩ := h.ex
  have q := pe_meth0 (apos := apos) (pos := pos) (pl := pl) ho h.cl hm F hr hb .nil pass0 hev
  rw [tM_eq] at q
  exact q
end
theorem walk_enumL {K : PySem.W.Frag} {a : Addr} {xs : List V} : Walk (L2.Ite K a) xs.length (fun H => SqL K H a xs) (YPair (fun i => some (.int (i : Nat))) (fun i => xs[i]?)) := by
  refine ⟨fun i _ hi q => ⟨xs, xs[i], q, by simp [hi]⟩, fun _ q => ⟨xs, q, Nat.le_refl _⟩, fun i H v H' _ q y => ?_⟩
  obtain ⟨T, x, h1, h2, h3, h4⟩ := y
  exact ⟨T, .int (i : Nat), x, h1, h2, h3, rfl, h4 xs q⟩
end Y

namespace Y
open PySem PySem.Spec PyProof.Rows L2
/-! ### the class Powers -/
/-- further built-in names -/
structure Bp (mg : Str → Option Value) : Prop extends Bj mg where
  divmod : mg "divmod" = none
theorem n_wpo : ¬ (("push" : Str) = "posts") := by decide +kernel
theorem n_wps : ¬ (("push" : Str) = "spots") := by decide +kernel
theorem n_wos : ¬ (("posts" : Str) = "spots") := by decide +kernel
def fldsW (b m r : V) : List (Str × V) := [("push", b), ("posts", m), ("spots", r)]
theorem fldsW_eq (b m r : V) : putF "spots" r (putF "posts" m (putF "push" b [])) = fldsW b m r := by
  show putF "spots" r (putF "posts" m [(("push" : Str), b)]) = _
  show putF "spots" r (if ("push" : Str) = "posts" then [(("push" : Str), m)] else (("push" : Str), b) :: putF "posts" m []) = _
  rw [if_neg n_wpo]
  show (if ("push" : Str) = "spots" then _ else (("push" : Str), b) :: putF "spots" r (putF "posts" m [])) = _
  rw [if_neg n_wps]
  show (("push" : Str), b) :: putF "spots" r [(("posts" : Str), m)] = _
  show (("push" : Str), b) :: (if ("posts" : Str) = "spots" then _ else (("posts" : Str), m) :: putF "spots" r []) = _
  rw [if_neg n_wos]
  rfl
theorem fldsW_p (b m r : V) : (fldsW b m r).lookup ("push" : Str) = some b := by
  rw [← fldsW_eq, lookup_putF, if_neg n_wps, lookup_putF, if_neg n_wpo, lookup_putF, if_pos rfl]
theorem fldsW_o (b m r : V) : (fldsW b m r).lookup ("posts" : Str) = some m := by
  rw [← fldsW_eq, lookup_putF, if_neg n_wos, lookup_putF, if_pos rfl]
theorem fldsW_s (b m r : V) : (fldsW b m r).lookup ("spots" : Str) = some r := by
  rw [← fldsW_eq, lookup_putF, if_pos rfl]
theorem fldsW_no (b m r : V) {k : Str} (h1 : ¬ k = "push") (h2 : ¬ k = "posts") (h3 : ¬ k = "spots") : (fldsW b m r).lookup k = none := by
  rw [← fldsW_eq, lookup_putF, if_neg h3, lookup_putF, if_neg h2, lookup_putF, if_neg h1]
  rfl
/-- what the class Powers is -/
structure Pwc (K : PySem.W.Frag) (mg : Str → Option Value) (C : Addr) : Prop where
  cl : Cls K C
  nP : NoAttr K C "push"
  nO : NoAttr K C "posts"
  nS : NoAttr K C "spots"
  mgC : mg "Powers" = some (.ref C)
def isPost (F : PF) (H : Hp) (x : Str) (v : V) : Prop := ∃ t l r, v = .ref t ∧ H t = some (.tup [.int (l.length : Nat), .int (moreS F l), osV r[0]?]) ∧ WayOf F x l r
def prL (F : PF) (D : List Str) (n : Nat) : List Int := (List.range n).map (preS F D)
def isSpot (F : PF) (Df : Str → List Str) (kf : Str → Nat) (H : Hp) (x : Str) (v : V) : Prop := ∃ t a b, v = .ref t ∧ H t = some (.tup [.ref a, .ref b, .int (kf x : Nat)]) ∧ H a = some (.lst ((Df x).map V.str)) ∧ H b = some (.lst ((prL F (Df x) ((Df x).length + (Df x).length + 1)).map V.int))
theorem prL_len {F : PF} {D : List Str} {n : Nat} : (prL F D n).length = n := by unfold prL; rw [List.length_map, List.length_range]
theorem prL_at {F : PF} {D : List Str} {n i : Nat} (h : i < n) : (prL F D n)[i]? = some (preS F D i) := by
  unfold prL
  rw [List.getElem?_map, List.getElem?_range h]
  rfl
theorem prL_next {F : PF} {D : List Str} {n : Nat} : prL F D (n + 1) = prL F D n ++ [preS F D n] := by
  unfold prL
  rw [List.range_succ, List.map_append]
  rfl
structure PwIn (H : Hp) (pa sa : Addr) (F : PF) (ns kn : List Str) (kp ks : List (Key × V)) (sn : List Str) (Df : Str → List Str) (kf : Str → Nat) : Prop where
  hp : H pa = some (.dK kp)
  hs : H sa = some (.dK ks)
  dp : Dic (isPost F) H kp kn
  ds : Dic (isSpot F Df kf) H ks sn
  ps : Pos_ F ns kn sn
  sp : Spo F sn Df kf
theorem isPost.keep {F : PF} {H H' : Hp} (h : ∀ t xs, H t = some (.tup xs) → H' t = some (.tup xs)) {x : Str} {v : V} (g : isPost F H x v) : isPost F H' x v := by
  obtain ⟨t, l, r, e, ht, W⟩ := g
  exact ⟨t, l, r, e, h _ _ ht, W⟩
theorem isSpot.keep {F : PF} {Df : Str → List Str} {kf : Str → Nat} {H H' : Hp} (h : ∀ t xs, H t = some (.tup xs) → H' t = some (.tup xs)) (h2 : ∀ t xs, H t = some (.lst xs) → H' t = some (.lst xs)) {x : Str} {v : V} (g : isSpot F Df kf H x v) : isSpot F Df kf H' x v := by
  obtain ⟨t, a, b, e, ht, ha, hb⟩ := g
  exact ⟨t, a, b, e, h _ _ ht, h2 _ _ ha, h2 _ _ hb⟩
theorem PwIn.same {H H' : Hp} {pa sa : Addr} {F : PF} {ns kn : List Str} {kp ks : List (Key × V)} {sn : List Str} {Df : Str → List Str} {kf : Str → Nat} (I : PwIn H pa sa F ns kn kp ks sn Df kf) (s : Same H H') : PwIn H' pa sa F ns kn kp ks sn Df kf :=
  ⟨s _ _ I.hp, s _ _ I.hs, I.dp.mono fun _ _ _ g => g.keep s.tupP, I.ds.mono fun _ _ _ g => g.keep s.tupP fun t xs e => s _ _ e, I.ps, I.sp⟩
theorem But.tupD {p q : Addr} {H H' : Hp} {u v : List (Key × V)} (b : But p q H H') (hp : H p = some (.dK u)) (hq : H q = some (.dK v)) : ∀ t xs, H t = some (.tup xs) → H' t = some (.tup xs) := fun t xs e => b _ _ e (fun z => by rw [z, hp] at e; cases e) (fun z => by rw [z, hq] at e; cases e)
theorem But.lstD {p q : Addr} {H H' : Hp} {u v : List (Key × V)} (b : But p q H H') (hp : H p = some (.dK u)) (hq : H q = some (.dK v)) : ∀ t xs, H t = some (.lst xs) → H' t = some (.lst xs) := fun t xs e => b _ _ e (fun z => by rw [z, hp] at e; cases e) (fun z => by rw [z, hq] at e; cases e)
theorem But.insD {p q : Addr} {H H' : Hp} {u v : List (Key × V)} (b : But p q H H') (hp : H p = some (.dK u)) (hq : H q = some (.dK v)) {o C dx : Addr} {fs : List (Str × V)} (e : H o = some (.ins C dx fs)) : H' o = some (.ins C dx fs) := b _ _ e (fun z => by rw [z, hp] at e; cases e) (fun z => by rw [z, hq] at e; cases e)
theorem But.rdD {p q d : Addr} {H H' : Hp} (b : But p q H H') (np : d ≠ p) (nq : d ≠ q) {o : HO} (h : Rd H d o) : Rd H' d o := by
  rcases h with k | ⟨u, k⟩
  · exact .inl (b _ _ k np nq)
  · exact .inr ⟨u, b _ _ k np nq⟩
theorem But.putT {p g : Addr} {H H' : Hp} {D : Addr} {o : HO} (s : But p g H H') (n : D = p ∨ D = g) : But p g H (upd H' D o) := fun b u e n1 n2 => by
  rw [upd_ne (fun z => n.elim (fun k => n1 (z.trans k)) fun k => n2 (z.trans k))]
  exact s b u e n1 n2
theorem idI_of {D : List Str} (nd : D.Nodup) {i : Nat} {y : Str} (h : D[i]? = some y) : idI D y = i := nd_ix nd (idI_at (at_mem h)) h
theorem atI_last {xs : List V} {v : V} : atI (xs ++ [v]) (-1) = some v := by
  have e : L2.ixN (xs ++ [v]).length (-1) = some xs.length := by
    rw [List.length_append]
    show L2.ixN (xs.length + 1) (-1) = _
    unfold L2.ixN
    simp
    omega
  show (L2.ixN (xs ++ [v]).length (-1)).bind (fun j => (xs ++ [v])[j]?) = _
  rw [e]
  show (xs ++ [v])[xs.length]? = _
  simp
section
variable {P : Program} {w : World} {K : PySem.W.Frag} {mg : Str → Option Value} {base : Heap} {CW : Addr}
abbrev s_Powers__spot : Stmt := inClass (topS 26) 2
theorem sc_Powers__spot : FnScope ["self", "ring", "sums", "at", "k"] ["self", "ring"] (defScope s_Powers__spot) := ⟨rfl, rfl, rfl, by decide +kernel, rfl, by decide +kernel, by decide +kernel⟩
def spSpot (CW : Addr) : Sp := fun vs H Q _ => ∃ (o dx d pa sa e : Addr) (kvs : List (Key × V)) (ns kn : List Str) (F : PF) (kp ks : List (Key × V)) (sn D : List Str) (Df : Str → List Str) (kf : Str → Nat), vs = [.ref o, .ref e] ∧ H o = some (.ins CW dx (fldsW (.ref d) (.ref pa) (.ref sa))) ∧
  Rd H d (.dK kvs) ∧ d ≠ pa ∧ d ≠ sa ∧ pa ≠ sa ∧ Dic (isPair F) H kvs ns ∧ ns.length ≤ 1000 ∧ PwIn H pa sa F ns kn kp ks sn Df kf ∧ H e = some (.lst (D.map V.str)) ∧ RingOf F D ∧ (∀ y ∈ D, y ∈ ns) ∧ (∀ y ∈ D, y ∉ kn) ∧
  ∀ (kp' ks' : List (Key × V)) (Df' : Str → List Str) (kf' : Str → Nat) H', PwIn H' pa sa F ns (kn ++ D) kp' ks' (sn ++ D) Df' kf' → But pa sa H H' → Q .non H'
theorem ok_spot {f : Addr} {fd : FuncData} (F : Fun K "_spot" "Powers._spot" s_Powers__spot f fd) (T : Bp mg) (GW : Pwc K mg CW) : FnOk P w K mg base CX0 1 f fd ["self", "ring"] (spSpot CW) := by
  refine F.ok sc_Powers__spot (fun vs H Q E h => ?_) (fun cdv A outer s₀ H vs Q E hr h => ?_)
  · obtain ⟨o, dx, d, pa, sa, e, kvs, ns, kn, F0, kp, ks, sn, D, Df, kf, rfl, _⟩ := h
    rfl
  · obtain ⟨o, dx, d, pa, sa, e, kvs, ns, kn, F0, kp, ks, sn, D, Df, kf, rfl, ho, hd0, ndp, nds, nps, DP, ln, I0, he, R, dn, dk, kk⟩ := h
    have hu := hu_of hr
    have lD : D.length ≤ ns.length := nd_sub_len R.nd dn
    refine ⟨_, (pss_cons (ps_set (i := 2) sc_Powers__spot.nd rfl (.inl rfl) (pe_lst (pa_cons pe_int pa_nil)))
 (pss_cons (ps_for PassesOwn.never rfl (pi_list (pe_op op_cat (pv 1) (pv 1))) (pg_name (i := 3) sc_Powers__spot.nd rfl (.inl rfl))
  (pss_one (ps_expr (pe_bm PySem.F.plainAttrs_list PySem.F.slot_list_append PySem.F.type_list_append mt_append (pv 2) (pa_cons (pe_op op_add (pe_ix ix_list (pv 2) (pe_un un_neg pe_int) (fun _ _ => rfl)) (pe_ix ix_tup (pe_dget hu (pe_fld (pv 0) rfl) (pv 3) (fun _ _ => rfl)) pe_int (fun _ _ => rfl))) pa_nil)))))
 (pss_one (ps_for PassesOwn.never rfl (pi_enum (by rfl) T.enumerate (pa_cons (pv 1) pa_nil)) (pg_tup (by rfl) (pgs_cons (pg_name (i := 4) sc_Powers__spot.nd rfl (.inl rfl)) (pgs_cons (pg_name (i := 3) sc_Powers__spot.nd rfl (.inl rfl)) pgs_nil)))
  (pss_cons (ps_dput hu (pe_fld (pv 0) rfl) (pv 3) (pe_tup (pa_cons (pv 1) (pa_cons (pv 2) (pa_cons (pv 4) pa_nil)))) rfl)
 (pss_one (ps_dput hu (pe_fld (pv 0) rfl) (pv 3) (pe_tup (pa_cons pe_int (pa_cons pe_int (pa_cons (pv 3) pa_nil)))) rfl))))))), ?_⟩
    refine ⟨(by show 1 ≤ sizeLine; decide), fun s ns0 => ?_⟩
    have s1 := same_upd (o := .lst [.int 0]) ns0
    have hs1 : (upd H s (.lst [.int 0])) s = some (.lst [.int 0]) := upd_same
    generalize upd H s (.lst [.int 0]) = H1 at s1 hs1
    have he1 := s1 _ _ he
    refine ⟨_, rfl, _, rfl, e, e, _, _, rfl, rfl, he1, he1, ?_, fun c nc => ?_⟩
    · have q := Nat.le_of_lt (big1 (n := D.length + D.length) (by omega))
      rw [List.length_map]; exact q
    have s2 := same_upd (o := .lst (D.map V.str ++ D.map V.str)) nc
    have hc2 : (upd H1 c (.lst (D.map V.str ++ D.map V.str))) c = some (.lst (D.map V.str ++ D.map V.str)) := upd_same
    have hs2 := s2 _ _ hs1
    have nsc : s ≠ c := ne_of_none hs1 nc
    generalize upd H1 c (.lst (D.map V.str ++ D.map V.str)) = H2 at s2 hc2 hs2
    have s12 := s1.trans s2
    have lDD : (D.map V.str ++ D.map V.str).length = D.length + D.length := by rw [List.length_append, List.length_map]
    refine ⟨c, rfl, ⟨_, SqL.of hc2⟩, for_it (walk_list (K := K) (a := c) (xs := D.map V.str ++ D.map V.str)) (fun i σ H3 => ∃ y3, σ = [some (.ref o), some (.ref e), some (.ref s), y3, none] ∧ Same H H3 ∧ H3 c = some (.lst (D.map V.str ++ D.map V.str)) ∧ H3 s = some (.lst ((prL F0 D (i + 1)).map V.int)))
      ⟨_, rfl, s12, hc2, hs2⟩ (fun i σ H3 _ q => by obtain ⟨_, _, _, q, _⟩ := q; exact SqL.of q) (fun i v σ H3 H3' hi q y => ?_) fun σ H3 q => ?_⟩
    · obtain ⟨y3, rfl, s3, hc3, hs3⟩ := q
      obtain ⟨e1, e2⟩ := y
      subst e1
      rw [← List.map_append] at e2
      obtain ⟨y, hy, rfl⟩ := map_at e2
      have yD : y ∈ D := (List.mem_append.mp (at_mem hy)).elim id id
      have yn := dn y yD
      obtain ⟨v, ev, t, rfl, ht⟩ := DP.val y yn
      have li : i < D.length + D.length := by rw [lDD] at hi; exact hi
      have e3 : (prL F0 D (i + 1)).map V.int = (prL F0 D i).map V.int ++ [V.int (preS F0 D i)] := by rw [prL_next, List.map_append]; rfl
      have hs3' := hs3
      rw [e3] at hs3'
      refine ⟨_, rfl, .inl ⟨rfl, _, SqL.of hs3⟩, _, rfl, _, rfl, s, _, _, _, rfl, rfl, SqL.of hs3', atI_last, ?_⟩
      refine ⟨_, rfl, o, CW, dx, _, _, rfl, s3 _ _ ho, GW.cl, GW.nP, fldsW_p _ _ _, _, rfl, d, _, rfl, .inl ⟨kvs, Sum.inr y, Same.rd s3 hd0, rfl, ev.symm⟩, t, _, _, _, rfl, rfl, SqT.of (s3 _ _ ht), atI_nat (j := 1) rfl, _, _, rfl, rfl, ?_⟩
      refine ⟨s, _, _, rfl, rfl, hs3, (by rw [List.length_map, prL_len]; exact big1 (by omega)), ?_⟩
      have e4 : (prL F0 D (i + 1)).map V.int ++ [V.int (preS F0 D i + (F0 y).2)] = (prL F0 D (i + 1 + 1)).map V.int := by rw [← preS_next hy, prL_next (n := i + 1), List.map_append]; rfl
      rw [e4]
      exact ⟨_, rfl, s3.put ns0, by rw [upd_ne (ne_of_none hs1 nc).symm]; exact hc3, upd_same⟩
    · obtain ⟨y3, rfl, s3, hc3, hs3⟩ := q
      rw [lDD] at hs3
      have he3 := s3 _ _ he
      have I3 := I0.same s3
      have ho3 := s3 _ _ ho
      have b3 := But.of (p := pa) (g := sa) s3
      clear s12 s2 hc2 hs2 hc3
      have nyD : ∀ y ∈ sn, y ∉ D := fun y m k => dk y k (I0.ps.ss y m)
      have lsn : sn.length ≤ ns.length := nd_sub_len I0.sp.nd fun x m => I0.ps.sub x (I0.ps.ss x m)
      have lkn : kn.length ≤ ns.length := nd_sub_len I0.ps.nd I0.ps.sub
      refine ⟨_, rfl, e, _, rfl, SqL.of he3, for_it walk_enumL (fun i σ H4 => ∃ y3 y4 kp4 ks4, σ = [some (.ref o), some (.ref e), some (.ref s), y3, y4] ∧ But pa sa H H4 ∧ H4 e = some (.lst (D.map V.str)) ∧ H4 s = some (.lst ((prL F0 D (D.length + D.length + 1)).map V.int)) ∧
          H4 pa = some (.dK kp4) ∧ H4 sa = some (.dK ks4) ∧ Dic (isPost F0) H4 kp4 (kn ++ D.take i) ∧ Dic (isSpot F0 (fun y => if y ∈ D then D else Df y) (fun y => if y ∈ D then idI D y else kf y)) H4 ks4 (sn ++ D.take i))
        ⟨_, _, kp, ks, rfl, b3, he3, hs3, I3.hp, I3.hs, by rw [List.take_zero, List.append_nil]; exact I3.dp, ?_⟩ (fun i σ H4 _ q => by obtain ⟨_, _, _, _, _, _, q, _⟩ := q; exact SqL.of q) (fun i v σ H4 H4' hi q y => ?_) fun σ H4 q => ?_⟩
      · rw [List.take_zero, List.append_nil]
        refine I3.ds.mono fun x v m g => ?_
        obtain ⟨t, a, b, e1, ht, ha, hb⟩ := g
        have n := nyD x m
        exact ⟨t, a, b, e1, by simp only [if_neg n]; exact ht, by simp only [if_neg n]; exact ha, by simp only [if_neg n]; exact hb⟩
      · obtain ⟨y3, y4, kp4, ks4, rfl, b4, he4, hs4, hp4, hq4, DO4, DS4⟩ := q
        obtain ⟨T, n, v, rfl, nT, rfl, en, ex⟩ := y
        cases en
        obtain ⟨y, hy, rfl⟩ := map_at ex
        have yD := at_mem hy
        have sT := same_upd (o := .tup [V.int (i : Nat), V.str y]) nT
        have hT : (upd H4 T (.tup [V.int (i : Nat), V.str y])) T = some (.tup [V.int (i : Nat), V.str y]) := upd_same
        have li := (List.getElem?_eq_some_iff.mp hy).1
        generalize upd H4 T (.tup [V.int (i : Nat), V.str y]) = H5 at sT hT
        refine ⟨T, _, rfl, SqT.of hT, rfl, _, _, rfl, _, _, rfl, rfl, ?_⟩
        refine ⟨_, rfl, _, rfl, _, rfl, (by show 3 ≤ sizeLine; decide), fun t1 nt1 => ?_⟩
        have s6 := same_upd (o := .tup [V.ref e, V.ref s, V.int (i : Nat)]) nt1
        have ht1 : (upd H5 t1 (.tup [V.ref e, V.ref s, V.int (i : Nat)])) t1 = some (.tup [V.ref e, V.ref s, V.int (i : Nat)]) := upd_same
        generalize upd H5 t1 (.tup [V.ref e, V.ref s, V.int (i : Nat)]) = H6 at s6 ht1
        have s46 := sT.trans s6
        have ho4 := b4.insD I0.hp I0.hs ho
        have hq6 := s46 _ _ hq4
        have hp6 := s46 _ _ hp4
        refine ⟨_, rfl, o, CW, dx, _, _, rfl, s46 _ _ ho4, GW.cl, GW.nS, fldsW_s _ _ _, _, rfl, sa, _, rfl, DPut.k (k := Sum.inr y) hq6 ?_, ?_⟩
        · rw [DS4.len, List.length_append, List.length_take]
          exact big1 (by omega)
        have b46 := But.of (p := pa) (g := sa) s46
        have b47 : But pa sa H4 (upd H6 sa (.dK (putK ks4 (Sum.inr y) (.ref t1)))) := b46.putT (.inr rfl)
        have b67 : But pa sa H6 (upd H6 sa (.dK (putK ks4 (Sum.inr y) (.ref t1)))) := (But.refl H6).putT (.inr rfl)
        have hq7 : (upd H6 sa (.dK (putK ks4 (Sum.inr y) (.ref t1)))) sa = some (.dK (putK ks4 (Sum.inr y) (.ref t1))) := upd_same
        have hp7 : (upd H6 sa (.dK (putK ks4 (Sum.inr y) (.ref t1)))) pa = some (.dK kp4) := by rw [upd_ne nps]; exact hp6
        have hT7 := b67.tupD hp6 hq6 _ _ ht1
        generalize upd H6 sa (.dK (putK ks4 (Sum.inr y) (.ref t1))) = H7 at b47 hq7 hp7 hT7 b67
        refine ⟨_, rfl, (by show 3 ≤ sizeLine; decide), fun t2 nt2 => ?_⟩
        have s8 := same_upd (o := .tup [V.int 0, V.int 0, V.str y]) nt2
        have ht2 : (upd H7 t2 (.tup [V.int 0, V.int 0, V.str y])) t2 = some (.tup [V.int 0, V.int 0, V.str y]) := upd_same
        generalize upd H7 t2 (.tup [V.int 0, V.int 0, V.str y]) = H8 at s8 ht2
        have b48 := b47.trans (But.of s8)
        have hp8 := s8 _ _ hp7
        have hq8 := s8 _ _ hq7
        refine ⟨_, rfl, o, CW, dx, _, _, rfl, b48.insD hp4 hq4 ho4, GW.cl, GW.nO, fldsW_o _ _ _, _, rfl, pa, _, rfl, DPut.k (k := Sum.inr y) hp8 ?_, ?_⟩
        · rw [DO4.len, List.length_append, List.length_take]
          exact big1 (by omega)
        have b49 : But pa sa H4 (upd H8 pa (.dK (putK kp4 (Sum.inr y) (.ref t2)))) := b48.putT (.inl rfl)
        have b89 : But pa sa H8 (upd H8 pa (.dK (putK kp4 (Sum.inr y) (.ref t2)))) := (But.refl H8).putT (.inl rfl)
        have hp9 : (upd H8 pa (.dK (putK kp4 (Sum.inr y) (.ref t2)))) pa = some (.dK (putK kp4 (Sum.inr y) (.ref t2))) := upd_same
        have hq9 : (upd H8 pa (.dK (putK kp4 (Sum.inr y) (.ref t2)))) sa = some (.dK (putK ks4 (Sum.inr y) (.ref t1))) := by rw [upd_ne nps.symm]; exact hq8
        generalize upd H8 pa (.dK (putK kp4 (Sum.inr y) (.ref t2))) = H9 at b49 b89 hp9 hq9
        have nyk : y ∉ kn ++ D.take i := fun k => (List.mem_append.mp k).elim (dk y yD) (nd_take R.nd hy)
        have nys : y ∉ sn ++ D.take i := fun k => (List.mem_append.mp k).elim (fun m => nyD y m yD) (nd_take R.nd hy)
        have tk := b49.tupD hp4 hq4
        have tl := b49.lstD hp4 hq4
        refine ⟨_, _, _, _, rfl, b4.trans b49, tl _ _ he4, tl _ _ hs4, hp9, hq9, ?_, ?_⟩
        · rw [take_next hy, ← List.append_assoc]
          obtain ⟨r, W, _, h0⟩ := ring_each R yD
          exact DO4.snoc nyk ⟨t2, [], r, rfl, by rw [h0]; exact b89.tupD hp8 hq8 _ _ ht2, W⟩ fun _ _ _ g => g.keep tk
        · rw [take_next hy, ← List.append_assoc]
          refine DS4.snoc nys ⟨t1, e, s, rfl, ?_, ?_, ?_⟩ fun _ _ _ g => g.keep tk tl
          · have q := b89.tupD hp8 hq8 _ _ (s8 _ _ hT7)
            rw [q]
            simp only [if_pos yD]
            rw [idI_of R.nd hy]
          · simp only [if_pos yD]; exact tl _ _ he4
          · simp only [if_pos yD]; exact tl _ _ hs4
      · obtain ⟨y3, y4, kp4, ks4, rfl, b4, he4, hs4, hp4, hq4, DO4, DS4⟩ := q
        rw [List.length_map, List.take_length] at DO4 DS4
        refine kk kp4 ks4 _ _ H4 ⟨hp4, hq4, DO4, DS4, I0.ps.ring R dn dk, I0.sp.more R (fun y m k => nyD y k m) (fun y m => ⟨if_neg (nyD y m), if_neg (nyD y m)⟩) (fun y m => if_pos m) fun i y hy => ?_⟩ b4
        show (if y ∈ D then idI D y else kf y) = i
        rw [if_pos (at_mem hy), idI_of R.nd hy]
end
end Y

namespace Y
open PySem PySem.Spec PyProof.Rows L2
section
variable {P : Program} {w : World} {K : PySem.W.Frag} {mg : Str → Option Value} {base : Heap} {CW : Addr}
abbrev s_Powers__post : Stmt := inClass (topS 26) 1
theorem sc_Powers__post : FnScope ["self", "name", "met", "behind", "path", "first", "ahead", "total", "entry", "at"] ["self", "name"] (defScope s_Powers__post) := ⟨rfl, rfl, rfl, by decide +kernel, rfl, by decide +kernel, by decide +kernel⟩
def spPost (CW : Addr) : Sp := fun vs H Q _ => ∃ (o dx d pa sa : Addr) (kvs : List (Key × V)) (ns kn : List Str) (F : PF) (x : Str) (kp ks : List (Key × V)) (sn : List Str) (Df : Str → List Str) (kf : Str → Nat), vs = [.ref o, .str x] ∧ H o = some (.ins CW dx (fldsW (.ref d) (.ref pa) (.ref sa))) ∧
  Rd H d (.dK kvs) ∧ d ≠ pa ∧ d ≠ sa ∧ pa ≠ sa ∧ Dic (isPair F) H kvs ns ∧ ns.length ≤ 1000 ∧ (∀ x ∈ ns, ∀ y, (F x).1 = some y → y ∈ ns) ∧ x ∈ ns ∧ PwIn H pa sa F ns kn kp ks sn Df kf ∧
  ∀ (kn' : List Str) (kp' ks' : List (Key × V)) (sn' : List Str) (Df' : Str → List Str) (kf' : Str → Nat) H', PwIn H' pa sa F ns kn' kp' ks' sn' Df' kf' → (∀ y ∈ kn, y ∈ kn') → x ∈ kn' → But pa sa H H' → Q .non H'
theorem ok_post {f : Addr} {fd : FuncData} (F : Fun K "_post" "Powers._post" s_Powers__post f fd) (T : Bp mg) (GW : Pwc K mg CW) (D_met : Has P w K mg base "_met" 1 ["push", "name", "known"] spMet) (M_spot : HasM P w K mg base CW "_spot" 1 ["self", "ring"] (spSpot CW)) :
    FnOk P w K mg base CX0 2 f fd ["self", "name"] (spPost CW) := by
  refine F.ok sc_Powers__post (fun vs H Q E h => ?_) (fun cdv A outer s₀ H vs Q E hr h => ?_)
  · obtain ⟨o, dx, d, pa, sa, kvs, ns, kn, F0, x, kp, ks, sn, Df, kf, rfl, _⟩ := h
    rfl
  · obtain ⟨o, dx, d, pa, sa, kvs, ns, kn, F0, x, kp, ks, sn, Df, kf, rfl, ho, hd0, ndp, nds, nps, DP, ln, cl, xm, I0, kk⟩ := h
    have hu := hu_of hr
    refine ⟨_, (pss_cons (ps_asg (D_met.call (hr.mono (by decide)) (by rfl) (pa_cons (pe_fld (pv 0) rfl) (pa_cons (pv 1) (pa_cons (pe_fld (pv 0) rfl) pa_nil)))) (pg_tup (by rfl) (pgs_cons (pg_name (i := 2) sc_Powers__post.nd rfl (.inl rfl)) (pgs_cons (pg_name (i := 3) sc_Powers__post.nd rfl (.inl rfl)) pgs_nil))))
 (pss_cons (ps_set (i := 4) sc_Powers__post.nd rfl (.inl rfl) (pe_callTy (T := "list") (call_listD (by rfl)) (by rfl) T.list_ (by decide +kernel) (pa_cons (pv 2) pa_nil)))
 (C8.pss_cut (ps_if (pt_cmp (pc_dinN hu (pv 3) (pv 2)))
  (pss_cons (ps_set (i := 5) sc_Powers__post.nd rfl (.inl rfl) (pe_dget hu (pv 2) (pv 3) (fun _ _ => rfl)))
 (pss_cons (ps_expr (M_spot.call (hr.mono (by decide)) (pv 0) (pa_cons (pe_slice sl_list (pv 4) (po_some (pv 5)) po_none) pa_nil)))
 (pss_one (ps_set (i := 4) sc_Powers__post.nd rfl (.inl rfl) (pe_slice sl_list (pv 4) po_none (po_some (pv 5)))))))
  pss_nil)
 (C8.pss_cut (ps_asg (pe_ifExp (pt_cmp (pc_isN (pv 3))) (pe_tup (pa_cons pe_int (pa_cons pe_int (pa_cons pe_non pa_nil)))) (pe_dget hu (pe_fld (pv 0) rfl) (pv 3) (fun _ _ => rfl))) (pg_tup (by rfl) (pgs_cons (pg_name (i := 6) sc_Powers__post.nd rfl (.inl rfl)) (pgs_cons (pg_name (i := 7) sc_Powers__post.nd rfl (.inl rfl)) (pgs_cons (pg_name (i := 8) sc_Powers__post.nd rfl (.inl rfl)) pgs_nil)))))
 (pss_one (ps_for PassesOwn.never rfl (pi_reversed (by rfl) T.reversed (pa_cons (pv 4) pa_nil)) (pg_name (i := 9) sc_Powers__post.nd rfl (.inl rfl))
  (pss_cons (ps_aug (i := 6) sc_Powers__post.nd rfl (.inl rfl) pe_int ip_add)
 (pss_cons (ps_aug (i := 7) sc_Powers__post.nd rfl (.inl rfl) (pe_ix ix_tup (pe_dget hu (pe_fld (pv 0) rfl) (pv 9) (fun _ _ => rfl)) pe_int (fun _ _ => rfl)) ip_add)
 (pss_one (ps_dput hu (pe_fld (pv 0) rfl) (pv 9) (pe_tup (pa_cons (pv 6) (pa_cons (pv 7) (pa_cons (pv 8) pa_nil)))) rfl)))))))))), ?_⟩
    refine ⟨_, rfl, o, CW, dx, _, _, rfl, ho, GW.cl, GW.nP, fldsW_p _ _ _, _, rfl, _, rfl, o, CW, dx, _, _, rfl, ho, GW.cl, GW.nO, fldsW_o _ _ _, ?_⟩
    refine ⟨d, pa, kvs, kp, ns, kn, F0, x, _, rfl, hd0, DP, ln, cl, xm, I0.hp, I0.dp, fun t m mk row b H2 ch hh nd rn rk bn s2 nm ht hm M => ?_⟩
    have lrow : row.length ≤ ns.length := nd_sub_len nd rn
    refine ⟨t, _, rfl, SqT.of ht, rfl, _, _, rfl, _, _, rfl, rfl, ?_⟩
    refine ⟨_, rfl, m, mk, rfl, .inl hm, fun c nc => ?_⟩
    rw [M.keyVs]
    have s3 := same_upd (o := .lst (row.map V.str)) nc
    have hm3 := s3 _ _ hm
    have hc3 : (upd H2 c (.lst (row.map V.str))) c = some (.lst (row.map V.str)) := upd_same
    generalize upd H2 c (.lst (row.map V.str)) = H3 at s3 hm3 hc3
    have s03 := s2.trans s3
    have I3 := I0.same s03
    have ho3 := s03 _ _ ho
    have hd3 := Same.rd s03 hd0
    have DP3 : Dic (isPair F0) H3 kvs ns := DP.keep s03.tupP
    have b3 := But.of (p := pa) (g := sa) s03
    -- behind in met
    refine ⟨fun σ H4 => ∃ y5 c4 p kn4 kp4 ks4 sn4 Df4 kf4 l0 r0, σ = [some (.ref o), some (.str x), some (.ref m), some (osV b), some (.ref c4), y5, none, none, none, none] ∧ But pa sa H H4 ∧ H4 c4 = some (.lst (p.map V.str)) ∧
        PwIn H4 pa sa F0 ns kn4 kp4 ks4 sn4 Df4 kf4 ∧ Lead F0 ns kn4 p b l0 r0 ∧ (∀ y ∈ kn, y ∈ kn4) ∧ (x ∈ kn4 ∨ x ∈ p), ?_, ?_⟩
    · have hin : x ∈ kn ∨ x ∈ row := by
        cases row with
        | nil =>
          have hh : b = some x := hh
          exact .inl ((bn x hh).2.resolve_left fun m => nomatch m)
        | cons z u =>
          have e := Option.some.inj hh
          exact .inr (by rw [← e]; exact List.mem_cons_self)
      refine ⟨_, rfl, _, rfl, ?_⟩
      cases b with
      | none =>
        refine .inr ⟨m, mk, rfl, rfl, .inl hm3, _, rfl, ?_⟩
        exact ⟨_, c, row, kn, kp, ks, sn, Df, kf, [], [], rfl, b3, hc3, I3, ⟨ch, nd, rn, rk, .inl ⟨rfl, rfl, rfl⟩⟩, fun _ m => m, hin⟩
      | some z =>
        refine .inl ⟨m, _, rfl, .inl ⟨mk, Sum.inr z, .inl hm3, rfl, rfl⟩, _, rfl, ?_⟩
        rw [M.isSome]
        by_cases zr : z ∈ row
        · refine yesB (decide_eq_true zr) ?_
          have hj := idI_at zr
          obtain ⟨v, ev2, ge⟩ := M.val z zr
          have ge : v = V.int (idI row z : Nat) := ge
          subst ge
          refine ⟨_, rfl, _, rfl, m, _, rfl, .inl ⟨mk, Sum.inr z, .inl hm3, rfl, ev2.symm⟩, ?_⟩
          generalize idI row z = j at hj
          obtain ⟨c1, c2⟩ := chain_cut ch hj
          have drk : ∀ y ∈ row.drop j, y ∉ kn := fun y my => rk y (List.mem_of_mem_drop my)
          have drn : (row.drop j).Nodup := (List.drop_sublist _ _).nodup nd
          refine ⟨_, rfl, o, dx, _, rfl, ho3, fldsW_no _ _ _ (by decide +kernel) (by decide +kernel) (by decide +kernel), _, rfl, _, rfl, _, rfl, c, _, rfl, SqL.of hc3, fun e ne => ?_⟩
          rw [cut_dropS]
          have s5 := same_upd (o := .lst ((row.drop j).map V.str)) ne
          have he5 : (upd H3 e (.lst ((row.drop j).map V.str))) e = some (.lst ((row.drop j).map V.str)) := upd_same
          generalize upd H3 e (.lst ((row.drop j).map V.str)) = H5 at s5 he5
          refine ⟨o, dx, d, pa, sa, e, kvs, ns, kn, F0, kp, ks, sn, row.drop j, Df, kf, rfl, s5 _ _ ho3, Same.rd s5 hd3, ndp, nds, nps, DP3.keep s5.tupP, ln, I3.same s5, he5, ring_of c2 (drop_first hj) drn, fun y my => rn y (List.mem_of_mem_drop my), drk, fun kp6 ks6 Df6 kf6 H6 I6 b6 => ?_⟩
          have b06 := (b3.trans (But.of s5)).trans b6
          have hc6 := b6.lstD (s5 _ _ I3.hp) (s5 _ _ I3.hs) _ _ (s5 _ _ hc3)
          refine ⟨_, rfl, _, rfl, _, rfl, c, _, rfl, SqL.of hc6, fun c7 nc7 => ?_⟩
          rw [cut_takeS]
          have s7 := same_upd (o := .lst ((row.take j).map V.str)) nc7
          have zd : z ∈ row.drop j := at_mem (drop_first hj)
          refine ⟨_, c7, row.take j, kn ++ row.drop j, kp6, ks6, _, Df6, kf6, [], row.drop j, rfl, b06.trans (But.of s7), upd_same, I6.same s7,
            ⟨c1, (List.take_sublist _ _).nodup nd, fun y my => rn y (List.mem_of_mem_take my), fun y my k => ?_, .inr ⟨z, rfl, List.mem_append_right _ zd, ring_way c2 (drop_first hj) drn⟩⟩, fun y my => List.mem_append_left _ my, ?_⟩
          · rcases List.mem_append.mp k with k | k
            · exact rk y (List.mem_of_mem_take my) k
            · have nd2 := nd
              rw [← List.take_append_drop j row] at nd2
              exact (List.nodup_append.mp nd2).2.2 y my y k rfl
          · rcases hin with k | k
            · exact .inl (List.mem_append_left _ k)
            · rw [← List.take_append_drop j row] at k
              rcases List.mem_append.mp k with k | k
              · exact .inr k
              · exact .inl (List.mem_append_right _ k)
        · refine noB (decide_eq_false zr) ?_
          have zk := (bn z rfl).2.resolve_left zr
          obtain ⟨l0, r0, W, _⟩ := I0.ps.way z zk
          exact ⟨_, c, row, kn, kp, ks, sn, Df, kf, l0, r0, rfl, b3, hc3, I3, ⟨ch, nd, rn, rk, .inr ⟨z, rfl, zk, W⟩⟩, fun _ m => m, hin⟩
    rintro σ H4 ⟨y5, c4, p, kn4, kp4, ks4, sn4, Df4, kf4, l0, r0, rfl, b4, hc4, I4, Ld, sub4, in4⟩
    clear hd3 DP3 b3 I3 ho3 s03 s3 s2 hm3 hc3 lrow ch hh nd rn rk bn M hm ht nm
    have ho4 := b4.insD I0.hp I0.hs ho
    -- the post behind
    refine ⟨fun σ H5 => σ = [some (.ref o), some (.str x), some (.ref m), some (osV b), some (.ref c4), y5, some (.int ((l0.length : Nat) : Int)), some (.int (moreS F0 l0)), some (osV r0[0]?), none] ∧ Same H4 H5, ?_, ?_⟩
    · rcases Ld.hb with ⟨e1, e2, e3⟩ | ⟨z, e1, zk, W⟩
      · subst e1 e2 e3
        refine ⟨_, rfl, _, rfl, (by show 3 ≤ sizeLine; decide), fun t nt => ?_⟩
        exact ⟨t, _, rfl, SqT.of upd_same, rfl, _, _, rfl, _, _, rfl, _, _, rfl, rfl, rfl, same_upd nt⟩
      · subst e1
        obtain ⟨v, ev3, t, l1, r1, rfl, ht, W1⟩ := I4.dp.val z zk
        rw [(way_uniq W1 W).1, (way_uniq W1 W).2] at ht
        exact ⟨_, rfl, _, rfl, _, rfl, o, CW, dx, _, _, rfl, ho4, GW.cl, GW.nO, fldsW_o _ _ _, _, rfl, pa, _, rfl, .inl ⟨kp4, Sum.inr z, .inl I4.hp, rfl, ev3.symm⟩, t, _, rfl, SqT.of ht, rfl, _, _, rfl, _, _, rfl, _, _, rfl, rfl, rfl, Same.refl _⟩
    rintro σ H5 ⟨rfl, s5⟩
    have b5 := b4.trans (But.of s5)
    have hc5 := s5 _ _ hc4
    have I5 := I4.same s5
    have ep : p.drop (p.length - 0) = [] := List.drop_length
    refine ⟨_, rfl, c4, _, rfl, SqL.of hc5, for_it (walk_rev (K := K) (a := c4) (xs := p.map V.str)) (fun n σ H6 => ∃ y9 kp6, σ = [some (.ref o), some (.str x), some (.ref m), some (osV b), some (.ref c4), y5, some (.int ((n + l0.length : Nat) : Int)), some (.int (moreS F0 (p.drop (p.length - n) ++ l0))), some (osV r0[0]?), y9] ∧ But pa sa H H6 ∧
        H6 c4 = some (.lst (p.map V.str)) ∧ H6 pa = some (.dK kp6) ∧ H6 sa = some (.dK ks4) ∧ Dic (isPost F0) H6 kp6 (kn4 ++ p.reverse.take n) ∧ Dic (isSpot F0 Df4 kf4) H6 ks4 sn4)
      ⟨_, kp4, by rw [ep, Nat.zero_add]; rfl, b5, hc5, I5.hp, I5.hs, by rw [List.take_zero, List.append_nil]; exact I5.dp, I5.ds⟩ (fun n σ H6 _ q => by obtain ⟨_, _, _, _, q, _⟩ := q; exact SqL.of q) (fun n v σ H6 H6' hn q y => ?_) fun σ H6 q => ?_⟩
    · obtain ⟨y9, kp6, rfl, b6, hc6, hp6, hq6, DO6, DS6⟩ := q
      obtain ⟨e1, e2⟩ := y
      subst e1
      rw [List.length_map] at hn e2
      obtain ⟨y, hy, rfl⟩ := map_at e2
      have ym := at_mem hy
      have hr' : p.reverse[n]? = some y := by rw [List.getElem?_reverse hn]; exact hy
      have nyk : y ∉ kn4 ++ p.reverse.take n := fun k => (List.mem_append.mp k).elim (Ld.dj y ym) (nd_take ((List.reverse_perm p).nodup_iff.mpr Ld.nd) hr')
      have kl : kp6.length < sizeLine := by
        have q1 := nd_sub_len I4.ps.nd I4.ps.sub
        have q2 := nd_sub_len Ld.nd Ld.pn
        rw [DO6.len, List.length_append, List.length_take, List.length_reverse]
        exact big1 (by omega)
      have yn := Ld.pn y ym
      obtain ⟨v, ev, t, rfl, ht⟩ := DP.val y yn
      have ht6 := b6.tupD I0.hp I0.hs _ _ ht
      have ho6 := b6.insD I0.hp I0.hs ho
      have hd6 := b6.rdD ndp nds hd0
      refine ⟨_, rfl, _, _, rfl, rfl, ?_⟩
      refine ⟨_, rfl, _, rfl, o, CW, dx, _, _, rfl, ho6, GW.cl, GW.nP, fldsW_p _ _ _, _, rfl, d, _, rfl, .inl ⟨kvs, Sum.inr y, hd6, rfl, ev.symm⟩, t, _, _, _, rfl, rfl, SqT.of ht6, atI_nat (j := 1) rfl, _, _, rfl, rfl, ?_⟩
      have ei : ((n + l0.length : Nat) : Int) + 1 = ((n + 1 + l0.length : Nat) : Int) := by omega
      have lt : p.length - 1 - n < p.length := by omega
      have ed : p.drop (p.length - (n + 1)) = y :: p.drop (p.length - n) := by
        rw [show p.length - (n + 1) = p.length - 1 - n by omega, List.drop_eq_getElem_cons lt, show p.length - 1 - n + 1 = p.length - n by omega]
        rw [List.getElem?_eq_getElem lt] at hy
        rw [Option.some.inj hy]
      have em : moreS F0 (p.drop (p.length - n) ++ l0) + (F0 y).2 = moreS F0 (p.drop (p.length - (n + 1)) ++ l0) := by
        rw [ed, List.cons_append, moreS_cons, Int.add_comm]
      have W : WayOf F0 y (p.drop (p.length - (n + 1)) ++ l0) r0 := by
        have q := Ld.way' I4.ps.cl hy
        rw [show p.length - 1 - n = p.length - (n + 1) by omega] at q
        exact q
      have lw : (p.drop (p.length - (n + 1)) ++ l0).length = n + 1 + l0.length := by
        rw [List.length_append, List.length_drop]
        omega
      refine ⟨.int ((n + 1 + l0.length : Nat) : Int), by rw [← ei]; rfl, .int (moreS F0 (p.drop (p.length - (n + 1)) ++ l0)), by rw [← em]; rfl, _, rfl, (by show 3 ≤ sizeLine; decide), fun t1 nt1 => ?_⟩
      have s7 := same_upd (o := .tup [V.int ((n + 1 + l0.length : Nat) : Int), V.int (moreS F0 (p.drop (p.length - (n + 1)) ++ l0)), osV r0[0]?]) nt1
      have ht1 : (upd H6' t1 (.tup [V.int ((n + 1 + l0.length : Nat) : Int), V.int (moreS F0 (p.drop (p.length - (n + 1)) ++ l0)), osV r0[0]?])) t1 = some (.tup [V.int ((n + 1 + l0.length : Nat) : Int), V.int (moreS F0 (p.drop (p.length - (n + 1)) ++ l0)), osV r0[0]?]) := upd_same
      generalize upd H6' t1 (.tup [V.int ((n + 1 + l0.length : Nat) : Int), V.int (moreS F0 (p.drop (p.length - (n + 1)) ++ l0)), osV r0[0]?]) = H7 at s7 ht1
      have hp7 := s7 _ _ hp6
      have hq7 := s7 _ _ hq6
      refine ⟨_, rfl, o, CW, dx, _, _, rfl, s7 _ _ ho6, GW.cl, GW.nO, fldsW_o _ _ _, _, rfl, pa, _, rfl, DPut.k (k := Sum.inr y) hp7 kl, ?_⟩
      have b68 : But pa sa H6' (upd H7 pa (.dK (putK kp6 (Sum.inr y) (.ref t1)))) := (But.of s7).putT (.inl rfl)
      have b78 : But pa sa H7 (upd H7 pa (.dK (putK kp6 (Sum.inr y) (.ref t1)))) := (But.refl H7).putT (.inl rfl)
      have tk := b68.tupD hp6 hq6
      have tl := b68.lstD hp6 hq6
      refine ⟨_, _, by rw [← ei, ← em]; rfl, b6.trans b68, tl _ _ hc6, upd_same, by rw [upd_ne nps.symm]; exact hq7, ?_, DS6.mono fun _ _ _ g => g.keep tk tl⟩
      rw [take_next hr', ← List.append_assoc]
      exact DO6.snoc nyk ⟨t1, _, r0, rfl, by rw [lw]; exact b78.tupD hp7 hq7 _ _ ht1, W⟩ fun _ _ _ g => g.keep tk
    · obtain ⟨y9, kp6, rfl, b6, hc6, hp6, hq6, DO6, DS6⟩ := q
      have el : p.reverse.take (p.map V.str).length = p.reverse := by rw [List.length_map]; exact List.take_of_length_le (Nat.le_of_eq List.length_reverse)
      rw [el] at DO6
      refine kk _ kp6 ks4 sn4 Df4 kf4 H6 ⟨hp6, hq6, DO6, DS6, I4.ps.lead Ld, I4.sp⟩ (fun y m => List.mem_append_left _ (sub4 y m)) ?_ b6
      rcases in4 with k | k
      · exact List.mem_append_left _ k
      · exact List.mem_append_right _ (List.mem_reverse.mpr k)
end
end Y

namespace Y
open PySem PySem.Spec PyProof.Rows L2
theorem PwIn.moved {H H' : Hp} {pa sa : Addr} {F : PF} {ns kn : List Str} {kp ks : List (Key × V)} {sn : List Str} {Df : Str → List Str} {kf : Str → Nat} (I : PwIn H pa sa F ns kn kp ks sn Df kf) (hp : H' pa = some (.dK kp)) (hs : H' sa = some (.dK ks)) (h : ∀ t xs, H t = some (.tup xs) → H' t = some (.tup xs)) (h2 : ∀ t xs, H t = some (.lst xs) → H' t = some (.lst xs)) : PwIn H' pa sa F ns kn kp ks sn Df kf :=
  ⟨hp, hs, I.dp.mono fun _ _ _ g => g.keep h, I.ds.mono fun _ _ _ g => g.keep h h2, I.ps, I.sp⟩
section
variable {P : Program} {w : World} {K : PySem.W.Frag} {mg : Str → Option Value} {base : Heap} {CW : Addr}
abbrev s_Powers___init : Stmt := inClass (topS 26) 0
theorem sc_Powers___init : FnScope ["self", "push", "name"] ["self", "push"] (defScope s_Powers___init) := ⟨rfl, rfl, rfl, by decide +kernel, rfl, by decide +kernel, by decide +kernel⟩
def spInitW (CW : Addr) : Sp := fun vs H Q _ => ∃ (o dx d : Addr) (H0 : Hp) (kvs : List (Key × V)) (ns : List Str) (F : PF) (z : Addr) (u : HO), vs = [.ref o, .ref d] ∧ Same H0 H ∧ H0 o = none ∧ H o = some (.ins CW dx []) ∧ Pu H0 d kvs ns F ∧ H0 z = some u ∧ Mut (some u) ∧ (∀ od, ∃ o, ∀ H1, Lk z od u H0 H1 → H1 d = some (.frz o (.dK kvs))) ∧
  ∀ (pa sa : Addr) (kn : List Str) (kp ks : List (Key × V)) (sn : List Str) (Df : Str → List Str) (kf : Str → Nat) H', H0 pa = none → H0 sa = none → pa ≠ sa → o ≠ pa → o ≠ sa → PwIn H' pa sa F ns kn kp ks sn Df kf → (∀ od, PwIn (upd H' z (.frz od u)) pa sa F ns kn kp ks sn Df kf) → (∀ y ∈ ns, y ∈ kn) → H' o = some (.ins CW dx (fldsW (.ref d) (.ref pa) (.ref sa))) → Same H0 H' → Q .non H'
theorem ok_initW {f : Addr} {fd : FuncData} (F : Fun K "__init__" "Powers.__init__" s_Powers___init f fd) (T : Bp mg) (GW : Pwc K mg CW) (M_post : HasM P w K mg base CW "_post" 2 ["self", "name"] (spPost CW)) :
    FnOk P w K mg base CX0 3 f fd ["self", "push"] (spInitW CW) := by
  refine F.ok sc_Powers___init (fun vs H Q E h => ?_) (fun cdv A outer s₀ H vs Q E hr h => ?_)
  · obtain ⟨o, dx, d, H0, kvs, ns, F0, z, u, rfl, _⟩ := h
    rfl
  · obtain ⟨o, dx, d, H0, kvs, ns, F0, z, u, rfl, s0, o0, ho, p, hz, mu, wk, kk⟩ := h
    refine ⟨_, (pss_cons (ps_fld (pv 0) (pv 1) rfl)
 (pss_cons (ps_fld (pv 0) pe_dnewK rfl)
 (pss_cons (ps_fld (pv 0) pe_dnewK rfl)
 (pss_one (ps_lock (ps_for PassesOwn.never rfl (pi_keys (pv 1)) (pg_name (i := 2) sc_Powers___init.nd rfl (.inl rfl))
  (pss_one (ps_expr (M_post.call (hr.mono (by decide)) (pv 0) (pa_cons (pv 2) pa_nil)))))))))), ?_⟩
    refine ⟨_, rfl, _, rfl, o, CW, dx, _, rfl, ho, GW.cl, GW.nP, (by show 0 < 1000; decide), ?_⟩
    have s1 : Same H0 (upd H o (.ins CW dx (putF "push" (.ref d) []))) := s0.put o0
    have ho1 : (upd H o (.ins CW dx (putF "push" (.ref d) []))) o = some (.ins CW dx (putF "push" (.ref d) [])) := upd_same
    generalize upd H o (.ins CW dx (putF "push" (.ref d) [])) = H1 at s1 ho1
    intro pa npa
    have pa0 : H0 pa = none := s1.free npa
    have nop : o ≠ pa := ne_of_none ho1 npa
    refine ⟨_, rfl, o, CW, dx, _, rfl, same_upd npa _ _ ho1, GW.cl, GW.nO, (by show 1 < 1000; decide), ?_⟩
    generalize hH3 : upd (upd H1 pa (.dK [])) o (.ins CW dx (putF "posts" (.ref pa) (putF "push" (.ref d) []))) = H3
    have s3 : Same H0 H3 := by rw [← hH3]; exact (s1.put pa0).put o0
    have ho3 : H3 o = some (.ins CW dx (putF "posts" (.ref pa) (putF "push" (.ref d) []))) := by rw [← hH3]; exact upd_same
    have hp3 : H3 pa = some (.dK []) := by rw [← hH3, upd_ne nop.symm]; exact upd_same
    clear hH3 ho1 npa s1
    intro sa nsa
    have sa0 : H0 sa = none := s3.free nsa
    have nos : o ≠ sa := ne_of_none ho3 nsa
    have nps : pa ≠ sa := ne_of_none hp3 nsa
    refine ⟨_, rfl, o, CW, dx, _, rfl, same_upd nsa _ _ ho3, GW.cl, GW.nS, (by show 2 < 1000; decide), ?_⟩
    generalize hH4 : upd (upd H3 sa (.dK [])) o (.ins CW dx (putF "spots" (.ref sa) (putF "posts" (.ref pa) (putF "push" (.ref d) [])))) = H4
    have s4 : Same H0 H4 := by rw [← hH4]; exact (s3.put sa0).put o0
    have ho4 : H4 o = some (.ins CW dx (fldsW (.ref d) (.ref pa) (.ref sa))) := by rw [← hH4, upd_same, fldsW_eq]
    have hp4 : H4 pa = some (.dK []) := by rw [← hH4, upd_ne nop.symm, upd_ne nps]; exact hp3
    have hq4 : H4 sa = some (.dK []) := by rw [← hH4, upd_ne nos.symm]; exact upd_same
    clear hH4 hp3 ho3 nsa s3
    have ndp : d ≠ pa := fun e => by
      rcases p.at_ with k | ⟨u, k⟩ <;> rw [e, pa0] at k <;> cases k
    have nds : d ≠ sa := fun e => by
      rcases p.at_ with k | ⟨u, k⟩ <;> rw [e, sa0] at k <;> cases k
    have nz : ∀ c, H0 c = none → z ≠ c := fun c n e => by rw [e, n] at hz; cases hz
    refine ⟨z, u, s4 _ _ hz, mu, fun od => ?_⟩
    obtain ⟨o', wk⟩ := wk od
    refine ⟨_, rfl, d, o', rfl, .inl ⟨kvs, wk _ (Lk.begin s4), for_it (walk_keys (d := d) (o := o') (kvs := kvs)) (fun i σ H5 => ∃ y2 kn kp ks sn Df kf, σ = [some (.ref o), some (.ref d), y2] ∧ Lk z od u H0 H5 ∧ H5 o = some (.ins CW dx (fldsW (.ref d) (.ref pa) (.ref sa))) ∧ PwIn H5 pa sa F0 ns kn kp ks sn Df kf ∧ ∀ y ∈ ns.take i, y ∈ kn)
      ⟨none, [], [], [], [], fun _ => [], fun _ => 0, rfl, Lk.begin s4, by rw [upd_ne (nz o o0).symm]; exact ho4, ⟨by rw [upd_ne (nz pa pa0).symm]; exact hp4, by rw [upd_ne (nz sa sa0).symm]; exact hq4, Dic.nil, Dic.nil, pos0, spo0⟩, fun _ m => (nomatch m)⟩
      (fun i σ H5 _ q => by obtain ⟨_, _, _, _, _, _, _, _, q, _⟩ := q; exact wk _ q) (fun i v σ H5 H5' hi q y => ?_) fun σ H5 q => ?_⟩⟩
    · obtain ⟨y2, kn, kp, ks, sn, Df, kf, rfl, L5, ho5, I5, in5⟩ := q
      obtain ⟨e1, kx, v0, hx, rfl⟩ := y
      subst e1
      obtain ⟨x, hxi, xm, rfl, ev, _⟩ := p.dic.at_ p.nd hx
      refine ⟨_, rfl, o, dx, _, rfl, ho5, fldsW_no _ _ _ (by decide +kernel) (by decide +kernel) (by decide +kernel), _, rfl, ?_⟩
      refine ⟨o, dx, d, pa, sa, kvs, ns, kn, F0, x, kp, ks, sn, Df, kf, rfl, ho5, .inr ⟨o', wk _ L5⟩, ndp, nds, nps, p.dic.keep (L5.tupM hz mu), p.l1, p.cl, xm, I5, fun kn6 kp6 ks6 sn6 Df6 kf6 H6 I6 sub6 x6 b6 => ?_⟩
      refine ⟨_, kn6, kp6, ks6, sn6, Df6, kf6, rfl, ⟨b6 _ _ L5.fz (nz pa pa0) (nz sa sa0), fun c w n e => b6 _ _ (L5.st c w n e) (ne_of_none e pa0) (ne_of_none e sa0)⟩, b6 _ _ ho5 nop nos, I6, fun y my => ?_⟩
      rw [take_next hxi] at my
      rcases List.mem_append.mp my with k | k
      · exact sub6 y (in5 y k)
      · rw [List.mem_singleton.mp k]; exact x6
    · obtain ⟨y2, kn, kp, ks, sn, Df, kf, rfl, L5, ho5, I5, in5⟩ := q
      rw [p.dic.len, List.take_length] at in5
      refine ⟨L5.fz, ?_⟩
      have keep : ∀ c w, (∀ o' u', w ≠ .frz o' u') → H5 c = some w → (upd H5 z u) c = some w := fun c w nw e => by
        rw [upd_ne (fun k => by rw [k, L5.fz] at e; cases e; exact nw _ _ rfl)]
        exact e
      have keep2 : ∀ od' c w, (∀ o' u', w ≠ .frz o' u') → H5 c = some w → (upd (upd H5 z u) z (.frz od' u)) c = some w := fun od' c w nw e => by
        rw [upd_ne (fun k => by rw [k, L5.fz] at e; cases e; exact nw _ _ rfl)]
        exact keep c w nw e
      exact kk pa sa kn kp ks sn Df kf _ pa0 sa0 nps nop nos (I5.moved (keep _ _ (fun _ _ e => nomatch e) I5.hp) (keep _ _ (fun _ _ e => nomatch e) I5.hs) (fun t xs e => keep _ _ (fun _ _ e => nomatch e) e) fun t xs e => keep _ _ (fun _ _ e => nomatch e) e) (fun od' => I5.moved (keep2 od' _ _ (fun _ _ e => nomatch e) I5.hp) (keep2 od' _ _ (fun _ _ e => nomatch e) I5.hs) (fun t xs e => keep2 od' _ _ (fun _ _ e => nomatch e) e) fun t xs e => keep2 od' _ _ (fun _ _ e => nomatch e) e) in5 (keep _ _ (fun _ _ e => nomatch e) ho5) (L5.done hz)
abbrev s_Powers__walked : Stmt := inClass (topS 26) 4
theorem sc_Powers__walked : FnScope ["self", "name", "many", "more", "_", "step"] ["self", "name", "many"] (defScope s_Powers__walked) := ⟨rfl, rfl, rfl, by decide +kernel, rfl, by decide +kernel, by decide +kernel⟩
def spWalked (CW : Addr) : Sp := fun vs H Q _ => ∃ (o dx d : Addr) (va vb : V) (kvs : List (Key × V)) (ns : List Str) (F : PF) (x : Str) (n : Nat) (l r : List Str), vs = [.ref o, .str x, .int (n : Nat)] ∧ H o = some (.ins CW dx (fldsW (.ref d) va vb)) ∧
  Rd H d (.dK kvs) ∧ Dic (isPair F) H kvs ns ∧ ns.length ≤ 1000 ∧ (∀ x ∈ ns, ∀ y, (F x).1 = some y → y ∈ ns) ∧ x ∈ ns ∧ WayOf F x l r ∧ n < l.length ∧
  ∀ t H', Same H H' → H' t = some (.tup [osV (powF F n x).1, .int (powF F n x).2]) → Q (.ref t) H'
theorem ok_walked {f : Addr} {fd : FuncData} (F : Fun K "_walked" "Powers._walked" s_Powers__walked f fd) (T : Bp mg) (GW : Pwc K mg CW) : FnOk P w K mg base CX0 1 f fd ["self", "name", "many"] (spWalked CW) := by
  refine F.ok sc_Powers__walked (fun vs H Q E h => ?_) (fun cdv A outer s₀ H vs Q E hr h => ?_)
  · obtain ⟨o, dx, d, va, vb, kvs, ns, F0, x, n, l, r, rfl, _⟩ := h
    rfl
  · obtain ⟨o, dx, d, va, vb, kvs, ns, F0, x, n, l, r, rfl, ho, hd0, DP, ln, cl, xm, W, nl, kk⟩ := h
    have hu := hu_of hr
    have lns := W.inNs cl xm
    have ll : l.length ≤ ns.length := nd_sub_len (List.nodup_append.mp W.nd).1 fun y m => lns y (List.mem_append_left _ m)
    have lx : l[0]? = some x := by
      have q := W.hd
      cases l with
      | nil => exact absurd nl (Nat.not_lt_zero _)
      | cons y t => exact q
    refine ⟨_, (pss_cons (ps_set (i := 3) sc_Powers__walked.nd rfl (.inl rfl) pe_int)
 (pss_cons (ps_for PassesOwn.never rfl (pi_range1 (by rfl) T.range (pa_cons (pv 2) pa_nil)) (pg_name (i := 4) sc_Powers__walked.nd rfl (.inl rfl))
  (pss_cons (ps_asg (pe_dget hu (pe_fld (pv 0) rfl) (pv 1) (fun _ _ => rfl)) (pg_tup (by rfl) (pgs_cons (pg_name (i := 1) sc_Powers__walked.nd rfl (.inl rfl)) (pgs_cons (pg_name (i := 5) sc_Powers__walked.nd rfl (.inl rfl)) pgs_nil))))
 (pss_one (ps_aug (i := 3) sc_Powers__walked.nd rfl (.inl rfl) (pv 5) ip_add))))
 (pss_one (ps_ret (pe_tup (pa_cons (pv 1) (pa_cons (pv 3) pa_nil))))))), ?_⟩
    refine ⟨_, rfl, n, rfl, by omega, by omega, for_range (lo := 0) (n := ((n : Int)).toNat) (fun i σ H1 => ∃ y z m y4 y5, σ = [some (.ref o), some (.str y), some (.int (n : Nat)), some (.int m), y4, y5] ∧ H1 = H ∧ l[i]? = some y ∧ powF F0 n x = ((powF F0 (n - i) y).1, (powF F0 (n - i) y).2 + m) ∧ z = 0)
      ⟨x, 0, 0, _, _, rfl, rfl, lx, by rw [Nat.sub_zero, Int.add_zero], rfl⟩ ?_ ?_⟩
    · rintro i σ H1 hi ⟨y, z, m, y4, y5, rfl, rfl, hy, ep, _⟩
      have hi : i < n := by omega
      have ym := lns y (List.mem_append_left _ (at_mem hy))
      obtain ⟨v, ev, t, rfl, ht⟩ := DP.val y ym
      have hy2 : l[i + 1]? = some l[i + 1] := List.getElem?_eq_getElem (by omega)
      have ea : (l ++ r)[i]? = some y := by rw [List.getElem?_append_left (by omega)]; exact hy
      have eb : (l ++ r)[i + 1]? = some l[i + 1] := by rw [List.getElem?_append_left (by omega)]; exact hy2
      have q := chain_at W.ch ea eb
      rw [q] at ht
      refine ⟨_, rfl, o, CW, dx, _, _, rfl, ho, GW.cl, GW.nP, fldsW_p _ _ _, _, rfl, d, _, rfl, .inl ⟨kvs, Sum.inr y, hd0, rfl, ev.symm⟩, t, _, rfl, SqT.of ht, rfl, _, _, rfl, _, _, rfl, rfl, ?_⟩
      refine ⟨_, rfl, _, rfl, _, _, rfl, rfl, ?_⟩
      refine ⟨l[i + 1], 0, m + (F0 y).2, _, _, rfl, rfl, hy2, ?_, rfl⟩
      rw [ep, show n - i = (n - (i + 1)) + 1 by omega, pow_next q]
      show ((powF F0 (n - (i + 1)) l[i + 1]).1, (powF F0 (n - (i + 1)) l[i + 1]).2 + (F0 y).2 + m) = _
      rw [Int.add_assoc, Int.add_comm (F0 y).2]
    · rintro σ H1 ⟨y, z, m, y4, y5, rfl, rfl, hy, ep, _⟩
      have e0 : n - ((n : Int)).toNat = 0 := by omega
      rw [e0] at ep
      refine ⟨_, rfl, _, rfl, (by show 2 ≤ sizeLine; decide), fun t nt => kk t _ (same_upd nt) ?_⟩
      rw [upd_same, ep]
      show some (HO.tup [V.str y, V.int m]) = some (HO.tup [V.str y, V.int (0 + m)])
      rw [Int.zero_add]
end
end Y

namespace Y
open PySem PySem.Spec PyProof.Rows L2
section
variable {P : Program} {w : World} {K : PySem.W.Frag} {mg : Str → Option Value} {base : Heap} {CW : Addr}
abbrev s_Powers_pair : Stmt := inClass (topS 26) 3
theorem sc_Powers_pair : FnScope ["self", "name", "many", "ahead", "total", "entry", "ring", "sums", "k", "rounds", "rest", "gone"] ["self", "name", "many"] (defScope s_Powers_pair) := ⟨rfl, rfl, rfl, by decide +kernel, rfl, by decide +kernel, by decide +kernel⟩
def spPairW (CW : Addr) : Sp := fun vs H Q _ => ∃ (o dx d pa sa : Addr) (kvs : List (Key × V)) (ns kn : List Str) (F : PF) (x : Str) (n : Nat) (kp ks : List (Key × V)) (sn : List Str) (Df : Str → List Str) (kf : Str → Nat), vs = [.ref o, .str x, .int (n : Nat)] ∧ H o = some (.ins CW dx (fldsW (.ref d) (.ref pa) (.ref sa))) ∧
  Rd H d (.dK kvs) ∧ Dic (isPair F) H kvs ns ∧ ns.length ≤ 1000 ∧ (∀ x ∈ ns, ∀ y, (F x).1 = some y → y ∈ ns) ∧ x ∈ kn ∧ PwIn H pa sa F ns kn kp ks sn Df kf ∧ (∀ x, 0 ≤ (F x).2) ∧ (∀ x, (F x).2 ≤ 1000000) ∧
  ∀ t H', Same H H' → H' t = some (.tup [osV (powF F n x).1, .int (powF F n x).2]) → Q (.ref t) H'
theorem moreS_le {F : PF} {B : Int} (h0 : ∀ x, 0 ≤ (F x).2) (hB : ∀ x, (F x).2 ≤ B) : ∀ (r : List Str), 0 ≤ moreS F r ∧ moreS F r ≤ B * (r.length : Nat)
  | [] => ⟨Int.le_refl _, by show (0 : Int) ≤ B * ((0 : Nat) : Int); rw [Int.natCast_zero, Int.mul_zero]; exact Int.le_refl _⟩
  | x :: t => by
    obtain ⟨a, b⟩ := moreS_le h0 hB t
    have c := h0 x
    have d := hB x
    rw [moreS_cons, List.length_cons, show ((t.length + 1 : Nat) : Int) = (t.length : Int) + 1 by omega, Int.mul_add, Int.mul_one]
    omega
theorem ok_pair {f : Addr} {fd : FuncData} (F : Fun K "pair" "Powers.pair" s_Powers_pair f fd) (T : Bp mg) (GW : Pwc K mg CW) (M_walked : HasM P w K mg base CW "_walked" 1 ["self", "name", "many"] (spWalked CW)) : FnOk P w K mg base CX0 2 f fd ["self", "name", "many"] (spPairW CW) := by
  refine F.ok sc_Powers_pair (fun vs H Q E h => ?_) (fun cdv A outer s₀ H vs Q E hr h => ?_)
  · obtain ⟨o, dx, d, pa, sa, kvs, ns, kn, F0, x, n, kp, ks, sn, Df, kf, rfl, _⟩ := h
    rfl
  · obtain ⟨o, dx, d, pa, sa, kvs, ns, kn, F0, x, n, kp, ks, sn, Df, kf, rfl, ho, hd0, DP, ln, cl, xk, I0, mo, mB, kk⟩ := h
    have hu := hu_of hr
    have xm := I0.ps.sub x xk
    obtain ⟨v, ev, t, l, r, rfl, ht, W⟩ := I0.dp.val x xk
    refine ⟨_, (pss_cons (ps_asg (pe_dget hu (pe_fld (pv 0) rfl) (pv 1) (fun _ _ => rfl)) (pg_tup (by rfl) (pgs_cons (pg_name (i := 3) sc_Powers_pair.nd rfl (.inl rfl)) (pgs_cons (pg_name (i := 4) sc_Powers_pair.nd rfl (.inl rfl)) (pgs_cons (pg_name (i := 5) sc_Powers_pair.nd rfl (.inl rfl)) pgs_nil)))))
 (pss_cons (ps_if (pt_cmpR op_lt (pv 2) (pv 3) (nomark _))
  (pss_one (ps_ret (M_walked.call (hr.mono (by decide)) (pv 0) (pa_cons (pv 1) (pa_cons (pv 2) pa_nil)))))
  pss_nil)
 (pss_cons (ps_if (pt_cmp (pc_isN (pv 5)))
  (pss_one (ps_ret (pe_tup (pa_cons pe_non (pa_cons (pv 4) pa_nil)))))
  pss_nil)
 (pss_cons (ps_asg (pe_dget hu (pe_fld (pv 0) rfl) (pv 5) (fun _ _ => rfl)) (pg_tup (by rfl) (pgs_cons (pg_name (i := 6) sc_Powers_pair.nd rfl (.inl rfl)) (pgs_cons (pg_name (i := 7) sc_Powers_pair.nd rfl (.inl rfl)) (pgs_cons (pg_name (i := 8) sc_Powers_pair.nd rfl (.inl rfl)) pgs_nil)))))
 (pss_cons (ps_asg (pe_callB (id := "divmod") call_divmod (by rfl) T.divmod (by decide +kernel) (pa_cons (pe_op op_sub (pv 2) (pv 3)) (pa_cons (pe_callB (r := fun xs H Q => ∃ p ys, xs = [.ref p] ∧ (SqL K H p ys ∨ SqT K H p ys) ∧ Q (.int ys.length) H) call_len_seq (by rfl) T.len PySem.boot_len (pa_cons (pv 6) pa_nil)) pa_nil))) (pg_tup (by rfl) (pgs_cons (pg_name (i := 9) sc_Powers_pair.nd rfl (.inl rfl)) (pgs_cons (pg_name (i := 10) sc_Powers_pair.nd rfl (.inl rfl)) pgs_nil))))
 (pss_cons (ps_set (i := 11) sc_Powers_pair.nd rfl (.inl rfl) (pe_op op_add (pv 8) (pv 10)))
 (pss_one (ps_ret (pe_tup (pa_cons (pe_ix ix_list (pv 6) (pe_op op_mod (pv 11) (pe_callB (r := fun xs H Q => ∃ p ys, xs = [.ref p] ∧ (SqL K H p ys ∨ SqT K H p ys) ∧ Q (.int ys.length) H) call_len_seq (by rfl) T.len PySem.boot_len (pa_cons (pv 6) pa_nil))) (fun _ _ => rfl)) (pa_cons (pe_op op_sub (pe_op op_add (pe_op op_add (pv 4) (pe_op op_mul (pv 9) (pe_ix ix_list (pv 7) (pe_callB (r := fun xs H Q => ∃ p ys, xs = [.ref p] ∧ (SqL K H p ys ∨ SqT K H p ys) ∧ Q (.int ys.length) H) call_len_seq (by rfl) T.len PySem.boot_len (pa_cons (pv 6) pa_nil)) (fun _ _ => rfl)))) (pe_ix ix_list (pv 7) (pv 11) (fun _ _ => rfl))) (pe_ix ix_list (pv 7) (pv 8) (fun _ _ => rfl))) pa_nil))))))))))), ?_⟩
    refine ⟨_, rfl, o, CW, dx, _, _, rfl, ho, GW.cl, GW.nO, fldsW_o _ _ _, _, rfl, pa, _, rfl, .inl ⟨kp, Sum.inr x, .inl I0.hp, rfl, ev.symm⟩, t, _, rfl, SqT.of ht, rfl, _, _, rfl, _, _, rfl, _, _, rfl, rfl, ?_⟩
    refine ⟨_, rfl, _, rfl, _, _, rfl, rfl, _, rfl, ite2 (fun hc => ?_) (fun hc => ?_)⟩
    · have nl : n < l.length := by
        have z : ((n : Nat) : Int) < ((l.length : Nat) : Int) := of_decide_eq_true hc
        omega
      exact ⟨_, rfl, o, dx, _, rfl, ho, fldsW_no _ _ _ (by decide +kernel) (by decide +kernel) (by decide +kernel), _, rfl, _, rfl, o, dx, d, _, _, kvs, ns, F0, x, n, l, r, rfl, ho, hd0, DP, ln, cl, xm, W, nl, kk⟩
    have nl : l.length ≤ n := by
      have z : ¬ ((n : Nat) : Int) < ((l.length : Nat) : Int) := fun k => hc (decide_eq_true k)
      omega
    cases e : r[0]? with
    | none =>
      have er : r = [] := by
        cases r with
        | nil => rfl
        | cons y u => cases e
      subst er
      have q := pow_ended (F := F0) (row := l) (by have c := W.ch; rw [List.append_nil] at c; exact c) (by have c := W.hd; rw [List.append_nil] at c; exact c) (n - l.length)
      rw [show n - l.length + l.length = n by omega] at q
      refine ⟨_, rfl, _, rfl, _, rfl, (by show 2 ≤ sizeLine; decide), fun u nu => kk u _ (same_upd nu) ?_⟩
      rw [upd_same, q]
      rfl
    | some y =>
      have ys : y ∈ sn := by
        obtain ⟨l', r', W', h⟩ := I0.ps.way x xk
        rw [(way_uniq W W').2] at e
        exact h y e
      obtain ⟨v, ev, t2, a, b, rfl, ht2, ha, hb⟩ := I0.ds.val y ys
      have R := I0.sp.ring y ys
      have hk := I0.sp.at_ y ys
      have nd := R.nd
      obtain ⟨z, hz, ep⟩ := pow_ringed W e R hk nl
      have lk := (List.getElem?_eq_some_iff.mp hk).1
      have lDs : (Df y).length ≤ ns.length := nd_sub_len nd fun w wm => I0.ps.sub w (I0.ps.ss w (I0.sp.all y ys w wm).1)
      refine ⟨_, rfl, _, rfl, _, rfl, o, CW, dx, _, _, rfl, ho, GW.cl, GW.nS, fldsW_s _ _ _, _, rfl, sa, _, rfl, .inl ⟨ks, Sum.inr y, .inl I0.hs, rfl, ev.symm⟩, t2, _, rfl, SqT.of ht2, rfl, _, _, rfl, _, _, rfl, _, _, rfl, rfl, ?_⟩
      refine ⟨_, rfl, _, rfl, _, _, rfl, rfl, _, rfl, a, _, rfl, .inl (SqL.of ha), _, _, rfl, ⟨by rw [List.length_map]; omega, by rw [List.length_map]; omega⟩, fun p np => ?_⟩
      rw [List.length_map]
      have s1 := same_upd (o := .tup [V.int ((((n : Nat) : Int) - ((l.length : Nat) : Int)) / (((Df y).length : Nat) : Int)), V.int ((((n : Nat) : Int) - ((l.length : Nat) : Int)) % (((Df y).length : Nat) : Int))]) np
      have hp1 : (upd H p (.tup [V.int ((((n : Nat) : Int) - ((l.length : Nat) : Int)) / (((Df y).length : Nat) : Int)), V.int ((((n : Nat) : Int) - ((l.length : Nat) : Int)) % (((Df y).length : Nat) : Int))])) p = some (.tup [V.int ((((n : Nat) : Int) - ((l.length : Nat) : Int)) / (((Df y).length : Nat) : Int)), V.int ((((n : Nat) : Int) - ((l.length : Nat) : Int)) % (((Df y).length : Nat) : Int))]) := upd_same
      rw [show ((n : Nat) : Int) - ((l.length : Nat) : Int) = ((n - l.length : Nat) : Int) by omega] at s1 hp1 ⊢
      generalize upd H p (.tup [V.int (((n - l.length : Nat) : Int) / (((Df y).length : Nat) : Int)), V.int (((n - l.length : Nat) : Int) % (((Df y).length : Nat) : Int))]) = H1 at s1 hp1
      have ha1 := s1 _ _ ha
      have hb1 := s1 _ _ hb
      have md := Nat.mod_lt (n - l.length) (show 0 < (Df y).length by omega)
      have at1 : ∀ {i : Nat}, i < (Df y).length + (Df y).length + 1 → atI ((prL F0 (Df y) ((Df y).length + (Df y).length + 1)).map V.int) ((i : Nat) : Int) = some (V.int (preS F0 (Df y) i)) := fun h => atI_nat (by rw [List.getElem?_map, prL_at h]; rfl)
      have eg : ((kf y : Nat) : Int) + ((n - l.length : Nat) : Int) % (((Df y).length : Nat) : Int) = ((kf y + (n - l.length) % (Df y).length : Nat) : Int) := by omega
      refine ⟨p, _, rfl, SqT.of hp1, rfl, _, _, rfl, _, _, rfl, rfl, ?_⟩
      refine ⟨_, rfl, _, rfl, _, _, rfl, rfl, ?_⟩
      refine ⟨_, rfl, _, rfl, _, rfl, a, _, rfl, .inl (SqL.of ha1), _, _, rfl, rfl, by rw [List.length_map]; omega, a, _, _, V.str z, rfl, rfl, SqL.of ha1, ?_, ?_⟩
      · rw [List.length_map]
        show atI _ ((((kf y : Nat) : Int) + ((n - l.length : Nat) : Int) % (((Df y).length : Nat) : Int)) % (((Df y).length : Nat) : Int)) = _
        rw [eg, show ((kf y + (n - l.length) % (Df y).length : Nat) : Int) % (((Df y).length : Nat) : Int) = (((kf y + (n - l.length) % (Df y).length) % (Df y).length : Nat) : Int) by omega]
        exact atI_nat (by rw [List.getElem?_map, hz]; rfl)
      obtain ⟨q0, q1⟩ := moreS_le mo mB (Df y)
      have qB : moreS F0 (Df y) ≤ 1000000000 := by
        have : (1000000 : Int) * ((Df y).length : Nat) ≤ 1000000 * 1000 := Int.mul_le_mul_of_nonneg_left (by omega) (by decide)
        omega
      refine ⟨_, rfl, _, rfl, _, rfl, _, rfl, a, _, rfl, .inl (SqL.of ha1), b, _, _, _, rfl, rfl, SqL.of hb1, by rw [List.length_map]; exact at1 (by omega), _, _, rfl, rfl, ?_, ?_⟩
      · rw [preS_full]; exact .inr ⟨by omega, by omega⟩
      refine ⟨_, _, rfl, rfl, _, rfl, .int ((kf y + (n - l.length) % (Df y).length : Nat) : Int), by rw [← eg]; rfl, b, _, _, _, rfl, rfl, SqL.of hb1, at1 (by omega), _, _, rfl, rfl, ?_⟩
      refine ⟨_, rfl, _, rfl, b, _, _, _, rfl, rfl, SqL.of hb1, at1 (by omega), _, _, rfl, rfl, (by show 2 ≤ sizeLine; decide), fun u nu => kk u _ (s1.trans (same_upd nu)) ?_⟩
      rw [upd_same, ep]
      rfl
end
end Y

namespace Y
open PySem PySem.Spec PyProof.Rows L2
theorem way_end {F : PF} {x e : Str} {l r : List Str} (W : WayOf F x l r) (h : r[0]? = some e) : WayOf F e [] r := by
  refine ⟨?_, (List.nodup_append.mp W.nd).2.1, ?_⟩
  · have c := (chain_app.mp W.ch).2
    exact c
  · rw [h]
    cases r with
    | nil => cases h
    | cons y t => exact h
section
variable {P : Program} {w : World} {K : PySem.W.Frag} {mg : Str → Option Value} {base : Heap} {CW : Addr}
abbrev s_Powers_longest : Stmt := inClass (topS 26) 6
theorem sc_Powers_longest : FnScope ["self", "post"] ["self"] (defScope s_Powers_longest) := ⟨rfl, rfl, rfl, by decide +kernel, rfl, by decide +kernel, by decide +kernel⟩
def spLongest (CW : Addr) : Sp := fun vs H Q _ => ∃ (o dx d pa sa : Addr) (ns kn : List Str) (F : PF) (kp ks : List (Key × V)) (sn : List Str) (Df : Str → List Str) (kf : Str → Nat), vs = [.ref o] ∧ H o = some (.ins CW dx (fldsW (.ref d) (.ref pa) (.ref sa))) ∧
  ns.length ≤ 1000 ∧ PwIn H pa sa F ns kn kp ks sn Df kf ∧ 0 < kn.length ∧
  ∀ (m : Int) H', (∀ x ∈ kn, ∀ l r, WayOf F x l r → ((l.length : Nat) : Int) ≤ m) → (∃ x ∈ kn, ∃ l r, WayOf F x l r ∧ m = (l.length : Nat)) → Same H H' → Q (.int m) H'
theorem ok_longest {f : Addr} {fd : FuncData} (F : Fun K "longest" "Powers.longest" s_Powers_longest f fd) (T : Bp mg) (GW : Pwc K mg CW) : FnOk P w K mg base CX0 1 f fd ["self"] (spLongest CW) := by
  refine F.ok sc_Powers_longest (fun vs H Q E h => ?_) (fun cdv A outer s₀ H vs Q E hr h => ?_)
  · obtain ⟨o, dx, d, pa, sa, ns, kn, F0, kp, ks, sn, Df, kf, rfl, _⟩ := h
    rfl
  · obtain ⟨o, dx, d, pa, sa, ns, kn, F0, kp, ks, sn, Df, kf, rfl, ho, ln, I0, lk, kk⟩ := h
    have hu := hu_of hr
    have nop : o ≠ pa := fun e => by rw [e, I0.hp] at ho; cases ho
    have lkn : kn.length ≤ ns.length := nd_sub_len I0.ps.nd I0.ps.sub
    refine ⟨_, (pss_one (ps_ret (pe_callB (id := "max") (cr_max (by rfl)) (by rfl) T.max (by decide +kernel) (pa_cons (pe_lock (pe_lc (own := [("post", 1)]) (g := gName 1) (tt := tYes) (by rfl) sc_Powers_longest.nd (pi_values (pe_fld (pv 0) rfl)) (blkOk_by (N := ["self", "post"]) (sc := defScope s_Powers_longest) (by decide +kernel)) (fun _ _ _ _ _ => pg_name (i := 1) sc_Powers_longest.nd rfl (.inl rfl)) (fun _ _ _ _ _ => pts_nil) (fun _ _ _ _ _ => (pe_ix (show IxR _ (rIxT K) from ix_tup) (pv 1) pe_int (fun _ _ => rfl))))) pa_nil)))), ?_⟩
    refine ⟨pa, _, I0.hp, trivial, fun od => ⟨_, rfl, o, CW, dx, _, _, rfl, by rw [upd_ne nop]; exact ho, GW.cl, GW.nO, fldsW_o _ _ _, pa, od, kp, rfl, upd_same, fun D1 nD => lc_it (walk_values (d := pa) (o := od) (kvs := kp)) (fun i H3 => Lk pa od (.dK kp) H H3 ∧ ∃ ls : List Int, H3 D1 = some (.lst (ls.map V.int)) ∧ ls.length = i ∧ ∀ (j : Nat) (v : Int), ls[j]? = some v → ∃ x l r, kn[j]? = some x ∧ WayOf F0 x l r ∧ v = (l.length : Nat))
      ⟨?_, [], upd_same, rfl, fun j v h => by cases h⟩ (fun i H1 _ q => q.1.fz) (fun i v H3 H3' hi q y => ?_) fun H3 q => ?_⟩⟩
    · have k := Lk.free (Lk.start (u := .dK kp)) nD
      exact Lk.start.put k.1 (k.2 k.1)
    · obtain ⟨rfl, kx, hx⟩ := y
      obtain ⟨q1, ls, q2, q3, q4⟩ := q
      obtain ⟨x, hxi, xm, rfl, _, t, l, r, rfl, ht, W⟩ := I0.dp.at_ I0.ps.nd hx
      have k := Lk.free (Lk.start (u := .dK kp)) nD
      refine ⟨rfl, _, rfl, t, _, _, _, rfl, rfl, SqT.of (q1.tup I0.hp _ _ ht), atI_nat (j := 0) rfl, _, q2, by rw [List.length_map, q3]; rw [I0.dp.len] at hi; exact big1 (by omega), q1.put k.1 (k.2 k.1), ls ++ [((l.length : Nat) : Int)], ?_, by rw [List.length_append, q3]; rfl, fun j v hj => ?_⟩
      · rw [upd_same, List.map_append]
        rfl
      · rcases Nat.lt_or_ge j ls.length with lt | ge
        · rw [List.getElem?_append_left lt] at hj
          exact q4 j v hj
        · rw [List.getElem?_append_right ge] at hj
          have e0 : j - ls.length = 0 := by
            cases e : j - ls.length with
            | zero => rfl
            | succ n => rw [e] at hj; cases hj
          rw [e0] at hj
          exact ⟨x, l, r, by rw [show j = i by omega]; exact hxi, W, (Option.some.inj hj).symm⟩
    · obtain ⟨q1, ls, q2, q3, q4⟩ := q
      have k := Lk.free (Lk.start (u := .dK kp)) nD
      rw [I0.dp.len] at q3
      have s9 := q1.done I0.hp
      refine ⟨q1.fz, D1, ls, rfl, SqL.of (by rw [upd_ne k.1]; exact q2), by omega, fun m mm mx => kk m _ (fun x xm l r W => ?_) ?_ s9⟩
      · obtain ⟨j, hj⟩ := List.mem_iff_getElem?.mp xm
        have lj : j < ls.length := by rw [q3]; exact (List.getElem?_eq_some_iff.mp hj).1
        obtain ⟨x', l', r', hx', W', e⟩ := q4 j _ (List.getElem?_eq_getElem lj)
        rw [hj] at hx'
        cases hx'
        rw [(way_uniq W W').1, ← e]
        exact mx _ (List.getElem_mem lj)
      · obtain ⟨j, hj⟩ := List.mem_iff_getElem?.mp mm
        obtain ⟨x', l', r', hx', W', e⟩ := q4 j _ hj
        exact ⟨x', at_mem hx', l', r', W', e⟩
abbrev s_Powers_common : Stmt := inClass (topS 26) 7
theorem sc_Powers_common : FnScope ["self", "found", "ring", "_", "k"] ["self"] (defScope s_Powers_common) := ⟨rfl, rfl, rfl, by decide +kernel, rfl, by decide +kernel, by decide +kernel⟩
theorem dv5040 {n : Nat} (h1 : 0 < n) (h2 : n ≤ 7) : n ∣ 5040 := by
  rcases (show n = 1 ∨ n = 2 ∨ n = 3 ∨ n = 4 ∨ n = 5 ∨ n = 6 ∨ n = 7 by omega) with e | e | e | e | e | e | e <;> subst e <;> decide
/-- the least number that all rings part -/
structure TurnOf (F : PF) (ns : List Str) (n : Nat) : Prop where
  pos : 0 < n
  all : ∀ x ∈ ns, ∀ l r, WayOf F x l r → r ≠ [] → r.length ∣ n
  least : ∀ m, (∀ x ∈ ns, ∀ l r, WayOf F x l r → r ≠ [] → r.length ∣ m) → n ∣ m
def spCommon (CW : Addr) : Sp := fun vs H Q _ => ∃ (o dx d pa sa : Addr) (ns kn : List Str) (F : PF) (kp ks : List (Key × V)) (sn : List Str) (Df : Str → List Str) (kf : Str → Nat), vs = [.ref o] ∧ H o = some (.ins CW dx (fldsW (.ref d) (.ref pa) (.ref sa))) ∧
  ns.length ≤ 7 ∧ PwIn H pa sa F ns kn kp ks sn Df kf ∧
  ∀ (n : Nat) H', TurnOf F kn n → Same H H' → Q (.int (n : Nat)) H'
theorem ok_common {f : Addr} {fd : FuncData} (F : Fun K "common" "Powers.common" s_Powers_common f fd) (T : Bp mg) (c_lcm : mg "lcm" = some (.builtin "math.lcm")) (GW : Pwc K mg CW) : FnOk P w K mg base CX0 1 f fd ["self"] (spCommon CW) := by
  refine F.ok sc_Powers_common (fun vs H Q E h => ?_) (fun cdv A outer s₀ H vs Q E hr h => ?_)
  · obtain ⟨o, dx, d, pa, sa, ns, kn, F0, kp, ks, sn, Df, kf, rfl, _⟩ := h
    rfl
  · obtain ⟨o, dx, d, pa, sa, ns, kn, F0, kp, ks, sn, Df, kf, rfl, ho, ln, I0, kk⟩ := h
    have hu := hu_of hr
    have nos : o ≠ sa := fun e => by rw [e, I0.hs] at ho; cases ho
    have small : ∀ x ∈ sn, 0 < (Df x).length ∧ (Df x).length ≤ 7 := fun x m => by
      have R := I0.sp.ring x m
      have q := nd_sub_len R.nd fun y ym => I0.ps.sub y (I0.ps.ss y (I0.sp.all x m y ym).1)
      exact ⟨List.length_pos_iff.mpr R.ne, by omega⟩
    refine ⟨_, (pss_cons (ps_set (i := 1) sc_Powers_common.nd rfl (.inl rfl) pe_int)
 (pss_cons (ps_lock (ps_for PassesOwn.never rfl (pi_values (pe_fld (pv 0) rfl)) (pg_tup (by rfl) (pgs_cons (pg_name (i := 2) sc_Powers_common.nd rfl (.inl rfl)) (pgs_cons (pg_name (i := 3) sc_Powers_common.nd rfl (.inl rfl)) (pgs_cons (pg_name (i := 4) sc_Powers_common.nd rfl (.inl rfl)) pgs_nil))))
  (pss_one (ps_if (pt_cmpR op_eq (pv 4) pe_int (nomark _))
  (pss_one (ps_set (i := 1) sc_Powers_common.nd rfl (.inl rfl) (pe_callBfun cr_lcm (by rfl) c_lcm (pa_cons (pv 1) (pa_cons (pe_callB call_len_seq (by rfl) T.len PySem.boot_len (pa_cons (pv 2) pa_nil)) pa_nil)))))
  pss_nil))))
 (pss_one (ps_ret (pv 1))))), ?_⟩
    refine ⟨sa, _, I0.hs, trivial, fun od => ⟨_, rfl, o, CW, dx, _, _, rfl, by rw [upd_ne nos]; exact ho, GW.cl, GW.nS, fldsW_s _ _ _, sa, od, ks, rfl, upd_same, for_it (walk_values (d := sa) (o := od) (kvs := ks)) (fun i σ H3 => ∃ y2 y3 y4 c, σ = [some (.ref o), some (.int ((c : Nat) : Int)), y2, y3, y4] ∧ Lk sa od (.dK ks) H H3 ∧ 0 < c ∧ c ∣ 5040 ∧ (∀ x ∈ sn.take i, kf x = 0 → (Df x).length ∣ c) ∧ ∀ m, (∀ x ∈ sn.take i, kf x = 0 → (Df x).length ∣ m) → c ∣ m)
      ⟨_, _, _, 1, rfl, Lk.start, by decide, by decide, fun _ m => (nomatch m), fun m _ => Nat.one_dvd m⟩ (fun i σ H3 _ q => by obtain ⟨_, _, _, _, _, q, _⟩ := q; exact q.fz) (fun i v σ H3 H3' hi q y => ?_) fun σ H3 q => ?_⟩⟩
    · obtain ⟨y2, y3, y4, c, rfl, L3, c0, c5, f1, f2⟩ := q
      obtain ⟨rfl, kx, hx⟩ := y
      obtain ⟨x, hxi, xm, rfl, _, t, a, b, rfl, ht, ha, hb⟩ := I0.ds.at_ I0.sp.nd hx
      have ha3 : H3' a = some (.lst ((Df x).map V.str)) := L3.st a _ (fun e => by rw [e, I0.hs] at ha; cases ha) ha
      obtain ⟨n0, n7⟩ := small x xm
      refine ⟨t, _, rfl, SqT.of (L3.tup I0.hs _ _ ht), rfl, _, _, rfl, _, _, rfl, _, _, rfl, rfl, ?_⟩
      refine ⟨_, rfl, rfl, _, rfl, ite2 (fun hc => ?_) (fun hc => ?_)⟩
      · have hc : V.int ((kf x : Nat) : Int) = V.int 0 := of_decide_eq_true hc
        have k0 : kf x = 0 := by
          have q : ((kf x : Nat) : Int) = 0 := V.int.inj hc
          omega
        have cb : c ≤ 5040 := Nat.le_of_dvd (by decide) c5
        refine ⟨_, rfl, _, rfl, a, _, rfl, .inl (SqL.of ha3), _, _, rfl, (by show c < 2 ^ 64; omega), (by show ((Df x).map V.str).length < 2 ^ 64; rw [List.length_map]; omega), ?_⟩
        rw [List.length_map]
        refine ⟨_, _, _, Nat.lcm c (Df x).length, rfl, L3, Nat.lcm_pos c0 n0, Nat.lcm_dvd c5 (dv5040 n0 n7), fun w wm w0 => ?_, fun m hm => ?_⟩
        · rw [take_next hxi] at wm
          rcases List.mem_append.mp wm with k | k
          · exact Nat.dvd_trans (f1 w k w0) (Nat.dvd_lcm_left _ _)
          · rw [List.mem_singleton.mp k]
            exact Nat.dvd_lcm_right c _
        · rw [take_next hxi] at hm
          exact Nat.lcm_dvd (f2 m fun w k => hm w (List.mem_append_left _ k)) (hm x (List.mem_append_right _ List.mem_cons_self) k0)
      · have k0 : kf x ≠ 0 := fun e => hc (by rw [e]; rfl)
        refine ⟨_, _, _, c, rfl, L3, c0, c5, fun w wm w0 => ?_, fun m hm => f2 m fun w k => hm w (by rw [take_next hxi]; exact List.mem_append_left _ k)⟩
        rw [take_next hxi] at wm
        rcases List.mem_append.mp wm with k | k
        · exact f1 w k w0
        · rw [List.mem_singleton.mp k] at w0
          exact absurd w0 k0
    · obtain ⟨y2, y3, y4, c, rfl, L3, c0, c5, f1, f2⟩ := q
      rw [I0.ds.len, List.take_length] at f1 f2
      have s9 := L3.done I0.hs
      refine ⟨L3.fz, _, rfl, kk c _ ⟨c0, fun x xk l r W ne => ?_, fun m hm => f2 m fun x xm x0 => ?_⟩ s9⟩
      · obtain ⟨e, he⟩ : ∃ e, r[0]? = some e := by
          cases r with
          | nil => exact absurd rfl ne
          | cons y u => exact ⟨y, rfl⟩
        have es : e ∈ sn := by
          obtain ⟨l', r', W', h⟩ := I0.ps.way x xk
          rw [(way_uniq W W').2] at he
          exact h e he
        have R := I0.sp.ring e es
        obtain ⟨r', W', l', _⟩ := ring_each R (at_mem (I0.sp.at_ e es))
        rw [(way_uniq (way_end W he) W').2, l']
        obtain ⟨y, hy⟩ : ∃ y, (Df e)[0]? = some y := ⟨_, List.getElem?_eq_getElem (List.length_pos_iff.mpr R.ne)⟩
        obtain ⟨ys, ye⟩ := I0.sp.all e es y (at_mem hy)
        have q := I0.sp.at_ y ys
        rw [ye] at q
        have k0 : kf y = 0 := nd_ix R.nd q hy
        rw [← ye]
        exact f1 y ys k0
      · obtain ⟨r', W', l', h0⟩ := ring_each (I0.sp.ring x xm) (at_mem (I0.sp.at_ x xm))
        rw [← l']
        exact hm x (I0.ps.ss x xm) [] r' W' fun e => by rw [e] at h0; cases h0
end
end Y

namespace Y
open PySem PySem.Spec PyProof.Rows L2
section
variable {P : Program} {w : World} {K : PySem.W.Frag} {mg : Str → Option Value} {base : Heap} {CW : Addr} {fiW : Addr} {fdiW : FuncData}
abbrev s_many_times : Stmt := topS 22
theorem sc_many_times : FnScope ["push", "many", "powers", "name"] ["push", "many"] (defScope s_many_times) := ⟨rfl, rfl, rfl, by decide +kernel, rfl, by decide +kernel, by decide +kernel⟩
def spMany : Sp := fun vs H Q _ => ∃ (d : Addr) (kvs : List (Key × V)) (ns : List Str) (F : PF) (n : Nat), vs = [.ref d, .int (n : Nat)] ∧ Pu H d kvs ns F ∧ (∀ x, (F x).2 ≤ 1000000) ∧ ∀ (f : Addr) (kv : List (Key × V)) H', Same H H' → H f = none → H' f = some (.dK kv) → Dic (isPair (powF F n)) H' kv ns → Q (.ref f) H'
theorem ok_many {f : Addr} {fd : FuncData} (F : Fun K "many_times" "many_times" s_many_times f fd) (T : Bp mg) (GW : Pwc K mg CW) (MW : Mk K CW fiW) (FIW : FnOk P w K mg base CX0 3 fiW fdiW ["self", "push"] (spInitW CW)) (bIW : L2.Binds K fdiW ["self", "push"] [])
    (D_is_push : Has P w K mg base "is_push" 4 ["thing"] spIsPush) (D_is_number : Has P w K mg base "is_number" 2 ["thing"] spIsNum) (M_pair : HasM P w K mg base CW "pair" 2 ["self", "name", "many"] (spPairW CW)) : FnOk P w K mg base CX0 5 f fd ["push", "many"] spMany := by
  refine F.ok sc_many_times (fun vs H Q E h => ?_) (fun cdv A outer s₀ H vs Q E hr h => ?_)
  · obtain ⟨d, kvs, ns, F0, n, rfl, _⟩ := h
    rfl
  · obtain ⟨d, kvs, ns, F0, n, rfl, p, mB, kk⟩ := h
    refine ⟨_, (pss_cons (ps_if (pt_not (pt_val (D_is_push.call (hr.mono (by decide)) (by rfl) (pa_cons (pv 0) pa_nil))))
  (pss_one ps_never)
  pss_nil)
 (pss_cons (ps_if (pt_not (pt_val (D_is_number.call (hr.mono (by decide)) (by rfl) (pa_cons (pv 1) pa_nil))))
  (pss_one ps_never)
  pss_nil)
 (pss_cons (ps_set (i := 2) sc_many_times.nd rfl (.inr rfl) (pe_make MW FIW (hr.mono (by decide)) (by rfl) GW.mgC bIW .nil pass0 (pa_cons (pv 0) pa_nil)))
 (pss_one (ps_ret (pe_lock (pe_dc (own := [("name", 3)]) (g := gName 3) (tt := tYes) (by rfl) sc_many_times.nd (pi_keys (pv 0)) (blkOk_by (N := ["push", "many", "powers", "name"]) (sc := defScope s_many_times) (by decide +kernel)) (fun _ _ _ _ _ => pg_name (i := 3) sc_many_times.nd rfl (.inl rfl)) (fun _ _ _ _ _ => pts_nil) (fun _ _ _ _ _ => (pv 3)) (fun _ _ _ _ _ => (M_pair.call (hr.mono (by decide)) (pv 2) (pa_cons (pv 3) (pa_cons (pv 1) pa_nil))))))))))), ?_⟩
    refine ⟨_, rfl, d, kvs, ns, F0, rfl, p.at_, p.lz, p.dic, p.nd, p.l0, p.l1, p.ok, p.cl, p.mo, fun H1 s1 => ⟨true, rfl, ?_⟩⟩
    have p1 := p.same s1
    refine ⟨_, rfl, _, rfl, Int.natCast_nonneg n, true, rfl, ?_⟩
    refine ⟨_, rfl, fun o dx no ndx nxo => ?_⟩
    obtain ⟨z, u, hz, mu, wk⟩ := p1.lz
    refine ⟨o, dx, d, H1, kvs, ns, F0, z, u, rfl, (same_upd ndx).put no, no, upd_same, p1, hz, mu, wk, fun pa sa kn kp ks sn Df kf H3 pa0 sa0 nps nop nos I3 I3z all ho3 s3 => ⟨rfl, ?_⟩⟩
    have s13 := s1.trans s3
    have D3 : Dic (isPair F0) H3 kvs ns := p.dic.keep s13.tupP
    have o0 : H o = none := s1.free no
    have nz : ∀ c, H1 c = none → z ≠ c := fun c n e => by rw [e, n] at hz; cases hz
    have ndp : d ≠ pa := fun e => by
      rcases p1.at_ with k | ⟨u, k⟩ <;> rw [e, pa0] at k <;> cases k
    have nds : d ≠ sa := fun e => by
      rcases p1.at_ with k | ⟨u, k⟩ <;> rw [e, sa0] at k <;> cases k
    refine ⟨z, u, s3 _ _ hz, mu, fun od => ?_⟩
    obtain ⟨o', wk⟩ := wk od
    have wk3 : ∀ H4, Lk z od u H3 H4 → H4 d = some (.frz o' (.dK kvs)) := fun H4 L => wk H4 ⟨L.fz, fun c x ne e => L.st c x ne (s3 _ _ e)⟩
    refine ⟨_, rfl, d, o', rfl, .inl ⟨kvs, wk3 _ Lk.start, fun D nD => dc_it (walk_keys (d := d) (o := o') (kvs := kvs)) (fun i H4 => Lk z od u H3 H4 ∧ ∃ kv, H4 D = some (.dK kv) ∧ Dic (isPair (powF F0 n)) H4 kv (ns.take i))
      ⟨?_, [], upd_same, Dic.nil⟩ (fun i H4 _ q => wk3 _ q.1) (fun i v H4 H4' hi q y => ?_) fun H4 q => ?_⟩⟩
    · have k := Lk.free (Lk.start (u := u)) nD
      exact Lk.start.put k.1 (k.2 k.1)
    · obtain ⟨rfl, kx, v0, hx, rfl⟩ := y
      obtain ⟨q1, kv, q2, DD⟩ := q
      obtain ⟨x, hxi, xm, rfl, _⟩ := p.dic.at_ p.nd hx
      have k := Lk.free (Lk.start (u := u)) nD
      have ho4 : H4' o = some (.ins CW dx (fldsW (.ref d) (.ref pa) (.ref sa))) := q1.st o _ (nz o no).symm ho3
      have I4 : PwIn H4' pa sa F0 ns kn kp ks sn Df kf := (I3z od).same fun c x e => by
        by_cases ec : c = z
        · subst ec
          rw [upd_same] at e
          rw [q1.fz]
          exact e
        · rw [upd_ne ec] at e
          exact q1.st c x ec e
      refine ⟨rfl, _, rfl, _, rfl, o, dx, _, rfl, ho4, fldsW_no _ _ _ (by decide +kernel) (by decide +kernel) (by decide +kernel), _, rfl, _, rfl, ?_⟩
      refine ⟨o, dx, d, pa, sa, kvs, ns, kn, F0, x, n, kp, ks, sn, Df, kf, rfl, ho4, .inr ⟨o', wk3 _ q1⟩, D3.keep (q1.tupM (s3 _ _ hz) mu), p.l1, p.cl, all x xm, I4, p.mo, mB, fun t H5 s5 ht => ?_⟩
      have nDt : ∀ w, H4' D = some w → H5 D = some w := fun w e => s5 _ _ e
      refine ⟨kv, Sum.inr x, rfl, s5 _ _ q2, by rw [DD.len, List.length_take]; have := p.l1; exact big1 (by omega), (q1.step s5).put k.1 (k.2 k.1), _, upd_same, ?_⟩
      rw [take_next hxi]
      refine (DD.keep s5.tupP).snoc (nd_take p.nd hxi) ⟨t, rfl, ?_⟩ fun y u' _ g => pair_keep (fun c xs e => ?_) g
      · rw [upd_ne (fun z => by rw [z, s5 _ _ q2] at ht; cases ht)]; exact ht
      · rw [upd_ne (fun z => by rw [z, s5 _ _ q2] at e; cases e)]; exact e
    · obtain ⟨q1, kv, q2, DD⟩ := q
      rw [p.dic.len, List.take_length] at DD
      have k := Lk.free (Lk.start (u := u)) nD
      have nD3 : H3 D = none := k.2 k.1
      refine ⟨q1.fz, kk D kv _ (s13.trans (q1.done (s3 _ _ hz))) (s13.free nD3) (by rw [upd_ne k.1]; exact q2) (DD.keep fun t xs e => ?_)⟩
      rw [upd_ne (fun z => by rw [z, q1.fz] at e; cases e)]
      exact e
abbrev s_tail : Stmt := topS 27
theorem sc_tail : FnScope ["push"] ["push"] (defScope s_tail) := ⟨rfl, rfl, rfl, by decide +kernel, rfl, by decide +kernel, by decide +kernel⟩
def spTail : Sp := fun vs H Q _ => ∃ (d : Addr) (kvs : List (Key × V)) (ns : List Str) (F : PF), vs = [.ref d] ∧ H d = some (.dK kvs) ∧ Pu H d kvs ns F ∧
  ∀ (n : Int) H', (∀ x ∈ ns, ∀ l r, WayOf F x l r → ((l.length : Nat) : Int) ≤ n) → (∃ x ∈ ns, ∃ l r, WayOf F x l r ∧ n = (l.length : Nat)) → Same H H' → Q (.int n) H'
theorem ok_tail {f : Addr} {fd : FuncData} (F : Fun K "tail" "tail" s_tail f fd) (T : Bp mg) (GW : Pwc K mg CW) (MW : Mk K CW fiW) (FIW : FnOk P w K mg base CX0 3 fiW fdiW ["self", "push"] (spInitW CW)) (bIW : L2.Binds K fdiW ["self", "push"] [])
    (D_is_push : Has P w K mg base "is_push" 4 ["thing"] spIsPush) (M_longest : HasM P w K mg base CW "longest" 1 ["self"] (spLongest CW)) : FnOk P w K mg base CX0 5 f fd ["push"] spTail := by
  refine F.ok sc_tail (fun vs H Q E h => ?_) (fun cdv A outer s₀ H vs Q E hr h => ?_)
  · obtain ⟨d, kvs, ns, F0, rfl, _⟩ := h
    rfl
  · obtain ⟨d, kvs, ns, F0, rfl, hd0, p, kk⟩ := h
    refine ⟨_, (pss_cons (ps_if (pt_not (pt_val (D_is_push.call (hr.mono (by decide)) (by rfl) (pa_cons (pv 0) pa_nil))))
  (pss_one ps_never)
  pss_nil)
 (pss_one (ps_ret (M_longest.call0 (hr.mono (by decide)) (pe_make MW FIW (hr.mono (by decide)) (by rfl) GW.mgC bIW .nil pass0 (pa_cons (pv 0) pa_nil)))))), ?_⟩
    refine ⟨_, rfl, d, kvs, ns, F0, rfl, p.at_, p.lz, p.dic, p.nd, p.l0, p.l1, p.ok, p.cl, p.mo, fun H1 s1 => ⟨true, rfl, ?_⟩⟩
    have p1 := p.same s1
    refine ⟨_, rfl, fun o dx no ndx nxo => ?_⟩
    obtain ⟨z, u, hz, mu, wk⟩ := p1.lz
    refine ⟨o, dx, d, H1, kvs, ns, F0, z, u, rfl, (same_upd ndx).put no, no, upd_same, p1, hz, mu, wk, fun pa sa kn kp ks sn Df kf H3 pa0 sa0 nps nop nos I3 I3z all ho3 s3 => ⟨rfl, ?_⟩⟩
    have lk : 0 < kn.length := by
      have q := nd_sub_len p.nd all
      have := p.l0
      omega
    exact ⟨o, dx, _, rfl, ho3, fldsW_no _ _ _ (by decide +kernel) (by decide +kernel) (by decide +kernel), o, dx, d, pa, sa, ns, kn, F0, kp, ks, sn, Df, kf, rfl, ho3, p.l1, I3, lk, fun m H4 h1 h2 s4 => kk m H4 (fun x xm => h1 x (all x xm)) (by obtain ⟨x, xm, h⟩ := h2; exact ⟨x, I3.ps.sub x xm, h⟩) ((s1.trans s3).trans s4)⟩
abbrev s_turn : Stmt := topS 28
theorem sc_turn : FnScope ["push"] ["push"] (defScope s_turn) := ⟨rfl, rfl, rfl, by decide +kernel, rfl, by decide +kernel, by decide +kernel⟩
def spTurn : Sp := fun vs H Q _ => ∃ (d : Addr) (kvs : List (Key × V)) (ns : List Str) (F : PF), vs = [.ref d] ∧ H d = some (.dK kvs) ∧ Pu H d kvs ns F ∧ ns.length ≤ 7 ∧
  ∀ (n : Nat) H', TurnOf F ns n → Same H H' → Q (.int (n : Nat)) H'
theorem ok_turn {f : Addr} {fd : FuncData} (F : Fun K "turn" "turn" s_turn f fd) (T : Bp mg) (GW : Pwc K mg CW) (MW : Mk K CW fiW) (FIW : FnOk P w K mg base CX0 3 fiW fdiW ["self", "push"] (spInitW CW)) (bIW : L2.Binds K fdiW ["self", "push"] [])
    (D_is_push : Has P w K mg base "is_push" 4 ["thing"] spIsPush) (M_common : HasM P w K mg base CW "common" 1 ["self"] (spCommon CW)) : FnOk P w K mg base CX0 5 f fd ["push"] spTurn := by
  refine F.ok sc_turn (fun vs H Q E h => ?_) (fun cdv A outer s₀ H vs Q E hr h => ?_)
  · obtain ⟨d, kvs, ns, F0, rfl, _⟩ := h
    rfl
  · obtain ⟨d, kvs, ns, F0, rfl, hd0, p, l7, kk⟩ := h
    refine ⟨_, (pss_cons (ps_if (pt_not (pt_val (D_is_push.call (hr.mono (by decide)) (by rfl) (pa_cons (pv 0) pa_nil))))
  (pss_one ps_never)
  pss_nil)
 (pss_one (ps_ret (M_common.call0 (hr.mono (by decide)) (pe_make MW FIW (hr.mono (by decide)) (by rfl) GW.mgC bIW .nil pass0 (pa_cons (pv 0) pa_nil)))))), ?_⟩
    refine ⟨_, rfl, d, kvs, ns, F0, rfl, p.at_, p.lz, p.dic, p.nd, p.l0, p.l1, p.ok, p.cl, p.mo, fun H1 s1 => ⟨true, rfl, ?_⟩⟩
    have p1 := p.same s1
    refine ⟨_, rfl, fun o dx no ndx nxo => ?_⟩
    obtain ⟨z, u, hz, mu, wk⟩ := p1.lz
    refine ⟨o, dx, d, H1, kvs, ns, F0, z, u, rfl, (same_upd ndx).put no, no, upd_same, p1, hz, mu, wk, fun pa sa kn kp ks sn Df kf H3 pa0 sa0 nps nop nos I3 I3z all ho3 s3 => ⟨rfl, ?_⟩⟩
    exact ⟨o, dx, _, rfl, ho3, fldsW_no _ _ _ (by decide +kernel) (by decide +kernel) (by decide +kernel), o, dx, d, pa, sa, ns, kn, F0, kp, ks, sn, Df, kf, rfl, ho3, l7, I3, fun m H4 t s4 => kk m H4 ⟨t.pos, fun x xm => t.all x (all x xm), fun q h => t.least q fun x xm => h x (I3.ps.sub x xm)⟩ ((s1.trans s3).trans s4)⟩
end
end Y

namespace Y
open PySem PySem.Spec PyProof.Rows L2
section
variable {P : Program} {w : World} {K : PySem.W.Frag} {mg : Str → Option Value} {base : Heap}
abbrev s_l_after : Stmt := topS 38
theorem sc_l_after : FnScope ["_law_push", "_law_other", "_law_found", "_law_name", "_law_source", "_law_more"] ["_law_push", "_law_other"] (defScope s_l_after) := ⟨rfl, rfl, rfl, by decide +kernel, rfl, by decide +kernel, by decide +kernel⟩
def spAfter : Sp := fun vs H Q _ => ∃ (d e : Addr) (ks ls : List (Key × V)) (ns es : List Str) (A B : PF), vs = [.ref d, .ref e] ∧ H d = some (.dK ks) ∧ Dic (isPair A) H ks ns ∧ H e = some (.dK ls) ∧ Dic (isPair B) H ls es ∧ d ≠ e ∧ es.Nodup ∧ es.length ≤ 1000 ∧ (∀ x ∈ es, ∀ y, (B x).1 = some y → y ∈ ns) ∧
  ∀ (f : Addr) (kvs : List (Key × V)) H', Same H H' → H f = none → H' f = some (.dK kvs) → Dic (isPair (thenF A B)) H' kvs es → Q (.ref f) H'
theorem ok_after {f : Addr} {fd : FuncData} (F : Fun K "_law_after" "_law_after" s_l_after f fd) (T : Bi mg) : FnOk P w K mg base CX0 1 f fd ["_law_push", "_law_other"] spAfter := by
  refine F.ok sc_l_after (fun vs H Q E h => ?_) (fun cdv A outer s₀ H vs Q E hr h => ?_)
  · obtain ⟨d, e, ks, ls, ns, es, A0, B0, rfl, _⟩ := h
    rfl
  · obtain ⟨d, e, ks, ls, ns, es, A0, B0, rfl, hd, DA, he, DB, nde, nd, l1, hs, kk⟩ := h
    have hu := hu_of hr
    refine ⟨_, (pss_cons (ps_set (i := 2) sc_l_after.nd rfl (.inl rfl) pe_dnewK)
 (pss_cons (ps_lock (ps_for PassesOwn.never rfl (pi_keys (pv 1)) (pg_name (i := 3) sc_l_after.nd rfl (.inl rfl))
  (pss_cons (ps_asg (pe_dget hu (pv 1) (pv 3) (fun _ _ => rfl)) (pg_tup (by rfl) (pgs_cons (pg_name (i := 4) sc_l_after.nd rfl (.inl rfl)) (pgs_cons (pg_name (i := 5) sc_l_after.nd rfl (.inl rfl)) pgs_nil))))
 (pss_one (ps_if (pt_cmp (pc_isN (pv 4)))
  (pss_one (ps_dput hu (pv 2) (pv 3) (pe_tup (pa_cons pe_non (pa_cons (pv 5) pa_nil))) rfl))
  (pss_one (ps_dput hu (pv 2) (pv 3) (pe_tup (pa_cons (pe_ix ix_tup (pe_dget hu (pv 0) (pv 4) (fun _ _ => rfl)) pe_int (fun _ _ => rfl)) (pa_cons (pe_op op_add (pe_ix ix_tup (pe_dget hu (pv 0) (pv 4) (fun _ _ => rfl)) pe_int (fun _ _ => rfl)) (pv 5)) pa_nil))) rfl)))))))
 (pss_one (ps_ret (pv 2))))), ?_⟩
    intro b nb
    have neb : e ≠ b := ne_of_none he nb
    refine ⟨e, .dK ls, (by rw [upd_ne neb]; exact he), trivial, fun od => ⟨_, rfl, e, od, rfl, .inl ⟨ls, upd_same, for_it (walk_keys (d := e) (o := od) (kvs := ls)) (fun i σ H5 => ∃ y3 y4 y5, σ = [some (.ref d), some (.ref e), some (.ref b), y3, y4, y5] ∧ Lk e od (.dK ls) H H5 ∧ ∃ kvs, H5 b = some (.dK kvs) ∧ Dic (isPair (thenF A0 B0)) H5 kvs (es.take i))
      ⟨none, none, none, rfl, Lk.begin (same_upd nb), [], by rw [upd_ne neb.symm, upd_same], Dic.nil⟩ (fun i σ H5 _ q => by obtain ⟨_, _, _, _, q, _⟩ := q; exact q.fz) (fun i v σ H5 H5' hi q y => ?_) fun σ H5 q => ?_⟩⟩⟩
    · obtain ⟨y3, y4, y5, rfl, L, kvs, hb5, N5⟩ := q
      obtain ⟨e1, kx, v0, hx, rfl⟩ := y
      subst e1
      obtain ⟨x, hxi, xm, rfl, ev, t, rfl, ht⟩ := DB.at_ nd hx
      have ht5 := L.tup he _ _ ht
      have hd5 := L.st d _ nde hd
      have size : kvs.length < sizeLine := by rw [N5.len, List.length_take]; exact big1 (by omega)
      have next : ∀ (so : Option Str) (m : Int) (c : Addr), H5' c = none → (so, m) = thenF A0 B0 x → (upd H5' c (.tup [osV so, .int m])) b = some (.dK kvs) ∧ Lk e od (.dK ls) H (upd (upd H5' c (.tup [osV so, .int m])) b (.dK (putK kvs (Sum.inr x) (.ref c)))) ∧
          Dic (isPair (thenF A0 B0)) (upd (upd H5' c (.tup [osV so, .int m])) b (.dK (putK kvs (Sum.inr x) (.ref c)))) (putK kvs (Sum.inr x) (.ref c)) (es.take (i + 1)) := fun so m c nc em => by
        have nbc : b ≠ c := ne_of_none hb5 nc
        refine ⟨by rw [upd_ne nbc]; exact hb5, (L.sameT nc).put neb.symm nb, ?_⟩
        rw [take_next hxi]
        refine N5.snoc (nd_take nd hxi) ⟨c, rfl, ?_⟩ fun y v _ g => pair_keep (fun t' xs k => ?_) g
        · rw [upd_ne nbc.symm, upd_same, ← em]
        · rw [upd_ne (fun z => by rw [z, hb5] at k; cases k), upd_ne (ne_of_none k nc)]; exact k
      have sx := hs x xm
      generalize hF : B0 x = fx at ht5 sx
      obtain ⟨so, m⟩ := fx
      refine ⟨_, rfl, _, rfl, e, _, rfl, .inl ⟨ls, Sum.inr x, .inr ⟨od, L.fz⟩, rfl, ev.symm⟩, t, _, rfl, SqT.of ht5, rfl, _, _, rfl, _, _, rfl, rfl, ?_⟩
      cases so with
      | none =>
        refine ⟨_, rfl, _, rfl, ?_⟩
        refine ⟨_, rfl, (by show 2 ≤ sizeLine; decide), fun c nc => ?_⟩
        obtain ⟨n1, n2, n3⟩ := next none m c nc (then_none hF).symm
        refine ⟨_, rfl, _, rfl, b, _, rfl, DPut.k (k := Sum.inr x) n1 size, ?_⟩
        exact ⟨_, _, _, rfl, n2, _, upd_same, n3⟩
      | some y =>
        obtain ⟨w, ew, t3, rfl, ht3⟩ := DA.val y (sx y rfl)
        have ht6 := SqT.of (K := K) (L.tup he _ _ ht3)
        have gd : DGet H5' d (kV (Sum.inr y)) (some (.ref t3)) := .inl ⟨ks, Sum.inr y, .inl hd5, rfl, ew.symm⟩
        refine ⟨_, rfl, _, rfl, ?_⟩
        refine ⟨_, rfl, _, rfl, d, _, rfl, gd, t3, _, _, _, rfl, rfl, ht6, atI_nat (j := 0) rfl, _, rfl, _, rfl, d, _, rfl, gd, t3, _, _, _, rfl, rfl, ht6, atI_nat (j := 1) rfl, _, rfl, _, _, rfl, rfl, (by show 2 ≤ sizeLine; decide), fun c nc => ?_⟩
        obtain ⟨n1, n2, n3⟩ := next (A0 y).1 ((A0 y).2 + m) c nc (then_some hF).symm
        refine ⟨_, rfl, _, rfl, b, _, rfl, DPut.k (k := Sum.inr x) n1 size, ?_⟩
        exact ⟨_, _, _, rfl, n2, _, upd_same, n3⟩
    · obtain ⟨y3, y4, y5, rfl, L, kvs, hb5, N5⟩ := q
      rw [DB.len, List.take_length] at N5
      refine ⟨L.fz, _, rfl, kk b kvs _ (L.done he) nb (by rw [upd_ne neb.symm]; exact hb5) (N5.keep fun t xs k => ?_)⟩
      rw [upd_ne (fun z => by rw [z, L.fz] at k; cases k)]
      exact k
abbrev s_l_nothing : Stmt := topS 41
theorem sc_l_nothing : FnScope ["_law_push", "_law_found", "_law_name"] ["_law_push"] (defScope s_l_nothing) := ⟨rfl, rfl, rfl, by decide +kernel, rfl, by decide +kernel, by decide +kernel⟩
def spNothing : Sp := fun vs H Q _ => ∃ (d : Addr) (kvs : List (Key × V)) (ns : List Str) (F : PF), vs = [.ref d] ∧ H d = some (.dK kvs) ∧ Dic (isPair F) H kvs ns ∧ ns.Nodup ∧ ns.length ≤ 1000 ∧ ∀ (f : Addr) (kv : List (Key × V)) H', Same H H' → H f = none → H' f = some (.dK kv) → Dic (isPair stillF) H' kv ns → Q (.ref f) H'
theorem ok_nothing {f : Addr} {fd : FuncData} (F : Fun K "_law_nothing" "_law_nothing" s_l_nothing f fd) (T : Bi mg) : FnOk P w K mg base CX0 1 f fd ["_law_push"] spNothing := by
  refine F.ok sc_l_nothing (fun vs H Q E h => ?_) (fun cdv A outer s₀ H vs Q E hr h => ?_)
  · obtain ⟨d, kvs, ns, F0, rfl, _⟩ := h
    rfl
  · obtain ⟨d, kvs, ns, F0, rfl, hd, D, nd, l1, kk⟩ := h
    have hu := hu_of hr
    refine ⟨_, (pss_cons (ps_set (i := 1) sc_l_nothing.nd rfl (.inl rfl) pe_dnewK)
 (pss_cons (ps_lock (ps_for PassesOwn.never rfl (pi_keys (pv 0)) (pg_name (i := 2) sc_l_nothing.nd rfl (.inl rfl))
  (pss_one (ps_dput hu (pv 1) (pv 2) (pe_tup (pa_cons (pv 2) (pa_cons pe_int pa_nil))) rfl))))
 (pss_one (ps_ret (pv 1))))), ?_⟩
    intro b nb
    have ndb : d ≠ b := ne_of_none hd nb
    refine ⟨d, .dK kvs, (by rw [upd_ne ndb]; exact hd), trivial, fun od => ⟨_, rfl, d, od, rfl, .inl ⟨kvs, upd_same, for_it (walk_keys (d := d) (o := od) (kvs := kvs)) (fun i σ H5 => ∃ y2, σ = [some (.ref d), some (.ref b), y2] ∧ Lk d od (.dK kvs) H H5 ∧ ∃ kv, H5 b = some (.dK kv) ∧ Dic (isPair stillF) H5 kv (ns.take i))
      ⟨none, rfl, Lk.begin (same_upd nb), [], by rw [upd_ne ndb.symm, upd_same], Dic.nil⟩ (fun i σ H5 _ q => by obtain ⟨_, _, q, _⟩ := q; exact q.fz) (fun i v σ H5 H5' hi q y => ?_) fun σ H5 q => ?_⟩⟩⟩
    · obtain ⟨y2, rfl, L, kv, hb5, N5⟩ := q
      obtain ⟨e1, kx, v0, hx, rfl⟩ := y
      subst e1
      obtain ⟨x, hxi, xm, rfl, ev, _⟩ := D.at_ nd hx
      refine ⟨_, rfl, (by show 2 ≤ sizeLine; decide), fun c nc => ?_⟩
      have nbc : b ≠ c := ne_of_none hb5 nc
      refine ⟨_, rfl, _, rfl, b, _, rfl, DPut.k (k := Sum.inr x) (by rw [upd_ne nbc]; exact hb5) (by rw [N5.len, List.length_take]; exact big1 (by omega)), ?_⟩
      refine ⟨_, rfl, (L.sameT nc).put ndb.symm nb, _, upd_same, ?_⟩
      rw [take_next hxi]
      refine N5.snoc (nd_take nd hxi) ⟨c, rfl, ?_⟩ fun y v _ g => pair_keep (fun t' xs k => ?_) g
      · rw [upd_ne nbc.symm, upd_same]; rfl
      · rw [upd_ne (fun z => by rw [z, hb5] at k; cases k), upd_ne (ne_of_none k nc)]; exact k
    · obtain ⟨y2, rfl, L, kv, hb5, N5⟩ := q
      rw [D.len, List.take_length] at N5
      refine ⟨L.fz, _, rfl, kk b kv _ (L.done hd) nb (by rw [upd_ne ndb.symm]; exact hb5) (N5.keep fun t xs k => ?_)⟩
      rw [upd_ne (fun z => by rw [z, L.fz] at k; cases k)]
      exact k
end
end Y

namespace Y
open PySem PySem.Spec PyProof.Rows L2
theorem DeT.but {p g s : Addr} {H H' : Hp} {ts : List V} {ds : List De} (D : DeT H ts ds) (b : But p g H H') (Z : PotAt H p g s) : DeT H' ts ds := D.keep (b.tupP Z)
section
variable {P : Program} {w : World} {K : PySem.W.Frag} {mg : Str → Option Value} {base : Heap}
end
end Y

namespace Y
open PySem PySem.Spec PyProof.Rows L2
/-- at which place a name stands -/
def posI : List Str → Str → Nat
  | [], _ => 0
  | a :: r, x => if a = x then 0 else posI r x + 1
theorem posI_at : ∀ {ns : List Str} {x : Str}, x ∈ ns → ns[posI ns x]? = some x
  | [], _, h => nomatch h
  | a :: r, x, h => by
    unfold posI
    by_cases e : a = x
    · rw [if_pos e, e]; rfl
    · rw [if_neg e]
      exact posI_at ((List.mem_cons.mp h).resolve_left fun z => e z.symm)
theorem posI_of {ns : List Str} (nd : ns.Nodup) {i : Nat} {x : Str} (h : ns[i]? = some x) : posI ns x = i := nd_ix nd (posI_at (at_mem h)) h
def farV (ns : List Str) : Str → Int := fun x => ((posI ns x : Nat) + 1) * 10000
theorem Dic.congN {u v : Str → Int} {H : Hp} {kvs : List (Key × V)} {ns : List Str} (D : Dic (isNum u) H kvs ns) (h : ∀ x ∈ ns, u x = v x) : Dic (isNum v) H kvs ns := D.mono fun x _ m g => by
  have g : _ = V.int (u x) := g
  rw [h x m] at g
  exact g
section
variable {P : Program} {w : World} {K : PySem.W.Frag} {mg : Str → Option Value} {base : Heap}
abbrev s_l_push_told : Stmt := topS 39
theorem sc_l_push_told : FnScope ["_law_told", "_law_due", "_law_name", "_law_pair"] ["_law_told", "_law_due"] (defScope s_l_push_told) := ⟨rfl, rfl, rfl, by decide +kernel, rfl, by decide +kernel, by decide +kernel⟩
def spPushTold : Sp := fun vs H Q _ => ∃ (d e : Addr) (ks ls : List (Key × V)) (ns : List Str) (F : PF), vs = [.ref d, .ref e] ∧ H d = some (.dK ks) ∧ H e = some (.dK ls) ∧ Dic (isPair F) H ks ns ∧ Dic (isPair F) H ls ns ∧ ns.Nodup ∧ (∀ x ∈ ns, ∀ y, (F x).1 = some y → nmB y = true) ∧ ∀ H', Same H H' → Q (.bl true) H'
theorem ok_push_told {f : Addr} {fd : FuncData} (F : Fun K "_law_push_told" "_law_push_told" s_l_push_told f fd) (T : Bi mg) (D_l_is_int : Has P w K mg base "_law_is_int" 1 ["_law_thing"] spIsInt) : FnOk P w K mg base CX0 2 f fd ["_law_told", "_law_due"] spPushTold := by
  refine F.ok sc_l_push_told (fun vs H Q E h => ?_) (fun cdv A outer s₀ H vs Q E hr h => ?_)
  · obtain ⟨d, e, ks, ls, ns, F0, rfl, _⟩ := h
    rfl
  · obtain ⟨d, e, ks, ls, ns, F0, rfl, hd, he, D, D', nd, ok, kk⟩ := h
    have hu := hu_of hr
    refine ⟨_, (pss_cons (ps_if ((pw_or (pt_not (pt_val (pe_callB (id := "isinstance") (r := rIsi K) call_isi (by rfl) T.isinstance (by decide +kernel) (pa_cons (pv 0) (pa_cons (pe_bltn (v := .ty "dict") (by rfl) T.dict_ (by decide +kernel) rfl) pa_nil))))) (pw_or1 (pt_cmpR (op_neDicts (hu66 hr)) (pv 0) (pv 1) (nomark _))))).pt
  (pss_one (ps_ret pe_bl))
  pss_nil)
 (pss_cons (ps_lock (ps_for PassesOwn.never rfl (pi_keys (pv 0)) (pg_name (i := 2) sc_l_push_told.nd rfl (.inl rfl))
  (pss_cons (ps_set (i := 3) sc_l_push_told.nd rfl (.inl rfl) (pe_dget hu (pv 0) (pv 2) (fun _ _ => rfl)))
 (pss_one (ps_if ((pw_or (pt_not (pt_val (pe_callB (id := "isinstance") (r := rIsi K) call_isi (by rfl) T.isinstance (by decide +kernel) (pa_cons (pv 3) (pa_cons (pe_bltn (v := .ty "tuple") (by rfl) T.tuple_ (by decide +kernel) rfl) pa_nil))))) (pw_or1 (pt_not (pt_val (D_l_is_int.call (hr.mono (by decide)) (by rfl) (pa_cons (pe_ix ix_tup (pv 3) pe_int (fun _ _ => rfl)) pa_nil))))))).pt
  (pss_one (ps_ret pe_bl))
  pss_nil)))))
 (pss_one (ps_ret pe_bl)))), ?_⟩
    obtain ⟨dl, dv⟩ := dicts_same (K := K) D D' nd ok
    refine ⟨_, rfl, _, _, _, _, true, rfl, .ty "dict", .base (.dK hd), kit_ty (by decide +kernel), true, rfl, ?_⟩
    refine ⟨_, rfl, _, rfl, d, e, ks, ls, rfl, rfl, hd, he, dl, dv, _, rfl, ?_⟩
    refine ⟨d, .dK ks, hd, trivial, fun od => ⟨_, rfl, d, od, rfl, .inl ⟨ks, upd_same, for_it (walk_keys (d := d) (o := od) (kvs := ks)) (fun i σ H1 => ∃ y2 y3, σ = [some (.ref d), some (.ref e), y2, y3] ∧ Lk d od (.dK ks) H H1) ⟨none, none, rfl, Lk.start⟩ (fun i σ H1 _ q => by obtain ⟨_, _, _, q⟩ := q; exact q.fz) (fun i v σ H1 H1' hi q y => ?_) fun σ H1 q => ?_⟩⟩⟩
    · obtain ⟨y2, y3, rfl, L⟩ := q
      obtain ⟨e1, kx, v0, hx, rfl⟩ := y
      subst e1
      obtain ⟨x, _, xm, rfl, ev, t, rfl, ht⟩ := D.at_ nd hx
      have ht1 := L.tup hd _ _ ht
      refine ⟨_, rfl, _, rfl, d, _, rfl, (by rw [← ev]; exact .inl ⟨ks, Sum.inr x, .inr ⟨od, L.fz⟩, rfl, rfl⟩), ?_⟩
      refine ⟨_, rfl, _, _, _, _, true, rfl, .ty "tuple", .base (.tup ht1), kit_ty (by decide +kernel), true, rfl, ?_⟩
      refine ⟨_, rfl, t, _, _, _, rfl, rfl, SqT.of ht1, atI_nat (j := 1) rfl, _, rfl, true, rfl, ?_⟩
      exact ⟨_, _, rfl, L⟩
    · obtain ⟨y2, y3, rfl, L⟩ := q
      exact ⟨L.fz, kk _ (L.done hd)⟩
end
end Y

namespace Y
open PySem PySem.Spec PyProof.Rows L2
theorem PotAt.p_neL {H : Hp} {p g s a : Addr} {xs : List (Key × V)} {u : HO} (Z : PotAt H p g s) (h : H a = some u) (n : ∀ xs, u ≠ .lst xs) : a ≠ p ∧ a ≠ g ∧ a ≠ s := by
  obtain ⟨⟨gs, ss, lap, q, hp, hg, hs, _⟩, _⟩ := Z
  exact ⟨fun e => (by rw [e, hp] at h; cases h; exact n _ rfl), fun e => (by rw [e, hg] at h; cases h; exact n _ rfl), fun e => (by rw [e, hs] at h; cases h; exact n _ rfl)⟩
theorem PotAt.lkD {H H' : Hp} {p g s d : Addr} {od : Obj} {u : HO} (Z : PotAt H p g s) (L : Lk d od u H H') (n : d ≠ p ∧ d ≠ g ∧ d ≠ s) : PotAt H' p g s := by
  obtain ⟨⟨gs, ss, lap, q, hp, hg, hs, r⟩, k1, k2, k3⟩ := Z
  exact ⟨⟨gs, ss, lap, q, L.st _ _ n.1.symm hp, L.st _ _ n.2.1.symm hg, L.st _ _ n.2.2.symm hs, r⟩, k1, k2, k3⟩
theorem PotAt.s_neD {H : Hp} {p g s a : Addr} {xs : List (Key × V)} (Z : PotAt H p g s) (h : H a = some (.dK xs)) : p ≠ a ∧ g ≠ a ∧ s ≠ a := by
  obtain ⟨⟨gs, ss, lap, q, hp, hg, hs, _⟩, _⟩ := Z
  exact ⟨fun e => (by rw [e, h] at hp; cases hp), fun e => (by rw [e, h] at hg; cases hg), fun e => (by rw [e, h] at hs; cases hs)⟩
theorem PotAt.p_mut {H : Hp} {p g s : Addr} (Z : PotAt H p g s) : ∃ u, H p = some u ∧ Mut (some u) := by
  obtain ⟨⟨gs, ss, lap, q, hp, _⟩, _⟩ := Z
  exact ⟨_, hp, trivial⟩
theorem moreS_in3 {F : PF} (h0 : ∀ x, 0 ≤ (F x).2) (h3 : ∀ x, (F x).2 ≤ 3) (r : List Str) : 0 ≤ moreS F r ∧ moreS F r ≤ 3 * (r.length : Nat) := moreS_in h0 h3 r
theorem turn_le {F : PF} {ns : List Str} {n : Nat} (l7 : ns.length ≤ 7) (cl : ∀ x ∈ ns, ∀ y, (F x).1 = some y → y ∈ ns) (TO : TurnOf F ns n) : n ≤ 5040 :=
  Nat.le_of_dvd (by decide) (TO.least 5040 fun x xm l r W rne => by
    have lr : r.length ≤ ns.length := nd_sub_len (List.nodup_append.mp W.nd).2.1 fun y my => W.inNs cl xm y (List.mem_append_right _ my)
    exact dv5040 (List.length_pos_iff.mpr rne) (by omega))
section
variable {P : Program} {w : World} {K : PySem.W.Frag} {mg : Str → Option Value} {base : Heap}
abbrev s_l_far_right : Stmt := topS 42
theorem sc_l_far_right : FnScope ["_law_pot_here", "_law_push", "_law_one", "_law_other", "_law_told", "_law_rounds", "_law_name", "_law_lead", "_law_ring", "_law_source", "_law_more"] ["_law_pot_here", "_law_push"] (defScope s_l_far_right) := ⟨rfl, rfl, rfl, by decide +kernel, rfl, by decide +kernel, by decide +kernel⟩
def spFar : Sp := fun vs H Q _ => ∃ (p g s d : Addr) (kvs : List (Key × V)) (ns : List Str) (F : PF), vs = [.ref p, .ref d] ∧ PotAt H p g s ∧ H d = some (.dK kvs) ∧ Pu H d kvs ns F ∧ ns.length ≤ 7 ∧ (∀ x, (F x).2 ≤ 3) ∧ ∀ H', PotAt H' p g s → But p g H H' → Q (.bl true) H'
theorem ok_far {f : Addr} {fd : FuncData} (F : Fun K "_law_far_right" "_law_far_right" s_l_far_right f fd) (T : Bj mg) (D_l_great : Has P w K mg base "_law_great" 2 ["_law_pot_here"] spGreat) (D_many_times : Has P w K mg base "many_times" 5 ["push", "many"] spMany)
    (D_one_more : Has P w K mg base "one_more" 5 ["push", "other"] spOneMore) (D_turn : Has P w K mg base "turn" 5 ["push"] spTurn) (D_way : Has P w K mg base "way" 5 ["push", "name"] spWay) (D_gain : Has P w K mg base "gain" 6 ["push", "name"] spGain) : FnOk P w K mg base CX0 7 f fd ["_law_pot_here", "_law_push"] spFar := by
  refine F.ok sc_l_far_right (fun vs H Q E h => ?_) (fun cdv A outer s₀ H vs Q E hr h => ?_)
  · obtain ⟨p, g, s, d, kvs, ns, F0, rfl, _⟩ := h
    rfl
  · obtain ⟨p, g, s, d, kvs, ns, F0, rfl, Z, hd, pu, l7, m3, kk⟩ := h
    have hu := hu_of hr
    have m6 : ∀ x, (F0 x).2 ≤ 1000000 := fun x => Int.le_trans (m3 x) (by decide)
    refine ⟨_, (pss_cons (ps_par (i := 2) (j := 3) (by rfl) sc_l_far_right.nd rfl rfl (by decide) rfl rfl (pa_cons (pe_op op_fdiv (D_l_great.call (hr.mono (by decide)) (by rfl) (pa_cons (pv 0) pa_nil)) pe_int) (pa_cons (pe_op op_fdiv (D_l_great.call (hr.mono (by decide)) (by rfl) (pa_cons (pv 0) pa_nil)) pe_int) pa_nil)) rfl)
 (pss_cons (ps_set (i := 4) sc_l_far_right.nd rfl (.inl rfl) (D_many_times.call (hr.mono (by decide)) (by rfl) (pa_cons (pv 1) (pa_cons (pv 2) pa_nil))))
 (pss_cons (ps_if (pt_cmpR (op_neDicts (hu66 hr)) (D_many_times.call (hr.mono (by decide)) (by rfl) (pa_cons (pv 1) (pa_cons (pe_op op_add (pv 2) (pv 3)) pa_nil))) (D_one_more.call (hr.mono (by decide)) (by rfl) (pa_cons (pv 4) (pa_cons (D_many_times.call (hr.mono (by decide)) (by rfl) (pa_cons (pv 1) (pa_cons (pv 3) pa_nil))) pa_nil))) (nomark _))
  (pss_one (ps_ret pe_bl))
  pss_nil)
 (pss_cons (ps_set (i := 5) sc_l_far_right.nd rfl (.inl rfl) (D_turn.call (hr.mono (by decide)) (by rfl) (pa_cons (pv 1) pa_nil)))
 (pss_cons (ps_lock (ps_for PassesOwn.never rfl (pi_keys (pv 1)) (pg_name (i := 6) sc_l_far_right.nd rfl (.inl rfl))
  (pss_cons (ps_asg (D_way.call (hr.mono (by decide)) (by rfl) (pa_cons (pv 1) (pa_cons (pv 6) pa_nil))) (pg_tup (by rfl) (pgs_cons (pg_name (i := 7) sc_l_far_right.nd rfl (.inl rfl)) (pgs_cons (pg_name (i := 8) sc_l_far_right.nd rfl (.inl rfl)) pgs_nil))))
 (pss_cons (ps_asg (pe_dget hu (D_many_times.call (hr.mono (by decide)) (by rfl) (pa_cons (pv 1) (pa_cons (pe_op op_mul (pv 5) (pv 2)) pa_nil))) (pv 6) (fun _ _ => rfl)) (pg_tup (by rfl) (pgs_cons (pg_name (i := 9) sc_l_far_right.nd rfl (.inl rfl)) (pgs_cons (pg_name (i := 10) sc_l_far_right.nd rfl (.inl rfl)) pgs_nil))))
 (pss_one (ps_if (pt_cmpR op_eq (pe_callB call_len_seq (by rfl) T.len PySem.boot_len (pa_cons (pv 7) pa_nil)) pe_int (nomark _))
  (pss_one (ps_if ((pw_or (pt_cmpR op_ne (pv 9) (pv 6) (nomark _)) (pw_or1 (pt_cmpR op_ne (pv 10) (pe_op op_fdiv (pe_op op_mul (pe_op op_mul (D_gain.call (hr.mono (by decide)) (by rfl) (pa_cons (pv 1) (pa_cons (pv 6) pa_nil))) (pv 2)) (pv 5)) (pe_callB call_len_seq (by rfl) T.len PySem.boot_len (pa_cons (pv 8) pa_nil))) (nomark _))))).pt
  (pss_one (ps_ret pe_bl))
  pss_nil))
  pss_nil))))))
 (pss_one (ps_ret pe_bl))))))), ?_⟩
    have nd3 := Z.p_neD hd
    refine ⟨_, rfl, p, g, s, rfl, Z, fun n1 H1 n10 Z1 b1 => ⟨_, _, rfl, rfl, ⟨by decide, by decide⟩, _, rfl, p, g, s, rfl, Z1, fun n2 H3 n20 Z3 b2 => ⟨_, _, rfl, rfl, ⟨by decide, by decide⟩, _, _, rfl, ?_⟩⟩⟩
    obtain ⟨o1, e1⟩ : ∃ o : Nat, n1 / 100 = (o : Int) := ⟨(n1 / 100).toNat, (Int.toNat_of_nonneg (Int.ediv_nonneg n10 (by decide))).symm⟩
    obtain ⟨o2, e2⟩ : ∃ o : Nat, n2 / 100 = (o : Int) := ⟨(n2 / 100).toNat, (Int.toNat_of_nonneg (Int.ediv_nonneg n20 (by decide))).symm⟩
    dsimp only
    rw [e1, e2]
    have b3 := b1.trans b2
    have hd3 := b3 _ _ hd nd3.1 nd3.2
    have D3 := pu.dic.keep (b3.tupP Z)
    clear b1 b2 Z1
    have pq : ∀ H4, Same H3 H4 → Pu H4 d kvs ns F0 := fun H4 s4 => ⟨.inl (s4 _ _ hd3), Lz.of (s4 _ _ hd3), D3.keep s4.tupP, pu.nd, pu.l0, pu.l1, pu.ok, pu.cl, pu.mo⟩
    -- told
    refine ⟨_, rfl, _, rfl, d, kvs, ns, F0, o1, rfl, pq _ (Same.refl _), m6, fun f1 k1 H4 s4 nf1 hf1 D1 => ?_⟩
    refine ⟨_, rfl, _, rfl, _, rfl, _, _, rfl, rfl, d, kvs, ns, F0, o1 + o2, rfl, pq _ s4, m6, fun f2 k2 H5 s5 nf2 hf2 D2 => ?_⟩
    have s35 := s4.trans s5
    refine ⟨_, rfl, _, rfl, _, rfl, d, kvs, ns, F0, o2, rfl, pq _ s35, m6, fun f3 k3 H6 s6 nf3 hf3 D3' => ?_⟩
    have s36 := s35.trans s6
    have hf16 := (s5.trans s6) _ _ hf1
    have D16 := D1.keep (s5.trans s6).tupP
    have ne13 : f1 ≠ f3 := fun e => by rw [e] at hf1; rw [s5 _ _ hf1] at nf3; cases nf3
    refine ⟨f1, f3, k1, k3, ns, ns, powF F0 o1, powF F0 o2, rfl, hf16, D16, hf3, D3', ne13, pu.nd, List.Perm.refl _, pu.l0, pu.l1, pu.ok, pow_cl pu.cl o1, pow_mo pu.mo o1, pow_cl pu.cl o2, pow_mo pu.mo o2, fun f4 k4 H7 s7 nf4 hf4 D4 => ?_⟩
    rw [pow_add] at D4
    have D27 := D2.keep (s6.trans s7).tupP
    have nmy : ∀ n, ∀ x ∈ ns, ∀ y, ((powF F0 n) x).1 = some y → nmB y = true := fun n x m y e => pu.ok y (pow_cl pu.cl n x m y e)
    obtain ⟨c1, c2⟩ := dicts_same (K := K) D27 D4 pu.nd (nmy _)
    refine ⟨f2, f4, k2, k4, rfl, rfl, (s6.trans s7) _ _ hf2, hf4, c1, c2, _, rfl, ?_⟩
    have s37 := s36.trans s7
    -- rounds
    refine ⟨_, rfl, d, kvs, ns, F0, rfl, s37 _ _ hd3, pq _ s37, l7, fun R H8 TO s8 => ?_⟩
    have R5 := turn_le l7 pu.cl TO
    have s38 := s37.trans s8
    have hd8 := s38 _ _ hd3
    have D8 := D3.keep s38.tupP
    have Z8 := Z3.same s38
    have b8 : But p g H H8 := b3.trans (But.of s38)
    clear D27 c1 c2 D4 hf4 nf4 D16 hf16 D3' hf3 nf3 D2 hf2 nf2 D1 hf1 nf1 s4 s5 s35 s6 s36 s7 s37 s8 s38 pq
    have pd := Z8.p_neL (xs := kvs) hd8 (fun _ e => nomatch e)
    refine ⟨d, .dK kvs, hd8, trivial, fun od => ⟨_, rfl, d, od, rfl, .inl ⟨kvs, upd_same, for_it (walk_keys (d := d) (o := od) (kvs := kvs)) (fun j σ H9 => ∃ y6 y7 y8 y9 y10, σ = [some (.ref p), some (.ref d), some (.int (o1 : Nat)), some (.int (o2 : Nat)), some (.ref f1), some (.int (R : Nat)), y6, y7, y8, y9, y10] ∧ Lk d od (.dK kvs) H8 H9)
      ⟨_, _, _, _, _, rfl, Lk.start⟩ (fun j σ H9 _ q => by obtain ⟨_, _, _, _, _, _, q⟩ := q; exact q.fz) (fun j v σ H9 H9' hj q y => ?_) fun σ H9 q => ?_⟩⟩⟩
    · obtain ⟨y6, y7, y8, y9, y10, rfl, L⟩ := q
      obtain ⟨e1', kx, v0, hx, rfl⟩ := y
      subst e1'
      obtain ⟨x, hxj, xm, rfl, ev, _⟩ := D8.at_ pu.nd hx
      have pf : ∀ H', Lk d od (.dK kvs) H8 H' → Pu H' d kvs ns F0 := fun H' L' => by
        obtain ⟨u, hz, mu⟩ := (Z8.lkD L' pd).p_mut
        exact ⟨.inr ⟨od, L'.fz⟩, Lz.frz L'.fz hz mu, D8.keep (L'.tup hd8), pu.nd, pu.l0, pu.l1, pu.ok, pu.cl, pu.mo⟩
      refine ⟨_, rfl, _, rfl, d, kvs, ns, F0, x, rfl, pf _ L, xm, fun t1 a1 b1' l r H10 W s10 ht1 ha1 hb1 => ?_⟩
      have L10 := L.step s10
      refine ⟨t1, _, rfl, SqT.of ht1, rfl, _, _, rfl, _, _, rfl, rfl, ?_⟩
      refine ⟨_, rfl, _, rfl, _, rfl, _, _, rfl, rfl, .inl ⟨by omega, by omega⟩, d, kvs, ns, F0, R * o1, rfl, pf _ L10, m6, fun f5 k5 H11 s11 nf5 hf5 D5 => ?_⟩
      have L11 := L10.step s11
      obtain ⟨v5, ev5, t5, rfl, ht5⟩ := D5.val x xm
      refine ⟨_, rfl, f5, _, rfl, .inl ⟨k5, Sum.inr x, .inl hf5, rfl, ev5.symm⟩, t5, _, rfl, SqT.of ht5, rfl, _, _, rfl, _, _, rfl, rfl, ?_⟩
      refine ⟨_, rfl, a1, _, rfl, .inr (SqT.of (s11 _ _ ha1)), rfl, _, rfl, ite2 (fun hc => ?_) (fun hc => ⟨_, _, _, _, _, rfl, L11⟩)⟩
      have hc : V.int ((l.map V.str).length : Nat) = V.int 0 := of_decide_eq_true hc
      have el : l = [] := by
        have := V.int.inj hc
        rw [List.length_map] at this
        exact List.eq_nil_of_length_eq_zero (by omega)
      subst el
      have rne : r ≠ [] := fun e => by
        have h := W.hd
        rw [e] at h
        cases h
      have rl : 0 < r.length := List.length_pos_iff.mpr rne
      obtain ⟨q, hq⟩ : r.length ∣ R := TO.all x xm [] r W rne
      have rn : r.length ≤ ns.length := nd_sub_len W.nd fun y m => W.inNs pu.cl xm y m
      obtain ⟨m0, mx⟩ := moreS_in3 pu.mo m3 r
      have ep : powF F0 (R * o1) x = (some x, ((q * o1 : Nat) : Int) * moreS F0 r) := by
        rw [hq, show r.length * q * o1 = (q * o1) * r.length by rw [Nat.mul_assoc, Nat.mul_comm]]
        exact pow_ring W rne _
      rw [ep]
      refine ⟨_, rfl, _, rfl, rfl, _, rfl, ?_⟩
      refine noB (by rw [show decide ((osV (some x)) = kV (Sum.inr x)) = true from decide_eq_true rfl]; rfl) ?_
      refine ⟨_, rfl, _, rfl, _, rfl, d, kvs, ns, F0, x, rfl, pf _ L11, xm, fun l4 r4 H12 W4 s12 => ?_⟩
      obtain ⟨_, e6⟩ := way_uniq W4 W
      subst e6
      refine ⟨_, rfl, _, _, rfl, rfl, .inl ⟨by omega, by omega⟩, _, rfl, _, _, rfl, rfl, .inr ⟨by omega, by omega⟩, _, rfl, b1', _, rfl, .inr (SqT.of ((s11.trans s12) _ _ hb1)), _, _, rfl, rfl, ⟨by rw [List.length_map]; omega, by rw [List.length_map]; omega⟩, rfl, _, rfl, ?_⟩
      have fin : ((q * o1 : Nat) : Int) * moreS F0 r4 = moreS F0 r4 * ((o1 : Nat) : Int) * ((R : Nat) : Int) / ((r4.map V.str).length : Nat) := by
        rw [List.length_map, hq, Int.natCast_mul, Int.natCast_mul]
        rw [show moreS F0 r4 * (o1 : Int) * (((r4.length : Nat) : Int) * (q : Int)) = ((q : Int) * (o1 : Int) * moreS F0 r4) * ((r4.length : Nat) : Int) by
          rw [Int.mul_comm ((r4.length : Nat) : Int), ← Int.mul_assoc, Int.mul_comm (moreS F0 r4 * (o1 : Int)), Int.mul_comm (moreS F0 r4), ← Int.mul_assoc]]
        exact (Int.mul_ediv_cancel _ (by omega)).symm
      refine noB (by rw [decide_eq_true (show V.int (((q * o1 : Nat) : Int) * moreS F0 r4) = V.int (moreS F0 r4 * ((o1 : Nat) : Int) * ((R : Nat) : Int) / ((r4.map V.str).length : Nat)) by rw [fin])]; rfl) ?_
      exact ⟨_, _, _, _, _, rfl, L11.step s12⟩
    · obtain ⟨y6, y7, y8, y9, y10, rfl, L⟩ := q
      refine ⟨L.fz, kk _ (Z8.same (L.done hd8)) (b8.trans (But.of (L.done hd8)))⟩
end
end Y

namespace Y
open PySem PySem.Spec PyProof.Rows L2
theorem src_at {ns : List Str} {zs : List Str} (pm : zs.Perm ns) {j : Nat} {v : V} (h : (zs.map V.str ++ [V.non])[j]? = some v) : ∃ so : Option Str, v = osV so ∧ ∀ y, so = some y → y ∈ ns := by
  have m := at_mem h
  rcases List.mem_append.mp m with k | k
  · obtain ⟨y, ym, rfl⟩ := List.mem_map.mp k
    exact ⟨some y, rfl, fun w e => by cases e; exact pm.mem_iff.mp ym⟩
  · rw [List.mem_singleton.mp k]
    exact ⟨none, rfl, fun w e => nomatch e⟩
section
variable {P : Program} {w : World} {K : PySem.W.Frag} {mg : Str → Option Value} {base : Heap}
abbrev s_law : Stmt := topS 43
theorem sc_law : FnScope ["_law_script", "_law_pot_here", "_law_again", "_law_push", "_law_numbers", "_law_name", "_law_told", "_law_other", "_law_many", "_law_due", "_law_k", "_law_kept"] ["_law_script"] (defScope s_law) := ⟨rfl, rfl, rfl, by decide +kernel, rfl, by decide +kernel, by decide +kernel⟩
def spLaw (K : PySem.W.Frag) : Sp := fun vs H Q _ => ∃ (a : Addr) (ns : List Int), vs = [.ref a] ∧ SqL K H a (ns.map V.int) ∧ ns.length ≤ 63 ∧ ∀ H', Q (.bl true) H'
theorem ok_law {f : Addr} {fd : FuncData} (F : Fun K "law" "law" s_law f fd) (T : Bj mg)
    (D_l_pot : Has P w K mg base "_law_pot" 1 ["_law_script"] (spPot K)) (D_l_draw : Has P w K mg base "_law_draw" 1 ["_law_pot_here", "_law_many"] spDraw) (D_l_any : Has P w K mg base "_law_any" 2 ["_law_pot_here", "_law_items"] (spAny K)) (D_l_mixed : Has P w K mg base "_law_mixed" 2 ["_law_pot_here", "_law_items"] (spMixed K))
    (D_l_drawn_push : Has P w K mg base "_law_drawn_push" 4 ["_law_pot_here"] spDrawnPush) (D_l_is_int : Has P w K mg base "_law_is_int" 1 ["_law_thing"] spIsInt) (D_l_push_done : Has P w K mg base "_law_push_done" 1 ["_law_push", "_law_numbers"] spPushDone) (D_l_after : Has P w K mg base "_law_after" 1 ["_law_push", "_law_other"] spAfter)
    (D_l_push_told : Has P w K mg base "_law_push_told" 2 ["_law_told", "_law_due"] spPushTold) (D_l_great : Has P w K mg base "_law_great" 2 ["_law_pot_here"] spGreat) (D_l_nothing : Has P w K mg base "_law_nothing" 1 ["_law_push"] spNothing) (D_l_far_right : Has P w K mg base "_law_far_right" 7 ["_law_pot_here", "_law_push"] spFar)
    (D_pushed : Has P w K mg base "pushed" 5 ["push", "numbers"] spPushed) (D_one_more : Has P w K mg base "one_more" 5 ["push", "other"] spOneMore) (D_many_times : Has P w K mg base "many_times" 5 ["push", "many"] spMany) (D_tail : Has P w K mg base "tail" 5 ["push"] spTail) :
    FnOk P w K mg base CX0 8 f fd ["_law_script"] (spLaw K) := by
  refine F.ok sc_law (fun vs H Q E h => ?_) (fun cdv A outer s₀ H vs Q E hr h => ?_)
  · obtain ⟨a, ns, rfl, _⟩ := h
    rfl
  · obtain ⟨a, sc, rfl, hS, hlen, kk⟩ := h
    have hu := hu_of hr
    refine ⟨_, (pss_cons (ps_set (i := 1) sc_law.nd rfl (.inl rfl) (D_l_pot.call (hr.mono (by decide)) (by rfl) (pa_cons (pv 0) pa_nil)))
 (pss_cons (ps_for PassesOwn.never rfl (pi_range1 (by rfl) T.range (pa_cons pe_int pa_nil)) (pg_name (i := 2) sc_law.nd rfl (.inl rfl))
  (pss_cons (ps_set (i := 3) sc_law.nd rfl (.inl rfl) (D_l_drawn_push.call (hr.mono (by decide)) (by rfl) (pa_cons (pv 1) pa_nil)))
 (pss_cons (ps_set (i := 4) sc_law.nd rfl (.inl rfl) pe_dnewK)
 (pss_cons (ps_lock (ps_for PassesOwn.never rfl (pi_keys (pv 3)) (pg_name (i := 5) sc_law.nd rfl (.inl rfl))
  (pss_one (ps_dput hu (pv 4) (pv 5) (D_l_great.call (hr.mono (by decide)) (by rfl) (pa_cons (pv 1) pa_nil)) rfl))))
 (pss_cons (ps_set (i := 6) sc_law.nd rfl (.inr rfl) (D_pushed.call (hr.mono (by decide)) (by rfl) (pa_cons (pv 3) (pa_cons (pv 4) pa_nil))))
 (pss_cons (ps_if ((pw_or (pt_cmpR (op_neDicts (hu66 hr)) (pv 6) (D_l_push_done.call (hr.mono (by decide)) (by rfl) (pa_cons (pv 3) (pa_cons (pv 4) pa_nil))) (nomark _)) (pw_or1 (pt_not (pt_val (pe_callB (id := "all") (r := rAll K) (cr_all (by rfl)) (by rfl) T.all (by decide +kernel) (pa_cons (pe_lock (pe_lc (own := [("_law_name", 5)]) (g := gName 5) (tt := tYes) (by rfl) sc_law.nd (pi_keys (pv 6)) (blkOk_by (N := ["_law_script", "_law_pot_here", "_law_again", "_law_push", "_law_numbers", "_law_name", "_law_told", "_law_other", "_law_many", "_law_due", "_law_k", "_law_kept"]) (sc := defScope s_law) (by decide +kernel)) (fun _ _ _ _ _ => pg_name (i := 5) sc_law.nd rfl (.inl rfl)) (fun _ _ _ _ _ => pts_nil) (fun _ _ _ _ _ => (D_l_is_int.call (hr.mono (by decide)) (by rfl) (pa_cons (pe_dget hu (pv 6) (pv 5) (fun _ _ => rfl)) pa_nil))))) pa_nil))))))).pt
  (pss_one (ps_ret pe_bl))
  pss_nil)
 (pss_cons (ps_set (i := 7) sc_law.nd rfl (.inl rfl) pe_dnewK)
 (pss_cons (ps_for PassesOwn.never rfl (pi_list (D_l_mixed.call (hr.mono (by decide)) (by rfl) (pa_cons (pv 1) (pa_cons (pe_callB (id := "sorted") (cr_sortedS) (by rfl) T.sorted (by decide +kernel) (pa_cons (pe_callTy (T := "list") (call_listD (by rfl)) (by rfl) T.list_ (by decide +kernel) (pa_cons (pv 3) pa_nil)) pa_nil)) pa_nil)))) (pg_name (i := 5) sc_law.nd rfl (.inl rfl))
  (pss_one (ps_dput hu (pv 7) (pv 5) (pe_tup (pa_cons (D_l_any.call (hr.mono (by decide)) (by rfl) (pa_cons (pv 1) (pa_cons (pe_op op_cat (pe_callB (id := "sorted") (cr_sortedS) (by rfl) T.sorted (by decide +kernel) (pa_cons (pe_callTy (T := "list") (call_listD (by rfl)) (by rfl) T.list_ (by decide +kernel) (pa_cons (pv 3) pa_nil)) pa_nil)) (pe_lst (pa_cons pe_non pa_nil))) pa_nil))) (pa_cons (D_l_draw.call (hr.mono (by decide)) (by rfl) (pa_cons (pv 1) (pa_cons pe_int pa_nil))) pa_nil))) rfl)))
 (pss_cons (ps_if (pt_not (pt_val (D_l_push_told.call (hr.mono (by decide)) (by rfl) (pa_cons (D_one_more.call (hr.mono (by decide)) (by rfl) (pa_cons (pv 3) (pa_cons (pv 7) pa_nil))) (pa_cons (D_l_after.call (hr.mono (by decide)) (by rfl) (pa_cons (pv 3) (pa_cons (pv 7) pa_nil))) pa_nil)))))
  (pss_one (ps_ret pe_bl))
  pss_nil)
 (pss_cons (ps_set (i := 8) sc_law.nd rfl (.inl rfl) (D_l_draw.call (hr.mono (by decide)) (by rfl) (pa_cons (pv 1) (pa_cons pe_int pa_nil))))
 (pss_cons (ps_set (i := 9) sc_law.nd rfl (.inl rfl) (D_l_nothing.call (hr.mono (by decide)) (by rfl) (pa_cons (pv 3) pa_nil)))
 (pss_cons (ps_for PassesOwn.never rfl (pi_range1 (by rfl) T.range (pa_cons (pv 8) pa_nil)) (pg_name (i := 10) sc_law.nd rfl (.inl rfl))
  (pss_one (ps_set (i := 9) sc_law.nd rfl (.inl rfl) (D_l_after.call (hr.mono (by decide)) (by rfl) (pa_cons (pv 9) (pa_cons (pv 3) pa_nil))))))
 (pss_cons (ps_set (i := 11) sc_law.nd rfl (.inl rfl) (pe_callTy (T := "dict") (call_dictD) (by rfl) T.dict_ (by decide +kernel) (pa_cons (pv 3) pa_nil)))
 (pss_cons (ps_if ((pw_or (pt_not (pt_val (D_l_push_told.call (hr.mono (by decide)) (by rfl) (pa_cons (D_many_times.call (hr.mono (by decide)) (by rfl) (pa_cons (pv 3) (pa_cons (pv 8) pa_nil))) (pa_cons (pv 9) pa_nil))))) (pw_or1 (pt_cmpR (op_neDicts (hu66 hr)) (pv 3) (pv 11) (nomark _))))).pt
  (pss_one (ps_ret pe_bl))
  pss_nil)
 (pss_cons (ps_if ((pw_or (pt_cmpR (op_neDicts (hu66 hr)) (D_many_times.call (hr.mono (by decide)) (by rfl) (pa_cons (pv 3) (pa_cons pe_int pa_nil))) (D_l_nothing.call (hr.mono (by decide)) (by rfl) (pa_cons (pv 3) pa_nil)) (nomark _)) (pw_or1 (pt_not (pt_val (D_l_far_right.call (hr.mono (by decide)) (by rfl) (pa_cons (pv 1) (pa_cons (pv 3) pa_nil)))))))).pt
  (pss_one (ps_ret pe_bl))
  pss_nil)
 (pss_one (ps_if (pt_cmpR op_gt (D_tail.call (hr.mono (by decide)) (by rfl) (pa_cons (pv 3) pa_nil)) (pe_callB call_lenD (by rfl) T.len PySem.boot_len (pa_cons (pv 3) pa_nil)) (nomark _))
  (pss_one (ps_ret pe_bl))
  pss_nil)))))))))))))))))
 (pss_one (ps_ret pe_bl)))), ?_⟩
    refine ⟨_, rfl, a, sc, rfl, hS, hlen, fun p g s H1 s1 np ng nz Z1 => ?_⟩
    refine ⟨4, rfl, by decide, by decide, for_range (lo := 0) (n := ((4 : Int)).toNat) (fun i σ H2 => ∃ y2 y3 y4 y5 y6 y7 y8 y9 y10 y11, σ = [some (.ref a), some (.ref p), y2, y3, y4, y5, y6, y7, y8, y9, y10, y11] ∧ PotAt H2 p g s) ⟨_, _, _, _, _, _, _, _, _, _, rfl, Z1⟩ ?_ ?_⟩
    · rintro i σ H2 hi ⟨y2, y3, y4, y5, y6, y7, y8, y9, y10, y11, rfl, Z2⟩
      refine ⟨_, rfl, p, g, s, rfl, Z2, fun d kvs ns F0 H3 D nd n8 l0 l7 cl mo mi nd0 hd3 Z3 b3 => ?_⟩
      have ok : ∀ x ∈ ns, nmB x = true := fun x m => nm8_ok x (n8 x m)
      have l1 : ns.length ≤ 1000 := by omega
      have srk : ∀ x ∈ ns, ∀ y, (F0 x).1 = some y → nmB y = true := fun x m y e => ok y (cl x m y e)
      clear b3 nd0 Z2
      -- numbers
      intro nu nnu
      have ndn : d ≠ nu := ne_of_none hd3 nnu
      have nu3 := Z3.free nnu
      have pd := Z3.s_neD hd3
      refine ⟨d, .dK kvs, (by rw [upd_ne ndn]; exact hd3), trivial, fun od => ⟨_, rfl, d, od, rfl, .inl ⟨kvs, upd_same, for_it (walk_keys (d := d) (o := od) (kvs := kvs)) (fun j σ H4 => ∃ y5 kn u, σ = [some (.ref a), some (.ref p), some (.int (0 + (i : Nat))), some (.ref d), some (.ref nu), y5, y6, y7, y8, y9, y10, y11] ∧
          H4 d = some (.frz od (.dK kvs)) ∧ (∀ t xs, H3 t = some (.tup xs) → H4 t = some (.tup xs)) ∧ PotAt H4 p g s ∧ H4 nu = some (.dK kn) ∧ Dic (isNum u) H4 kn (ns.take j) ∧ ∀ x, 0 ≤ u x)
        ⟨_, [], fun _ => 0, rfl, upd_same, fun t xs k => by rw [upd_ne (fun z => by rw [z, hd3] at k; cases k), upd_ne (ne_of_none k nnu)]; exact k, (Z3.put nu3).put ⟨pd.1.symm, pd.2.1.symm, pd.2.2.symm⟩, by rw [upd_ne ndn.symm, upd_same], Dic.nil, fun _ => Int.le_refl _⟩
        (fun j σ H5 _ q => by obtain ⟨_, _, _, _, q, _⟩ := q; exact q) (fun j v σ H4 H4' hj q y => ?_) fun σ H4 q => ?_⟩⟩⟩
      · obtain ⟨y5', kn, u, rfl, hd4, tk, Z4, hn4, N4, u0⟩ := q
        obtain ⟨e1, kx, v0, hx, rfl⟩ := y
        subst e1
        obtain ⟨x, hxj, xm, rfl, ev, _⟩ := D.at_ nd hx
        refine ⟨_, rfl, p, g, s, rfl, Z4, fun r H5 r0 Z5 b5 => ?_⟩
        have hn5 := b5 _ _ hn4 (Z4.p_neD hn4).1 (Z4.p_neD hn4).2
        have hd5 := b5 _ _ hd4 pd.1.symm pd.2.1.symm
        refine ⟨_, rfl, _, rfl, nu, _, rfl, DPut.k (k := Sum.inr x) hn5 (by rw [N4.len, List.length_take]; exact big1 (by omega)), ?_⟩
        have nx := nd_take nd hxj
        refine ⟨_, _, upF u x r, rfl, by rw [upd_ne ndn]; exact hd5, fun t xs k => by rw [upd_ne (ne_of_none k nnu)]; exact b5.tupP Z4 _ _ (tk _ _ k), Z5.put nu3, upd_same, ?_, fun y => ?_⟩
        · rw [take_next hxj]
          refine N4.snoc nx (by show V.int r = V.int (upF u x r x); rw [upF_same]) fun y v ym g => ?_
          have g : v = V.int (u y) := g
          show v = V.int (upF u x r y)
          rw [upF_ne (fun e : y = x => nx (by rw [← e]; exact ym))]
          exact g
        · by_cases e : y = x
          · subst e; rw [upF_same]; exact r0
          · rw [upF_ne e]; exact u0 y
      obtain ⟨y5', kn, u, rfl, hd4, tk, Z4, hn4, N4, u0⟩ := q
      rw [D.len, List.take_length] at N4
      refine ⟨hd4, ?_⟩
      have hd6 : (upd H4 d (.dK kvs)) d = some (.dK kvs) := upd_same
      have hn6 : (upd H4 d (.dK kvs)) nu = some (.dK kn) := by rw [upd_ne ndn.symm]; exact hn4
      have D6 : Dic (isPair F0) (upd H4 d (.dK kvs)) kvs ns := D.keep fun t xs k => by rw [upd_ne (fun z => by rw [z, hd3] at k; cases k)]; exact tk _ _ k
      have Z6 : PotAt (upd H4 d (.dK kvs)) p g s := Z4.put ⟨pd.1.symm, pd.2.1.symm, pd.2.2.symm⟩
      have N6 : Dic (isNum u) (upd H4 d (.dK kvs)) kn ns := N4.num
      generalize upd H4 d (.dK kvs) = H6 at hd6 hn6 D6 Z6 N6
      clear hd4 hn4 tk Z4 N4 D Z3 hd3 nnu nu3
      -- told
      refine ⟨_, rfl, _, rfl, d, nu, kvs, kn, ns, F0, u, rfl, hd6, D6, hn6, N6, ndn, nd, l0, l1, ok, cl, mo, fun x _ => u0 x, fun t1 k1 H7 s7 nt1 ht1 T1 => ?_⟩
      refine ⟨_, rfl, _, rfl, _, rfl, d, nu, kvs, kn, ns, F0, u, rfl, s7 _ _ hd6, D6.keep s7.tupP, s7 _ _ hn6, N6.num, ndn, nd, l1, cl, fun t2 k2 H8 s8 nt2 ht2 T2 => ?_⟩
      have ht18 := s8 _ _ ht1
      obtain ⟨c1, c2⟩ := nums_same (K := K) (H := H8) T1.num T2 nd
      refine ⟨t1, t2, k1, k2, rfl, rfl, ht18, ht2, c1, c2, _, rfl, ?_⟩
      have s68 := s7.trans s8
      -- all are ints
      refine ⟨t1, .dK k1, ht18, trivial, fun od1 => ⟨_, rfl, t1, od1, rfl, .inl ⟨k1, upd_same, fun Dl nDl => lc_it (walk_keys (d := t1) (o := od1) (kvs := k1)) (fun j H9 => Lk t1 od1 (.dK k1) H8 H9 ∧ H9 Dl = some (.lst ((trs j).map V.bl)))
        ⟨?_, upd_same⟩ (fun j H9 _ q => q.1.fz) (fun j v H9 H9' hj q y => ?_) fun H9 q => ?_⟩⟩⟩
      · have k := Lk.free (Lk.start (u := .dK k1)) nDl
        exact Lk.start.put k.1 (k.2 k.1)
      · obtain ⟨rfl, kx, v0, hx, rfl⟩ := y
        obtain ⟨q1, q2⟩ := q
        obtain ⟨x, hxj, xm, rfl, ev, gv⟩ := T1.at_ nd hx
        have gv : v0 = V.int (evP F0 u x) := gv
        subst gv
        have k := Lk.free (Lk.start (u := .dK k1)) nDl
        refine ⟨rfl, _, rfl, _, rfl, t1, _, rfl, .inl ⟨k1, Sum.inr x, .inr ⟨od1, q1.fz⟩, rfl, ev.symm⟩, _, rfl, _, q2, by rw [trs_len]; rw [T1.len] at hj; exact big1 (by omega), q1.put k.1 (k.2 k.1), ?_⟩
        rw [upd_same, trs_next]
      obtain ⟨q1, q2⟩ := q
      have kD := Lk.free (Lk.start (u := .dK k1)) nDl
      have s9 := q1.done ht18
      refine ⟨q1.fz, Dl, _, rfl, SqL.of (by rw [upd_ne kD.1]; exact q2), true, by rw [trs_all], ?_⟩
      have s69 := s68.trans s9
      have hd9 := s69 _ _ hd6
      have D9 := D6.keep s69.tupP
      have Z9 := Z6.same s69
      generalize upd H9 t1 (.dK k1) = H10 at hd9 D9 Z9
      clear s69 s9 s68 q1 q2 kD nDl c1 c2 ht18 T2 ht2 nt2 s8 T1 ht1 nt1 s7 hd6 hn6 D6 Z6 N6 u0
      -- other
      intro o no
      have ndo : d ≠ o := ne_of_none hd9 no
      have no3 := Z9.free no
      have so := same_upd (o := .dK []) no
      have hd11 := so _ _ hd9
      have D11 := D9.keep so.tupP
      have Z11 := Z9.same so
      have ho11 : (upd H10 o (.dK [])) o = some (.dK []) := upd_same
      generalize upd H10 o (.dK []) = H11 at hd11 D11 Z11 ho11
      clear so hd9 D9 Z9 no
      refine ⟨_, rfl, _, rfl, d, kvs, rfl, .inl hd11, fun c nc => ?_⟩
      rw [D11.keyVs]
      refine ⟨c, ns, rfl, SqL.of upd_same, by omega, fun ys q pq _ nq => ?_⟩
      have scq := (same_upd (o := .lst (ns.map V.str)) nc).trans (same_upd (o := .lst (ys.map V.str)) nq)
      refine ⟨p, g, s, q, _, rfl, Z11.same scq, .inl (SqL.of upd_same), by rw [List.length_map, pq.length_eq]; omega, by rw [List.length_map, pq.length_eq]; omega, fun l zs H12 pz nl hl Z12 b12 => ?_⟩
      obtain ⟨es, pe, rfl⟩ := perm_map pz rfl
      have pes : es.Perm ns := pe.trans pq
      have nde : es.Nodup := pes.nodup_iff.mpr nd
      have le := pes.length_eq
      have hl3 := (Z11.same scq).free nl
      have hd12 := b12 _ _ (scq _ _ hd11) pd.1.symm pd.2.1.symm
      have ho12 := b12 _ _ (scq _ _ ho11) no3.1 no3.2.1
      have D12 := (D11.keep scq.tupP).keep (b12.tupP (Z11.same scq))
      have ndl : d ≠ l := fun e => by rw [e, hl] at hd12; cases hd12
      have nol : o ≠ l := fun e => by rw [e, hl] at ho12; cases ho12
      refine ⟨l, rfl, ⟨_, SqL.of hl⟩, for_it (walk_list (K := K) (a := l) (xs := es.map V.str)) (fun j σ H13 => ∃ y5 ov G, σ = [some (.ref a), some (.ref p), some (.int (0 + (i : Nat))), some (.ref d), some (.ref nu), y5, some (.ref t1), some (.ref o), y8, y9, y10, y11] ∧ H13 l = some (.lst (es.map V.str)) ∧ H13 d = some (.dK kvs) ∧ Dic (isPair F0) H13 kvs ns ∧ PotAt H13 p g s ∧
          H13 o = some (.dK ov) ∧ Dic (isPair G) H13 ov (es.take j) ∧ (∀ x, ∀ y, (G x).1 = some y → y ∈ ns) ∧ ∀ x, 0 ≤ (G x).2)
        ⟨_, [], fun _ => (none, 0), rfl, hl, hd12, D12, Z12, ho12, Dic.nil, fun _ _ e => (nomatch e), fun _ => Int.le_refl _⟩ (fun j σ H13 _ q => by obtain ⟨_, _, _, _, q, _⟩ := q; exact SqL.of q) (fun j v σ H13 H13' hj q y => ?_) fun σ H13 q => ?_⟩
      · obtain ⟨y5'', ov, G, rfl, hl13, hd13, D13, Z13, ho13, O13, cG, mG⟩ := q
        obtain ⟨e1, e2⟩ := y
        subst e1
        obtain ⟨x, hxj, rfl⟩ := map_at e2
        have xe := at_mem hxj
        refine ⟨_, rfl, _, rfl, d, kvs, rfl, .inl hd13, fun c nc => ?_⟩
        rw [D13.keyVs]
        refine ⟨c, ns, rfl, SqL.of upd_same, by omega, fun ys2 q2 pq2 _ nq2 => ⟨(by show 1 ≤ sizeLine; decide), fun r nr => ?_⟩⟩
        have s14 := (same_upd (o := .lst (ns.map V.str)) nc).trans ((same_upd (o := .lst (ys2.map V.str)) nq2).trans (same_upd (o := .lst [V.non]) nr))
        have hq14 := (same_upd (o := .lst [V.non]) nr) _ _ (upd_same (a := q2) (o := .lst (ys2.map V.str)) (H := upd H13' c (.lst (ns.map V.str))))
        refine ⟨q2, r, _, _, rfl, rfl, hq14, upd_same, Nat.le_of_lt (big1 (by rw [List.length_map, pq2.length_eq]; show ns.length + 1 ≤ 1000000; omega)), fun v nv => ?_⟩
        have s15 := s14.trans (same_upd (o := .lst (ys2.map V.str ++ [V.non])) nv)
        have Z15 := Z13.same s15
        have nv0 : H13' v = none := s14.free nv
        have nv3 := Z13.free nv0
        refine ⟨p, g, s, v, _, rfl, Z15, .inl ⟨SqL.of upd_same, nv3.1, nv3.2.1⟩, by rw [List.length_append]; show 0 < _ + 1; omega, by rw [List.length_append, List.length_map, pq2.length_eq]; show ns.length + 1 ≤ 1000000; omega, fun jj vv H16 hvv Z16 b16 => ?_⟩
        obtain ⟨so, rfl, som⟩ := src_at pq2 hvv
        have up16 : ∀ b u, H13' b = some u → b ≠ p → b ≠ g → H16 b = some u := fun b u h n1 n2 => b16 _ _ (s15 _ _ h) n1 n2
        refine ⟨_, rfl, p, g, s, 3, rfl, Z16, by decide, by decide, fun m H17 m0 m1 Z17 b17 => ⟨(by show 2 ≤ sizeLine; decide), fun t nt => ?_⟩⟩
        have up17 : ∀ b u, H13' b = some u → b ≠ p → b ≠ g → H17 b = some u := fun b u h n1 n2 => b17 _ _ (up16 _ _ h n1 n2) n1 n2
        have hd17 := up17 _ _ hd13 pd.1.symm pd.2.1.symm
        have ho17 := up17 _ _ ho13 no3.1 no3.2.1
        have hl17 := up17 _ _ hl13 hl3.1 hl3.2.1
        have tk17 : ∀ t xs, H13' t = some (.tup xs) → H17 t = some (.tup xs) := fun t xs k => up17 _ _ k (Z13.p_ne k).1 (Z13.p_ne k).2
        have not_ : o ≠ t := ne_of_none ho17 nt
        have ndt : d ≠ t := ne_of_none hd17 nt
        have nlt : l ≠ t := ne_of_none hl17 nt
        have nt3 := Z17.free nt
        refine ⟨_, rfl, _, rfl, o, _, rfl, DPut.k (k := Sum.inr x) (by rw [upd_ne not_]; exact ho17) (by rw [O13.len, List.length_take]; exact big1 (by omega)), ?_⟩
        have nx := nd_take nde hxj
        have tk18 : ∀ t' xs, H13' t' = some (.tup xs) → (upd (upd H17 t (.tup [osV so, .int m])) o (.dK (putK ov (Sum.inr x) (.ref t)))) t' = some (.tup xs) := fun t' xs k => by
          have k := tk17 _ _ k
          rw [upd_ne (fun z => by rw [z, ho17] at k; cases k), upd_ne (ne_of_none k nt)]; exact k
        refine ⟨_, _, upF G x (so, m), rfl, by rw [upd_ne nol.symm, upd_ne nlt]; exact hl17, by rw [upd_ne ndo, upd_ne ndt]; exact hd17, D13.keep tk18, (Z17.put nt3).put no3, upd_same, ?_, fun y w e => ?_, fun y => ?_⟩
        · rw [take_next hxj]
          refine O13.snoc nx ⟨t, rfl, ?_⟩ fun y v ym g => ?_
          · rw [upd_ne not_.symm, upd_same, upF_same]
          · obtain ⟨t', e', k'⟩ := g
            refine ⟨t', e', ?_⟩
            rw [upF_ne (fun e : y = x => nx (by rw [← e]; exact ym))]
            exact tk18 _ _ k'
        · by_cases k : y = x
          · subst k; rw [upF_same] at e; exact som w e
          · rw [upF_ne k] at e; exact cG y w e
        · by_cases k : y = x
          · subst k; rw [upF_same]; exact m0
          · rw [upF_ne k]; exact mG y
      obtain ⟨y5'', ov, G, rfl, hl13, hd13, D13, Z13, ho13, O13, cG, mG⟩ := q
      rw [List.length_map, List.take_length] at O13
      clear hl13 hd12 ho12 D12 hl Z12 b12 nl hl3 scq hd11 D11 Z11 ho11 nc nq
      have cGe : ∀ x ∈ es, ∀ y, (G x).1 = some y → y ∈ es := fun x _ y e => pes.mem_iff.mpr (cG x y e)
      -- one more
      refine ⟨_, rfl, _, rfl, d, o, kvs, ov, ns, es, F0, G, rfl, hd13, D13, ho13, O13, ndo, nd, pes, l0, l1, ok, cl, mo, cGe, mG, fun f1 g1 H14 s14 nf1 hf1 E1 => ?_⟩
      refine ⟨_, rfl, _, rfl, d, o, kvs, ov, ns, es, F0, G, rfl, s14 _ _ hd13, D13.keep s14.tupP, s14 _ _ ho13, O13.keep s14.tupP, ndo, nde, by omega, fun x _ y e => cG x y e, fun f2 g2 H15 s15 nf2 hf2 E2 => ?_⟩
      refine ⟨f1, f2, g1, g2, es, thenF F0 G, rfl, s15 _ _ hf1, hf2, E1.keep s15.tupP, E2, nde, fun x xm y e => ?_, fun H16 s16 => ⟨true, rfl, ?_⟩⟩
      · have q := then_cl (ns := ns) cl (fun x _ y e => cG x y e) x (pes.mem_iff.mp xm) y e
        exact ok y q
      have s136 := (s14.trans s15).trans s16
      have hd16 := s136 _ _ hd13
      have D16 := D13.keep s136.tupP
      have Z16 := Z13.same s136
      clear s136 s14 s15 s16 hf1 hf2 nf1 nf2 E1 E2 hd13 D13 Z13 ho13 O13
      -- so many times
      refine ⟨_, rfl, p, g, s, 21, rfl, Z16, by decide, by decide, fun r H17 r0 r1 Z17 b17 => ?_⟩
      obtain ⟨n, rfl⟩ : ∃ n : Nat, r = (n : Int) := ⟨_, (Int.toNat_of_nonneg r0).symm⟩
      have hd17 := b17 _ _ hd16 pd.1.symm pd.2.1.symm
      have D17 := D16.keep (b17.tupP Z16)
      refine ⟨_, rfl, d, kvs, ns, F0, rfl, hd17, D17, nd, l1, fun u1 k18 H18 s18 nu1 hu1 U1 => ?_⟩
      refine ⟨_, rfl, _, rfl, by omega, by omega, for_range (lo := 0) (n := ((n : Nat) : Int).toNat) (fun j σ H19 => ∃ y10 du dv, σ = [some (.ref a), some (.ref p), some (.int (0 + (i : Nat))), some (.ref d), some (.ref nu), y5'', some (.ref t1), some (.ref o), some (.int (n : Nat)), some (.ref du), y10, y11] ∧ Same H17 H19 ∧ H19 du = some (.dK dv) ∧ Dic (isPair (powF F0 j)) H19 dv ns ∧ du ≠ d)
        ⟨_, u1, k18, rfl, s18, hu1, U1, fun e => by rw [e, hd17] at nu1; cases nu1⟩ (fun j σ H19 hj q => ?_) fun σ H19 q => ?_⟩
      · obtain ⟨y10', du, dv, rfl, s19, hu19, U19, ne19⟩ := q
        refine ⟨_, rfl, _, rfl, du, d, dv, kvs, ns, ns, powF F0 j, F0, rfl, hu19, U19, s19 _ _ hd17, D17.keep s19.tupP, ne19, nd, l1, cl, fun f1 g1 H20 s20 nf hf Ef => ?_⟩
        exact ⟨_, f1, g1, rfl, s19.trans s20, hf, Ef, fun e => by rw [e, s19 _ _ hd17] at nf; cases nf⟩
      obtain ⟨y10', du, dv, rfl, s19, hu19, U19, ne19⟩ := q
      have en : (((n : Nat) : Int).toNat) = n := rfl
      rw [en] at U19
      have hd19 := s19 _ _ hd17
      have D19 := D17.keep s19.tupP
      have Z19 := Z17.same s19
      clear hu1 U1 nu1 s18 hd17 D17 Z17 s19 hd16 D16 Z16 b17
      -- kept
      refine ⟨_, rfl, d, kvs, rfl, .inl hd19, fun kp nkp => ?_⟩
      have s20 := same_upd (o := .dK kvs) nkp
      have hk20 : (upd H19 kp (.dK kvs)) kp = some (.dK kvs) := upd_same
      have hd20 := s20 _ _ hd19
      have D20 := D19.keep s20.tupP
      have Z20 := Z19.same s20
      have hu20 := s20 _ _ hu19
      have U20 := U19.keep s20.tupP
      generalize upd H19 kp (.dK kvs) = H20 at hk20 hd20 D20 Z20 hu20 U20
      clear s20 hd19 D19 Z19 hu19 U19 nkp
      have m6 : ∀ x, (F0 x).2 ≤ 1000000 := fun x => Int.le_trans (mi x) (by decide)
      have pu : ∀ H', Same H20 H' → Pu H' d kvs ns F0 := fun H' s' => ⟨.inl (s' _ _ hd20), Lz.of (s' _ _ hd20), D20.keep s'.tupP, nd, l0, l1, ok, cl, mo⟩
      have nmy : ∀ x ∈ ns, ∀ y, ((powF F0 n) x).1 = some y → nmB y = true := fun x m y e => ok y (pow_cl cl n x m y e)
      refine ⟨_, rfl, _, rfl, d, kvs, ns, F0, n, rfl, pu _ (Same.refl _), m6, fun f1 g1 H21 s21 nf1 hf1 E1 => ⟨_, rfl, ?_⟩⟩
      refine ⟨f1, du, g1, dv, ns, powF F0 n, rfl, hf1, s21 _ _ hu20, E1, U20.keep s21.tupP, nd, nmy, fun H22 s22 => ⟨true, rfl, ?_⟩⟩
      have s202 := s21.trans s22
      obtain ⟨c1, c2⟩ := dicts_same (K := K) (D20.keep s202.tupP) (D20.keep s202.tupP) nd srk
      refine ⟨_, rfl, _, rfl, d, kp, kvs, kvs, rfl, rfl, s202 _ _ hd20, s202 _ _ hk20, c1, c2, _, rfl, ?_⟩
      -- none
      refine ⟨_, rfl, d, kvs, ns, F0, 0, rfl, pu _ s202, m6, fun f3 g3 H23 s23 nf3 hf3 E3 => ?_⟩
      have s203 := s202.trans s23
      refine ⟨_, rfl, d, kvs, ns, F0, rfl, s203 _ _ hd20, D20.keep s203.tupP, nd, l1, fun f4 g4 H24 s24 nf4 hf4 E4 => ?_⟩
      obtain ⟨c3, c4⟩ := dicts_same (K := K) (E3.keep s24.tupP) E4 nd (fun x m y e => by cases e; exact ok x m)
      refine ⟨f3, f4, g3, g4, rfl, rfl, s24 _ _ hf3, hf4, c3, c4, _, rfl, ?_⟩
      have s204 := s203.trans s24
      refine ⟨_, rfl, _, rfl, p, g, s, d, kvs, ns, F0, rfl, Z20.same s204, s204 _ _ hd20, pu _ s204, l7, mi, fun H25 Z25 b25 => ⟨true, rfl, ?_⟩⟩
      have hd25 := b25 _ _ (s204 _ _ hd20) pd.1.symm pd.2.1.symm
      have D25 := (D20.keep s204.tupP).keep (b25.tupP (Z20.same s204))
      -- tail
      refine ⟨_, rfl, d, kvs, ns, F0, rfl, hd25, ⟨.inl hd25, Lz.of hd25, D25, nd, l0, l1, ok, cl, mo⟩, fun m H26 m1 m2 s26 => ?_⟩
      obtain ⟨x, xm, lx, rx, Wx, em⟩ := m2
      have lm : lx.length ≤ ns.length := nd_sub_len (List.nodup_append.mp Wx.nd).1 fun y my => Wx.inNs cl xm y (List.mem_append_left _ my)
      refine ⟨_, rfl, d, kvs, rfl, s26 _ _ hd25, _, _, rfl, rfl, _, rfl, ?_⟩
      refine noB (decide_eq_false (by rw [D25.len]; omega)) ?_
      exact ⟨_, _, _, _, _, _, _, _, _, _, rfl, Z25.same s26⟩
    · rintro σ H2 ⟨y2, y3, y4, y5, y6, y7, y8, y9, y10, y11, rfl, Z2⟩
      exact kk H2
end
end Y

namespace Y
open PySem PySem.Spec PyProof.Rows L2
/-- a def of the text as the top leaves it -/
def DefAt (K : PySem.W.Frag) (x : Str) (st : Stmt) : Prop := ∃ (f : Addr) (fd : FuncData), PySem.W.nsIn K mainGlobals x = some (some (.ref f)) ∧ Fun K x x st f fd
theorem defAt_mk {K : PySem.W.Frag} {x : Str} {st : Stmt} {f : Addr} {od an : Option Addr} {sl : Array (Option Value)} {oc kV dc pm cd ct : Value} (a : PySem.W.nsIn K mainGlobals x = some (some (.ref f)))
    (l : K.lookup f = some ⟨oc, od, .func (PySem.W.fnOf x x (defArgs st) (defBody st) (defScope st) .none kV dc pm an cd ct), sl⟩) (c : PySem.W.codeIn K cd x = true) (k : PySem.W.keepIn K (.ref f) = true) : DefAt K x st :=
  ⟨f, _, a, fun_mk (st := st) l c k⟩
/-- a method of the class at C -/
def MetAt (K : PySem.W.Frag) (C : Addr) (x q : Str) (st : Stmt) : Prop := ∃ (f : Addr) (fd : FuncData), PySem.W.findIn K (.ref C) x = some (some (.ref f)) ∧ PySem.W.isFn K (.ref f) = true ∧ Fun K x q st f fd
theorem metAt_mk {K : PySem.W.Frag} {C : Addr} {x q : Str} {st : Stmt} {f : Addr} {od an : Option Addr} {sl : Array (Option Value)} {oc kV dc pm cd ct : Value} (a : PySem.W.findIn K (.ref C) x = some (some (.ref f))) (i : PySem.W.isFn K (.ref f) = true)
    (l : K.lookup f = some ⟨oc, od, .func (PySem.W.fnOf x q (defArgs st) (defBody st) (defScope st) .none kV dc pm an cd ct), sl⟩) (c : PySem.W.codeIn K cd q = true) (k : PySem.W.keepIn K (.ref f) = true) : MetAt K C x q st :=
  ⟨f, _, a, i, fun_mk (st := st) l c k⟩
theorem all_mk {l : PySem.W.OpenLaw} {w : World} {K : PySem.W.Frag} {h : Heap} {mg : Str → Option Value} {fa : Addr} {CW : Addr} {t_MOST_LETTERS : Tok} (X : K.In h) (G0 : h.Ns mainGlobals mg) (hfa : mg "law" = some (.ref fa))
    (d0 : DefAt K "_law_draw" s_l_draw)
    (d1 : DefAt K "_law_pot" s_l_pot)
    (d2 : DefAt K "_law_any" s_l_any)
    (d3 : DefAt K "_law_mixed" s_l_mixed)
    (d4 : DefAt K "_law_push_names" s_l_push_names)
    (d5 : DefAt K "_law_drawn_push" s_l_drawn_push)
    (d6 : DefAt K "_law_is_int" s_l_is_int)
    (d7 : DefAt K "_law_great" s_l_great)
    (d8 : DefAt K "_law_push_done" s_l_push_done)
    (d9 : DefAt K "_law_after" s_l_after)
    (d10 : DefAt K "_law_push_told" s_l_push_told)
    (d11 : DefAt K "_law_nothing" s_l_nothing)
    (d12 : DefAt K "is_integer" s_is_integer)
    (d13 : DefAt K "is_number" s_is_number)
    (d14 : DefAt K "is_name" s_is_name)
    (d15 : DefAt K "is_dict_of" s_is_dict_of)
    (d16 : DefAt K "_has" s_has)
    (d17 : DefAt K "_is_pair_in" s_is_pair_in)
    (d18 : DefAt K "is_push" s_is_push)
    (d19 : DefAt K "pushed" s_pushed)
    (d20 : DefAt K "_then" s_then)
    (d21 : DefAt K "one_more" s_one_more)
    (d22 : DefAt K "_met" s_met)
    (d23 : DefAt K "many_times" s_many_times)
    (d24 : DefAt K "way" s_way)
    (d25 : DefAt K "gain" s_gain)
    (d26 : DefAt K "tail" s_tail)
    (d27 : DefAt K "turn" s_turn)
    (d28 : DefAt K "_law_far_right" s_l_far_right)
    (d29 : DefAt K "law" s_law)
    (aCW : PySem.W.nsIn K mainGlobals "Powers" = some (some (.ref CW)))
    (mCW0 : MetAt K CW "_spot" "Powers._spot" s_Powers__spot)
    (mCW1 : MetAt K CW "_post" "Powers._post" s_Powers__post)
    (mCW2 : MetAt K CW "__init__" "Powers.__init__" s_Powers___init)
    (mCW3 : MetAt K CW "_walked" "Powers._walked" s_Powers__walked)
    (mCW4 : MetAt K CW "pair" "Powers.pair" s_Powers_pair)
    (mCW5 : MetAt K CW "longest" "Powers.longest" s_Powers_longest)
    (mCW6 : MetAt K CW "common" "Powers.common" s_Powers_common)
    (pgCW : PySem.W.plainGet K CW Str.empty = true)
    (hdCW : PySem.W.hasDictIn K CW = true)
    (poCW : PySem.W.plainOver K CW = true)
    (saCW : PySem.W.findIn K (.ref CW) "__setattr__" = some (some (.builtin "object.__setattr__")))
    (mkCW : PySem.W.makesIn K CW = true)
    (kCCW : PySem.W.keepIn K (.ref CW) = true)
    (nPCW : PySem.W.findIn K (.ref CW) "push" = some none)
    (nOCW : PySem.W.findIn K (.ref CW) "posts" = some none)
    (nSCW : PySem.W.findIn K (.ref CW) "spots" = some none)
    (z_len : PySem.W.nsIn K mainGlobals "len" = some none)
    (z_int_ : PySem.W.nsIn K mainGlobals "int" = some none)
    (z_abs : PySem.W.nsIn K mainGlobals "abs" = some none)
    (z_sum : PySem.W.nsIn K mainGlobals "sum" = some none)
    (z_list_ : PySem.W.nsIn K mainGlobals "list" = some none)
    (z_tuple_ : PySem.W.nsIn K mainGlobals "tuple" = some none)
    (z_range : PySem.W.nsIn K mainGlobals "range" = some none)
    (z_isinstance : PySem.W.nsIn K mainGlobals "isinstance" = some none)
    (z_str_ : PySem.W.nsIn K mainGlobals "str" = some none)
    (z_bool_ : PySem.W.nsIn K mainGlobals "bool" = some none)
    (z_dict_ : PySem.W.nsIn K mainGlobals "dict" = some none)
    (z_all : PySem.W.nsIn K mainGlobals "all" = some none)
    (z_set_ : PySem.W.nsIn K mainGlobals "set" = some none)
    (z_enumerate : PySem.W.nsIn K mainGlobals "enumerate" = some none)
    (z_max : PySem.W.nsIn K mainGlobals "max" = some none)
    (z_any : PySem.W.nsIn K mainGlobals "any" = some none)
    (z_reversed : PySem.W.nsIn K mainGlobals "reversed" = some none)
    (z_sorted : PySem.W.nsIn K mainGlobals "sorted" = some none)
    (z_divmod : PySem.W.nsIn K mainGlobals "divmod" = some none)
    (q_MOST_LETTERS : PySem.W.nsIn K mainGlobals "MOST_LETTERS" = some (some (.int 8 t_MOST_LETTERS)))
    (q_lcm : PySem.W.nsIn K mainGlobals "lcm" = some (some (.builtin "math.lcm")))
    : ∃ fd : FuncData, (∀ (s : Shared) (v : Value), BindsTo s fd ⟨[v], []⟩ [("_law_script", v)]) ∧ ∀ base : Heap, K.In base → base.Ns mainGlobals mg → FnOk l.prog w K mg base CX0 8 fa fd ["_law_script"] (spLaw K) := by
  have T0 : Bi mg := ⟨PySem.W.mg_none_of X G0 z_len, PySem.W.mg_none_of X G0 z_int_, PySem.W.mg_none_of X G0 z_abs, PySem.W.mg_none_of X G0 z_sum, PySem.W.mg_none_of X G0 z_list_, PySem.W.mg_none_of X G0 z_tuple_, PySem.W.mg_none_of X G0 z_range, PySem.W.mg_none_of X G0 z_isinstance, PySem.W.mg_none_of X G0 z_str_, PySem.W.mg_none_of X G0 z_bool_, PySem.W.mg_none_of X G0 z_dict_, PySem.W.mg_none_of X G0 z_all, PySem.W.mg_none_of X G0 z_set_, PySem.W.mg_none_of X G0 z_enumerate⟩
  have T1 : Bj mg := ⟨T0, PySem.W.mg_none_of X G0 z_max, PySem.W.mg_none_of X G0 z_any, PySem.W.mg_none_of X G0 z_reversed, PySem.W.mg_none_of X G0 z_sorted⟩
  have T : Bp mg := ⟨T1, PySem.W.mg_none_of X G0 z_divmod⟩
  have c_MOST_LETTERS := PySem.W.mg_of X G0 q_MOST_LETTERS
  have c_lcm := PySem.W.mg_of X G0 q_lcm
  have GW : Pwc K mg CW := ⟨⟨pgCW, hdCW, poCW, saCW⟩, nPCW, nOCW, nSCW, PySem.W.mg_of X G0 aCW⟩
  obtain ⟨f0, fd0, a0, F0⟩ := d0
  have b0 := F0.binds (ps := ["_law_pot_here", "_law_many"]) fun _ _ _ _ _ _ us hl => match us, hl with | [_, _], _ => rfl
  obtain ⟨f1, fd1, a1, F1⟩ := d1
  have b1 := F1.binds (ps := ["_law_script"]) fun _ _ _ _ _ _ us hl => match us, hl with | [_], _ => rfl
  obtain ⟨f2, fd2, a2, F2⟩ := d2
  have b2 := F2.binds (ps := ["_law_pot_here", "_law_items"]) fun _ _ _ _ _ _ us hl => match us, hl with | [_, _], _ => rfl
  obtain ⟨f3, fd3, a3, F3⟩ := d3
  have b3 := F3.binds (ps := ["_law_pot_here", "_law_items"]) fun _ _ _ _ _ _ us hl => match us, hl with | [_, _], _ => rfl
  obtain ⟨f4, fd4, a4, F4⟩ := d4
  have b4 := F4.binds (ps := ["_law_pot_here"]) fun _ _ _ _ _ _ us hl => match us, hl with | [_], _ => rfl
  obtain ⟨f5, fd5, a5, F5⟩ := d5
  have b5 := F5.binds (ps := ["_law_pot_here"]) fun _ _ _ _ _ _ us hl => match us, hl with | [_], _ => rfl
  obtain ⟨f6, fd6, a6, F6⟩ := d6
  have b6 := F6.binds (ps := ["_law_thing"]) fun _ _ _ _ _ _ us hl => match us, hl with | [_], _ => rfl
  obtain ⟨f7, fd7, a7, F7⟩ := d7
  have b7 := F7.binds (ps := ["_law_pot_here"]) fun _ _ _ _ _ _ us hl => match us, hl with | [_], _ => rfl
  obtain ⟨f8, fd8, a8, F8⟩ := d8
  have b8 := F8.binds (ps := ["_law_push", "_law_numbers"]) fun _ _ _ _ _ _ us hl => match us, hl with | [_, _], _ => rfl
  obtain ⟨f9, fd9, a9, F9⟩ := d9
  have b9 := F9.binds (ps := ["_law_push", "_law_other"]) fun _ _ _ _ _ _ us hl => match us, hl with | [_, _], _ => rfl
  obtain ⟨f10, fd10, a10, F10⟩ := d10
  have b10 := F10.binds (ps := ["_law_told", "_law_due"]) fun _ _ _ _ _ _ us hl => match us, hl with | [_, _], _ => rfl
  obtain ⟨f11, fd11, a11, F11⟩ := d11
  have b11 := F11.binds (ps := ["_law_push"]) fun _ _ _ _ _ _ us hl => match us, hl with | [_], _ => rfl
  obtain ⟨f12, fd12, a12, F12⟩ := d12
  have b12 := F12.binds (ps := ["thing"]) fun _ _ _ _ _ _ us hl => match us, hl with | [_], _ => rfl
  obtain ⟨f13, fd13, a13, F13⟩ := d13
  have b13 := F13.binds (ps := ["thing"]) fun _ _ _ _ _ _ us hl => match us, hl with | [_], _ => rfl
  obtain ⟨f14, fd14, a14, F14⟩ := d14
  have b14 := F14.binds (ps := ["thing"]) fun _ _ _ _ _ _ us hl => match us, hl with | [_], _ => rfl
  obtain ⟨f15, fd15, a15, F15⟩ := d15
  have b15 := F15.binds (ps := ["names", "thing"]) fun _ _ _ _ _ _ us hl => match us, hl with | [_, _], _ => rfl
  obtain ⟨f16, fd16, a16, F16⟩ := d16
  have b16 := F16.binds (ps := ["push", "thing"]) fun _ _ _ _ _ _ us hl => match us, hl with | [_, _], _ => rfl
  obtain ⟨f17, fd17, a17, F17⟩ := d17
  have b17 := F17.binds (ps := ["push", "thing"]) fun _ _ _ _ _ _ us hl => match us, hl with | [_, _], _ => rfl
  obtain ⟨f18, fd18, a18, F18⟩ := d18
  have b18 := F18.binds (ps := ["thing"]) fun _ _ _ _ _ _ us hl => match us, hl with | [_], _ => rfl
  obtain ⟨f19, fd19, a19, F19⟩ := d19
  have b19 := F19.binds (ps := ["push", "numbers"]) fun _ _ _ _ _ _ us hl => match us, hl with | [_, _], _ => rfl
  obtain ⟨f20, fd20, a20, F20⟩ := d20
  have b20 := F20.binds (ps := ["push", "other"]) fun _ _ _ _ _ _ us hl => match us, hl with | [_, _], _ => rfl
  obtain ⟨f21, fd21, a21, F21⟩ := d21
  have b21 := F21.binds (ps := ["push", "other"]) fun _ _ _ _ _ _ us hl => match us, hl with | [_, _], _ => rfl
  obtain ⟨f22, fd22, a22, F22⟩ := d22
  have b22 := F22.binds (ps := ["push", "name", "known"]) fun _ _ _ _ _ _ us hl => match us, hl with | [_, _, _], _ => rfl
  obtain ⟨f23, fd23, a23, F23⟩ := d23
  have b23 := F23.binds (ps := ["push", "many"]) fun _ _ _ _ _ _ us hl => match us, hl with | [_, _], _ => rfl
  obtain ⟨f24, fd24, a24, F24⟩ := d24
  have b24 := F24.binds (ps := ["push", "name"]) fun _ _ _ _ _ _ us hl => match us, hl with | [_, _], _ => rfl
  obtain ⟨f25, fd25, a25, F25⟩ := d25
  have b25 := F25.binds (ps := ["push", "name"]) fun _ _ _ _ _ _ us hl => match us, hl with | [_, _], _ => rfl
  obtain ⟨f26, fd26, a26, F26⟩ := d26
  have b26 := F26.binds (ps := ["push"]) fun _ _ _ _ _ _ us hl => match us, hl with | [_], _ => rfl
  obtain ⟨f27, fd27, a27, F27⟩ := d27
  have b27 := F27.binds (ps := ["push"]) fun _ _ _ _ _ _ us hl => match us, hl with | [_], _ => rfl
  obtain ⟨f28, fd28, a28, F28⟩ := d28
  have b28 := F28.binds (ps := ["_law_pot_here", "_law_push"]) fun _ _ _ _ _ _ us hl => match us, hl with | [_, _], _ => rfl
  obtain ⟨f29, fd29, a29, F29⟩ := d29
  obtain ⟨gCW0, gdCW0, gaCW0, giCW0, GFCW0⟩ := mCW0
  have b_spotCW := GFCW0.binds (ps := ["self", "ring"]) fun _ _ _ _ _ _ us hl => match us, hl with | [_, _], _ => rfl
  obtain ⟨gCW1, gdCW1, gaCW1, giCW1, GFCW1⟩ := mCW1
  have b_postCW := GFCW1.binds (ps := ["self", "name"]) fun _ _ _ _ _ _ us hl => match us, hl with | [_, _], _ => rfl
  obtain ⟨gCW2, gdCW2, gaCW2, giCW2, GFCW2⟩ := mCW2
  have b_initCW := GFCW2.binds (ps := ["self", "push"]) fun _ _ _ _ _ _ us hl => match us, hl with | [_, _], _ => rfl
  have MW : Mk K CW gCW2 := ⟨mkCW, gaCW2, giCW2, kCCW⟩
  obtain ⟨gCW3, gdCW3, gaCW3, giCW3, GFCW3⟩ := mCW3
  have b_walkedCW := GFCW3.binds (ps := ["self", "name", "many"]) fun _ _ _ _ _ _ us hl => match us, hl with | [_, _, _], _ => rfl
  obtain ⟨gCW4, gdCW4, gaCW4, giCW4, GFCW4⟩ := mCW4
  have b_pairCW := GFCW4.binds (ps := ["self", "name", "many"]) fun _ _ _ _ _ _ us hl => match us, hl with | [_, _, _], _ => rfl
  obtain ⟨gCW5, gdCW5, gaCW5, giCW5, GFCW5⟩ := mCW5
  have b_longestCW := GFCW5.binds (ps := ["self"]) fun _ _ _ _ _ _ us hl => match us, hl with | [_], _ => rfl
  obtain ⟨gCW6, gdCW6, gaCW6, giCW6, GFCW6⟩ := mCW6
  have b_commonCW := GFCW6.binds (ps := ["self"]) fun _ _ _ _ _ _ us hl => match us, hl with | [_], _ => rfl
  have e := hfa.symm.trans (PySem.W.mg_of X G0 a29)
  cases e
  refine ⟨fd29, fun s v => ?_, fun base _ _ => ?_⟩
  · obtain ⟨oc, od, kV, doc, pm, an, cdv, ct, osl, rfl, lk, hcd⟩ := F29.ex
    exact .of_eq rfl
  have D_l_draw : Has l.prog w K mg base "_law_draw" 1 ["_law_pot_here", "_law_many"] spDraw := .mk' (PySem.W.mg_of X G0 a0) (ok_draw F0 T.toBj.toBi) b0 F0.kp
  have D_l_pot : Has l.prog w K mg base "_law_pot" 1 ["_law_script"] (spPot K) := .mk' (PySem.W.mg_of X G0 a1) (ok_pot F1 T.toBj.toBi) b1 F1.kp
  have D_l_any : Has l.prog w K mg base "_law_any" 2 ["_law_pot_here", "_law_items"] (spAny K) := .mk' (PySem.W.mg_of X G0 a2) (ok_any F2 T.toBj.toBi D_l_draw) b2 F2.kp
  have D_l_mixed : Has l.prog w K mg base "_law_mixed" 2 ["_law_pot_here", "_law_items"] (spMixed K) := .mk' (PySem.W.mg_of X G0 a3) (ok_mixed F3 T.toBj.toBi D_l_draw) b3 F3.kp
  have D_l_push_names : Has l.prog w K mg base "_law_push_names" 3 ["_law_pot_here"] spPushNames := .mk' (PySem.W.mg_of X G0 a4) (ok_push_names F4 T.toBj.toBi D_l_draw D_l_mixed) b4 F4.kp
  have D_l_drawn_push : Has l.prog w K mg base "_law_drawn_push" 4 ["_law_pot_here"] spDrawnPush := .mk' (PySem.W.mg_of X G0 a5) (ok_drawn_push F5 T.toBj.toBi D_l_draw D_l_any D_l_mixed D_l_push_names) b5 F5.kp
  have D_l_is_int : Has l.prog w K mg base "_law_is_int" 1 ["_law_thing"] spIsInt := .mk' (PySem.W.mg_of X G0 a6) (ok_lis_int F6 T.toBj.toBi) b6 F6.kp
  have D_l_great : Has l.prog w K mg base "_law_great" 2 ["_law_pot_here"] spGreat := .mk' (PySem.W.mg_of X G0 a7) (ok_great F7 T.toBj.toBi D_l_draw) b7 F7.kp
  have D_l_push_done : Has l.prog w K mg base "_law_push_done" 1 ["_law_push", "_law_numbers"] spPushDone := .mk' (PySem.W.mg_of X G0 a8) (ok_push_done F8 T.toBj.toBi) b8 F8.kp
  have D_l_after : Has l.prog w K mg base "_law_after" 1 ["_law_push", "_law_other"] spAfter := .mk' (PySem.W.mg_of X G0 a9) (ok_after F9 T.toBj.toBi) b9 F9.kp
  have D_l_push_told : Has l.prog w K mg base "_law_push_told" 2 ["_law_told", "_law_due"] spPushTold := .mk' (PySem.W.mg_of X G0 a10) (ok_push_told F10 T.toBj.toBi D_l_is_int) b10 F10.kp
  have D_l_nothing : Has l.prog w K mg base "_law_nothing" 1 ["_law_push"] spNothing := .mk' (PySem.W.mg_of X G0 a11) (ok_nothing F11 T.toBj.toBi) b11 F11.kp
  have D_is_integer : Has l.prog w K mg base "is_integer" 1 ["thing"] spIsInt := .mk' (PySem.W.mg_of X G0 a12) (ok_is_integer F12 T.toBj.toBi) b12 F12.kp
  have D_is_number : Has l.prog w K mg base "is_number" 2 ["thing"] spIsNum := .mk' (PySem.W.mg_of X G0 a13) (ok_is_number F13 D_is_integer) b13 F13.kp
  have D_is_name : Has l.prog w K mg base "is_name" 1 ["thing"] spIsName := .mk' (PySem.W.mg_of X G0 a14) (ok_is_name F14 T.toBj.toBi c_MOST_LETTERS) b14 F14.kp
  have D_is_dict_of : Has l.prog w K mg base "is_dict_of" 1 ["names", "thing"] spIsDictOf := .mk' (PySem.W.mg_of X G0 a15) (ok_is_dict_of F15 T.toBj.toBi) b15 F15.kp
  have D_has : Has l.prog w K mg base "_has" 1 ["push", "thing"] spHas := .mk' (PySem.W.mg_of X G0 a16) (ok_has F16 T.toBj.toBi) b16 F16.kp
  have D_is_pair_in : Has l.prog w K mg base "_is_pair_in" 3 ["push", "thing"] spIsPair := .mk' (PySem.W.mg_of X G0 a17) (ok_is_pair_in F17 T.toBj.toBi D_has D_is_number) b17 F17.kp
  have D_is_push : Has l.prog w K mg base "is_push" 4 ["thing"] spIsPush := .mk' (PySem.W.mg_of X G0 a18) (ok_is_push F18 T.toBj.toBi D_is_name D_is_pair_in) b18 F18.kp
  have D_pushed : Has l.prog w K mg base "pushed" 5 ["push", "numbers"] spPushed := .mk' (PySem.W.mg_of X G0 a19) (ok_pushed F19 T.toBj.toBi D_is_push D_is_dict_of D_is_number) b19 F19.kp
  have D_then : Has l.prog w K mg base "_then" 1 ["push", "other"] spThen := .mk' (PySem.W.mg_of X G0 a20) (ok_then F20 T.toBj.toBi) b20 F20.kp
  have D_one_more : Has l.prog w K mg base "one_more" 5 ["push", "other"] spOneMore := .mk' (PySem.W.mg_of X G0 a21) (ok_one_more F21 T.toBj.toBi D_is_push D_is_dict_of D_then) b21 F21.kp
  have D_met : Has l.prog w K mg base "_met" 1 ["push", "name", "known"] spMet := .mk' (PySem.W.mg_of X G0 a22) (ok_met F22 T.toBj.toBi) b22 F22.kp
  have G_spotCW : FnOk l.prog w K mg base CX0 1 gCW0 gdCW0 ["self", "ring"] (spSpot CW) := ok_spot GFCW0 T GW
  have M_spot : HasM l.prog w K mg base CW "_spot" 1 ["self", "ring"] (spSpot CW) := ⟨GW.cl, gCW0, gdCW0, ⟨gaCW0, giCW0, GFCW0.kp⟩, G_spotCW, b_spotCW⟩
  have G_postCW : FnOk l.prog w K mg base CX0 2 gCW1 gdCW1 ["self", "name"] (spPost CW) := ok_post GFCW1 T GW D_met M_spot
  have M_post : HasM l.prog w K mg base CW "_post" 2 ["self", "name"] (spPost CW) := ⟨GW.cl, gCW1, gdCW1, ⟨gaCW1, giCW1, GFCW1.kp⟩, G_postCW, b_postCW⟩
  have G_initCW : FnOk l.prog w K mg base CX0 3 gCW2 gdCW2 ["self", "push"] (spInitW CW) := ok_initW GFCW2 T GW M_post
  have G_walkedCW : FnOk l.prog w K mg base CX0 1 gCW3 gdCW3 ["self", "name", "many"] (spWalked CW) := ok_walked GFCW3 T GW
  have M_walked : HasM l.prog w K mg base CW "_walked" 1 ["self", "name", "many"] (spWalked CW) := ⟨GW.cl, gCW3, gdCW3, ⟨gaCW3, giCW3, GFCW3.kp⟩, G_walkedCW, b_walkedCW⟩
  have G_pairCW : FnOk l.prog w K mg base CX0 2 gCW4 gdCW4 ["self", "name", "many"] (spPairW CW) := ok_pair GFCW4 T GW M_walked
  have M_pair : HasM l.prog w K mg base CW "pair" 2 ["self", "name", "many"] (spPairW CW) := ⟨GW.cl, gCW4, gdCW4, ⟨gaCW4, giCW4, GFCW4.kp⟩, G_pairCW, b_pairCW⟩
  have G_longestCW : FnOk l.prog w K mg base CX0 1 gCW5 gdCW5 ["self"] (spLongest CW) := ok_longest GFCW5 T GW
  have M_longest : HasM l.prog w K mg base CW "longest" 1 ["self"] (spLongest CW) := ⟨GW.cl, gCW5, gdCW5, ⟨gaCW5, giCW5, GFCW5.kp⟩, G_longestCW, b_longestCW⟩
  have G_commonCW : FnOk l.prog w K mg base CX0 1 gCW6 gdCW6 ["self"] (spCommon CW) := ok_common GFCW6 T c_lcm GW
  have M_common : HasM l.prog w K mg base CW "common" 1 ["self"] (spCommon CW) := ⟨GW.cl, gCW6, gdCW6, ⟨gaCW6, giCW6, GFCW6.kp⟩, G_commonCW, b_commonCW⟩
  have D_many_times : Has l.prog w K mg base "many_times" 5 ["push", "many"] spMany := .mk' (PySem.W.mg_of X G0 a23) (ok_many F23 T GW MW G_initCW b_initCW D_is_push D_is_number M_pair) b23 F23.kp
  have D_way : Has l.prog w K mg base "way" 5 ["push", "name"] spWay := .mk' (PySem.W.mg_of X G0 a24) (ok_way F24 T.toBj.toBi D_is_push D_has D_met) b24 F24.kp
  have D_gain : Has l.prog w K mg base "gain" 6 ["push", "name"] spGain := .mk' (PySem.W.mg_of X G0 a25) (ok_gain F25 T.toBj.toBi D_way) b25 F25.kp
  have D_tail : Has l.prog w K mg base "tail" 5 ["push"] spTail := .mk' (PySem.W.mg_of X G0 a26) (ok_tail F26 T GW MW G_initCW b_initCW D_is_push M_longest) b26 F26.kp
  have D_turn : Has l.prog w K mg base "turn" 5 ["push"] spTurn := .mk' (PySem.W.mg_of X G0 a27) (ok_turn F27 T GW MW G_initCW b_initCW D_is_push M_common) b27 F27.kp
  have D_l_far_right : Has l.prog w K mg base "_law_far_right" 7 ["_law_pot_here", "_law_push"] spFar := .mk' (PySem.W.mg_of X G0 a28) (ok_far F28 T.toBj D_l_great D_many_times D_one_more D_turn D_way D_gain) b28 F28.kp
  exact ok_law F29 T.toBj D_l_pot D_l_draw D_l_any D_l_mixed D_l_drawn_push D_l_is_int D_l_push_done D_l_after D_l_push_told D_l_great D_l_nothing D_l_far_right D_pushed D_one_more D_many_times D_tail
end Y
open PySem PySem.W PyProof.Rows
set_option maxHeartbeats 0 in
theorem PySem.Challenge.cw_flatrounds_k25_whole_pushes_done_many_ti_holds : PySem.Challenge.rw_flatrounds_k25_whole_pushes_done_many_ti.Holds := by
  w_on; o_law; k_head; (case hw => w_witness2)
  k_fill
  refine L2.walk_of (l := PySem.Challenge.rw_flatrounds_k25_whole_pushes_done_many_ti) (n := 63) (k := 8) (x := "_law_script") (CX := fun _ => L2.CX0) (sp := fun w => Y.spLaw _) rfl (by decide) rfl ⟨rfl, by decide, by decide⟩ (fun w h Y => PySem.W.kIn_of Y) ?F (fun _ _ a ns hl _ hS => ⟨a, ns, rfl, hS, hl, fun _ => rfl⟩) (fun _ _ _ _ _ h => h)
  case F =>
    intro w mg fa h KX G hmg
    refine' Y.all_mk KX G hmg ?d0 ?d1 ?d2 ?d3 ?d4 ?d5 ?d6 ?d7 ?d8 ?d9 ?d10 ?d11 ?d12 ?d13 ?d14 ?d15 ?d16 ?d17 ?d18 ?d19 ?d20 ?d21 ?d22 ?d23 ?d24 ?d25 ?d26 ?d27 ?d28 ?d29 ?aCW ?mCW0 ?mCW1 ?mCW2 ?mCW3 ?mCW4 ?mCW5 ?mCW6 ?pgCW ?hdCW ?poCW ?saCW ?mkCW ?kCCW ?nPCW ?nOCW ?nSCW ?z_len ?z_int_ ?z_abs ?z_sum ?z_list_ ?z_tuple_ ?z_range ?z_isinstance ?z_str_ ?z_bool_ ?z_dict_ ?z_all ?z_set_ ?z_enumerate ?z_max ?z_any ?z_reversed ?z_sorted ?z_divmod ?q_MOST_LETTERS ?q_lcm
    (case d0 => refine' Y.defAt_mk ?a0 ?l0 ?c0 ?k0; (case a0 => k_is); (case l0 => k_is); (case c0 => k_is); (case k0 => k_is))
    (case d1 => refine' Y.defAt_mk ?a1 ?l1 ?c1 ?k1; (case a1 => k_is); (case l1 => k_is); (case c1 => k_is); (case k1 => k_is))
    (case d2 => refine' Y.defAt_mk ?a2 ?l2 ?c2 ?k2; (case a2 => k_is); (case l2 => k_is); (case c2 => k_is); (case k2 => k_is))
    (case d3 => refine' Y.defAt_mk ?a3 ?l3 ?c3 ?k3; (case a3 => k_is); (case l3 => k_is); (case c3 => k_is); (case k3 => k_is))
    (case d4 => refine' Y.defAt_mk ?a4 ?l4 ?c4 ?k4; (case a4 => k_is); (case l4 => k_is); (case c4 => k_is); (case k4 => k_is))
    (case d5 => refine' Y.defAt_mk ?a5 ?l5 ?c5 ?k5; (case a5 => k_is); (case l5 => k_is); (case c5 => k_is); (case k5 => k_is))
    (case d6 => refine' Y.defAt_mk ?a6 ?l6 ?c6 ?k6; (case a6 => k_is); (case l6 => k_is); (case c6 => k_is); (case k6 => k_is))
    (case d7 => refine' Y.defAt_mk ?a7 ?l7 ?c7 ?k7; (case a7 => k_is); (case l7 => k_is); (case c7 => k_is); (case k7 => k_is))
    (case d8 => refine' Y.defAt_mk ?a8 ?l8 ?c8 ?k8; (case a8 => k_is); (case l8 => k_is); (case c8 => k_is); (case k8 => k_is))
    (case d9 => refine' Y.defAt_mk ?a9 ?l9 ?c9 ?k9; (case a9 => k_is); (case l9 => k_is); (case c9 => k_is); (case k9 => k_is))
    (case d10 => refine' Y.defAt_mk ?a10 ?l10 ?c10 ?k10; (case a10 => k_is); (case l10 => k_is); (case c10 => k_is); (case k10 => k_is))
    (case d11 => refine' Y.defAt_mk ?a11 ?l11 ?c11 ?k11; (case a11 => k_is); (case l11 => k_is); (case c11 => k_is); (case k11 => k_is))
    (case d12 => refine' Y.defAt_mk ?a12 ?l12 ?c12 ?k12; (case a12 => k_is); (case l12 => k_is); (case c12 => k_is); (case k12 => k_is))
    (case d13 => refine' Y.defAt_mk ?a13 ?l13 ?c13 ?k13; (case a13 => k_is); (case l13 => k_is); (case c13 => k_is); (case k13 => k_is))
    (case d14 => refine' Y.defAt_mk ?a14 ?l14 ?c14 ?k14; (case a14 => k_is); (case l14 => k_is); (case c14 => k_is); (case k14 => k_is))
    (case d15 => refine' Y.defAt_mk ?a15 ?l15 ?c15 ?k15; (case a15 => k_is); (case l15 => k_is); (case c15 => k_is); (case k15 => k_is))
    (case d16 => refine' Y.defAt_mk ?a16 ?l16 ?c16 ?k16; (case a16 => k_is); (case l16 => k_is); (case c16 => k_is); (case k16 => k_is))
    (case d17 => refine' Y.defAt_mk ?a17 ?l17 ?c17 ?k17; (case a17 => k_is); (case l17 => k_is); (case c17 => k_is); (case k17 => k_is))
    (case d18 => refine' Y.defAt_mk ?a18 ?l18 ?c18 ?k18; (case a18 => k_is); (case l18 => k_is); (case c18 => k_is); (case k18 => k_is))
    (case d19 => refine' Y.defAt_mk ?a19 ?l19 ?c19 ?k19; (case a19 => k_is); (case l19 => k_is); (case c19 => k_is); (case k19 => k_is))
    (case d20 => refine' Y.defAt_mk ?a20 ?l20 ?c20 ?k20; (case a20 => k_is); (case l20 => k_is); (case c20 => k_is); (case k20 => k_is))
    (case d21 => refine' Y.defAt_mk ?a21 ?l21 ?c21 ?k21; (case a21 => k_is); (case l21 => k_is); (case c21 => k_is); (case k21 => k_is))
    (case d22 => refine' Y.defAt_mk ?a22 ?l22 ?c22 ?k22; (case a22 => k_is); (case l22 => k_is); (case c22 => k_is); (case k22 => k_is))
    (case d23 => refine' Y.defAt_mk ?a23 ?l23 ?c23 ?k23; (case a23 => k_is); (case l23 => k_is); (case c23 => k_is); (case k23 => k_is))
    (case d24 => refine' Y.defAt_mk ?a24 ?l24 ?c24 ?k24; (case a24 => k_is); (case l24 => k_is); (case c24 => k_is); (case k24 => k_is))
    (case d25 => refine' Y.defAt_mk ?a25 ?l25 ?c25 ?k25; (case a25 => k_is); (case l25 => k_is); (case c25 => k_is); (case k25 => k_is))
    (case d26 => refine' Y.defAt_mk ?a26 ?l26 ?c26 ?k26; (case a26 => k_is); (case l26 => k_is); (case c26 => k_is); (case k26 => k_is))
    (case d27 => refine' Y.defAt_mk ?a27 ?l27 ?c27 ?k27; (case a27 => k_is); (case l27 => k_is); (case c27 => k_is); (case k27 => k_is))
    (case d28 => refine' Y.defAt_mk ?a28 ?l28 ?c28 ?k28; (case a28 => k_is); (case l28 => k_is); (case c28 => k_is); (case k28 => k_is))
    (case d29 => refine' Y.defAt_mk ?a29 ?l29 ?c29 ?k29; (case a29 => k_is); (case l29 => k_is); (case c29 => k_is); (case k29 => k_is))
    (case aCW => k_is)
    (case mCW0 => refine' Y.metAt_mk ?maCW0 ?miCW0 ?mlCW0 ?mcCW0 ?mkCW0; (case maCW0 => k_is); (case miCW0 => k_is); (case mlCW0 => k_is); (case mcCW0 => k_is); (case mkCW0 => k_is))
    (case mCW1 => refine' Y.metAt_mk ?maCW1 ?miCW1 ?mlCW1 ?mcCW1 ?mkCW1; (case maCW1 => k_is); (case miCW1 => k_is); (case mlCW1 => k_is); (case mcCW1 => k_is); (case mkCW1 => k_is))
    (case mCW2 => refine' Y.metAt_mk ?maCW2 ?miCW2 ?mlCW2 ?mcCW2 ?mkCW2; (case maCW2 => k_is); (case miCW2 => k_is); (case mlCW2 => k_is); (case mcCW2 => k_is); (case mkCW2 => k_is))
    (case mCW3 => refine' Y.metAt_mk ?maCW3 ?miCW3 ?mlCW3 ?mcCW3 ?mkCW3; (case maCW3 => k_is); (case miCW3 => k_is); (case mlCW3 => k_is); (case mcCW3 => k_is); (case mkCW3 => k_is))
    (case mCW4 => refine' Y.metAt_mk ?maCW4 ?miCW4 ?mlCW4 ?mcCW4 ?mkCW4; (case maCW4 => k_is); (case miCW4 => k_is); (case mlCW4 => k_is); (case mcCW4 => k_is); (case mkCW4 => k_is))
    (case mCW5 => refine' Y.metAt_mk ?maCW5 ?miCW5 ?mlCW5 ?mcCW5 ?mkCW5; (case maCW5 => k_is); (case miCW5 => k_is); (case mlCW5 => k_is); (case mcCW5 => k_is); (case mkCW5 => k_is))
    (case mCW6 => refine' Y.metAt_mk ?maCW6 ?miCW6 ?mlCW6 ?mcCW6 ?mkCW6; (case maCW6 => k_is); (case miCW6 => k_is); (case mlCW6 => k_is); (case mcCW6 => k_is); (case mkCW6 => k_is))
    (case pgCW => k_is)
    (case hdCW => k_is)
    (case poCW => k_is)
    (case saCW => k_is)
    (case mkCW => k_is)
    (case kCCW => k_is)
    (case nPCW => k_is)
    (case nOCW => k_is)
    (case nSCW => k_is)
    (case z_len => k_is)
    (case z_int_ => k_is)
    (case z_abs => k_is)
    (case z_sum => k_is)
    (case z_list_ => k_is)
    (case z_tuple_ => k_is)
    (case z_range => k_is)
    (case z_isinstance => k_is)
    (case z_str_ => k_is)
    (case z_bool_ => k_is)
    (case z_dict_ => k_is)
    (case z_all => k_is)
    (case z_set_ => k_is)
    (case z_enumerate => k_is)
    (case z_max => k_is)
    (case z_any => k_is)
    (case z_reversed => k_is)
    (case z_sorted => k_is)
    (case z_divmod => k_is)
    (case q_MOST_LETTERS => k_is)
    (case q_lcm => k_is)
