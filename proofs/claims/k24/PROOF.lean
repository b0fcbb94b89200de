import PyProof.Rows.All
import Wide.All
import OpenK.AllK
import Wide.FinOn
import HandS.ForMost
import HandS.Walk
import HandS.IsInst
import HandS.DictComp
import HandS.TupAny
import HandS.Finally
import HandS.More
import HandS.Codes
import PySem.Challenge.RW_flatrounds_k24_whole_pushes_of_deeds
import KE.GoesEnum
import KE.KEqDict
import HandS.SetKeys
import HandS.Strs
import HandS.SetFor
set_option Elab.async false
set_option linter.all false
set_option maxRecDepth 100000
set_option maxHeartbeats 8000000
namespace Y
open PySem PySem.Spec PyProof.Rows L2

/-- the def under the name x of the module keeps a promise -/
structure Has (P : Program) (w : World) (K : PySem.W.Frag) (mg : Str → Option Value) (base : Heap) (x : Str) (k : Nat) (ps : List Str) (sp : Sp) : Prop where
  ex : ∃ (f : Addr) (fd : FuncData), mg x = some (.ref f) ∧ FnOk P w K mg base CX0 k f fd ps sp ∧ Binds K fd ps [] ∧ PySem.W.keepIn K (.ref f) = true
section
variable {X : Cx} {k : Nat} {ps : List Str} {sp : Sp} {x : Str} {p pos : Pos} {e : Expr} {es : List Expr} {t : TA}
def tGo (sp : Sp) (t : TA) : TE := fun σ H Q => t σ H fun vs H1 => sp vs H1 Q E0
theorem Has.call (h : Has X.prog X.w X.K X.mg X.base x k ps sp) (hr : Room k X.A) (hg : Gl X x) (ha : PA X (e :: es) t) (hdb : (x == ("__debug__" : Str)) = false := by decide)
    (he : starEach (e :: es) X.env = (false, eval e X.env) :: starEach es X.env := by rfl) (hpl : (backTo pos (starEach es X.env)).any (·.1) = false := by rfl) : PE X (.Call (.Name x p) (e :: es) [] pos) (tGo sp t) := by
  obtain ⟨f, fd, hm, F, hb, hk⟩ := h.ex
  have q := pe_call (dvs := []) (p := p) (pos := pos) F hr hg hm hk hb .nil pass0 ha hdb he hpl
  refine ⟨fun pins s σ H Q I hw => q.run pins s σ H Q I ?_⟩
  have e0 : tCall sp [] E0 t = tGo sp t := by
    funext σ' H' Q'
    show (t σ' H' fun vs H1 => sp (vs ++ []) H1 Q' E0) = t σ' H' fun vs H1 => sp vs H1 Q' E0
    congr 1
    funext vs H1
    rw [List.append_nil]
  rw [e0]
  exact hw
theorem Has.call0 (h : Has X.prog X.w X.K X.mg X.base x k ps sp) (hr : Room k X.A) (hg : Gl X x) (hdb : (x == ("__debug__" : Str)) = false := by decide) : PE X (.Call (.Name x p) [] [] pos) (tGo sp tNil) := by
  obtain ⟨f, fd, hm, F, hb, hk⟩ := h.ex
  exact pe_call0 (dvs := []) F hr hg hm hk hb .nil pass0 hdb
end
theorem Has.mk' {P : Program} {w : World} {K : PySem.W.Frag} {mg : Str → Option Value} {base : Heap} {x : Str} {k : Nat} {ps : List Str} {sp : Sp} {f : Addr} {fd : FuncData} (hm : mg x = some (.ref f)) (F : FnOk P w K mg base CX0 k f fd ps sp) (b : Binds K fd ps []) (hk : PySem.W.keepIn K (.ref f) = true) :
    Has P w K mg base x k ps sp := ⟨f, fd, hm, F, b, hk⟩

/-! ### heaps -/
theorem same_upd {H : Hp} {p : Addr} {o : HO} (h : H p = none) : Same H (upd H p o) := fun b x e => by
  rw [upd_ne (ne_of_none e h)]
  exact e
/-- all that was tracked is as it was, but for what stands at the two places -/
def But (p g : Addr) (H H' : Hp) : Prop := ∀ b o, H b = some o → b ≠ p → b ≠ g → H' b = some o
theorem But.refl {p g : Addr} (H : Hp) : But p g H H := fun _ _ h _ _ => h
theorem But.trans {p g : Addr} {H H1 H2 : Hp} (a : But p g H H1) (b : But p g H1 H2) : But p g H H2 := fun c o h n m => b c o (a c o h n m) n m
theorem But.of {p g : Addr} {H H' : Hp} (s : Same H H') : But p g H H' := fun b o h _ _ => s b o h
theorem But.seq {p g : Addr} {K : PySem.W.Frag} {H H' : Hp} {a : Addr} {xs : List V} (e : But p g H H') (hp : H p ≠ none → a ≠ p) (hg : H g ≠ none → a ≠ g) (h : SqL K H a xs) : SqL K H' a xs := by
  have ne : ∀ {o}, H a = some o → a ≠ p ∧ a ≠ g := fun {o} q => ⟨fun z => hp (by rw [← z, q]; exact fun y => nomatch y) z, fun z => hg (by rw [← z, q]; exact fun y => nomatch y) z⟩
  rcases h with (h | ⟨o, h⟩) | h
  · exact .inl (.inl (e _ _ h (ne h).1 (ne h).2))
  · exact .inl (.inr ⟨o, e _ _ h (ne h).1 (ne h).2⟩)
  · exact .inr h
theorem _root_.L2.Same.tup {K : PySem.W.Frag} {H H' : Hp} {a : Addr} {xs : List V} (e : Same H H') (h : SqT K H a xs) : SqT K H' a xs := by
  rcases h with (h | ⟨o, h⟩) | h
  · exact .inl (.inl (e _ _ h))
  · exact .inl (.inr ⟨o, e _ _ h⟩)
  · exact .inr h

/-! ### numbers that are drawn -/
structure PotAt (H : Hp) (p g s : Addr) : Prop where
  ex : ∃ (gs ss : List Int) (lap q : Int), H p = some (.lst [.ref g, .ref s, .int lap, .int q]) ∧ H g = some (.lst (gs.map V.int)) ∧ H s = some (.lst (ss.map V.int)) ∧
    0 < ss.length ∧ 0 ≤ lap ∧ (∀ x ∈ gs, 0 ≤ x) ∧ (∀ x ∈ ss, 0 ≤ x) ∧ 0 ≤ q ∧ gs.length ≤ 63 ∧ ss.length ≤ 64
  pg : p ≠ g
  ps : p ≠ s
  gs : g ≠ s
theorem ixN_nat {n j : Nat} (h : j < n) : ixN n (j : Int) = some j := by
  unfold ixN
  rw [if_pos (Int.natCast_nonneg j), if_pos (by omega)]
  rfl
theorem at_mem {α : Type} {xs : List α} {i : Nat} {x : α} (h : xs[i]? = some x) : x ∈ xs := by
  obtain ⟨h1, e⟩ := List.getElem?_eq_some_iff.mp h
  rw [← e]
  exact List.getElem_mem h1
theorem map_at {α : Type} {f : α → V} {xs : List α} {i : Nat} {y : V} (h : (xs.map f)[i]? = some y) : ∃ x, xs[i]? = some x ∧ y = f x := by
  rw [List.getElem?_map] at h
  cases e : xs[i]? with
  | none => rw [e] at h; cases h
  | some x => rw [e] at h; exact ⟨x, rfl, (Option.some.inj h).symm⟩
end Y
namespace Y
open PySem PySem.Spec PyProof.Rows L2
theorem _root_.L2.Same.put {H H1 : Hp} {D : Addr} {o : HO} (s : Same H H1) (n : H D = none) : Same H (upd H1 D o) := fun b u e => by
  rw [upd_ne (ne_of_none e n)]
  exact s b u e
theorem _root_.L2.Same.freeOf {H H1 : Hp} {D : Addr} (s : Same H H1) (n : H1 D = none) : H D = none := s.free n
theorem cut_all {xs : List V} {n : Nat} (h : xs.length ≤ n) : cutV xs none (some (n : Int)) = xs := by
  unfold cutV
  rw [HT.sIx_none, show HT.sIx xs.length xs.length (some (n : Int)) = min n xs.length from HT.sIx_nat xs.length xs.length n, Nat.min_eq_right h, Nat.sub_zero, List.drop_zero, List.take_length]
theorem cut_take {xs : List V} {n : Nat} : cutV xs none (some (n : Int)) = xs.take n := by
  unfold cutV
  rw [HT.sIx_none, show HT.sIx xs.length xs.length (some (n : Int)) = min n xs.length from HT.sIx_nat xs.length xs.length n, Nat.sub_zero, List.drop_zero]
  rw [List.take_eq_take_iff]
  omega
theorem cut_drop {xs : List V} {n : Nat} : cutV xs (some (n : Int)) none = xs.drop n := by
  unfold cutV
  rw [HT.sIx_none, show HT.sIx xs.length 0 (some (n : Int)) = min n xs.length from HT.sIx_nat xs.length 0 n]
  by_cases h : n ≤ xs.length
  · rw [Nat.min_eq_left h, ← List.length_drop, List.take_length]
  · rw [Nat.min_eq_right (by omega), Nat.sub_self, List.take_zero, List.drop_eq_nil_iff.mpr (by omega)]
theorem take_next {α : Type} {xs : List α} {i : Nat} {x : α} (h : xs[i]? = some x) : xs.take (i + 1) = xs.take i ++ [x] := by
  rw [List.take_add_one, h]
  rfl
theorem big1 {n : Nat} (h : n ≤ 1000000) : n < sizeLine := Nat.lt_of_le_of_lt h (by decide)
theorem sum_nn : ∀ {l : List Int}, (∀ x ∈ l, 0 ≤ x) → 0 ≤ l.sum
  | [], _ => Int.le_refl _
  | a :: r, h => by
    have ih := sum_nn (l := r) fun x m => h x (List.mem_cons_of_mem _ m)
    have := h a List.mem_cons_self
    rw [List.sum_cons]
    omega
end Y

namespace Y
open PySem PySem.Spec PyProof.Rows L2
theorem seqI0 {n : Nat} (h : 0 < n) : seqIndex? 0 n = some 0 := by
  have q := (ixN_seq (ixN_nat (j := 0) h)).1
  exact q
def topS (i : Nat) : Stmt := PySem.Challenge.pw_flatrounds_k24_whole_pushes_of_deeds.main.body.getD i (.Pass ⟨0, 0, 0, 0⟩)
theorem hu66 {A : Around} {k : Nat} (hr : Room k A) : A.units + 66 < cLine := by
  have := hr.un
  omega
/-- built-in names that the module does not hide -/
structure Bi (mg : Str → Option Value) : Prop where
  len : mg "len" = none
  int_ : mg "int" = none
  abs : mg "abs" = none
  sum : mg "sum" = none
  list_ : mg "list" = none
  tuple_ : mg "tuple" = none
  range : mg "range" = none
  isinstance : mg "isinstance" = none
  str_ : mg "str" = none
  bool_ : mg "bool" = none
  dict_ : mg "dict" = none
  all : mg "all" = none
  set_ : mg "set" = none
  enumerate : mg "enumerate" = none
section
variable {P : Program} {w : World} {K : PySem.W.Frag} {mg : Str → Option Value} {base : Heap}
abbrev s_l_draw : Stmt := topS 30
theorem sc_l_draw : FnScope ["_law_pot_here", "_law_many", "_law_lap", "_law_number", "_law_seed"] ["_law_pot_here", "_law_many"] (defScope s_l_draw) := ⟨rfl, rfl, rfl, by decide +kernel, rfl, by decide +kernel, by decide +kernel⟩
def spDraw : Sp := fun vs H Q _ => ∃ (p g s : Addr) (n : Int), vs = [.ref p, .int n] ∧ PotAt H p g s ∧ 1 ≤ n ∧ n < 1073741824 ∧ ∀ (r : Int) H', 0 ≤ r → r < n → PotAt H' p g s → But p g H H' → Q (.int r) H'
theorem ok_draw {f : Addr} {fd : FuncData} (F : Fun K "_law_draw" "_law_draw" s_l_draw f fd) (T : Bi mg) : FnOk P w K mg base CX0 1 f fd ["_law_pot_here", "_law_many"] spDraw := by
  refine F.ok sc_l_draw (fun vs H Q E h => ?_) (fun cdv A outer s₀ H vs Q E hr h => ?_)
  · obtain ⟨p, g, s, n, rfl, _⟩ := h
    rfl
  · obtain ⟨p, g, s, n, rfl, ⟨⟨gs, ss, lap, q, hp, hg, hs, hl, h0, hgs, hss, hq, l1, l2⟩, npg, nps, ngs⟩, n1, n2, kk⟩ := h
    refine ⟨_, (pss_cons (ps_set (i := 2) sc_l_draw.nd rfl (.inl rfl) (pe_ix ix_list (pv 0) pe_int (fun _ _ => rfl)))
 (pss_cons (ps_asg (pe_op op_add (pv 2) pe_int) (pg_sub (pv 0) pe_int set_list))
 (pss_cons (ps_if (pt_cmpR op_gt (pe_callB call_len_seq (by rfl) T.len PySem.boot_len (pa_cons (pe_ix ix_list (pv 0) pe_int (fun _ _ => rfl)) pa_nil)) pe_int (nomark _))
  (pss_cons (ps_set (i := 3) sc_l_draw.nd rfl (.inl rfl) (pe_ix ix_list (pe_ix ix_list (pv 0) pe_int (fun _ _ => rfl)) pe_int (fun _ _ => rfl)))
 (pss_cons (ps_asg (pe_op op_fdiv (pv 3) (pv 1)) (pg_sub (pe_ix ix_list (pv 0) pe_int (fun _ _ => rfl)) pe_int set_list))
 (pss_cons (ps_if (pt_cmpR op_lt (pv 3) (pv 1) (nomark _))
  (pss_one (ps_expr (pe_bm PySem.F.plainAttrs_list PySem.F.slot_list_pop PySem.F.type_list_pop mt_popAt (pe_ix ix_list (pv 0) pe_int (fun _ _ => rfl)) (pa_cons pe_int pa_nil))))
  pss_nil)
 (pss_one (ps_ret (pe_op op_mod (pe_callTy (T := "int") call_int1 (by rfl) T.int_ (by decide +kernel) (pa_cons (pv 3) pa_nil)) (pv 1)))))))
  pss_nil)
 (pss_cons (ps_set (i := 4) sc_l_draw.nd rfl (.inl rfl) (pe_op op_add (pe_op op_add (pe_op op_mul (pe_ix ix_list (pe_ix ix_list (pv 0) pe_int (fun _ _ => rfl)) (pe_op op_mod (pe_callTy (T := "int") call_int1 (by rfl) T.int_ (by decide +kernel) (pa_cons (pv 2) pa_nil)) (pe_callB call_len_seq (by rfl) T.len PySem.boot_len (pa_cons (pe_ix ix_list (pv 0) pe_int (fun _ _ => rfl)) pa_nil))) (fun _ _ => rfl)) pe_int) (pe_op op_mul pe_int (pv 2))) (pe_op op_mul (pe_ix ix_list (pv 0) pe_int (fun _ _ => rfl)) pe_int)))
 (pss_cons (ps_set (i := 3) sc_l_draw.nd rfl (.inl rfl) (pe_op op_mod (pe_callTy (T := "int") call_int1 (by rfl) T.int_ (by decide +kernel) (pa_cons (pe_op op_add (pe_op op_mul (pv 4) pe_int) pe_int) pa_nil)) pe_int))
 (pss_cons (ps_set (i := 3) sc_l_draw.nd rfl (.inl rfl) (pe_op op_mod (pe_callTy (T := "int") call_int1 (by rfl) T.int_ (by decide +kernel) (pa_cons (pe_op op_mul (pv 3) (pe_op op_add (pe_op op_fdiv (pv 3) pe_int) pe_int)) pa_nil)) pe_int))
 (pss_cons (ps_set (i := 3) sc_l_draw.nd rfl (.inl rfl) (pe_op op_mod (pe_callTy (T := "int") call_int1 (by rfl) T.int_ (by decide +kernel) (pa_cons (pe_op op_add (pe_op op_mul (pv 3) (pe_op op_add (pe_op op_fdiv (pv 3) pe_int) pe_int)) (pv 2)) pa_nil)) pe_int))
 (pss_one (ps_ret (pe_op op_mod (pe_callTy (T := "int") call_int1 (by rfl) T.int_ (by decide +kernel) (pa_cons (pe_op op_fdiv (pv 3) pe_int) pa_nil)) (pv 1))))))))))), ?_⟩
    -- lap = pot[2]; pot[2] = lap + 1
    refine ⟨_, rfl, p, _, _, _, rfl, rfl, SqL.of hp, rfl, _, rfl, _, _, rfl, rfl, _, rfl, p, _, _, 2, rfl, rfl, hp, rfl, ?_⟩
    generalize e1 : upd H p (.lst ([V.ref g, V.ref s, V.int lap, V.int q].set 2 (V.int (lap + 1)))) = H1
    have p1 : H1 p = some (.lst [V.ref g, V.ref s, V.int (lap + 1), V.int q]) := by rw [← e1]; exact upd_same
    have g1 : H1 g = some (.lst (gs.map V.int)) := by rw [← e1, upd_ne npg.symm]; exact hg
    have s1 : H1 s = some (.lst (ss.map V.int)) := by rw [← e1, upd_ne nps.symm]; exact hs
    have b1 : But p g H H1 := fun b o e n1 n2 => by rw [← e1, upd_ne n1]; exact e
    clear e1
    -- len(pot[0]) > 0
    refine ⟨_, rfl, p, _, _, _, rfl, rfl, SqL.of p1, rfl, g, _, rfl, .inl (SqL.of g1), _, _, rfl, rfl, _, rfl, ite2 (fun hc => ?_) (fun hc => ?_)⟩
    · have hlen : 0 < gs.length := by
        have z : (0 : Int) < ((gs.map V.int).length : Int) := of_decide_eq_true hc
        rw [List.length_map] at z
        omega
      obtain ⟨x, rs, rfl⟩ : ∃ x rs, gs = x :: rs := by
        cases gs with
        | nil => exact absurd hlen (Nat.lt_irrefl _)
        | cons x rs => exact ⟨x, rs, rfl⟩
      have x0 : 0 ≤ x := hgs x List.mem_cons_self
      -- number = pot[0][0]; pot[0][0] = number // many
      refine ⟨_, rfl, p, _, _, _, rfl, rfl, SqL.of p1, rfl, g, _, _, _, rfl, rfl, SqL.of g1, at_of rfl rfl, ?_⟩
      refine ⟨_, rfl, _, rfl, _, _, rfl, rfl, ⟨by omega, by omega⟩, _, rfl, p, _, _, _, rfl, rfl, SqL.of p1, rfl, g, _, _, 0, rfl, rfl, g1, ixN_nat (j := 0) (by rw [List.length_map]; exact hlen), ?_⟩
      generalize e2 : upd H1 g (.lst (((x :: rs).map V.int).set 0 (V.int (x / n)))) = H2
      have p2 : H2 p = some (.lst [V.ref g, V.ref s, V.int (lap + 1), V.int q]) := by rw [← e2, upd_ne npg]; exact p1
      have g2 : H2 g = some (.lst (((x / n) :: rs).map V.int)) := by rw [← e2, upd_same]; rfl
      have s2 : H2 s = some (.lst (ss.map V.int)) := by rw [← e2, upd_ne ngs.symm]; exact s1
      have b2 : But p g H H2 := b1.trans fun b o e _ m => by rw [← e2, upd_ne m]; exact e
      clear e2
      have y0 : 0 ≤ x / n := Int.ediv_nonneg x0 (by omega)
      have r0 : 0 ≤ x % n := Int.emod_nonneg x (by omega)
      have r1 : x % n < n := Int.emod_lt_of_pos x (by omega)
      -- if number < many: pot[0].pop(0)
      refine ⟨_, rfl, _, rfl, _, _, rfl, rfl, _, rfl, ite2 (fun hd => ?_) (fun hd => ?_)⟩
      · refine ⟨_, rfl, p, _, _, _, rfl, rfl, SqL.of p2, rfl, .inl ⟨rfl, _, SqL.of g2⟩, g, _, 0, 0, _, rfl, rfl, g2, by decide, by decide, seqI0 (by show 0 < (List.map V.int (x / n :: rs)).length; rw [List.length_map]; exact hlen), rfl, ?_⟩
        refine ⟨_, rfl, .inl ⟨_, rfl, _, rfl, _, _, rfl, rfl, (by show (0 : Int) < n; omega), ?_⟩⟩
        refine kk _ _ r0 r1 ⟨⟨rs, ss, lap + 1, q, ?_, ?_, ?_, hl, by omega, fun y hy => hgs y (List.mem_cons_of_mem _ hy), hss, hq, ?_, l2⟩, npg, nps, ngs⟩ fun b o e m1 m2 => ?_
        · rw [upd_ne npg]; exact p2
        · rw [upd_same]; rfl
        · rw [upd_ne ngs.symm]; exact s2
        · rw [List.length_cons] at l1; omega
        · rw [upd_ne m2]; exact b2 b o e m1 m2
      · refine ⟨_, rfl, .inl ⟨_, rfl, _, rfl, _, _, rfl, rfl, (by show (0 : Int) < n; omega), ?_⟩⟩
        exact kk _ _ r0 r1 ⟨⟨(x / n) :: rs, ss, lap + 1, q, p2, g2, s2, hl, by omega, fun y hy => (List.mem_cons.mp hy).elim (fun z => by rw [z]; exact y0) fun z => hgs y (List.mem_cons_of_mem _ z), hss, hq, l1, l2⟩, npg, nps, ngs⟩ b2
    · -- the seed
      have hL : (0 : Int) < ((ss.map V.int).length : Int) := by rw [List.length_map]; omega
      have m0 : 0 ≤ lap % ((ss.map V.int).length : Int) := Int.emod_nonneg _ (by omega)
      have m1 : lap % ((ss.map V.int).length : Int) < ((ss.map V.int).length : Int) := Int.emod_lt_of_pos _ hL
      obtain ⟨j, ej⟩ : ∃ j : Nat, lap % ((ss.map V.int).length : Int) = (j : Int) := ⟨_, (Int.toNat_of_nonneg m0).symm⟩
      have hj : j < ss.length := by rw [ej, List.length_map] at m1; omega
      obtain ⟨z, hz⟩ : ∃ z, ss[j]? = some z := ⟨_, List.getElem?_eq_getElem hj⟩
      have hz' : (ss.map V.int)[j]? = some (.int z) := by rw [List.getElem?_map, hz]; rfl
      refine ⟨_, rfl, p, _, _, _, rfl, rfl, SqL.of p1, rfl, _, rfl, .inl ⟨_, rfl, _, rfl, p, _, _, _, rfl, rfl, SqL.of p1, rfl, s, _, rfl, .inl (SqL.of s1), _, _, rfl, rfl, hL, s, _, _, _, rfl, rfl, SqL.of s1, at_of ej hz', ?_⟩⟩
      refine ⟨_, _, rfl, rfl, .inr (by decide), _, rfl, _, _, rfl, rfl, .inl (by decide), _, _, rfl, rfl, ?_⟩
      refine ⟨_, rfl, p, _, _, _, rfl, rfl, SqL.of p1, rfl, _, _, rfl, rfl, .inr (by decide), _, _, rfl, rfl, ?_⟩
      generalize z * 7919 + 104729 * lap + q * 31 = seed
      refine ⟨_, rfl, _, _, rfl, rfl, .inr (by decide), _, _, rfl, rfl, .inl ⟨_, rfl, _, _, rfl, rfl, (by decide : (0 : Int) < 2147483647), ?_⟩⟩
      have a0 : 0 ≤ (seed * 48271 + 11) % 2147483647 := Int.emod_nonneg _ (by decide)
      have a1 : (seed * 48271 + 11) % 2147483647 < 2147483647 := Int.emod_lt_of_pos _ (by decide)
      generalize (seed * 48271 + 11) % 2147483647 = a at a0 a1
      refine ⟨_, rfl, _, rfl, _, _, rfl, rfl, ⟨by decide, by decide⟩, _, _, rfl, rfl, _, _, rfl, rfl, .inl ⟨by omega, by omega⟩, .inl ⟨_, rfl, _, _, rfl, rfl, (by decide : (0 : Int) < 2147483629), ?_⟩⟩
      have c0 : 0 ≤ (a * (a / 1009 + 69621)) % 2147483629 := Int.emod_nonneg _ (by decide)
      have c1 : (a * (a / 1009 + 69621)) % 2147483629 < 2147483629 := Int.emod_lt_of_pos _ (by decide)
      generalize (a * (a / 1009 + 69621)) % 2147483629 = c at c0 c1
      refine ⟨_, rfl, _, rfl, _, _, rfl, rfl, ⟨by decide, by decide⟩, _, _, rfl, rfl, _, _, rfl, rfl, .inl ⟨by omega, by omega⟩, _, rfl, _, _, rfl, rfl, .inl ⟨_, rfl, _, _, rfl, rfl, (by decide : (0 : Int) < 2147483399), ?_⟩⟩
      have d0 : 0 ≤ (c * (c / 2003 + 40692) + lap) % 2147483399 := Int.emod_nonneg _ (by decide)
      generalize (c * (c / 2003 + 40692) + lap) % 2147483399 = d at d0
      refine ⟨_, rfl, _, _, rfl, rfl, ⟨by decide, by decide⟩, .inl ⟨_, rfl, _, rfl, _, _, rfl, rfl, (by show (0 : Int) < n; omega), ?_⟩⟩
      exact kk _ _ (Int.emod_nonneg _ (by omega)) (Int.emod_lt_of_pos _ (by omega)) ⟨⟨gs, ss, lap + 1, q, p1, g1, s1, hl, by omega, hgs, hss, hq, l1, l2⟩, npg, nps, ngs⟩ b1
end
end Y

namespace Y
open PySem PySem.Spec PyProof.Rows L2
section
variable {P : Program} {w : World} {K : PySem.W.Frag} {mg : Str → Option Value} {base : Heap}
abbrev s_l_pot : Stmt := topS 29
theorem sc_l_pot : FnScope ["_law_script", "_law_marks", "_law_greats", "_law_smalls", "_law_item"] ["_law_script"] (defScope s_l_pot) := ⟨rfl, rfl, rfl, by decide +kernel, rfl, by decide +kernel, by decide +kernel⟩
def absI (i : Int) : Int := if i < 0 then -i else i
theorem absI_nn (i : Int) : 0 ≤ absI i := by
  unfold absI
  split <;> omega
def spPot (K : PySem.W.Frag) : Sp := fun vs H Q _ => ∃ (a : Addr) (ns : List Int), vs = [.ref a] ∧ SqL K H a (ns.map V.int) ∧ ns.length ≤ 63 ∧ ∀ (p g s : Addr) H', Same H H' → H p = none → H g = none → H s = none → PotAt H' p g s → Q (.ref p) H'
theorem ok_pot {f : Addr} {fd : FuncData} (F : Fun K "_law_pot" "_law_pot" s_l_pot f fd) (T : Bi mg) : FnOk P w K mg base CX0 1 f fd ["_law_script"] (spPot K) := by
  refine F.ok sc_l_pot (fun vs H Q E h => ?_) (fun cdv A outer s₀ H vs Q E hr h => ?_)
  · obtain ⟨a, ns, rfl, _⟩ := h
    rfl
  · obtain ⟨a, ns, rfl, hS, hlen, kk⟩ := h
    refine ⟨_, (pss_cons (ps_setLc (i := 1) (own := [("_law_item", 4)]) (g := gName 4) (tt := tYes) (by rfl) sc_l_pot.nd rfl rfl (sw_true rfl rfl rfl (by decide +kernel)) (pi_list (pe_slice sl_list (pv 0) po_none (po_some pe_int))) (blkOk_by (N := ["_law_script", "_law_marks", "_law_greats", "_law_smalls", "_law_item"]) (sc := defScope s_l_pot) (by decide +kernel)) (fun _ _ _ _ _ => pg_name (i := 4) sc_l_pot.nd rfl (.inl rfl)) (fun _ _ _ _ _ => pts_nil) (fun _ _ _ _ _ => (pe_callTy (T := "int") call_int1 (by rfl) T.int_ (by decide +kernel) (pa_cons (pv 4) pa_nil))))
 (pss_cons (ps_setLc (i := 2) (own := [("_law_item", 4)]) (g := gName 4) (by rfl) sc_l_pot.nd rfl rfl (sw_true rfl rfl rfl (by decide +kernel)) (pi_list (pv 1)) (blkOk_by (N := ["_law_script", "_law_marks", "_law_greats", "_law_smalls", "_law_item"]) (sc := defScope s_l_pot) (by decide +kernel)) (fun _ _ _ _ _ => pg_name (i := 4) sc_l_pot.nd rfl (.inl rfl)) (fun _ _ _ _ _ => (pts_one (pt_cmpR op_ge (pe_callB (id := "abs") call_abs (by rfl) T.abs (by decide +kernel) (pa_cons (pv 4) pa_nil)) (pe_op op_pow pe_int pe_int) (nomark _)))) (fun _ _ _ _ _ => (pe_callB (id := "abs") call_abs (by rfl) T.abs (by decide +kernel) (pa_cons (pv 4) pa_nil))))
 (pss_cons (ps_set (i := 3) sc_l_pot.nd rfl (.inl rfl) (pe_op op_cat (pe_lc (own := [("_law_item", 4)]) (g := gName 4) (by rfl) sc_l_pot.nd (pi_list (pv 1)) (blkOk_by (N := ["_law_script", "_law_marks", "_law_greats", "_law_smalls", "_law_item"]) (sc := defScope s_l_pot) (by decide +kernel)) (fun _ _ _ _ _ => pg_name (i := 4) sc_l_pot.nd rfl (.inl rfl)) (fun _ _ _ _ _ => (pts_one (pt_cmpR op_lt (pe_callB (id := "abs") call_abs (by rfl) T.abs (by decide +kernel) (pa_cons (pv 4) pa_nil)) (pe_op op_pow pe_int pe_int) (nomark _)))) (fun _ _ _ _ _ => (pe_op op_mod (pe_callTy (T := "int") call_int1 (by rfl) T.int_ (by decide +kernel) (pa_cons (pv 4) pa_nil)) pe_int))) (pe_lst (pa_cons (pe_op op_add (pe_callB call_len_seq (by rfl) T.len PySem.boot_len (pa_cons (pv 1) pa_nil)) pe_int) pa_nil))))
 (pss_one (ps_ret (pe_lst (pa_cons (pv 2) (pa_cons (pv 3) (pa_cons pe_int (pa_cons (pe_op op_mod (pe_callTy (T := "int") call_int1 (by rfl) T.int_ (by decide +kernel) (pa_cons (pe_callB (id := "sum") (r := rSum K) (cr_sum (by rfl)) (by rfl) T.sum (by decide +kernel) (pa_cons (pv 3) pa_nil)) pa_nil)) pe_int) pa_nil)))))))))), ?_⟩
    -- marks
    refine ⟨_, rfl, _, rfl, a, _, rfl, hS, fun c nc => ?_⟩
    have ec : cutV (ns.map V.int) none (some 63) = ns.map V.int := cut_all (n := 63) (by rw [List.length_map]; exact hlen)
    rw [ec]
    have s1 : Same H (upd H c (.lst (ns.map V.int))) := same_upd nc
    refine ⟨c, rfl, ⟨_, SqL.of upd_same⟩, fun m nm => lc_list (K := K) (a := c) (xs := ns.map V.int) (fun i H1 => Same H H1 ∧ H1 c = some (.lst (ns.map V.int)) ∧ H1 m = some (.lst ((ns.take i).map V.int))) ⟨s1.put (s1.freeOf nm), ?_, upd_same⟩ (fun i H1 _ q => SqL.of q.2.1) (fun i x H1 hx q => ?_) fun H2 q => ?_⟩
    · rw [upd_ne (ne_of_none upd_same nm)]; exact upd_same
    · obtain ⟨z, hz, rfl⟩ := map_at hx
      obtain ⟨q1, q2, q3⟩ := q
      have ncm : c ≠ m := ne_of_none upd_same nm
      refine ⟨rfl, ?_⟩
      refine ⟨_, rfl, .inl ⟨_, rfl, _, q3, ?_, q1.put (s1.freeOf nm), (by rw [upd_ne ncm]; exact q2), (by rw [upd_same, take_next hz, List.map_append]; rfl)⟩⟩
      rw [List.length_map, List.length_take]
      exact big1 (by omega)
    obtain ⟨q1, q2, q3⟩ := q
    have nm0 : H m = none := s1.freeOf nm
    rw [List.length_map, List.take_length] at q3
    clear q2 s1 nc nm ec
    -- greats
    refine ⟨_, rfl, m, rfl, ⟨_, SqL.of q3⟩, fun g ng => lc_list (K := K) (a := m) (xs := ns.map V.int) (fun i H3 => Same H H3 ∧ H3 m = some (.lst (ns.map V.int)) ∧ ∃ gs : List Int, H3 g = some (.lst (gs.map V.int)) ∧ gs.length ≤ i ∧ ∀ x ∈ gs, 0 ≤ x) ⟨q1.put (q1.freeOf ng), ?_, [], upd_same, Nat.le_refl _, fun x z => nomatch z⟩ (fun i H1 _ q => SqL.of q.2.1) (fun i x H1 hx q => ?_) fun H4 q => ?_⟩
    · rw [upd_ne (ne_of_none q3 ng)]; exact q3
    · obtain ⟨z, hz, rfl⟩ := map_at hx
      obtain ⟨r1, r2, gs, r3, r4, r5⟩ := q
      have hi : i < ns.length := (List.getElem?_eq_some_iff.mp hz).1
      refine ⟨rfl, _, rfl, _, rfl, _, _, rfl, rfl, ⟨by decide, by decide, by decide⟩, _, _, rfl, rfl, _, rfl, ite2 (fun _ => ?_) (fun _ => ⟨r1, r2, gs, r3, by omega, r5⟩)⟩
      refine ⟨_, rfl, _, rfl, _, r3, ?_, r1.put (q1.freeOf ng), (by rw [upd_ne (ne_of_none q3 ng)]; exact r2), gs ++ [absI z], (by rw [upd_same, List.map_append]; rfl), (by rw [List.length_append]; show gs.length + 1 ≤ i + 1; omega), fun y hy => ?_⟩
      · rw [List.length_map]
        exact big1 (by omega)
      · rcases List.mem_append.mp hy with k | k
        · exact r5 y k
        · rw [List.mem_singleton.mp k]; exact absI_nn z
    obtain ⟨r1, r2, gs, r3, r4, r5⟩ := q
    rw [List.length_map] at r4
    have ng0 : H g = none := q1.freeOf ng
    have nmg : m ≠ g := ne_of_none q3 ng
    clear q1 q3 ng H2
    -- smalls
    refine ⟨_, rfl, m, rfl, ⟨_, SqL.of r2⟩, fun s ns' => lc_list (K := K) (a := m) (xs := ns.map V.int) (fun i H3 => Same H H3 ∧ H3 m = some (.lst (ns.map V.int)) ∧ H3 g = some (.lst (gs.map V.int)) ∧ ∃ ss : List Int, H3 s = some (.lst (ss.map V.int)) ∧ ss.length ≤ i ∧ ∀ x ∈ ss, 0 ≤ x) ⟨r1.put (r1.freeOf ns'), ?_, ?_, [], upd_same, Nat.le_refl _, fun x z => nomatch z⟩ (fun i H1 _ q => SqL.of q.2.1) (fun i x H1 hx q => ?_) fun H5 q => ?_⟩
    · rw [upd_ne (ne_of_none r2 ns')]; exact r2
    · rw [upd_ne (ne_of_none r3 ns')]; exact r3
    · obtain ⟨z, hz, rfl⟩ := map_at hx
      obtain ⟨t1, t2, tg, ss, t3, t4, t5⟩ := q
      have hi : i < ns.length := (List.getElem?_eq_some_iff.mp hz).1
      refine ⟨rfl, _, rfl, _, rfl, _, _, rfl, rfl, ⟨by decide, by decide, by decide⟩, _, _, rfl, rfl, _, rfl, ite2 (fun _ => ?_) (fun _ => ⟨t1, t2, tg, ss, t3, by omega, t5⟩)⟩
      refine ⟨_, rfl, .inl ⟨_, rfl, _, _, rfl, rfl, (by decide : (0 : Int) < 1000000007), _, t3, ?_, t1.put (r1.freeOf ns'), (by rw [upd_ne (ne_of_none r2 ns')]; exact t2), (by rw [upd_ne (ne_of_none r3 ns')]; exact tg), ss ++ [z % 1000000007], (by rw [upd_same, List.map_append]; rfl), (by rw [List.length_append]; show ss.length + 1 ≤ i + 1; omega), fun y hy => ?_⟩⟩
      · rw [List.length_map]
        exact big1 (by omega)
      · rcases List.mem_append.mp hy with k | k
        · exact t5 y k
        · rw [List.mem_singleton.mp k]; exact Int.emod_nonneg _ (by decide)
    obtain ⟨t1, t2, tg, ss, t3, t4, t5⟩ := q
    rw [List.length_map] at t4
    have nsm : m ≠ s := ne_of_none r2 ns'
    have ngs : g ≠ s := ne_of_none r3 ns'
    -- + [len(marks) + 1]
    refine ⟨_, rfl, m, _, rfl, .inl (SqL.of t2), _, _, rfl, rfl, (by show 1 ≤ sizeLine; decide), fun u nu => ?_⟩
    have nsu : s ≠ u := ne_of_none t3 nu
    have ngu : g ≠ u := ne_of_none tg nu
    refine ⟨s, u, _, _, rfl, rfl, (by rw [upd_ne nsu]; exact t3), upd_same, ?_, fun v nv => ?_⟩
    · rw [List.length_map]
      show ss.length + 1 ≤ sizeLine
      exact Nat.le_of_lt (big1 (by omega))
    have nuv : u ≠ v := ne_of_none upd_same nv
    have nv1 : H5 v = none := by rw [upd_ne nuv.symm] at nv; exact nv
    have ngv : g ≠ v := ne_of_none tg nv1
    have nv0 : H v = none := t1.freeOf nv1
    have sv : ∀ L : List Int, ss.map V.int ++ [V.int ((((ns.map V.int).length : Int)) + 1)] = (ss ++ [((ns.map V.int).length : Int) + 1]).map V.int := fun _ => by rw [List.map_append]; rfl
    rw [sv []]
    generalize eH : upd (upd H5 u (.lst [V.int (((ns.map V.int).length : Int) + 1)])) v (.lst ((ss ++ [((ns.map V.int).length : Int) + 1]).map V.int)) = H6
    have v6 : H6 v = some (.lst ((ss ++ [((ns.map V.int).length : Int) + 1]).map V.int)) := by rw [← eH]; exact upd_same
    have g6 : H6 g = some (.lst (gs.map V.int)) := by rw [← eH, upd_ne ngv, upd_ne ngu]; exact tg
    have s6 : Same H H6 := by rw [← eH]; exact (t1.put (t1.freeOf nu)).put nv0
    have hn : ∀ x ∈ ss ++ [((ns.map V.int).length : Int) + 1], 0 ≤ x := fun x hx => by
      rcases List.mem_append.mp hx with k | k
      · exact t5 x k
      · rw [List.mem_singleton.mp k]; omega
    have hL : 0 < (ss ++ [((ns.map V.int).length : Int) + 1]).length := by rw [List.length_append]; exact Nat.succ_pos _
    have hL2 : (ss ++ [((ns.map V.int).length : Int) + 1]).length ≤ 64 := by rw [List.length_append]; show ss.length + 1 ≤ 64; omega
    generalize ss ++ [((ns.map V.int).length : Int) + 1] = qs at v6 hn hL hL2 ⊢
    -- the pot
    refine ⟨_, rfl, _, rfl, _, rfl, v, _, rfl, SqL.of v6, .inl ⟨_, rfl, _, _, rfl, rfl, (by decide : (0 : Int) < 999983), ?_⟩⟩
    refine ⟨(by show 4 ≤ sizeLine; decide), fun p np => ?_⟩
    refine kk p g v _ (s6.put (s6.freeOf np)) (s6.freeOf np) ng0 nv0 ⟨⟨gs, qs, 0, _, upd_same, ?_, ?_, hL, Int.le_refl _, r5, hn, Int.emod_nonneg _ (by decide), by omega, hL2⟩, ?_, ?_, ngv⟩
    · rw [upd_ne (ne_of_none g6 np)]; exact g6
    · rw [upd_ne (ne_of_none v6 np)]; exact v6
    · exact (ne_of_none g6 np).symm
    · exact (ne_of_none v6 np).symm
end
end Y

namespace Y
open PySem PySem.Spec PyProof.Rows L2
/-! ### D.get(e), D a written dict with text keys -/
section
variable {X : Cx} {d : Addr} {es : Array DictEntry} {n : Nat} {o e : Expr} {td ty : TE} {apos cpos : Pos}
def tKGet (K : PySem.W.Frag) (d : Addr) (td ty : TE) : TE := fun σ H Q => td σ H fun x H1 => x = .ref d ∧ ty σ H1 fun y H2 => ∃ (z : Str) (r : Option Value) (v : V), y = .str z ∧ PySem.W.nsIn K d z = some r ∧ RelV v (r.getD .none) ∧ Q v H2
theorem pe_kget1 (D : KDict X.K X.w d es n) (ho : PE X o td) (he : PE X e ty) (m : M1 X o "get" apos e cpos) : PE X (.Call (.Attribute o "get" apos) [e] [] cpos) (tKGet X.K d td ty) := by
  refine ⟨fun pins s σ H Q I h => ?_⟩
  have kd : ∀ {s' : Shared} {H' : Hp}, Inv X pins σ H' s' → s'.heap.get? d = some ⟨.type "dict", none, .dict es n, #[]⟩ := fun J => J.kIn _ _ D.at_
  refine wpAny_Call_method m.base m.few m.line PySem.F.plainAttrs_dict PySem.F.slot_dict_get PySem.F.type_dict_get (thn (ho.run pins s σ H _ I h) fun u0 sa ⟨x, Ha, Ia, rx, ex, qa⟩ => ?_)
  subst ex
  obtain rfl : u0 = Value.ref d := rx
  refine ⟨⟨_, kd Ia, rfl⟩, fun b eb => ?_, ?_⟩
  · injection eb with eb'
    subst eb'
    exact ⟨_, kd Ia, rfl⟩
  rw [m.trees]
  refine Calls.callWith_builtin rfl (Calls.evalArgs_plain (Calls.spliced_cons (thn (he.run pins sa σ Ha _ Ia qa) fun uz sb ⟨y, Hb, Ib, ry, z, r, v, ey, ns, rv, qb⟩ => Calls.spliced_nil ?_)))
  subst ey
  obtain ⟨tz, rfl⟩ : ∃ t, uz = Value.str z t := ry
  have mp := PySem.W.mapOf_K (prog := X.prog) (w := X.w) Ib.kIn D.at_ D.lit
  refine call_meetsIn PySem.F.slot_dict_get mp.typeIs PySem.F.entry_dict_get (PySem.F.args_dict_get_2 _ _) (meets_dict_get (PySem.strKind X.prog X.w) d (PySem.strKind_is X.prog X.w z tz) D.low) ⟨_, mp, v, Hb, Ib.tok _, ?_, qb⟩
  show RelV v ((findBy Value.isStrOf es z).getD .none)
  rw [PySem.W.find_K D.at_ ns]
  exact rv
end
/-! ### dicts whose values are data, compared -/
theorem hits_data {P : Program} {w : World} {K : PySem.W.Frag} {H : Hp} {X : Cx} {pins : List (Addr × Obj)} {σ : L2.St} {s : Shared} {A : Around} (I : Inv X pins σ H s) (hA : A.in1.units + 64 < cLine) {ls : List (Key × V)} {vb : List (Key × Value)} (rb : KV ls vb) {ks : List (Key × V)} {va : List (Key × Value)} (ra : KV ks va) :
    (∀ p ∈ ks, ∃ u d, valV ls p.1 = some u ∧ Dp X.K H p.2 d ∧ Dp X.K H u d ∧ SeqAt.shaped d = true) → PySem.W.KeqHits A.in1 s vb va true := by
  unfold KV at ra
  induction ra with
  | nil => exact fun _ => .nil
  | @cons p q ps qs hd tl ih =>
    intro hall
    obtain ⟨kk, vv⟩ := q
    obtain ⟨hk, hv⟩ := hd
    obtain ⟨u, d, eu, d1, d2, sh⟩ := hall p List.mem_cons_self
    have rl : RelO (some u) (valueAt vb p.1) := by rw [← eu]; exact rb.val p.1
    obtain ⟨yy, hy, ry⟩ := rl.some_of
    have hk' : p.1 = kk := hk
    rw [hk'] at hy
    obtain ⟨as, r1⟩ := Dp.reads I d p.2 vv d1 hv
    obtain ⟨bs, r2⟩ := Dp.reads I d u yy d2 ry
    have eqd := PySem.W.keq_at r1 r2 sh sh hA
    rw [SeqAt.eqv_refl _ (SeqAt.canLay_of_shaped sh)] at eqd
    have fin := PySem.W.KeqHits.hit hy eqd (ih fun p' m => hall p' (List.mem_cons_of_mem _ m))
    exact fin
section
variable {X : Cx}
def rDicts (K : PySem.W.Frag) (ans : Bool) : R2 := fun x y H Q => ∃ (a b : Addr) (ks ls : List (Key × V)), x = .ref a ∧ y = .ref b ∧ H a = some (.dK ks) ∧ H b = some (.dK ls) ∧ ks.length = ls.length ∧
  (∀ p ∈ ks, ∃ u d, valV ls p.1 = some u ∧ Dp K H p.2 d ∧ Dp K H u d ∧ SeqAt.shaped d = true) ∧ Q (.bl ans) H
theorem op_eqDicts (hu : X.A.units + 66 < cLine) : OpR X (compareOp .Eq) (rDicts X.K true) := by
  intro pins s σ H x y v u Q I rx ry h
  obtain ⟨a, b, ks, ls, rfl, rfl, ea, eb, hlen, hall, q⟩ := h
  obtain rfl : v = Value.ref a := rx
  obtain rfl : u = Value.ref b := ry
  obtain ⟨_, na, va, ra, da⟩ := (show ObjOk X.prog X.w H s.heap a (.dK ks) from I.hok a _ ea)
  obtain ⟨_, nb, vb, rb, db⟩ := (show ObjOk X.prog X.w H s.heap b (.dK ls) from I.hok b _ eb)
  have hl : va.length = vb.length := by rw [← ra.length, ← rb.length]; exact hlen
  exact PySem.W.keq_eq (knd := mixKind X.prog X.w) (r := true) na nb da db (by omega) (fun _ => hits_data (P := X.prog) (w := X.w) (K := X.K) I (by show X.A.units + 1 + 64 < cLine; omega) rb ra hall) (fin_bl I q (by simp [hl]))
theorem op_neDicts (hu : X.A.units + 66 < cLine) : OpR X (compareOp .NotEq) (rDicts X.K false) := by
  intro pins s σ H x y v u Q I rx ry h
  obtain ⟨a, b, ks, ls, rfl, rfl, ea, eb, hlen, hall, q⟩ := h
  obtain rfl : v = Value.ref a := rx
  obtain rfl : u = Value.ref b := ry
  obtain ⟨_, na, va, ra, da⟩ := (show ObjOk X.prog X.w H s.heap a (.dK ks) from I.hok a _ ea)
  obtain ⟨_, nb, vb, rb, db⟩ := (show ObjOk X.prog X.w H s.heap b (.dK ls) from I.hok b _ eb)
  have hl : va.length = vb.length := by rw [← ra.length, ← rb.length]; exact hlen
  exact PySem.W.keq_ne (knd := mixKind X.prog X.w) (r := true) na nb da db (by omega) (fun _ => hits_data (P := X.prog) (w := X.w) (K := X.K) I (by show X.A.units + 1 + 64 < cLine; omega) rb ra hall) (fin_bl I q (by simp [hl]))
end
end Y

namespace Y
open PySem PySem.Spec PyProof.Rows L2
/-! ### enumerate(v), v told by how its iterator begins -/
theorem meets_enum_one {v : Value} {ob : Obj} {G : Heap → Prop} (B : Begins v ob G) :
    Meets (Builtin.«enumerate.__new__» ⟨[.type "enumerate", v], []⟩) (fun _ R st => G st.heap ∧
      R (.ok (.ret (.ref (st.heap.push ob).objs.size))) { st with heap := (st.heap.push ob).push { cls := .type "enumerate", data := .fields #[.none, .bool false, .ref st.heap.objs.size, rawInt 0, .none, .none] } }) :=
  .of_wp fun prog w A R st h => by
    obtain ⟨hp, gg, dd, tk, os⟩ := st
    obtain ⟨g1, h⟩ := h
    have hsub := sub_enumerate
    have pit : ∀ {A' : Around} {E : Value → Shared → Prop} {Q : Value → Shared → Prop}, Q (.ref hp.objs.size) ⟨hp.push ob, gg, dd, tk, os⟩ → wpAny (model prog w) A' (pyIter v) Q E ⟨hp, gg, dd, tk, os⟩ :=
      fun q => B.iter prog w _ _ ⟨hp, gg, dd, tk, os⟩ _ g1 q
    wp_walk using pit
    refine wpAny_stack_any fun sk => wpAny_pure ?_
    split
    · rename_i c _ _ _ _ _
      cases (c == Value.type "enumerate")
      all_goals
        wp_walk using pit
        exact ⟨_, rfl, h⟩
    · wp_walk using pit
      exact ⟨_, rfl, h⟩
section
variable {prog : Program} {w : World} {A : Around} {E : Value → Shared → Prop} {s : Shared}
theorem enum_one {v : Value} {ob : Obj} {G : Heap → Prop} {Q : Value → Shared → Prop} (B : Begins v ob G) (g1 : G s.heap)
    (h : ∀ h2, IsEnum h2 (s.heap.objs.size + 1) s.heap.objs.size 0 .none → h2.get? s.heap.objs.size = some ob → (∀ b o, s.heap.get? b = some o → h2.get? b = some o) → Q (.ref (s.heap.objs.size + 1)) { s with heap := h2 }) :
    wpAny (model prog w) A (call (.type "enumerate") [v]) Q E s := by
  refine callType_new F.called_enumerate (by decide) (F.typeCall_enumerate_1 _) (F.newCall_enumerate_1 _) (fun self => F.args_object_init_2 self _) F.entry_enumerate_new (meets_enum_one B) ⟨g1, ?_⟩
  have sz1 : (s.heap.push ob).objs.size = s.heap.objs.size + 1 := Heap.size_push ..
  show _ ∧ _
  rw [sz1]
  have at1 : IsEnum ((s.heap.push ob).push { cls := .type "enumerate", data := .fields #[.none, .bool false, .ref s.heap.objs.size, rawInt 0, .none, .none] }) (s.heap.objs.size + 1) s.heap.objs.size 0 .none := by
    have q := Heap.get?_push_size (s.heap.push ob) (o := { cls := .type "enumerate", data := .fields #[.none, .bool false, .ref s.heap.objs.size, rawInt 0, .none, .none] }) rfl
    rw [sz1] at q
    exact q
  exact ⟨⟨_, at1, rfl⟩, h _ at1 (Heap.get?_push_of_some _ (Heap.get?_push_size _ B.free)) fun b o e => Heap.get?_push_of_some _ (Heap.get?_push_of_some _ e)⟩
end
/-- the tuple at a, each item in a new pair with its number -/
def ItE (K : PySem.W.Frag) (a : Addr) : It :=
  ⟨fun i H => ∃ (xs : List V) (x : V), SqT K H a xs ∧ xs[i]? = some x,
   fun i H v H' => ∃ T x, v = .ref T ∧ H T = none ∧ H' = upd H T (.tup [.int (i : Nat), x]) ∧ ∀ xs, SqT K H a xs → xs[i]? = some x,
   fun i H => ∃ xs : List V, SqT K H a xs ∧ xs.length = i⟩
theorem turn_enumT {P : Program} {w : World} {K : PySem.W.Frag} {elts : List Expr} {kk : Nat} {tpos : Pos} (a e it : Addr) :
    Turn P w K (.Tuple elts kk tpos) (ItE K a) [e, it] e (fun i h => (∃ old, IsEnum h e it ((i : Nat) : Int) old) ∧ h.IsTupleIter it a i ∧ e ≠ it ∧ a ≠ it ∧ a ≠ e) where
  mem := by simp
  obj := fun i h st b hb => by
    obtain ⟨⟨old, he⟩, ⟨ob, ho, hc, hd⟩, _⟩ := st
    rcases (by simpa using hb : b = e ∨ b = it) with z | z
    · subst z
      exact ⟨_, he, fun v q => nomatch q⟩
    · subst z
      exact ⟨ob, ho, fun v q => by rw [hd] at q; cases q⟩
  keep := fun i h h' st k => by
    obtain ⟨⟨old, he⟩, hi, n1, n2, n3⟩ := st
    exact ⟨⟨old, k e (by simp) _ he⟩, hi.at fun ob q => k it (by simp) ob q, n1, n2, n3⟩
  item := by
    intro X hP hw hK hc i pins s σ H E I hf st hg
    subst hP hw hK
    obtain ⟨⟨old, he⟩, hit, n1, n2, n3⟩ := st
    obtain ⟨xs, x, hq, hx⟩ := hg
    obtain ⟨its, rv, tp, _⟩ := I.tuple hq
    obtain ⟨u, hu, ru⟩ := rv.get hx
    have lte : e < s.heap.objs.size := Heap.lt_size he
    have lti : it < s.heap.objs.size := by obtain ⟨_, q, _⟩ := hit; exact Heap.lt_size q
    have D := Draws.tuple (prog := X.prog) (w := X.w) (A := X.A.in1) (show X.A.in1.handled = none from by simpa using I.ok.hd hc) it a n2 its.toArray
    refine wpAny_pyNext_enum_itemC (c := (i : Int)) D he ⟨hit, tp⟩ (by rw [List.size_toArray]; exact (List.getElem?_eq_some_iff.mp hu).1) n1 (by simp [n1, n3.symm]) fun y h1 tk hy ho hst hT hsz hk => ?_
    have ey : y = u := by
      have q : its.toArray[i]? = some y := hy
      rw [List.getElem?_toArray, hu] at q
      exact (Option.some.inj q).symm
    subst ey
    refine ⟨_, rfl, wpAny_letOwnedTupleGo_enum (s := { s with heap := h1, toks := tk + 1 }) ho fun h2 he2 sb => ?_⟩
    have hT2 : h2.get? s.heap.objs.size = some { cls := .type "tuple", data := .seq #[.int i tk, y] } := (sb.2 _ (Nat.ne_of_gt lte)).trans hT
    have new : ObjOk X.prog X.w (upd H s.heap.objs.size (.tup [.int (i : Nat), x])) h2 s.heap.objs.size (.tup [.int (i : Nat), x]) :=
      ⟨by show 2 ≤ sizeLine; decide, [.int i tk, y], .cons ⟨_, rfl⟩ (.cons ru .nil), ⟨_, hT2, rfl, _, rfl⟩⟩
    have J : L2.Inv X pins σ (upd H s.heap.objs.size (.tup [.int (i : Nat), x])) { s with heap := h2, toks := tk + 1 } :=
      I.turnedNew (ch := [e, it]) (fun b ob hb q => (sb.2 b (fun z => hb (by simp [z]))).trans (hk b ob (fun z => hb (by simp [z])) (fun z => hb (by simp [z])) q)) hf (Nat.le_refl _) new
    have st2 : (∃ old', IsEnum h2 e it (((i + 1 : Nat)) : Int) old') ∧ h2.IsTupleIter it a (i + 1) ∧ e ≠ it ∧ a ≠ it ∧ a ≠ e := by
      refine ⟨⟨y, ?_⟩, hst.1.at fun ob q => (sb.2 it n1.symm).trans q, n1, n2, n3⟩
      rw [show ((i + 1 : Nat) : Int) = (i : Int) + 1 by omega]
      exact he2
    refine ⟨.ref s.heap.objs.size, _, J, rfl, ⟨_, x, rfl, I.hok.fresh (Nat.le_refl _), rfl, fun ys hy2 => by rw [I.tuple_inj hy2 hq]; exact hx⟩, st2, fun b hb => ?_⟩
    have lb : b < s.heap.objs.size := by
      rcases (by simpa using hb : b = e ∨ b = it) with z | z
      · rw [z]; exact lte
      · rw [z]; exact lti
    rw [upd_ne (Nat.ne_of_lt lb)]
    exact (hf b hb).1
  done := by
    intro X hP hw hK hc i pins s σ H E I hf st hg
    subst hP hw hK
    obtain ⟨⟨old, he⟩, hit, n1, n2, n3⟩ := st
    obtain ⟨xs, hq, hx⟩ := hg
    obtain ⟨its, rv, tp, _⟩ := I.tuple hq
    obtain ⟨f0, f1, f2, f3, f4, f5⟩ := hf it (by simp)
    have hl : its.toArray.size = i := by rw [List.size_toArray, ← rv.length]; exact hx
    have D := Draws.tuple (prog := X.prog) (w := X.w) (A := X.A.in1) (show X.A.in1.handled = none from by simpa using I.ok.hd hc) it a n2 its.toArray
    refine wpAny_pyNext_enum_endD D he ⟨by rw [hl]; exact hit, tp⟩ fun h' eb => ⟨rfl, I.turned (t' := s.toks) (fun b o hb q => eb b o hb q) f0 f1 f3 f4 f5⟩
  self := fun A i s Q E st h => by
    obtain ⟨⟨old, he⟩, _⟩ := st
    exact wpAny_pyIter_enum he h
def iEnT (K : PySem.W.Frag) (ta : TA) : TI := fun σ H R => ta σ H fun vs H1 => ∃ a xs, vs = [.ref a] ∧ SqT K H1 a xs ∧ R (ItE K a) H1
theorem pi_enumT {X : Cx} {e : Expr} {ta : TA} {p pos tpos : Pos} {elts : List Expr} {kk : Nat} (hg : Gl X "enumerate") (hm : X.mg "enumerate" = none) (ha : PA X [e] ta) (hs : starEach [e] X.env = [(false, eval e X.env)] := by rfl) :
    PI X (.Tuple elts kk tpos) (.Call (.Name "enumerate" p) [e] [] pos) (iEnT X.K ta) := by
  refine ⟨fun pins s σ H R I h => ?_⟩
  refine Call_ (ld_blt I hg hm boot_enumerate (PyProof.Rows.callWith_type1 (thn (ha.run pos pins s σ H _ I h) fun us sa ⟨vs, Ha, Ia, ra, qa⟩ => ?_) hs rfl))
  obtain ⟨a, xs, ex, hq, q⟩ := qa
  subst ex
  cases ra with
  | cons r rr =>
    cases rr
    cases r
    obtain ⟨its, rv, tp, _⟩ := Ia.tuple hq
    have lta : a < sa.heap.objs.size := by obtain ⟨_, z, _⟩ := tp; exact Heap.lt_size z
    refine enum_one (begins_tuple a its.toArray) tp fun h2 he hit hk => wpAny_pyIter_enum he ?_
    have J : L2.Inv X pins σ Ha { sa with heap := h2 } := Ia.kept (t' := sa.toks) hk
    refine ⟨sa.heap.objs.size + 1, [sa.heap.objs.size + 1, sa.heap.objs.size], _, _, Ha, rfl, J, turn_enumT a (sa.heap.objs.size + 1) sa.heap.objs.size, ⟨⟨.none, he⟩, ⟨_, hit, rfl, rfl⟩, Nat.succ_ne_self _, Nat.ne_of_lt lta, Nat.ne_of_lt (Nat.lt_succ_of_lt lta)⟩, fun b hb => ?_, q⟩
    have le : sa.heap.objs.size ≤ b := by
      rcases (by simpa using hb : b = sa.heap.objs.size + 1 ∨ b = sa.heap.objs.size) with z | z
      · rw [z]; exact Nat.le_add_right _ _
      · rw [z]; exact Nat.le_refl _
    exact Ia.fpOk le (Ia.hok.fresh le)
theorem walk_enumT {K : PySem.W.Frag} {a : Addr} {xs : List V} : Walk (ItE K a) xs.length (fun H => SqT K H a xs) (YPair (fun i => some (.int (i : Nat))) (fun i => xs[i]?)) := by
  refine ⟨fun i _ hi q => ⟨xs, xs[i], q, by simp [hi]⟩, fun _ q => ⟨xs, q, rfl⟩, fun i H v H' _ q y => ?_⟩
  obtain ⟨T, x, h1, h2, h3, h4⟩ := y
  exact ⟨T, .int (i : Nat), x, h1, h2, h3, rfl, h4 xs q⟩
end Y

namespace Y
open PySem PySem.Spec PyProof.Rows L2
/-! ### items, each once -/
def isIn {α : Type} [DecidableEq α] (l : List α) (x : α) : Bool := l.any fun y => decide (y = x)
theorem isIn_iff {α : Type} [DecidableEq α] {l : List α} {x : α} : isIn l x = true ↔ x ∈ l := by
  unfold isIn
  rw [List.any_eq_true]
  exact ⟨fun ⟨y, m, e⟩ => of_decide_eq_true e ▸ m, fun m => ⟨x, m, decide_eq_true rfl⟩⟩
def stp {α : Type} [DecidableEq α] (acc : List α) (x : α) : List α := if isIn acc x = true then acc else acc ++ [x]
def uqF {α : Type} [DecidableEq α] : List α → List α → List α
  | acc, [] => acc
  | acc, x :: r => uqF (stp acc x) r
def uq {α : Type} [DecidableEq α] (l : List α) : List α := uqF [] l
section
variable {α : Type} [DecidableEq α]
theorem mem_stp {acc : List α} {x y : α} : y ∈ stp acc x ↔ y ∈ acc ∨ y = x := by
  unfold stp
  by_cases h : isIn acc x = true
  · rw [if_pos h]
    exact ⟨.inl, fun k => k.elim id fun e => by rw [e]; exact isIn_iff.mp h⟩
  · rw [if_neg h, List.mem_append, List.mem_singleton]
theorem mem_uqF : ∀ {l acc : List α} {y : α}, y ∈ uqF acc l ↔ y ∈ acc ∨ y ∈ l
  | [], acc, y => by simp [uqF]
  | x :: r, acc, y => by
    show y ∈ uqF (stp acc x) r ↔ _
    rw [mem_uqF, mem_stp, List.mem_cons, or_assoc]
theorem mem_uq {l : List α} {y : α} : y ∈ uq l ↔ y ∈ l := by
  unfold uq
  rw [mem_uqF]
  simp
theorem uqF_snoc : ∀ {l acc : List α} {x : α}, uqF acc (l ++ [x]) = stp (uqF acc l) x
  | [], _, _ => rfl
  | _ :: r, acc, x => by
    show uqF _ (r ++ [x]) = _
    rw [uqF_snoc]
    rfl
theorem uq_snoc {l : List α} {x : α} : uq (l ++ [x]) = if isIn l x = true then uq l else uq l ++ [x] := by
  show uqF [] (l ++ [x]) = _
  rw [uqF_snoc]
  unfold stp
  have h : x ∈ uqF [] l ↔ x ∈ l := mem_uq
  by_cases k : isIn l x = true
  · rw [if_pos (isIn_iff.mpr (h.mpr (isIn_iff.mp k))), if_pos k]; rfl
  · rw [if_neg fun z => k (isIn_iff.mpr (h.mp (isIn_iff.mp z))), if_neg k]; rfl
theorem stp_len {acc : List α} {x : α} : acc.length ≤ (stp acc x).length := by
  unfold stp
  split
  · exact Nat.le_refl _
  · rw [List.length_append]; exact Nat.le_add_right _ _
theorem uqF_ge : ∀ {l acc : List α}, acc.length ≤ (uqF acc l).length
  | [], _ => Nat.le_refl _
  | _ :: _, _ => Nat.le_trans stp_len uqF_ge
theorem uqF_app : ∀ {l r acc : List α}, uqF acc (l ++ r) = uqF (uqF acc l) r
  | [], _, _ => rfl
  | x :: l, r, acc => by
    show uqF _ (l ++ r) = _
    rw [uqF_app]
    rfl
theorem uq_take_len (l : List α) (i : Nat) : (uq (l.take i)).length ≤ (uq l).length := by
  have e : uq l = uqF (uq (l.take i)) (l.drop i) := by
    show uqF [] l = uqF (uqF [] (l.take i)) (l.drop i)
    rw [← uqF_app, List.take_append_drop]
  rw [e]
  exact uqF_ge
theorem uqF_nd : ∀ {l acc : List α}, (acc ++ l).Nodup → uqF acc l = acc ++ l
  | [], acc, _ => by simp [uqF]
  | x :: r, acc, h => by
    have hx : x ∉ acc := fun m => by
      have q := (List.nodup_append.mp h).2.2 x m x List.mem_cons_self
      exact q rfl
    show uqF (stp acc x) r = _
    unfold stp
    rw [if_neg fun z => hx (isIn_iff.mp z), uqF_nd (by rw [List.append_assoc]; exact h), List.append_assoc]
    rfl
theorem uq_nd {l : List α} (h : l.Nodup) : uq l = l := uqF_nd (acc := []) h
theorem uq_le : ∀ (l : List α), (uq l).length ≤ l.length := by
  have go : ∀ (l acc : List α), (uqF acc l).length ≤ acc.length + l.length := by
    intro l
    induction l with
    | nil => intro acc; exact Nat.le_refl _
    | cons x r ih =>
      intro acc
      have k := ih (stp acc x)
      have j : (stp acc x).length ≤ acc.length + 1 := by
        unfold stp
        split
        · exact Nat.le_succ _
        · rw [List.length_append]; exact Nat.le_refl _
      show (uqF (stp acc x) r).length ≤ acc.length + (r.length + 1)
      omega
  intro l
  have q := go l []
  rw [List.length_nil, Nat.zero_add] at q
  exact q
end
theorem paired_at {α β : Type} {F : α → β → Prop} : ∀ {xs : List α} {ys : List β} {i : Nat} {y : β}, Paired F xs ys → ys[i]? = some y → ∃ x, xs[i]? = some x ∧ F x y
  | _, _, _, _, .nil, h => by simp at h
  | _, _, 0, _, .cons f _, h => by
    have e := Option.some.inj h
    subst e
    exact ⟨_, rfl, f⟩
  | _, _, i + 1, _, .cons _ t, h => paired_at (i := i) t h
/-! ### set(v), v a list or a tuple of keys -/
section
variable {P : Program} {w : World} {A : Around} {E : Value → Shared → Prop} {s : Shared}
theorem keys_into {I : Addr} {fp wr : List Addr} {G : Array GenState → Array GenState → Prop} {n : Nat} {Pv : Nat → Value → Prop} {St : Nat → Shared → Prop} {R : Result → Shared → Prop}
    (W : WalksS P w A.in1 I fp wr G n Pv St) (S : Addr) (apart : S ∉ fp) (ks : List Key) (hn : n = ks.length) (few : (uq ks).length + 1 < scanBound) (vals : ∀ i v, Pv i v → ∃ k, ks[i]? = some k ∧ keyIs k v = true) :
    ∀ (left i : Nat) (st : Shared), n - i = left → i ≤ n → St i st → st.heap.SetOf (mixKind P w) S (isIn (ks.take i)) (uq (ks.take i)).length →
      (∀ st', Moved (S :: wr) G st st' → st'.heap.SetOf (mixKind P w) S (isIn ks) (uq ks).length → R (.ok (.ret .none)) st') → codeAny (model P w) A (.builtin "set.update.loop" ⟨[.ref S, .ref I], []⟩) R st := by
  have notw : S ∉ wr := fun m => apart (W.sub _ m)
  have more : ∀ b ∈ wr, b ∈ S :: wr := fun b m => List.mem_cons_of_mem _ m
  have stays : ∀ {st st' : Shared} {T : Key → Bool} {c : Nat}, Moved wr G st st' → st.heap.SetOf (mixKind P w) S T c → st'.heap.SetOf (mixKind P w) S T c := fun mv ⟨o, es, ep, tb, ho, rest⟩ => ⟨o, es, ep, tb, mv.heap S _ notw ho, rest⟩
  intro left
  induction left with
  | zero =>
    intro i st hl hi hst hS hR
    obtain rfl : i = n := by omega
    refine codeAny_builtin F.entry_set_update_loop ?_
    rw [Around.under_plainId F.plain_set_update_loop _]
    refine wpAny_bind (m := pyNext (.ref I)) (W.done st _ _ hst fun st' mv => ?_)
    have all : ks.take i = ks := List.take_of_length_le (by omega)
    rw [all] at hS
    exact wpAny_pure (hR st' (mv.mono more) (stays mv hS))
  | succ left ih =>
    intro i st hl hi hst hS hR
    have lt : i < n := by omega
    refine codeAny_builtin F.entry_set_update_loop ?_
    rw [Around.under_plainId F.plain_set_update_loop _]
    refine wpAny_bind (m := pyNext (.ref I)) (W.item i st _ _ lt hst fun v st' hP hst' mv => ?_)
    obtain ⟨k, hk, kis⟩ := vals i v hP
    have hS' := stays mv hS
    refine wpAny_bind (m := holding [v] (setAdd S v)) (wpAny_holding ?_)
    unfold setAdd
    refine wpAny_holding ?_
    have sc : v.scannable = true := by
      rcases keyIs_shape kis with ⟨_, _, _, rfl⟩ | ⟨_, _, _, rfl⟩ <;> rfl
    refine wpAny_bind ((mixKind P w).pyHash (k := k) kis ?_)
    have room : (uq (ks.take i)).length + 1 < scanBound := Nat.lt_of_le_of_lt (Nat.succ_le_succ (uq_take_len ks i)) few
    refine wpAny_setAddHashed_of (knd := mixKind P w) (s := { st' with toks := st'.toks + 1 }) kis sc hS' room fun h' sb hS2 => ?_
    have hS3 : h'.SetOf (mixKind P w) S (isIn (ks.take (i + 1))) (uq (ks.take (i + 1))).length := by
      rw [take_next hk, uq_snoc]
      have e1 : (fun j => isIn (ks.take i) j || decide (j = k)) = isIn (ks.take i ++ [k]) := by
        funext j
        unfold isIn
        rw [List.any_append]
        congr 1
        simp [eq_comm]
      have e2 : (if isIn (ks.take i) k = true then (uq (ks.take i)).length else (uq (ks.take i)).length + 1) = (if isIn (ks.take i) k = true then uq (ks.take i) else uq (ks.take i) ++ [k]).length := by
        by_cases h1 : isIn (ks.take i) k = true
        · rw [if_pos h1, if_pos h1]
        · rw [if_neg h1, if_neg h1, List.length_append]; rfl
      rw [← e1, ← e2]
      exact hS2
    refine wpAny_pure ⟨plainId_quiet F.plain_set_update_loop _, ih (i + 1) _ (by omega) lt (W.frame _ st' _ _ hst' (Nat.le_succ _) fun b m o e => ?_) hS3 fun st2 mv2 hS4 => ?_⟩
    · exact (sb.2 b fun z => apart (z ▸ m)).trans e
    · refine hR st2 (Moved.trans W.gtrans ((mv.mono more).then_heap (Nat.le_succ _) fun b o m e => ?_) mv2) hS4
      exact (sb.2 b fun z => m (z ▸ List.mem_cons_self)).trans e
end
end Y

namespace Y
open PySem PySem.Spec PyProof.Rows L2
section
variable {P : Program} {w : World} {A : Around} {E : Value → Shared → Prop} {s : Shared}
theorem set_of_tuple {l : Addr} {items : Array Value} (ks : List Key) {Q : Value → Shared → Prop} (free : A.handled = none) (hl : s.heap.IsTuple l items) (hk : Paired (fun k v => keyIs k v = true) ks items.toList) (few : (uq ks).length + 1 < scanBound)
    (fin : ∀ (h2 : Heap) (tk : Nat), h2.SetOf (mixKind P w) s.heap.objs.size (isIn ks) (uq ks).length → (∀ b o, s.heap.get? b = some o → h2.get? b = some o) → Q (.ref s.heap.objs.size) { s with heap := h2, toks := tk }) :
    wpAny (model P w) A (call (.type "set") [.ref l]) Q E s := by
  have size : items.size = ks.length := by
    have q := Paired.length hk
    rw [Array.length_toList] at q
    exact q.symm
  obtain ⟨cc, tl, hmro⟩ := PySem.F.called_set.mro
  have mk1 := PySem.F.called_set.made
  have mk2 := PySem.F.called_set.sub
  have mk3 := PySem.F.called_set.notType
  have mk4 := PySem.F.called_set.canCreate
  have mk5 := PySem.F.typeCall_set_1 (.ref l)
  refine wpAny_call (codeAny_of_tree ?_)
  refine wpAny_pure ⟨Code.quiet_builtin _ (by decide +kernel), codeAny_builtin PySem.F.entry_type_call ?_⟩
  rw [Around.under_plain (weight_type_call_type "set" [.ref l] []) rfl]
  repeat (any_goals (first | assumption | wp_step))
  refine codeAny_mono (code_set_new_1 (.ref l) (E := E) (Q₁ := fun self st1 => ∃ led : Bool, self = .ref s.heap.objs.size ∧ st1 = { s with heap := s.heap.push { cls := .type "set", dict := none, data := .set #[] 0 (.fresh 0 0 led) } }) fun led => ⟨led, rfl, rfl⟩) fun r st1 hr => ?_
  cases r with
  | error e => exact hr
  | ok fl =>
    cases fl with
    | ret self =>
      obtain ⟨led, rfl, rfl⟩ := hr
      generalize fresh : (Obj.mk (.type "set") none (.set #[] 0 (.fresh 0 0 led)) #[]) = ob
      have atS : (s.heap.push ob).get? s.heap.objs.size = some ob := Heap.get?_push_size _ (by rw [← fresh]; rfl)
      have isS : Shared.TypeIs { s with heap := s.heap.push ob } (.ref s.heap.objs.size) "set" := ⟨_, atS, by rw [← fresh]⟩
      have in1 := PySem.F.called_set.init.lookup
      have in2 := PySem.F.called_set.init.bind (.ref s.heap.objs.size)
      repeat (any_goals (first | assumption | wp_step))
      refine codeAny_mono (codeAny_call_builtin (R := wants (fun r st2 => r = .none ∧ ∃ h2 tk, st2 = { s with heap := h2, toks := tk } ∧ h2.SetOf (mixKind P w) s.heap.objs.size (isIn ks) (uq ks).length ∧
          (∀ b o, s.heap.get? b = some o → h2.get? b = some o)) E) PySem.F.called_set.init.plain PySem.F.entry_set_init (check_set_init_1 isS ?_)) fun r2 st2 hr2 => ?_
      · obtain ⟨lo, hlo, hcl, nl, hdl⟩ := hl
        obtain ⟨lcls, ldict, ldata, lslots⟩ := lo
        simp only at hcl hdl
        subst hcl; subst hdl
        have hlo' : (s.heap.push ob).get? l = some { cls := .type "tuple", dict := ldict, data := .seq items nl, slots := lslots } := Heap.get?_push_of_some _ hlo
        have no1 := PySem.F.sub_tuple_set
        have no2 := PySem.F.sub_tuple_frozenset
        have no3 : (Value.type "tuple" == Value.type "dict") = false := by decide
        have hl1 : (s.heap.push ob).IsTuple l items := ⟨_, hlo', rfl, nl, rfl⟩
        have hS0 : (s.heap.push ob).get? s.heap.objs.size = some { cls := .type "set", dict := none, data := .set #[] 0 (.fresh 0 0 led) } := by rw [atS, ← fresh]
        unfold Builtin.«set.__init__» noKeywords Builtin.Frozenset.updateFrom
        generalize hPI : pyIter = PI
        wp_walk
        subst hPI
        refine wpAny_pyIter_tuple hl1 ?_
        refine wpAny_bind (wpAny_runValue ?_)
        have ltl : l < s.heap.objs.size := Heap.lt_size hlo
        have free3 : A.in1.in1.in1.handled = none := by simp [free]
        have szp : (s.heap.push ob).objs.size = s.heap.objs.size + 1 := Heap.size_push ..
        have ne1 : l ≠ (s.heap.push ob).objs.size := by rw [szp]; exact Nat.ne_of_lt (Nat.lt_succ_of_lt ltl)
        have ne2 : s.heap.objs.size ∉ [(s.heap.push ob).objs.size, l] := by
          rw [szp]
          simp only [List.mem_cons, List.not_mem_nil, or_false, not_or]
          exact ⟨Nat.ne_of_lt (Nat.lt_succ_self _), Nat.ne_of_gt ltl⟩
        have vals : ∀ (i : Nat) (v : Value), items[i]? = some v → ∃ k, ks[i]? = some k ∧ keyIs k v = true := fun i v hv => by
          rw [← Array.getElem?_toList] at hv
          exact paired_at (F := fun k v => keyIs k v = true) hk hv
        refine keys_into ((Walks.tuple free3 _ l ne1 items).toS) s.heap.objs.size ne2 ks size few vals (items.size - 0) 0 _ (by omega) (Nat.zero_le _) ⟨⟨_, Heap.get?_push_size _ rfl, rfl, rfl⟩, (hl1.push _)⟩ ?hS0 ?hR
        case hS0 =>
          have got : ((s.heap.push ob).push { cls := .type "tuple_iterator", data := .fields #[.ref l, .int 0 0] }).get? s.heap.objs.size = some { cls := .type "set", dict := none, data := .set #[] 0 (.fresh 0 0 led) } := Heap.get?_push_of_some _ hS0
          have z : Heap.SetOf (mixKind P w) _ s.heap.objs.size (fun _ => false) 0 := ⟨_, #[], 0, _, got, ⟨rfl, rfl, rfl⟩, rfl, (fun e he => by simp at he), (fun k => by simp), (by decide), (by rfl), rfl⟩
          exact z
        case hR =>
          intro st' mv hS'
          obtain ⟨h2, g2, d2, tk2, os2⟩ := st'
          obtain rfl : g2 = s.gens := mv.gens
          obtain rfl : d2 = s.drawn := mv.drawn
          obtain rfl : os2 = s.os := mv.os
          refine wpAny_pure ?_
          refine wpAny_pure ⟨rfl, h2, tk2, rfl, hS', fun b o e => ?_⟩
          have ltb : b < s.heap.objs.size := Heap.lt_size e
          refine mv.heap b o ?_ (Heap.get?_push_of_some _ (Heap.get?_push_of_some _ e))
          simp only [List.mem_cons, List.not_mem_nil, or_false, not_or, szp]
          exact ⟨Nat.ne_of_lt ltb, Nat.ne_of_lt (Nat.lt_succ_of_lt ltb)⟩
      · cases r2 with
        | error e => exact hr2
        | ok fl2 =>
          cases fl2 with
          | ret r =>
            obtain ⟨rfl, h2, tk, rfl, hS', keep⟩ := hr2
            repeat (any_goals (first | assumption | wp_step))
            exact fin _ _ hS' keep
          | _ => exact hr2.elim
    | _ => exact hr.elim
end
end Y

namespace Y
open PySem PySem.Spec PyProof.Rows L2
section
variable {P : Program} {w : World} {A : Around} {E : Value → Shared → Prop} {s : Shared}
theorem set_of_list {l : Addr} {items : Array Value} (ks : List Key) {Q : Value → Shared → Prop} (free : A.handled = none) (hl : s.heap.IsList l items) (hk : Paired (fun k v => keyIs k v = true) ks items.toList) (few : (uq ks).length + 1 < scanBound)
    (fin : ∀ (h2 : Heap) (tk : Nat), h2.SetOf (mixKind P w) s.heap.objs.size (isIn ks) (uq ks).length → (∀ b o, s.heap.get? b = some o → h2.get? b = some o) → Q (.ref s.heap.objs.size) { s with heap := h2, toks := tk }) :
    wpAny (model P w) A (call (.type "set") [.ref l]) Q E s := by
  have size : items.size = ks.length := by
    have q := Paired.length hk
    rw [Array.length_toList] at q
    exact q.symm
  obtain ⟨cc, tl, hmro⟩ := PySem.F.called_set.mro
  have mk1 := PySem.F.called_set.made
  have mk2 := PySem.F.called_set.sub
  have mk3 := PySem.F.called_set.notType
  have mk4 := PySem.F.called_set.canCreate
  have mk5 := PySem.F.typeCall_set_1 (.ref l)
  refine wpAny_call (codeAny_of_tree ?_)
  refine wpAny_pure ⟨Code.quiet_builtin _ (by decide +kernel), codeAny_builtin PySem.F.entry_type_call ?_⟩
  rw [Around.under_plain (weight_type_call_type "set" [.ref l] []) rfl]
  repeat (any_goals (first | assumption | wp_step))
  refine codeAny_mono (code_set_new_1 (.ref l) (E := E) (Q₁ := fun self st1 => ∃ led : Bool, self = .ref s.heap.objs.size ∧ st1 = { s with heap := s.heap.push { cls := .type "set", dict := none, data := .set #[] 0 (.fresh 0 0 led) } }) fun led => ⟨led, rfl, rfl⟩) fun r st1 hr => ?_
  cases r with
  | error e => exact hr
  | ok fl =>
    cases fl with
    | ret self =>
      obtain ⟨led, rfl, rfl⟩ := hr
      generalize fresh : (Obj.mk (.type "set") none (.set #[] 0 (.fresh 0 0 led)) #[]) = ob
      have atS : (s.heap.push ob).get? s.heap.objs.size = some ob := Heap.get?_push_size _ (by rw [← fresh]; rfl)
      have isS : Shared.TypeIs { s with heap := s.heap.push ob } (.ref s.heap.objs.size) "set" := ⟨_, atS, by rw [← fresh]⟩
      have in1 := PySem.F.called_set.init.lookup
      have in2 := PySem.F.called_set.init.bind (.ref s.heap.objs.size)
      repeat (any_goals (first | assumption | wp_step))
      refine codeAny_mono (codeAny_call_builtin (R := wants (fun r st2 => r = .none ∧ ∃ h2 tk, st2 = { s with heap := h2, toks := tk } ∧ h2.SetOf (mixKind P w) s.heap.objs.size (isIn ks) (uq ks).length ∧
          (∀ b o, s.heap.get? b = some o → h2.get? b = some o)) E) PySem.F.called_set.init.plain PySem.F.entry_set_init (check_set_init_1 isS ?_)) fun r2 st2 hr2 => ?_
      · obtain ⟨lo, hlo, hcl, nl, hdl⟩ := hl
        obtain ⟨lcls, ldict, ldata, lslots⟩ := lo
        simp only at hcl hdl
        subst hcl; subst hdl
        have hlo' : (s.heap.push ob).get? l = some { cls := .type "list", dict := ldict, data := .seq items nl, slots := lslots } := Heap.get?_push_of_some _ hlo
        have no1 := PySem.F.sub_list_set
        have no2 := PySem.F.sub_list_frozenset
        have no3 : (Value.type "list" == Value.type "dict") = false := by decide
        have hl1 : (s.heap.push ob).IsList l items := ⟨_, hlo', rfl, nl, rfl⟩
        have hS0 : (s.heap.push ob).get? s.heap.objs.size = some { cls := .type "set", dict := none, data := .set #[] 0 (.fresh 0 0 led) } := by rw [atS, ← fresh]
        unfold Builtin.«set.__init__» noKeywords Builtin.Frozenset.updateFrom
        generalize hPI : pyIter = PI
        wp_walk
        subst hPI
        refine wpAny_pyIter_list hl1 ?_
        refine wpAny_bind (wpAny_runValue ?_)
        have ltl : l < s.heap.objs.size := Heap.lt_size hlo
        have free3 : A.in1.in1.in1.handled = none := by simp [free]
        have szp : (s.heap.push ob).objs.size = s.heap.objs.size + 1 := Heap.size_push ..
        have ne1 : l ≠ (s.heap.push ob).objs.size := by rw [szp]; exact Nat.ne_of_lt (Nat.lt_succ_of_lt ltl)
        have ne2 : s.heap.objs.size ∉ [(s.heap.push ob).objs.size, l] := by
          rw [szp]
          simp only [List.mem_cons, List.not_mem_nil, or_false, not_or]
          exact ⟨Nat.ne_of_lt (Nat.lt_succ_self _), Nat.ne_of_gt ltl⟩
        have vals : ∀ (i : Nat) (v : Value), items[i]? = some v → ∃ k, ks[i]? = some k ∧ keyIs k v = true := fun i v hv => by
          rw [← Array.getElem?_toList] at hv
          exact paired_at (F := fun k v => keyIs k v = true) hk hv
        refine keys_into ((Walks.list free3 _ l ne1 items).toS) s.heap.objs.size ne2 ks size few vals (items.size - 0) 0 _ (by omega) (Nat.zero_le _) ⟨⟨_, Heap.get?_push_size _ rfl, rfl, rfl⟩, (hl1.push _)⟩ ?hS0 ?hR
        case hS0 =>
          have got : ((s.heap.push ob).push { cls := .type "list_iterator", data := .fields #[.ref l, .int 0 0] }).get? s.heap.objs.size = some { cls := .type "set", dict := none, data := .set #[] 0 (.fresh 0 0 led) } := Heap.get?_push_of_some _ hS0
          have z : Heap.SetOf (mixKind P w) _ s.heap.objs.size (fun _ => false) 0 := ⟨_, #[], 0, _, got, ⟨rfl, rfl, rfl⟩, rfl, (fun e he => by simp at he), (fun k => by simp), (by decide), (by rfl), rfl⟩
          exact z
        case hR =>
          intro st' mv hS'
          obtain ⟨h2, g2, d2, tk2, os2⟩ := st'
          obtain rfl : g2 = s.gens := mv.gens
          obtain rfl : d2 = s.drawn := mv.drawn
          obtain rfl : os2 = s.os := mv.os
          refine wpAny_pure ?_
          refine wpAny_pure ⟨rfl, h2, tk2, rfl, hS', fun b o e => ?_⟩
          have ltb : b < s.heap.objs.size := Heap.lt_size e
          refine mv.heap b o ?_ (Heap.get?_push_of_some _ (Heap.get?_push_of_some _ e))
          simp only [List.mem_cons, List.not_mem_nil, or_false, not_or, szp]
          exact ⟨Nat.ne_of_lt ltb, Nat.ne_of_lt (Nat.lt_succ_of_lt ltb)⟩
      · cases r2 with
        | error e => exact hr2
        | ok fl2 =>
          cases fl2 with
          | ret r =>
            obtain ⟨rfl, h2, tk, rfl, hS', keep⟩ := hr2
            repeat (any_goals (first | assumption | wp_step))
            exact fin _ _ hS' keep
          | _ => exact hr2.elim
    | _ => exact hr.elim
end
end Y

namespace Y
open PySem PySem.Spec PyProof.Rows L2
section
variable {P : Program} {w : World} {A : Around} {E : Value → Shared → Prop} {s : Shared}
end
section
variable {X : Cx}
theorem key_is {k : Key} {u : Value} (r : L2.RelV (kV k) u) : keyIs k u = true := by
  cases k with
  | inl i => obtain ⟨t, rfl⟩ : ∃ t, u = Value.int i t := r; exact keyIs_int i t
  | inr x => obtain ⟨t, rfl⟩ : ∃ t, u = Value.str x t := r; exact keyIs_str x t
theorem keys_of_vals : ∀ {ks : List Key} {us : List Value}, Vals (ks.map kV) us → Paired (fun k v => keyIs k v = true) ks us
  | [], _, .nil => .nil
  | k :: ks, _, .cons r t => .cons (key_is r) (keys_of_vals t)
def rSetK (K : PySem.W.Frag) (P : Program) (w : World) : List V → Hp → VK → Prop := fun xs H Q => ∃ (a : Addr) (ks : List Key), xs = [.ref a] ∧ (SqL K H a (ks.map kV) ∨ SqT K H a (ks.map kV)) ∧ (uq ks).length ≤ 4000 ∧
  ∀ p, H p = none → Q (.ref p) (upd H p (SetK P w p (isIn ks) (uq ks).length))
theorem cr_setK (hc : X.calm = true) : CallR X (.type "set") (rSetK X.K X.prog X.w) := by
  intro pins s σ H xs us Q I r h
  obtain ⟨a, ks, rfl, hq, few, q⟩ := h
  obtain ⟨u, rfl, ru⟩ := vals1 r
  cases ru
  have room : (uq ks).length + 1 < scanBound := by show (uq ks).length + 1 < 4096; omega
  have done : ∀ (h2 : Heap) (tk : Nat), h2.SetOf (mixKind X.prog X.w) s.heap.objs.size (isIn ks) (uq ks).length → (∀ b o, s.heap.get? b = some o → h2.get? b = some o) → EP X pins σ Q (.ref s.heap.objs.size) { s with heap := h2, toks := tk } := fun h2 tk hS keep =>
    ⟨.ref _, _, I.laid (t' := tk) keep (Nat.le_refl _) (setK_new hS), rfl, q _ (I.hok.fresh (Nat.le_refl _))⟩
  rcases hq with hq | hq
  · obtain ⟨its, rv, pl, _⟩ := I.list hq
    exact set_of_list ks (I.ok.hd hc) pl.isList (by simpa using keys_of_vals rv) room done
  · obtain ⟨its, rv, tp, _⟩ := I.tuple hq
    exact set_of_tuple ks (I.ok.hd hc) tp (by simpa using keys_of_vals rv) room done
theorem call_lenK : CallR X (.builtin "len") (fun xs H Q => ∃ (a : Addr) (S : Key → Bool) (n : Nat), xs = [.ref a] ∧ H a = some (SetK X.prog X.w a S n) ∧ n ≤ 100000 ∧ Q (.int (n : Nat)) H) := by
  intro pins s σ H xs us Q I r h
  obtain ⟨a, S, n, rfl, ha, few, q⟩ := h
  obtain ⟨u, rfl, ru⟩ := vals1 r
  cases ru
  obtain ⟨o, es, ep, t, ho, hex, hd, _, _, _, hf, hn⟩ := setK_get I ha
  exact call_len_set ho hex hd hf (by rw [hn]; omega) ⟨.int (n : Nat), H, I.tok _, ⟨_, by rw [hn]⟩, q⟩
end
end Y

namespace Y
open PySem PySem.Spec PyProof.Rows L2
theorem PotAt.p_ne {H : Hp} {p g s a : Addr} {xs : List V} (Z : PotAt H p g s) (h : H a = some (.tup xs)) : a ≠ p ∧ a ≠ g := by
  obtain ⟨⟨gs, ss, lap, q, hp, hg, _⟩, _⟩ := Z
  exact ⟨fun e => (by rw [e, hp] at h; cases h), fun e => (by rw [e, hg] at h; cases h)⟩
theorem PotAt.p_neD {H : Hp} {p g s a : Addr} {xs : List (Key × V)} (Z : PotAt H p g s) (h : H a = some (.dK xs)) : a ≠ p ∧ a ≠ g := by
  obtain ⟨⟨gs, ss, lap, q, hp, hg, _⟩, _⟩ := Z
  exact ⟨fun e => (by rw [e, hp] at h; cases h), fun e => (by rw [e, hg] at h; cases h)⟩
theorem PotAt.free {H : Hp} {p g s a : Addr} (Z : PotAt H p g s) (h : H a = none) : a ≠ p ∧ a ≠ g ∧ a ≠ s := by
  obtain ⟨⟨gs, ss, lap, q, hp, hg, hs, _⟩, _⟩ := Z
  exact ⟨(ne_of_none hp h).symm, (ne_of_none hg h).symm, (ne_of_none hs h).symm⟩
/-- the pot stays where nothing that it holds is touched -/
theorem PotAt.same {H H' : Hp} {p g s : Addr} (Z : PotAt H p g s) (e : Same H H') : PotAt H' p g s := by
  obtain ⟨⟨gs, ss, lap, q, hp, hg, hs, r⟩, k1, k2, k3⟩ := Z
  exact ⟨⟨gs, ss, lap, q, e _ _ hp, e _ _ hg, e _ _ hs, r⟩, k1, k2, k3⟩
theorem PotAt.put {H : Hp} {p g s a : Addr} {o : HO} (Z : PotAt H p g s) (n : a ≠ p ∧ a ≠ g ∧ a ≠ s) : PotAt (upd H a o) p g s := by
  obtain ⟨⟨gs, ss, lap, q, hp, hg, hs, r⟩, k1, k2, k3⟩ := Z
  exact ⟨⟨gs, ss, lap, q, by rw [upd_ne n.1.symm]; exact hp, by rw [upd_ne n.2.1.symm]; exact hg, by rw [upd_ne n.2.2.symm]; exact hs, r⟩, k1, k2, k3⟩
theorem PotAt.ne_s {H H' : Hp} {p g s a : Addr} (Z : PotAt H p g s) (b : But p g H H') (h : H' a = none) : a ≠ s := by
  obtain ⟨⟨gs, ss, lap, q, hp, hg, hs, r⟩, k1, k2, k3⟩ := Z
  exact (ne_of_none (b _ _ hs k2.symm k3.symm) h).symm
theorem But.tup {p g : Addr} {K : PySem.W.Frag} {H H' : Hp} {a s : Addr} {xs : List V} (e : But p g H H') (Z : PotAt H p g s) (h : SqT K H a xs) : SqT K H' a xs := by
  obtain ⟨⟨gs, ss, lap, q, hp, hg, _⟩, _⟩ := Z
  have ne : ∀ {o}, H a = some o → (∀ ys, o ≠ .lst ys) → a ≠ p ∧ a ≠ g := fun {o} k n => ⟨fun z => n _ (by rw [z, hp] at k; exact (Option.some.inj k).symm), fun z => n _ (by rw [z, hg] at k; exact (Option.some.inj k).symm)⟩
  rcases h with (h | ⟨o, h⟩) | h
  · have k := ne h fun ys z => nomatch z
    exact .inl (.inl (e _ _ h k.1 k.2))
  · have k := ne h fun ys z => nomatch z
    exact .inl (.inr ⟨o, e _ _ h k.1 k.2⟩)
  · exact .inr h
theorem But.free {p g : Addr} {H H' : Hp} (e : But p g H H') {l : Addr} (h : H' l = none) (np : l ≠ p) (ng : l ≠ g) : H l = none := by
  cases q : H l with
  | none => rfl
  | some o =>
    rw [e l o q np ng] at h
    cases h
theorem But.put {p g : Addr} {H H' : Hp} {D : Addr} {o : HO} (s : But p g H H') (n : H D = none) : But p g H (upd H' D o) := fun b u e n1 n2 => by
  rw [upd_ne (ne_of_none e n)]
  exact s b u e n1 n2
section
variable {P : Program} {w : World} {K : PySem.W.Frag} {mg : Str → Option Value} {base : Heap}
abbrev s_l_any : Stmt := topS 31
theorem sc_l_any : FnScope ["_law_pot_here", "_law_items"] ["_law_pot_here", "_law_items"] (defScope s_l_any) := ⟨rfl, rfl, rfl, by decide +kernel, rfl, by decide +kernel, by decide +kernel⟩
def spAny (K : PySem.W.Frag) : Sp := fun vs H Q _ => ∃ (p g s a : Addr) (xs : List V), vs = [.ref p, .ref a] ∧ PotAt H p g s ∧ (SqL K H a xs ∧ a ≠ p ∧ a ≠ g ∨ SqT K H a xs) ∧ 0 < xs.length ∧ xs.length ≤ 1000000 ∧
  ∀ (j : Nat) (x : V) H', xs[j]? = some x → PotAt H' p g s → But p g H H' → Q x H'
theorem ok_any {f : Addr} {fd : FuncData} (F : Fun K "_law_any" "_law_any" s_l_any f fd) (T : Bi mg) (D_l_draw : Has P w K mg base "_law_draw" 1 ["_law_pot_here", "_law_many"] spDraw) : FnOk P w K mg base CX0 2 f fd ["_law_pot_here", "_law_items"] (spAny K) := by
  refine F.ok sc_l_any (fun vs H Q E h => ?_) (fun cdv A outer s₀ H vs Q E hr h => ?_)
  · obtain ⟨p, g, s, a, xs, rfl, _⟩ := h
    rfl
  · obtain ⟨p, g, s, a, xs, rfl, Z, hS, l0, l1, kk⟩ := h
    refine ⟨_, (pss_one (ps_ret (pe_ix ix_seq (pv 1) (D_l_draw.call (hr.mono (by decide)) (by rfl) (pa_cons (pv 0) (pa_cons (pe_callB call_len_seq (by rfl) T.len PySem.boot_len (pa_cons (pv 1) pa_nil)) pa_nil))) (fun _ _ => rfl)))), ?_⟩
    have hS' : SqL K H a xs ∨ SqT K H a xs := hS.elim (fun z => .inl z.1) .inr
    refine ⟨_, rfl, _, rfl, _, rfl, a, xs, rfl, hS', p, g, s, _, rfl, Z, by omega, by omega, fun r H1 r0 r1 Z1 b1 => ?_⟩
    obtain ⟨j, rfl⟩ : ∃ j : Nat, r = (j : Int) := ⟨_, (Int.toNat_of_nonneg r0).symm⟩
    have hj : j < xs.length := by omega
    have hx : xs[j]? = some xs[j] := List.getElem?_eq_getElem hj
    rcases hS with ⟨hS, n1, n2⟩ | hS
    · exact .inl ⟨a, xs, _, _, rfl, rfl, b1.seq (fun _ => n1) (fun _ => n2) hS, atI_nat hx, kk j _ _ hx Z1 b1⟩
    · exact .inr (.inl ⟨a, xs, _, _, rfl, rfl, b1.tup Z hS, atI_nat hx, kk j _ _ hx Z1 b1⟩)
abbrev s_l_mixed : Stmt := topS 32
theorem sc_l_mixed : FnScope ["_law_pot_here", "_law_items", "_law_line", "_law_at", "_law_other"] ["_law_pot_here", "_law_items"] (defScope s_l_mixed) := ⟨rfl, rfl, rfl, by decide +kernel, rfl, by decide +kernel, by decide +kernel⟩
def spMixed (K : PySem.W.Frag) : Sp := fun vs H Q _ => ∃ (p g s a : Addr) (xs : List V), vs = [.ref p, .ref a] ∧ PotAt H p g s ∧ (SqL K H a xs ∨ SqT K H a xs) ∧ 0 < xs.length ∧ xs.length ≤ 1000000 ∧
  ∀ (l : Addr) (ys : List V) H', ys.Perm xs → H l = none → H' l = some (.lst ys) → PotAt H' p g s → But p g H H' → Q (.ref l) H'
theorem ok_mixed {f : Addr} {fd : FuncData} (F : Fun K "_law_mixed" "_law_mixed" s_l_mixed f fd) (T : Bi mg) (D_l_draw : Has P w K mg base "_law_draw" 1 ["_law_pot_here", "_law_many"] spDraw) : FnOk P w K mg base CX0 2 f fd ["_law_pot_here", "_law_items"] (spMixed K) := by
  refine F.ok sc_l_mixed (fun vs H Q E h => ?_) (fun cdv A outer s₀ H vs Q E hr h => ?_)
  · obtain ⟨p, g, s, a, xs, rfl, _⟩ := h
    rfl
  · obtain ⟨p, g, s, a, xs, rfl, Z, hS, l0, l1, kk⟩ := h
    refine ⟨_, (pss_cons (ps_set (i := 2) sc_l_mixed.nd rfl (.inl rfl) (pe_callTy (T := "list") (call_list_of) (by rfl) T.list_ (by decide +kernel) (pa_cons (pv 1) pa_nil)))
 (pss_cons (ps_for PassesOwn.never rfl (pi_range1 (by rfl) T.range (pa_cons (pe_callB call_len_seq (by rfl) T.len PySem.boot_len (pa_cons (pv 2) pa_nil)) pa_nil)) (pg_name (i := 3) sc_l_mixed.nd rfl (.inl rfl))
  (pss_cons (ps_set (i := 4) sc_l_mixed.nd rfl (.inl rfl) (D_l_draw.call (hr.mono (by decide)) (by rfl) (pa_cons (pv 0) (pa_cons (pe_callB call_len_seq (by rfl) T.len PySem.boot_len (pa_cons (pv 2) pa_nil)) pa_nil))))
 (pss_one (ps_asg (pe_tup (pa_cons (pe_ix ix_list (pv 2) (pv 4) (fun _ _ => rfl)) (pa_cons (pe_ix ix_list (pv 2) (pv 3) (fun _ _ => rfl)) pa_nil))) (pg_tup (by rfl) (pgs_cons (pg_sub (pv 2) (pv 3) set_list) (pgs_cons (pg_sub (pv 2) (pv 4) set_list) pgs_nil)))))))
 (pss_one (ps_ret (pv 2))))), ?_⟩
    refine ⟨_, rfl, a, xs, rfl, hS, fun l nl => ?_⟩
    have nls := Z.free nl
    refine ⟨_, rfl, l, xs, rfl, .inl (SqL.of upd_same), _, rfl, by omega, by omega, ?_⟩
    refine for_range (lo := 0) (n := ((xs.length : Nat) : Int).toNat) (fun i σ H1 => ∃ y3 y4 ys, σ = [some (.ref p), some (.ref a), some (.ref l), y3, y4] ∧ H1 l = some (.lst ys) ∧ ys.Perm xs ∧ PotAt H1 p g s ∧ But p g H H1)
      ⟨none, none, xs, rfl, upd_same, List.Perm.refl _, Z.put nls, (But.refl H).put nl⟩ ?_ ?_
    · rintro i σ H1 hi ⟨y3, y4, ys, rfl, hl, pm, Z1, b1⟩
      have ly := pm.length_eq
      have hi' : i < ys.length := by omega
      refine ⟨_, rfl, _, rfl, l, ys, rfl, .inl (SqL.of hl), p, g, s, _, rfl, Z1, by omega, by omega, fun r H2 r0 r1 Z2 b2 => ?_⟩
      obtain ⟨j, rfl⟩ : ∃ j : Nat, r = (j : Int) := ⟨_, (Int.toNat_of_nonneg r0).symm⟩
      have hj : j < ys.length := by omega
      have hl2 : H2 l = some (.lst ys) := b2 _ _ hl nls.1 nls.2.1
      have gi : atI ys ((0 : Int) + (i : Nat)) = some ys[i] := at_of (Int.zero_add _) (List.getElem?_eq_getElem hi')
      have gj : atI ys (j : Int) = some ys[j] := atI_nat (List.getElem?_eq_getElem hj)
      refine ⟨_, rfl, _, rfl, l, ys, _, _, rfl, rfl, SqL.of hl2, gj, _, rfl, _, rfl, l, ys, _, _, rfl, rfl, SqL.of hl2, gi, (by show 2 ≤ sizeLine; decide), fun t nt => ?_⟩
      have nlt : l ≠ t := ne_of_none hl2 nt
      have h3 : (upd H2 t (.tup [ys[j], ys[i]])) l = some (.lst ys) := by rw [upd_ne nlt]; exact hl2
      refine ⟨t, [ys[j], ys[i]], rfl, SqT.of upd_same, rfl, ys[j], [ys[i]], rfl, ?_⟩
      refine ⟨_, rfl, _, rfl, l, ys, _, i, rfl, rfl, h3, (by rw [show (0 : Int) + (i : Nat) = (i : Int) from Int.zero_add _]; exact ixN_nat hi'), ys[i], [], rfl, ?_⟩
      refine ⟨_, rfl, _, rfl, l, _, _, j, rfl, rfl, upd_same, (by rw [List.length_set]; exact ixN_nat hj), rfl, ?_⟩
      refine ⟨_, _, (ys.set i ys[j]).set j ys[i], rfl, upd_same, (List.set_set_perm hi' hj).trans pm, ?_, ?_⟩
      · exact ((Z2.put (Z2.free nt)).put nls).put nls
      · exact (((b1.trans b2).put (b1.free (b2.free nt (Z2.free nt).1 (Z2.free nt).2.1) (Z2.free nt).1 (Z2.free nt).2.1)).put nl).put nl
    · rintro σ H1 ⟨y3, y4, ys, rfl, hl, pm, Z1, b1⟩
      exact ⟨_, rfl, kk l ys H1 pm nl hl Z1 b1⟩
end
end Y

namespace Y
open PySem PySem.Spec PyProof.Rows L2
/-! ### names -/
def NM8 : List Str := ["a", "b", "c", "d", "e", "x", "yy", "half"]
def nmB (x : Str) : Bool := decide (1 ≤ x.cps.size) && decide (x.cps.size ≤ 8) && x.cps.toList.all fun c => decide (97 ≤ c) && decide (c ≤ 122)
theorem nm8_ok : ∀ x ∈ NM8, nmB x = true := by decide +kernel
theorem nm8_nd : NM8.Nodup := by decide +kernel
theorem perm_map {α β : Type} {f : α → β} {ys zs : List β} (h : ys.Perm zs) : ∀ {xs : List α}, zs = xs.map f → ∃ ws : List α, ws.Perm xs ∧ ys = ws.map f := by
  induction h with
  | nil =>
    intro xs e
    cases xs with
    | nil => exact ⟨[], .nil, rfl⟩
    | cons a r => simp at e
  | cons y _ ih =>
    intro xs e
    cases xs with
    | nil => simp at e
    | cons a r =>
      simp only [List.map_cons, List.cons.injEq] at e
      obtain ⟨e1, e2⟩ := e
      obtain ⟨ws, p, q⟩ := ih e2
      exact ⟨a :: ws, p.cons a, by rw [List.map_cons, ← e1, ← q]⟩
  | swap y z l =>
    intro xs e
    match xs, e with
    | [], e => simp at e
    | [_], e => simp at e
    | a :: b :: r, e =>
      simp only [List.map_cons, List.cons.injEq] at e
      obtain ⟨e1, e2, e3⟩ := e
      exact ⟨b :: a :: r, List.Perm.swap a b r, by rw [List.map_cons, List.map_cons, ← e1, ← e2, ← e3]⟩
  | trans _ _ ih1 ih2 =>
    intro xs e
    obtain ⟨ws, p, q⟩ := ih2 e
    obtain ⟨vs, p2, q2⟩ := ih1 q
    exact ⟨vs, p2.trans p, q2⟩
/-! ### deeds, pushes: the mathematics -/
inductive De where
  | zero (x : Str) | copy (x y : Str) | more (x : Str)
def De.fst : De → Str
  | .zero x => x
  | .copy x _ => x
  | .more x => x
def De.ns : De → List Str
  | .zero x => [x]
  | .copy x y => [x, y]
  | .more x => [x]
def deV : De → List V
  | .zero x => [.str "zero", .str x]
  | .copy x y => [.str "copy", .str x, .str y]
  | .more x => [.str "more", .str x]
abbrev PF := Str → Option Str × Int
def upF {β : Type} (F : Str → β) (x : Str) (e : β) : Str → β := fun y => if y = x then e else F y
theorem upF_same {β : Type} {F : Str → β} {x : Str} {e : β} : upF F x e x = e := if_pos rfl
theorem upF_ne {β : Type} {F : Str → β} {x y : Str} {e : β} (h : y ≠ x) : upF F x e y = F y := if_neg h
def stillF : PF := fun x => (some x, 0)
def behF (F : PF) : De → Option Str × Int
  | .zero _ => (none, 0)
  | .copy _ y => F y
  | .more x => ((F x).1, (F x).2 + 1)
def stepF (F : PF) (d : De) : PF := upF F d.fst (behF F d)
def pushF (ds : List De) : PF := ds.foldl stepF stillF
def doV (v : Str → Int) : De → Int
  | .zero _ => 0
  | .copy _ y => v y
  | .more x => v x + 1
def doF (v : Str → Int) (d : De) : Str → Int := upF v d.fst (doV v d)
def evP (F : PF) (v : Str → Int) : Str → Int := fun x => (match (F x).1 with | none => 0 | some y => v y) + (F x).2
theorem ev_still (v : Str → Int) : evP stillF v = v := by
  funext x
  show v x + 0 = v x
  omega
theorem ev_step (F : PF) (v : Str → Int) (d : De) : evP (stepF F d) v = doF (evP F v) d := by
  funext x
  unfold evP stepF doF
  by_cases h : x = d.fst
  · subst h
    rw [upF_same, upF_same]
    cases d with
    | zero x => show (0 : Int) + 0 = 0; rfl
    | copy x y => rfl
    | more x =>
      show (match (F x).1 with | none => 0 | some y => v y) + ((F x).2 + 1) = ((match (F x).1 with | none => 0 | some y => v y) + (F x).2) + 1
      omega
  · rw [upF_ne h, upF_ne h]
theorem ev_fold (v : Str → Int) : ∀ (ds : List De) (F : PF), evP (ds.foldl stepF F) v = ds.foldl doF (evP F v)
  | [], _ => rfl
  | d :: ds, F => by
    show evP (ds.foldl stepF (stepF F d)) v = ds.foldl doF (doF (evP F v) d)
    rw [ev_fold v ds, ev_step]
theorem ev_push (v : Str → Int) (ds : List De) : evP (pushF ds) v = ds.foldl doF v := by
  unfold pushF
  rw [ev_fold, ev_still]
def thenF (A B : PF) : PF := fun x => match (B x).1 with | none => (none, (B x).2) | some y => ((A y).1, (A y).2 + (B x).2)
theorem then_still (A : PF) : thenF A stillF = A := by
  funext x
  show ((A x).1, (A x).2 + 0) = A x
  rw [Int.add_zero]
theorem then_step (A B : PF) (d : De) : thenF A (stepF B d) = stepF (thenF A B) d := by
  funext x
  unfold stepF
  by_cases h : x = d.fst
  · subst h
    rw [upF_same]
    unfold thenF
    rw [upF_same]
    cases d with
    | zero x => rfl
    | copy x y => rfl
    | more x =>
      show (match (B x).1 with | none => (none, (B x).2 + 1) | some y => ((A y).1, (A y).2 + ((B x).2 + 1))) = _
      show _ = ((match (B x).1 with | none => ((none : Option Str), (B x).2) | some y => ((A y).1, (A y).2 + (B x).2)).1, (match (B x).1 with | none => ((none : Option Str), (B x).2) | some y => ((A y).1, (A y).2 + (B x).2)).2 + 1)
      cases (B x).1 with
      | none => rfl
      | some y => show ((A y).1, (A y).2 + ((B x).2 + 1)) = ((A y).1, ((A y).2 + (B x).2) + 1); rw [Int.add_assoc]
  · rw [upF_ne h]
    unfold thenF
    rw [upF_ne h]
theorem then_fold (A : PF) : ∀ (ds : List De) (B : PF), thenF A (ds.foldl stepF B) = ds.foldl stepF (thenF A B)
  | [], _ => rfl
  | d :: ds, B => by
    show thenF A (ds.foldl stepF (stepF B d)) = ds.foldl stepF (stepF (thenF A B) d)
    rw [then_fold A ds, then_step]
theorem then_push (ds es : List De) : thenF (pushF ds) (pushF es) = pushF (ds ++ es) := by
  show thenF (pushF ds) (es.foldl stepF stillF) = _
  rw [then_fold, then_still]
  unfold pushF
  rw [List.foldl_append]
/-- sources stay among the names, mores within the number of deeds -/
structure Within (ns : List Str) (n : Int) (F : PF) : Prop where
  src : ∀ x ∈ ns, ∀ y, (F x).1 = some y → y ∈ ns
  lo : ∀ x, 0 ≤ (F x).2
  hi : ∀ x, (F x).2 ≤ n
theorem within_still (ns : List Str) : Within ns 0 stillF := ⟨fun x hx y e => by cases e; exact hx, fun _ => Int.le_refl _, fun _ => Int.le_refl _⟩
theorem within_step {ns : List Str} {n : Int} {F : PF} {d : De} (h : Within ns n F) (hd : ∀ x ∈ d.ns, x ∈ ns) : Within ns (n + 1) (stepF F d) := by
  have hn : 0 ≤ n := Int.le_trans (h.lo d.fst) (h.hi d.fst)
  refine ⟨fun x hx y e => ?_, fun x => ?_, fun x => ?_⟩
  · unfold stepF at e
    by_cases k : x = d.fst
    · subst k
      rw [upF_same] at e
      cases d with
      | zero x => cases e
      | copy x z => exact h.src z (hd z (by simp [De.ns])) y e
      | more x => exact h.src x hx y e
    · rw [upF_ne k] at e
      exact h.src x hx y e
  · unfold stepF
    by_cases k : x = d.fst
    · subst k
      rw [upF_same]
      cases d with
      | zero x => exact Int.le_refl _
      | copy x z => exact h.lo z
      | more x => have := h.lo x; show 0 ≤ (F x).2 + 1; omega
    · rw [upF_ne k]; exact h.lo x
  · unfold stepF
    by_cases k : x = d.fst
    · subst k
      rw [upF_same]
      cases d with
      | zero x => show (0 : Int) ≤ n + 1; omega
      | copy x z => have := h.hi z; show (F z).2 ≤ n + 1; omega
      | more x => have := h.hi x; show (F x).2 + 1 ≤ n + 1; omega
    · rw [upF_ne k]; have := h.hi x; omega
theorem within_fold {ns : List Str} : ∀ (ds : List De) (n : Int) (F : PF), Within ns n F → (∀ d ∈ ds, ∀ x ∈ d.ns, x ∈ ns) → Within ns (n + (ds.length : Nat)) (ds.foldl stepF F)
  | [], n, F, h, _ => by simpa using h
  | d :: ds, n, F, h, hd => by
    have q := within_fold ds (n + 1) (stepF F d) (within_step h (hd d List.mem_cons_self)) fun e m => hd e (List.mem_cons_of_mem _ m)
    have e : n + ((d :: ds).length : Nat) = n + 1 + (ds.length : Nat) := by rw [List.length_cons]; omega
    rw [e]
    exact q
theorem within_push {ns : List Str} (ds : List De) (h : ∀ d ∈ ds, ∀ x ∈ d.ns, x ∈ ns) : Within ns (ds.length : Nat) (pushF ds) := by
  have q := within_fold ds 0 stillF (within_still ns) h
  rw [Int.zero_add] at q
  exact q
/-! ### how they stand in the heap -/
def osV : Option Str → V
  | none => .non
  | some x => .str x
/-- a dict with the names as keys, in their order, and values of which something is told -/
def DicAt (G : Hp → Str → V → Prop) (H : Hp) (d : Addr) (ns : List Str) : Prop := ∃ kvs : List (Key × V), H d = some (.dK kvs) ∧ kvs.map (·.1) = ns.map Sum.inr ∧ ∀ x ∈ ns, ∃ v, valV kvs (.inr x) = some v ∧ G H x v
def isPair (F : PF) (H : Hp) (x : Str) (v : V) : Prop := ∃ t, v = .ref t ∧ H t = some (.tup [osV (F x).1, .int (F x).2])
def isNum (u : Str → Int) (_ : Hp) (x : Str) (v : V) : Prop := v = .int (u x)
/-- what is told as kvs (whoever locks it) -/
structure Dic (G : Hp → Str → V → Prop) (H : Hp) (kvs : List (Key × V)) (ns : List Str) : Prop where
  keys : kvs.map (·.1) = ns.map Sum.inr
  val : ∀ x ∈ ns, ∃ v, valV kvs (.inr x) = some v ∧ G H x v
theorem inr_nd {ns : List Str} (h : ns.Nodup) : (ns.map (Sum.inr : Str → Key)).Nodup := by
  induction ns with
  | nil => exact List.nodup_nil
  | cons a r ih =>
    obtain ⟨h1, h2⟩ := List.nodup_cons.mp h
    rw [List.map_cons]
    refine List.nodup_cons.mpr ⟨fun m => ?_, ih h2⟩
    obtain ⟨z, hz, e⟩ := List.mem_map.mp m
    cases e
    exact h1 hz
section
variable {G : Hp → Str → V → Prop} {H : Hp} {kvs : List (Key × V)} {ns : List Str}
theorem Dic.len (D : Dic G H kvs ns) : kvs.length = ns.length := by
  have q := congrArg List.length D.keys
  simpa using q
theorem Dic.at_ (D : Dic G H kvs ns) (nd : ns.Nodup) {i : Nat} {k : Key} {v : V} (h : kvs[i]? = some (k, v)) : ∃ x, ns[i]? = some x ∧ x ∈ ns ∧ k = Sum.inr x ∧ valV kvs (.inr x) = some v ∧ G H x v := by
  have e : (kvs.map (·.1))[i]? = some k := by rw [List.getElem?_map, h]; rfl
  rw [D.keys] at e
  rw [List.getElem?_map] at e
  cases q : ns[i]? with
  | none => rw [q] at e; cases e
  | some x =>
    rw [q] at e
    have ek : Sum.inr x = k := Option.some.inj e
    subst ek
    have hx := at_mem q
    have hv : valV kvs (Sum.inr x : Key) = some v := val_nodup (by rw [D.keys]; exact inr_nd nd) ((Sum.inr x : Key), v) (at_mem h)
    obtain ⟨v', h1, h2⟩ := D.val x hx
    rw [hv] at h1
    cases h1
    exact ⟨x, rfl, hx, rfl, hv, h2⟩
theorem Dic.mono {G' : Hp → Str → V → Prop} {H' : Hp} (D : Dic G H kvs ns) (h : ∀ x v, x ∈ ns → G H x v → G' H' x v) : Dic G' H' kvs ns := ⟨D.keys, fun x hx => by obtain ⟨v, e, g⟩ := D.val x hx; exact ⟨v, e, h x v hx g⟩⟩
theorem putK_keys {k : Key} {v : V} : ∀ {kvs : List (Key × V)}, (valV kvs k).isSome = true → (putK kvs k v).map (·.1) = kvs.map (·.1) := fun {kvs} h => by
  unfold putK
  rw [valV_any, h, if_pos rfl, List.map_map]
  apply List.map_congr_left
  intro p _
  show (if p.1 = k then (p.1, v) else p).1 = p.1
  by_cases e : p.1 = k
  · rw [if_pos e]
  · rw [if_neg e]
/-- a value is stored under a name -/
theorem Dic.put {G' : Hp → Str → V → Prop} {H' : Hp} (D : Dic G H kvs ns) {x : Str} {v : V} (hx : x ∈ ns) (g : G' H' x v) (h : ∀ y u, y ∈ ns → y ≠ x → G H y u → G' H' y u) : Dic G' H' (putK kvs (.inr x) v) ns := by
  obtain ⟨v0, e0, _⟩ := D.val x hx
  refine ⟨(putK_keys (by rw [e0]; rfl)).trans D.keys, fun y hy => ?_⟩
  rw [valV_put]
  by_cases e : y = x
  · subst e
    exact ⟨v, if_pos rfl, g⟩
  · obtain ⟨u, e1, g1⟩ := D.val y hy
    exact ⟨u, (if_neg fun z => e (Sum.inr.inj z)).trans e1, h y u hy e g1⟩
theorem Dic.none_of (D : Dic G H kvs ns) {x : Str} (hx : x ∉ ns) : valV kvs (.inr x) = none := by
  cases e : valV kvs (.inr x) with
  | none => rfl
  | some v =>
    have q := valV_in e
    rw [D.keys] at q
    obtain ⟨z, hz, e2⟩ := List.mem_map.mp q
    cases e2
    exact (hx hz).elim
/-- a further name -/
theorem Dic.snoc {G' : Hp → Str → V → Prop} {H' : Hp} (D : Dic G H kvs ns) {x : Str} {v : V} (hx : x ∉ ns) (g : G' H' x v) (h : ∀ y u, y ∈ ns → G H y u → G' H' y u) : Dic G' H' (putK kvs (.inr x) v) (ns ++ [x]) := by
  have e0 := D.none_of hx
  rw [putK_new v e0]
  refine ⟨by rw [List.map_append, List.map_append, D.keys]; rfl, fun y hy => ?_⟩
  rw [valV_snoc _ _ _ _ e0]
  rcases List.mem_append.mp hy with m | m
  · have ne : y ≠ x := fun z => hx (z ▸ m)
    obtain ⟨u, e1, g1⟩ := D.val y m
    exact ⟨u, (if_neg fun z => ne (Sum.inr.inj z)).trans e1, h y u m g1⟩
  · rw [List.mem_singleton.mp m]
    exact ⟨v, if_pos rfl, g⟩
theorem Dic.nil : Dic G H [] [] := ⟨rfl, fun x h => nomatch h⟩
theorem pair_keep {F : PF} {H H' : Hp} (h : ∀ t xs, H t = some (.tup xs) → H' t = some (.tup xs)) {x : Str} {v : V} (g : isPair F H x v) : isPair F H' x v := by
  obtain ⟨t, e, k⟩ := g
  exact ⟨t, e, h _ _ k⟩
end
/-- the deeds' tuples -/
abbrev DeT (H : Hp) (ts : List V) (ds : List De) : Prop := Paired (fun v d => ∃ t, v = .ref t ∧ H t = some (.tup (deV d))) ts ds
theorem DeT.keep {H H' : Hp} (h : ∀ t xs, H t = some (.tup xs) → H' t = some (.tup xs)) {ts : List V} {ds : List De} (D : DeT H ts ds) : DeT H' ts ds := Paired.mapP D fun v d ⟨t, e, k⟩ => ⟨t, e, h _ _ k⟩
theorem Paired.get {α β : Type} {F : α → β → Prop} : ∀ {xs : List α} {ys : List β} {i : Nat} {x : α}, Paired F xs ys → xs[i]? = some x → ∃ y, ys[i]? = some y ∧ F x y
  | _, _, _, _, .nil, h => by simp at h
  | _, _, 0, _, .cons f _, h => by
    have e := Option.some.inj h
    subst e
    exact ⟨_, rfl, f⟩
  | _, _, i + 1, _, .cons _ t, h => Paired.get (i := i) t h
theorem Paired.snoc {α β : Type} {F : α → β → Prop} : ∀ {xs : List α} {ys : List β} {x : α} {y : β}, Paired F xs ys → F x y → Paired F (xs ++ [x]) (ys ++ [y])
  | _, _, _, _, .nil, f => .cons f .nil
  | _, _, _, _, .cons g t, f => .cons g (Paired.snoc t f)
theorem Paired.app {α β : Type} {F : α → β → Prop} : ∀ {xs us : List α} {ys vs : List β}, Paired F xs ys → Paired F us vs → Paired F (xs ++ us) (ys ++ vs)
  | _, _, _, _, .nil, t => t
  | _, _, _, _, .cons g t, u => .cons g (Paired.app t u)
theorem Paired.takeP {α β : Type} {F : α → β → Prop} : ∀ {xs : List α} {ys : List β} (n : Nat), Paired F xs ys → Paired F (xs.take n) (ys.take n)
  | _, _, 0, _ => by simp; exact .nil
  | _, _, _ + 1, .nil => .nil
  | _, _, n + 1, .cons g t => .cons g (Paired.takeP n t)
theorem Paired.dropP {α β : Type} {F : α → β → Prop} : ∀ {xs : List α} {ys : List β} (n : Nat), Paired F xs ys → Paired F (xs.drop n) (ys.drop n)
  | _, _, 0, h => h
  | _, _, _ + 1, .nil => .nil
  | _, _, n + 1, .cons _ t => Paired.dropP n t
end Y

namespace Y
open PySem PySem.Spec PyProof.Rows L2
def spIsInt : Sp := fun vs H Q _ => ∃ i : Int, vs = [.int i] ∧ Q (.bl true) H
end Y

namespace Y
open PySem PySem.Spec PyProof.Rows L2
theorem But.tupP {p g s : Addr} {H H' : Hp} (e : But p g H H') (Z : PotAt H p g s) : ∀ t xs, H t = some (.tup xs) → H' t = some (.tup xs) := fun t xs h => e t _ h (Z.p_ne h).1 (Z.p_ne h).2
theorem _root_.L2.Same.tupP {H H' : Hp} (e : Same H H') : ∀ t xs, H t = some (.tup xs) → H' t = some (.tup xs) := fun t xs h => e t _ h
theorem strs_get {ns : List Str} {i : Nat} {v : V} (h : (ns.map V.str)[i]? = some v) : ∃ x, x ∈ ns ∧ v = .str x := by
  obtain ⟨x, hx, e⟩ := map_at h
  exact ⟨x, at_mem hx, e⟩
section
variable {P : Program} {w : World} {K : PySem.W.Frag} {mg : Str → Option Value} {base : Heap}
abbrev s_l_push_names : Stmt := topS 37
theorem sc_l_push_names : FnScope ["_law_pot_here"] ["_law_pot_here"] (defScope s_l_push_names) := ⟨rfl, rfl, rfl, by decide +kernel, rfl, by decide +kernel, by decide +kernel⟩
def spPushNames : Sp := fun vs H Q _ => ∃ (p g s : Addr), vs = [.ref p] ∧ PotAt H p g s ∧
  ∀ (t : Addr) (ns : List Str) H', ns.Nodup → (∀ x ∈ ns, x ∈ NM8) → 1 ≤ ns.length → ns.length ≤ 7 → H t = none → H' t = some (.tup (ns.map V.str)) → PotAt H' p g s → But p g H H' → Q (.ref t) H'
theorem ok_push_names {f : Addr} {fd : FuncData} (F : Fun K "_law_push_names" "_law_push_names" s_l_push_names f fd) (T : Bi mg) (D_l_draw : Has P w K mg base "_law_draw" 1 ["_law_pot_here", "_law_many"] spDraw)
    (D_l_mixed : Has P w K mg base "_law_mixed" 2 ["_law_pot_here", "_law_items"] (spMixed K)) : FnOk P w K mg base CX0 3 f fd ["_law_pot_here"] spPushNames := by
  refine F.ok sc_l_push_names (fun vs H Q E h => ?_) (fun cdv A outer s₀ H vs Q E hr h => ?_)
  · obtain ⟨p, g, s, rfl, _⟩ := h
    rfl
  · obtain ⟨p, g, s, rfl, Z, kk⟩ := h
    refine ⟨_, (pss_one (ps_ret (pe_callTy (T := "tuple") (call_tuple_of) (by rfl) T.tuple_ (by decide +kernel) (pa_cons (pe_slice sl_list (D_l_mixed.call (hr.mono (by decide)) (by rfl) (pa_cons (pv 0) (pa_cons (pe_lst (pa_cons pe_str (pa_cons pe_str (pa_cons pe_str (pa_cons pe_str (pa_cons pe_str (pa_cons pe_str (pa_cons pe_str (pa_cons pe_str pa_nil))))))))) pa_nil))) po_none (po_some (pe_op op_add pe_int (D_l_draw.call (hr.mono (by decide)) (by rfl) (pa_cons (pv 0) (pa_cons pe_int pa_nil)))))) pa_nil)))), ?_⟩
    refine ⟨_, rfl, (by show 8 ≤ sizeLine; decide), fun a na => ?_⟩
    have na3 := Z.free na
    refine ⟨p, g, s, a, NM8.map V.str, rfl, Z.put na3, .inl (SqL.of upd_same), by decide, by decide, fun l ys H1 pm nl hl Z1 b1 => ?_⟩
    obtain ⟨ns, pn, rfl⟩ := perm_map pm rfl
    have b1' : But p g H H1 := (But.of (same_upd na)).trans b1
    have nl3 := (Z.put (o := .lst (NM8.map V.str)) na3).free nl
    have nl0 : H l = none := (same_upd na).free nl
    refine ⟨_, rfl, p, g, s, 7, rfl, Z1, by decide, by decide, fun r H2 r0 r1 Z2 b2 => ?_⟩
    obtain ⟨n, rfl⟩ : ∃ n : Nat, r = (n : Int) := ⟨_, (Int.toNat_of_nonneg r0).symm⟩
    have hl2 := b2 _ _ hl nl3.1 nl3.2.1
    refine ⟨_, _, rfl, rfl, _, rfl, l, _, rfl, SqL.of hl2, fun c nc => ?_⟩
    have ec : cutV (ns.map V.str) none (some (1 + (n : Int))) = (ns.take (n + 1)).map V.str := by
      rw [show (1 + (n : Int)) = ((n + 1 : Nat) : Int) by omega, cut_take, List.map_take]
    rw [ec]
    refine ⟨c, _, rfl, .inl ⟨SqL.of upd_same, fun t nt => ?_⟩⟩
    have len8 : ns.length = 8 := pn.length_eq
    have nc3 := Z2.free nc
    have nt3 := (Z2.put (o := .lst ((ns.take (n + 1)).map V.str)) nc3).free nt
    have b12 := b1'.trans b2
    have nc0 : H c = none := b12.free nc nc3.1 nc3.2.1
    have nt2 : H2 t = none := (same_upd nc).free nt
    have nt0 : H t = none := b12.free nt2 nt3.1 nt3.2.1
    refine kk t (ns.take (n + 1)) _ ((List.take_sublist _ _).nodup (pn.nodup_iff.mpr nm8_nd)) (fun x hx => pn.mem_iff.mp (List.mem_of_mem_take hx)) ?_ ?_ nt0 upd_same ((Z2.put nc3).put nt3) ((b12.put nc0).put nt0)
    · rw [List.length_take, len8]; omega
    · rw [List.length_take, len8]; omega
abbrev s_l_deed : Stmt := topS 33
theorem sc_l_deed : FnScope ["_law_pot_here", "_law_names", "_law_kind", "_law_name"] ["_law_pot_here", "_law_names"] (defScope s_l_deed) := ⟨rfl, rfl, rfl, by decide +kernel, rfl, by decide +kernel, by decide +kernel⟩
def spDeed (K : PySem.W.Frag) : Sp := fun vs H Q _ => ∃ (p g s a : Addr) (ns : List Str), vs = [.ref p, .ref a] ∧ PotAt H p g s ∧ SqT K H a (ns.map V.str) ∧ 0 < ns.length ∧ ns.length ≤ 1000 ∧
  ∀ (t : Addr) (d : De) H', (∀ x ∈ d.ns, x ∈ ns) → H t = none → H' t = some (.tup (deV d)) → PotAt H' p g s → But p g H H' → Q (.ref t) H'
theorem ok_ldeed {f : Addr} {fd : FuncData} (F : Fun K "_law_deed" "_law_deed" s_l_deed f fd) (T : Bi mg) (D_l_draw : Has P w K mg base "_law_draw" 1 ["_law_pot_here", "_law_many"] spDraw)
    (D_l_any : Has P w K mg base "_law_any" 2 ["_law_pot_here", "_law_items"] (spAny K)) : FnOk P w K mg base CX0 3 f fd ["_law_pot_here", "_law_names"] (spDeed K) := by
  refine F.ok sc_l_deed (fun vs H Q E h => ?_) (fun cdv A outer s₀ H vs Q E hr h => ?_)
  · obtain ⟨p, g, s, a, ns, rfl, _⟩ := h
    rfl
  · obtain ⟨p, g, s, a, ns, rfl, Z, hS, l0, l1, kk⟩ := h
    refine ⟨_, (pss_cons (ps_set (i := 2) sc_l_deed.nd rfl (.inl rfl) (D_l_draw.call (hr.mono (by decide)) (by rfl) (pa_cons (pv 0) (pa_cons pe_int pa_nil))))
 (pss_cons (ps_set (i := 3) sc_l_deed.nd rfl (.inl rfl) (D_l_any.call (hr.mono (by decide)) (by rfl) (pa_cons (pv 0) (pa_cons (pv 1) pa_nil))))
 (pss_cons (ps_if (pt_cmpR op_eq (pv 2) pe_int (nomark _))
  (pss_one (ps_ret (pe_tup (pa_cons pe_str (pa_cons (pv 3) pa_nil)))))
  pss_nil)
 (pss_one (ps_ret (pe_ifExp (pt_cmpR op_lt (pv 2) pe_int (nomark _)) (pe_tup (pa_cons pe_str (pa_cons (pv 3) (pa_cons (D_l_any.call (hr.mono (by decide)) (by rfl) (pa_cons (pv 0) (pa_cons (pv 1) pa_nil))) pa_nil)))) (pe_tup (pa_cons pe_str (pa_cons (pv 3) pa_nil))))))))), ?_⟩
    refine ⟨_, rfl, p, g, s, 5, rfl, Z, by decide, by decide, fun kind H1 _ _ Z1 b1 => ?_⟩
    have hS1 := b1.tup Z hS
    refine ⟨_, rfl, _, rfl, p, g, s, a, _, rfl, Z1, .inr hS1, by rw [List.length_map]; exact l0, by rw [List.length_map]; omega, fun j v H2 hv Z2 b2 => ?_⟩
    obtain ⟨x, hx, rfl⟩ := strs_get hv
    have b12 := b1.trans b2
    have hS2 := b2.tup Z1 hS1
    have fin : ∀ (H3 : Hp) (t : Addr) (d : De), PotAt H3 p g s → But p g H H3 → (∀ y ∈ d.ns, y ∈ ns) → H3 t = none → Q (.ref t) (upd H3 t (.tup (deV d))) := fun H3 t d Z3 b3 hd nt => by
      have nt3 := Z3.free nt
      have nt0 := b3.free nt nt3.1 nt3.2.1
      exact kk t d _ hd nt0 upd_same (Z3.put nt3) (b3.put nt0)
    refine ⟨_, rfl, rfl, _, rfl, ite2 (fun _ => ?_) (fun _ => ?_)⟩
    · exact ⟨_, rfl, (by show 2 ≤ sizeLine; decide), fun t nt => fin H2 t (.zero x) Z2 b12 (fun y hy => by rw [List.mem_singleton.mp hy]; exact hx) nt⟩
    · refine ⟨_, rfl, _, _, rfl, rfl, _, rfl, ite2 (fun _ => ?_) (fun _ => ?_)⟩
      · refine ⟨_, rfl, _, rfl, _, rfl, p, g, s, a, _, rfl, Z2, .inr hS2, by rw [List.length_map]; exact l0, by rw [List.length_map]; omega, fun j v H3 hv Z3 b3 => ?_⟩
        obtain ⟨y, hy, rfl⟩ := strs_get hv
        refine ⟨(by show 3 ≤ sizeLine; decide), fun t nt => fin H3 t (.copy x y) Z3 (b12.trans b3) (fun z hz => ?_) nt⟩
        rcases List.mem_cons.mp hz with e | e
        · rw [e]; exact hx
        · rw [List.mem_singleton.mp e]; exact hy
      · exact ⟨_, rfl, (by show 2 ≤ sizeLine; decide), fun t nt => fin H2 t (.more x) Z2 b12 (fun y hy => by rw [List.mem_singleton.mp hy]; exact hx) nt⟩
abbrev s_l_is_int : Stmt := topS 36
theorem sc_l_is_int : FnScope ["_law_thing"] ["_law_thing"] (defScope s_l_is_int) := ⟨rfl, rfl, rfl, by decide +kernel, rfl, by decide +kernel, by decide +kernel⟩
theorem ok_lis_int {f : Addr} {fd : FuncData} (F : Fun K "_law_is_int" "_law_is_int" s_l_is_int f fd) (T : Bi mg) : FnOk P w K mg base CX0 1 f fd ["_law_thing"] spIsInt := by
  refine F.ok sc_l_is_int (fun vs H Q E h => ?_) (fun cdv A outer s₀ H vs Q E hr h => ?_)
  · obtain ⟨i, rfl, _⟩ := h
    rfl
  · obtain ⟨i, rfl, kk⟩ := h
    refine ⟨_, (pss_one (ps_ret (pe_and (pe_callB (id := "isinstance") (r := rIsi K) call_isi (by rfl) T.isinstance (by decide +kernel) (pa_cons (pv 0) (pa_cons (pe_bltn (v := .ty "int") (by rfl) T.int_ (by decide +kernel) rfl) pa_nil))) (pe_one (pe_not (pe_callB (id := "isinstance") (r := rIsi K) call_isi (by rfl) T.isinstance (by decide +kernel) (pa_cons (pv 0) (pa_cons (pe_bltn (v := .ty "bool") (by rfl) T.bool_ (by decide +kernel) rfl) pa_nil)))))))), ?_⟩
    refine ⟨_, rfl, _, _, _, _, true, rfl, .ty "int", .base (.int i), kit_ty (by decide +kernel), true, rfl, ?_⟩
    exact ⟨_, rfl, _, _, _, _, false, rfl, .ty "bool", .base (.int i), kit_ty (by decide +kernel), false, rfl, kk⟩
abbrev s_l_great : Stmt := topS 39
theorem sc_l_great : FnScope ["_law_pot_here", "_law_some"] ["_law_pot_here"] (defScope s_l_great) := ⟨rfl, rfl, rfl, by decide +kernel, rfl, by decide +kernel, by decide +kernel⟩
def spGreat : Sp := fun vs H Q _ => ∃ (p g s : Addr), vs = [.ref p] ∧ PotAt H p g s ∧ ∀ (n : Int) H', 0 ≤ n → PotAt H' p g s → But p g H H' → Q (.int n) H'
theorem ok_great {f : Addr} {fd : FuncData} (F : Fun K "_law_great" "_law_great" s_l_great f fd) (T : Bi mg) (D_l_draw : Has P w K mg base "_law_draw" 1 ["_law_pot_here", "_law_many"] spDraw) : FnOk P w K mg base CX0 2 f fd ["_law_pot_here"] spGreat := by
  refine F.ok sc_l_great (fun vs H Q E h => ?_) (fun cdv A outer s₀ H vs Q E hr h => ?_)
  · obtain ⟨p, g, s, rfl, _⟩ := h
    rfl
  · obtain ⟨p, g, s, rfl, Z, kk⟩ := h
    refine ⟨_, (pss_cons (ps_set (i := 1) sc_l_great.nd rfl (.inl rfl) (D_l_draw.call (hr.mono (by decide)) (by rfl) (pa_cons (pv 0) (pa_cons (pe_op op_pow pe_int pe_int) pa_nil))))
 (pss_one (ps_ret (pe_ix ix_list (pe_lst (pa_cons (pe_op op_mod (pe_callTy (T := "int") call_int1 (by rfl) T.int_ (by decide +kernel) (pa_cons (pv 1) pa_nil)) pe_int) (pa_cons (pe_op op_add (pe_op op_pow pe_int pe_int) (pv 1)) (pa_cons (pe_op op_sub (pe_op op_sub (pe_op op_pow pe_int pe_int) pe_int) (pv 1)) pa_nil)))) (D_l_draw.call (hr.mono (by decide)) (by rfl) (pa_cons (pv 0) (pa_cons pe_int pa_nil))) (fun _ _ => rfl))))), ?_⟩
    refine ⟨_, rfl, 10, 9, rfl, rfl, ⟨by decide, by decide, by decide⟩, p, g, s, _, rfl, Z, by decide, by decide, fun n H1 n0 n1 Z1 b1 => ?_⟩
    have n2 : n < 1000000000 := n1
    refine ⟨_, rfl, .inl ⟨_, rfl, _, _, rfl, rfl, (by decide : (0 : Int) < 30), 10, 20, rfl, rfl, ⟨by decide, by decide, by decide⟩, _, rfl, _, _, rfl, rfl, ?_⟩⟩
    refine ⟨10, 39, rfl, rfl, ⟨by decide, by decide, by decide⟩, _, _, rfl, rfl, _, rfl, _, _, rfl, rfl, (by show 3 ≤ sizeLine; decide), fun l nl => ?_⟩
    have nl3 := Z1.free nl
    have nl0 := b1.free nl nl3.1 nl3.2.1
    refine ⟨_, rfl, p, g, s, 3, rfl, Z1.put nl3, by decide, by decide, fun r H2 r0 r1 Z2 b2 => ?_⟩
    obtain ⟨j, rfl⟩ : ∃ j : Nat, r = (j : Int) := ⟨_, (Int.toNat_of_nonneg r0).symm⟩
    have hl2 := b2 _ _ upd_same nl3.1 nl3.2.1
    have b12 := (b1.put (o := .lst [V.int (n % 30), V.int (10 ^ (20 : Int).toNat + n), V.int (10 ^ (39 : Int).toNat - 1 - n)]) nl0).trans b2
    have e1 : (0 : Int) ≤ 10 ^ (20 : Int).toNat + n := by
      have : (10 : Int) ^ (20 : Int).toNat = 100000000000000000000 := by decide
      omega
    have e2 : (0 : Int) ≤ 10 ^ (39 : Int).toNat - 1 - n := by
      have : (10 : Int) ^ (39 : Int).toNat = 1000000000000000000000000000000000000000 := by decide
      omega
    match j, (show j < 3 by omega) with
    | 0, _ => exact ⟨l, _, _, _, rfl, rfl, SqL.of hl2, atI_nat rfl, kk _ _ (Int.emod_nonneg _ (by decide)) Z2 b12⟩
    | 1, _ => exact ⟨l, _, _, _, rfl, rfl, SqL.of hl2, atI_nat rfl, kk _ _ e1 Z2 b12⟩
    | 2, _ => exact ⟨l, _, _, _, rfl, rfl, SqL.of hl2, atI_nat rfl, kk _ _ e2 Z2 b12⟩
abbrev s_l_do : Stmt := topS 35
theorem sc_l_do : FnScope ["_law_numbers", "_law_deed_here"] ["_law_numbers", "_law_deed_here"] (defScope s_l_do) := ⟨rfl, rfl, rfl, by decide +kernel, rfl, by decide +kernel, by decide +kernel⟩
def spDo : Sp := fun vs H Q _ => ∃ (d t : Addr) (kvs : List (Key × V)) (ns : List Str) (u : Str → Int) (e : De), vs = [.ref d, .ref t] ∧ H d = some (.dK kvs) ∧ Dic (isNum u) H kvs ns ∧ H t = some (.tup (deV e)) ∧ (∀ x ∈ e.ns, x ∈ ns) ∧ ns.length ≤ 1000 ∧
  ∀ kvs' H', H' = upd H d (.dK kvs') → Dic (isNum (doF u e)) H' kvs' ns → Q .non H'
theorem ok_do {f : Addr} {fd : FuncData} (F : Fun K "_law_do" "_law_do" s_l_do f fd) (T : Bi mg) : FnOk P w K mg base CX0 1 f fd ["_law_numbers", "_law_deed_here"] spDo := by
  refine F.ok sc_l_do (fun vs H Q E h => ?_) (fun cdv A outer s₀ H vs Q E hr h => ?_)
  · obtain ⟨d, t, kvs, ns, u, e, rfl, _⟩ := h
    rfl
  · obtain ⟨d, t, kvs, ns, u, e, rfl, hd, D, ht, hn, l1, kk⟩ := h
    have hu := hu_of hr
    have fin : ∀ (y : V) (x : Str), x ∈ ns → e.fst = x → y = .int (doV u e) → kvs.length < sizeLine ∧ Q .non (upd H d (.dK (putK kvs (.inr x) y))) := fun y x hx ex ey => by
      refine ⟨by rw [D.len]; exact big1 (by omega), kk _ _ rfl (D.put hx ?_ fun z v hz ne g => ?_)⟩
      · show y = V.int (upF u e.fst (doV u e) x)
        rw [ex, upF_same]
        exact ey
      · show v = V.int (upF u e.fst (doV u e) z)
        rw [upF_ne (by rw [ex]; exact ne)]
        exact g
    have get : ∀ x, x ∈ ns → valV kvs (.inr x) = some (.int (u x)) := fun x hx => by
      obtain ⟨v, e1, e2⟩ := D.val x hx
      rw [e1, e2]
    refine ⟨_, (pss_one (ps_if (pt_cmpR op_eq (pe_ix ix_tup (pv 1) pe_int (fun _ _ => rfl)) pe_str (nomark _))
  (pss_one (ps_dput hu (pv 0) (pe_ix ix_tup (pv 1) pe_int (fun _ _ => rfl)) pe_int rfl))
  (pss_one (ps_if (pt_cmpR op_eq (pe_ix ix_tup (pv 1) pe_int (fun _ _ => rfl)) pe_str (nomark _))
  (pss_one (ps_dput hu (pv 0) (pe_ix ix_tup (pv 1) pe_int (fun _ _ => rfl)) (pe_dget hu (pv 0) (pe_ix ix_tup (pv 1) pe_int (fun _ _ => rfl)) (fun _ _ => rfl)) rfl))
  (pss_one (ps_dput hu (pv 0) (pe_ix ix_tup (pv 1) pe_int (fun _ _ => rfl)) (pe_op op_add (pe_dget hu (pv 0) (pe_ix ix_tup (pv 1) pe_int (fun _ _ => rfl)) (fun _ _ => rfl)) pe_int) rfl)))))), ?_⟩
    cases e with
    | zero x =>
      refine ⟨_, rfl, t, _, _, _, rfl, rfl, SqT.of ht, atI_nat (j := 0) rfl, rfl, _, rfl, ?_⟩
      have q := fin (.int 0) x (hn x (by simp [De.ns])) rfl rfl
      exact ⟨_, rfl, _, rfl, t, _, _, _, rfl, rfl, SqT.of ht, atI_nat (j := 1) rfl, d, _, rfl, DPut.k (k := Sum.inr x) hd q.1, q.2⟩
    | copy x y =>
      refine ⟨_, rfl, t, _, _, _, rfl, rfl, SqT.of ht, atI_nat (j := 0) rfl, rfl, _, rfl, ?_⟩
      refine ⟨_, rfl, t, _, _, _, rfl, rfl, SqT.of ht, atI_nat (j := 0) rfl, rfl, _, rfl, ?_⟩
      have q := fin (.int (u y)) x (hn x (by simp [De.ns])) rfl rfl
      have hy := get y (hn y (by simp [De.ns]))
      refine ⟨_, rfl, _, rfl, t, _, _, _, rfl, rfl, SqT.of ht, atI_nat (j := 2) rfl, d, _, rfl, (by rw [← hy]; exact DGet.k (k := Sum.inr y) hd), ?_⟩
      exact ⟨_, rfl, _, rfl, t, _, _, _, rfl, rfl, SqT.of ht, atI_nat (j := 1) rfl, d, _, rfl, DPut.k (k := Sum.inr x) hd q.1, q.2⟩
    | more x =>
      refine ⟨_, rfl, t, _, _, _, rfl, rfl, SqT.of ht, atI_nat (j := 0) rfl, rfl, _, rfl, ?_⟩
      refine ⟨_, rfl, t, _, _, _, rfl, rfl, SqT.of ht, atI_nat (j := 0) rfl, rfl, _, rfl, ?_⟩
      have q := fin (.int (u x + 1)) x (hn x (by simp [De.ns])) rfl rfl
      have hy := get x (hn x (by simp [De.ns]))
      refine ⟨_, rfl, _, rfl, t, _, _, _, rfl, rfl, SqT.of ht, atI_nat (j := 1) rfl, d, _, rfl, (by rw [← hy]; exact DGet.k (k := Sum.inr x) hd), _, _, rfl, rfl, ?_⟩
      exact ⟨_, rfl, _, rfl, t, _, _, _, rfl, rfl, SqT.of ht, atI_nat (j := 1) rfl, d, _, rfl, DPut.k (k := Sum.inr x) hd q.1, q.2⟩
end
end Y

namespace Y
open PySem PySem.Spec PyProof.Rows L2
theorem yesB {c : Bool} {A B : Prop} (hc : c = true) (h : A) : if c = true then A else B := by
  rw [if_pos hc]
  exact h
theorem noB {c : Bool} {A B : Prop} (hc : c = false) (h : B) : if c = true then A else B := by
  rw [hc]
  exact h
def trs (n : Nat) : List Bool := List.replicate n true
theorem trs_all (n : Nat) : (trs n).all id = true := by
  unfold trs
  rw [List.all_eq_true]
  intro b hb
  rw [List.eq_of_mem_replicate hb]
  rfl
theorem trs_next (n : Nat) : (trs n).map V.bl ++ [V.bl true] = (trs (n + 1)).map V.bl := by
  unfold trs
  rw [List.replicate_succ', List.map_append]
  rfl
theorem trs_len (n : Nat) : ((trs n).map V.bl).length = n := by
  unfold trs
  rw [List.length_map, List.length_replicate]
theorem cps_a : ("a" : Str).cps.toList = [97] := by decide +kernel
theorem cps_z : ("z" : Str).cps.toList = [122] := by decide +kernel
theorem not_lt_one {a b : Nat} (h : b ≤ a) : ¬ ([a] : List Nat) < [b] := by
  intro k
  rw [List.cons_lt_cons_iff] at k
  rcases k with k | ⟨_, k⟩
  · omega
  · exact List.not_lt_nil _ k
theorem nmB_parts {x : Str} (h : nmB x = true) : 1 ≤ x.cps.size ∧ x.cps.size ≤ 8 ∧ ∀ c ∈ x.cps.toList, 97 ≤ c ∧ c ≤ 122 := by
  unfold nmB at h
  simp only [Bool.and_eq_true, decide_eq_true_eq, List.all_eq_true] at h
  exact ⟨h.1.1, h.1.2, h.2⟩
section
variable {P : Program} {w : World} {K : PySem.W.Frag} {mg : Str → Option Value} {base : Heap}
abbrev s_is_integer : Stmt := topS 10
theorem sc_is_integer : FnScope ["thing"] ["thing"] (defScope s_is_integer) := ⟨rfl, rfl, rfl, by decide +kernel, rfl, by decide +kernel, by decide +kernel⟩
theorem ok_is_integer {f : Addr} {fd : FuncData} (F : Fun K "is_integer" "is_integer" s_is_integer f fd) (T : Bi mg) : FnOk P w K mg base CX0 1 f fd ["thing"] spIsInt := by
  refine F.ok sc_is_integer (fun vs H Q E h => ?_) (fun cdv A outer s₀ H vs Q E hr h => ?_)
  · obtain ⟨i, rfl, _⟩ := h
    rfl
  · obtain ⟨i, rfl, kk⟩ := h
    refine ⟨_, (pss_one (ps_ret (pe_and (pe_callB (id := "isinstance") (r := rIsi K) call_isi (by rfl) T.isinstance (by decide +kernel) (pa_cons (pv 0) (pa_cons (pe_bltn (v := .ty "int") (by rfl) T.int_ (by decide +kernel) rfl) pa_nil))) (pe_one (pe_not (pe_callB (id := "isinstance") (r := rIsi K) call_isi (by rfl) T.isinstance (by decide +kernel) (pa_cons (pv 0) (pa_cons (pe_bltn (v := .ty "bool") (by rfl) T.bool_ (by decide +kernel) rfl) pa_nil)))))))), ?_⟩
    refine ⟨_, rfl, _, _, _, _, true, rfl, .ty "int", .base (.int i), kit_ty (by decide +kernel), true, rfl, ?_⟩
    exact ⟨_, rfl, _, _, _, _, false, rfl, .ty "bool", .base (.int i), kit_ty (by decide +kernel), false, rfl, kk⟩
abbrev s_is_number : Stmt := topS 11
theorem sc_is_number : FnScope ["thing"] ["thing"] (defScope s_is_number) := ⟨rfl, rfl, rfl, by decide +kernel, rfl, by decide +kernel, by decide +kernel⟩
def spIsNum : Sp := fun vs H Q _ => ∃ i : Int, vs = [.int i] ∧ 0 ≤ i ∧ Q (.bl true) H
theorem ok_is_number {f : Addr} {fd : FuncData} (F : Fun K "is_number" "is_number" s_is_number f fd) (D_is_integer : Has P w K mg base "is_integer" 1 ["thing"] spIsInt) : FnOk P w K mg base CX0 2 f fd ["thing"] spIsNum := by
  refine F.ok sc_is_number (fun vs H Q E h => ?_) (fun cdv A outer s₀ H vs Q E hr h => ?_)
  · obtain ⟨i, rfl, _⟩ := h
    rfl
  · obtain ⟨i, rfl, i0, kk⟩ := h
    refine ⟨_, (pss_one (ps_ret (pe_and (D_is_integer.call (hr.mono (by decide)) (by rfl) (pa_cons (pv 0) pa_nil)) (pe_one (pe_cmpR op_ge (pv 0) pe_int (nomark _)))))), ?_⟩
    refine ⟨_, rfl, i, rfl, true, rfl, _, rfl, _, _, rfl, rfl, ?_⟩
    show Q (.bl (decide (0 ≤ i))) H
    rw [decide_eq_true i0]
    exact kk
abbrev s_is_name : Stmt := topS 12
theorem sc_is_name : FnScope ["thing", "letter"] ["thing"] (defScope s_is_name) := ⟨rfl, rfl, rfl, by decide +kernel, rfl, by decide +kernel, by decide +kernel⟩
def spIsName : Sp := fun vs H Q _ => ∃ x : Str, vs = [.str x] ∧ nmB x = true ∧ ∀ H', Same H H' → Q (.bl true) H'
theorem ok_is_name {f : Addr} {fd : FuncData} (F : Fun K "is_name" "is_name" s_is_name f fd) (T : Bi mg) {tML : Tok} (c_MOST_LETTERS : mg "MOST_LETTERS" = some (.int 8 tML)) : FnOk P w K mg base CX0 1 f fd ["thing"] spIsName := by
  refine F.ok sc_is_name (fun vs H Q E h => ?_) (fun cdv A outer s₀ H vs Q E hr h => ?_)
  · obtain ⟨i, rfl, _⟩ := h
    rfl
  · obtain ⟨x, rfl, hx, kk⟩ := h
    obtain ⟨x1, x8, xc⟩ := nmB_parts hx
    refine ⟨_, (pss_cons (ps_if ((pw_or (pt_not (pt_val (pe_callB (id := "isinstance") (r := rIsi K) call_isi (by rfl) T.isinstance (by decide +kernel) (pa_cons (pv 0) (pa_cons (pe_bltn (v := .ty "str") (by rfl) T.str_ (by decide +kernel) rfl) pa_nil))))) (pw_or1 (pt_not (pt_chain op_le op_le pe_int (pe_callB call_len_str (by rfl) T.len PySem.boot_len (pa_cons (pv 0) pa_nil)) (pe_glob (v := .int 8) (by rfl) c_MOST_LETTERS ⟨_, rfl⟩)))))).pt
  (pss_one (ps_ret pe_bl))
  pss_nil)
 (pss_one (ps_ret (pe_callB (id := "all") (r := rAll K) (cr_all (by rfl)) (by rfl) T.all (by decide +kernel) (pa_cons (pe_lc (own := [("letter", 1)]) (g := gName 1) (tt := tYes) (by rfl) sc_is_name.nd (pi_str (pv 0)) (blkOk_by (N := ["thing", "letter"]) (sc := defScope s_is_name) (by decide +kernel)) (fun _ _ _ _ _ => pg_name (i := 1) sc_is_name.nd rfl (.inl rfl)) (fun _ _ _ _ _ => pts_nil) (fun _ _ _ _ _ => (pe_chain op_le_str op_le_str pe_str (pv 1) pe_str))) pa_nil))))), ?_⟩
    refine ⟨_, rfl, _, _, _, _, true, rfl, .ty "str", .base (.str x), kit_ty (by decide +kernel), true, rfl, ?_⟩
    refine ⟨_, rfl, _, rfl, Nat.le_of_lt (big1 (show x.cps.size ≤ 1000000 by omega)), _, _, rfl, rfl, _, rfl, ?_⟩
    refine yesB (decide_eq_true (show (1 : Int) ≤ (x.cps.size : Nat) by omega)) ?_
    refine ⟨_, _, rfl, rfl, _, rfl, ?_⟩
    refine noB (by rw [decide_eq_true (show ((x.length : Nat) : Int) ≤ 8 by show ((x.cps.size : Nat) : Int) ≤ 8; omega)]; rfl) ?_
    refine ⟨_, rfl, x, rfl, fun D nD => lc_it (walk_str (z := x)) (fun i H1 => Same H H1 ∧ H1 D = some (.lst ((trs i).map V.bl))) ⟨same_upd nD, upd_same⟩ (fun _ _ _ _ => trivial) (fun i v H1 H1' hi q y => ?_) fun H1 q => ?_⟩
    · obtain ⟨rfl, c, hc, rfl⟩ := y
      obtain ⟨q1, q2⟩ := q
      obtain ⟨c1, c2⟩ := xc c (at_mem (i := i) (by rw [Array.getElem?_toList]; exact hc))
      refine ⟨rfl, _, rfl, _, _, rfl, rfl, _, rfl, ?_⟩
      refine yesB (by rw [decide_eq_false (by rw [cps_a]; exact not_lt_one c1)]; rfl) ?_
      refine ⟨_, _, rfl, rfl, _, q2, by rw [trs_len]; exact big1 (by omega), q1.put nD, ?_⟩
      rw [upd_same, decide_eq_false (by rw [cps_z]; exact not_lt_one c2)]
      show some (HO.lst ((trs i).map V.bl ++ [V.bl true])) = _
      rw [trs_next]
    · obtain ⟨q1, q2⟩ := q
      refine ⟨D, _, rfl, SqL.of q2, ?_⟩
      rw [trs_all]
      exact kk H1 q1
abbrev s_is_name_tuple : Stmt := topS 13
theorem sc_is_name_tuple : FnScope ["thing", "part"] ["thing"] (defScope s_is_name_tuple) := ⟨rfl, rfl, rfl, by decide +kernel, rfl, by decide +kernel, by decide +kernel⟩
def spIsNameTuple (K : PySem.W.Frag) : Sp := fun vs H Q _ => ∃ (a : Addr) (ns : List Str), vs = [.ref a] ∧ H a = some (.tup (ns.map V.str)) ∧ ns.Nodup ∧ (∀ x ∈ ns, nmB x = true) ∧ ns.length ≤ 1000 ∧ ∀ H', Same H H' → Q (.bl true) H'
theorem strs_keys (ns : List Str) : ns.map V.str = (ns.map (Sum.inr : Str → Key)).map kV := by
  rw [List.map_map]
  rfl
theorem ok_is_name_tuple {f : Addr} {fd : FuncData} (F : Fun K "is_name_tuple" "is_name_tuple" s_is_name_tuple f fd) (T : Bi mg) (D_is_name : Has P w K mg base "is_name" 1 ["thing"] spIsName) : FnOk P w K mg base CX0 2 f fd ["thing"] (spIsNameTuple K) := by
  refine F.ok sc_is_name_tuple (fun vs H Q E h => ?_) (fun cdv A outer s₀ H vs Q E hr h => ?_)
  · obtain ⟨a, ns, rfl, _⟩ := h
    rfl
  · obtain ⟨a, ns, rfl, ha, nd, ok, l1, kk⟩ := h
    refine ⟨_, (pss_cons (ps_if ((pw_or (pt_not (pt_val (pe_callB (id := "isinstance") (r := rIsi K) call_isi (by rfl) T.isinstance (by decide +kernel) (pa_cons (pv 0) (pa_cons (pe_bltn (v := .ty "tuple") (by rfl) T.tuple_ (by decide +kernel) rfl) pa_nil))))) (pw_or1 (pt_not (pt_val (pe_callB (id := "all") (r := rAll K) (cr_all (by rfl)) (by rfl) T.all (by decide +kernel) (pa_cons (pe_lc (own := [("part", 1)]) (g := gName 1) (tt := tYes) (by rfl) sc_is_name_tuple.nd (pi_tup (pv 0)) (blkOk_by (N := ["thing", "part"]) (sc := defScope s_is_name_tuple) (by decide +kernel)) (fun _ _ _ _ _ => pg_name (i := 1) sc_is_name_tuple.nd rfl (.inl rfl)) (fun _ _ _ _ _ => pts_nil) (fun _ _ _ _ _ => (D_is_name.call (hr.mono (by decide)) (by rfl) (pa_cons (pv 1) pa_nil)))) pa_nil))))))).pt
  (pss_one (ps_ret pe_bl))
  pss_nil)
 (pss_one (ps_ret (pe_cmpR op_eq (pe_callB call_lenK (by rfl) T.len PySem.boot_len (pa_cons (pe_callTy (cr_setK (by rfl)) (by rfl) T.set_ (by decide +kernel) (pa_cons (pv 0) pa_nil)) pa_nil)) (pe_callB call_len_seq (by rfl) T.len PySem.boot_len (pa_cons (pv 0) pa_nil)) (nomark _))))), ?_⟩
    refine ⟨_, rfl, _, _, _, _, true, rfl, .ty "tuple", .base (.tup ha), kit_ty (by decide +kernel), true, rfl, ?_⟩
    refine ⟨_, rfl, a, rfl, ⟨_, SqT.of ha⟩, fun D nD => lc_tup (K := K) (a := a) (xs := ns.map V.str) (fun i H1 => Same H H1 ∧ H1 D = some (.lst ((trs i).map V.bl))) ⟨same_upd nD, upd_same⟩ (fun i H1 _ q => q.1.tup (SqT.of ha)) (fun i v H1 hv q => ?_) fun H1 q => ?_⟩
    · obtain ⟨x, hx, rfl⟩ := map_at hv
      have hi : i < ns.length := (List.getElem?_eq_some_iff.mp hx).1
      obtain ⟨q1, q2⟩ := q
      refine ⟨rfl, _, rfl, x, rfl, ok x (at_mem hx), fun H2 s2 => ⟨_, s2 _ _ q2, by rw [trs_len]; exact big1 (by omega), (q1.trans s2).put nD, ?_⟩⟩
      rw [upd_same, trs_next]
    · obtain ⟨q1, q2⟩ := q
      refine ⟨D, _, rfl, SqL.of q2, ?_⟩
      rw [trs_all]
      refine ⟨true, rfl, ?_⟩
      have h1 : SqT K H1 a ((ns.map (Sum.inr : Str → Key)).map kV) := by rw [← strs_keys]; exact q1.tup (SqT.of ha)
      have e : uq (ns.map (Sum.inr : Str → Key)) = ns.map Sum.inr := uq_nd (inr_nd nd)
      refine ⟨_, rfl, a, ns.map Sum.inr, rfl, .inr h1, by rw [e, List.length_map]; omega, fun p np => ?_⟩
      rw [e]
      have q3 := q1.put (o := SetK P w p (isIn (ns.map Sum.inr)) (ns.map (Sum.inr : Str → Key)).length) (q1.freeOf np)
      refine ⟨p, _, _, rfl, upd_same, by rw [List.length_map]; omega, _, rfl, a, _, rfl, .inr (q3.tup (SqT.of ha)), rfl, ?_⟩
      have e3 : decide (V.int ((ns.map (Sum.inr : Str → Key)).length : Nat) = V.int ((ns.map V.str).length : Nat)) = true := by rw [List.length_map, List.length_map]; exact decide_eq_true rfl
      rw [e3]
      exact kk _ q3
abbrev s_has : Stmt := topS 21
theorem sc_has : FnScope ["push", "thing"] ["push", "thing"] (defScope s_has) := ⟨rfl, rfl, rfl, by decide +kernel, rfl, by decide +kernel, by decide +kernel⟩
def spHas : Sp := fun vs H Q _ => ∃ (d : Addr) (kvs : List (Key × V)) (x : Str), vs = [.ref d, .str x] ∧ Rd H d (.dK kvs) ∧ (valV kvs (.inr x)).isSome = true ∧ Q (.bl true) H
theorem ok_has {f : Addr} {fd : FuncData} (F : Fun K "_has" "_has" s_has f fd) (T : Bi mg) : FnOk P w K mg base CX0 1 f fd ["push", "thing"] spHas := by
  refine F.ok sc_has (fun vs H Q E h => ?_) (fun cdv A outer s₀ H vs Q E hr h => ?_)
  · obtain ⟨d, kvs, x, rfl, _⟩ := h
    rfl
  · obtain ⟨d, kvs, x, rfl, hd, hx, kk⟩ := h
    have hu := hu_of hr
    refine ⟨_, (pss_one (ps_ret (pe_and (pe_callB (id := "isinstance") (r := rIsi K) call_isi (by rfl) T.isinstance (by decide +kernel) (pa_cons (pv 1) (pa_cons (pe_bltn (v := .ty "str") (by rfl) T.str_ (by decide +kernel) rfl) pa_nil))) (pe_one (pe_cmp (pc_din hu (pv 1) (pv 0))))))), ?_⟩
    refine ⟨_, rfl, _, _, _, _, true, rfl, .ty "str", .base (.str x), kit_ty (by decide +kernel), true, rfl, ?_⟩
    refine ⟨_, rfl, _, rfl, d, _, rfl, .inl ⟨kvs, Sum.inr x, hd, rfl, rfl⟩, ?_⟩
    rw [hx]
    exact kk
abbrev s_is_pair_in : Stmt := topS 20
theorem sc_is_pair_in : FnScope ["push", "thing", "source", "more"] ["push", "thing"] (defScope s_is_pair_in) := ⟨rfl, rfl, rfl, by decide +kernel, rfl, by decide +kernel, by decide +kernel⟩
def spIsPair : Sp := fun vs H Q _ => ∃ (d t : Addr) (kvs : List (Key × V)) (so : Option Str) (m : Int), vs = [.ref d, .ref t] ∧ Rd H d (.dK kvs) ∧ H t = some (.tup [osV so, .int m]) ∧ (∀ y, so = some y → (valV kvs (.inr y)).isSome = true) ∧ 0 ≤ m ∧ Q (.bl true) H
theorem ok_is_pair_in {f : Addr} {fd : FuncData} (F : Fun K "_is_pair_in" "_is_pair_in" s_is_pair_in f fd) (T : Bi mg) (D_has : Has P w K mg base "_has" 1 ["push", "thing"] spHas) (D_is_number : Has P w K mg base "is_number" 2 ["thing"] spIsNum) :
    FnOk P w K mg base CX0 3 f fd ["push", "thing"] spIsPair := by
  refine F.ok sc_is_pair_in (fun vs H Q E h => ?_) (fun cdv A outer s₀ H vs Q E hr h => ?_)
  · obtain ⟨d, t, kvs, so, m, rfl, _⟩ := h
    rfl
  · obtain ⟨d, t, kvs, so, m, rfl, hd, ht, hs, m0, kk⟩ := h
    refine ⟨_, (pss_cons (ps_if ((pw_or (pt_not (pt_val (pe_callB (id := "isinstance") (r := rIsi K) call_isi (by rfl) T.isinstance (by decide +kernel) (pa_cons (pv 1) (pa_cons (pe_bltn (v := .ty "tuple") (by rfl) T.tuple_ (by decide +kernel) rfl) pa_nil))))) (pw_or1 (pt_cmpR op_ne (pe_callB call_len_seq (by rfl) T.len PySem.boot_len (pa_cons (pv 1) pa_nil)) pe_int (nomark _))))).pt
  (pss_one (ps_ret pe_bl))
  pss_nil)
 (pss_cons (ps_asg (pv 1) (pg_tup (by rfl) (pgs_cons (pg_name (i := 2) sc_is_pair_in.nd rfl (.inl rfl)) (pgs_cons (pg_name (i := 3) sc_is_pair_in.nd rfl (.inl rfl)) pgs_nil))))
 (pss_one (ps_ret (pe_and (pe_or (pe_cmp (pc_isN (pv 2))) (pe_one (D_has.call (hr.mono (by decide)) (by rfl) (pa_cons (pv 0) (pa_cons (pv 2) pa_nil))))) (pe_one (D_is_number.call (hr.mono (by decide)) (by rfl) (pa_cons (pv 3) pa_nil)))))))), ?_⟩
    refine ⟨_, rfl, _, _, _, _, true, rfl, .ty "tuple", .base (.tup ht), kit_ty (by decide +kernel), true, rfl, ?_⟩
    refine ⟨_, rfl, t, _, rfl, .inr (SqT.of ht), rfl, _, rfl, ?_⟩
    refine ⟨_, rfl, t, _, rfl, SqT.of ht, rfl, _, _, rfl, _, _, rfl, rfl, ?_⟩
    cases so with
    | none =>
      refine ⟨_, rfl, _, rfl, _, rfl, ?_⟩
      exact ⟨_, rfl, m, rfl, m0, kk⟩
    | some y =>
      refine ⟨_, rfl, _, rfl, _, rfl, _, rfl, d, kvs, y, rfl, hd, hs y rfl, true, rfl, ?_⟩
      exact ⟨_, rfl, m, rfl, m0, kk⟩
end
end Y

namespace Y
open PySem PySem.Spec PyProof.Rows L2
/-- a thing is locked as the object od while all else stays -/
structure Lk (b : Addr) (od : Obj) (u : HO) (H H1 : Hp) : Prop where
  fz : H1 b = some (.frz od u)
  st : ∀ c o, c ≠ b → H c = some o → H1 c = some o
theorem Lk.start {b : Addr} {od : Obj} {u : HO} {H : Hp} : Lk b od u H (upd H b (.frz od u)) := ⟨upd_same, fun c o n e => by rw [upd_ne n]; exact e⟩
theorem Lk.step {b : Addr} {od : Obj} {u : HO} {H H1 H2 : Hp} (L : Lk b od u H H1) (s : Same H1 H2) : Lk b od u H H2 := ⟨s _ _ L.fz, fun c o n e => s _ _ (L.st c o n e)⟩
theorem Lk.put {b D : Addr} {od : Obj} {u o : HO} {H H1 : Hp} (L : Lk b od u H H1) (nb : D ≠ b) (n : H D = none) : Lk b od u H (upd H1 D o) := ⟨by rw [upd_ne nb.symm]; exact L.fz, fun c x k e => by rw [upd_ne (ne_of_none e n)]; exact L.st c x k e⟩
theorem Lk.done {b : Addr} {od : Obj} {u : HO} {H H1 : Hp} (L : Lk b od u H H1) (h : H b = some u) : Same H (upd H1 b u) := fun c o e => by
  by_cases k : c = b
  · subst k
    rw [h] at e
    cases e
    exact upd_same
  · rw [upd_ne k]
    exact L.st c o k e
theorem Lk.tup {b : Addr} {od : Obj} {kvs : List (Key × V)} {H H1 : Hp} (L : Lk b od (.dK kvs) H H1) (h : H b = some (.dK kvs)) : ∀ t xs, H t = some (.tup xs) → H1 t = some (.tup xs) := fun t xs e => L.st t _ (fun z => by rw [z, h] at e; cases e) e
theorem Lk.free {b D : Addr} {od : Obj} {u : HO} {H H1 : Hp} (L : Lk b od u H H1) (n : H1 D = none) : D ≠ b ∧ (D ≠ b → H D = none) := by
  have nb : D ≠ b := fun z => by rw [z, L.fz] at n; cases n
  refine ⟨nb, fun _ => ?_⟩
  cases e : H D with
  | none => rfl
  | some o =>
    rw [L.st D o nb e] at n
    cases n
/-- a dict that is walked: locked now, or already locked while another thing is locked in its stead -/
def Lz (H : Hp) (d : Addr) (kvs : List (Key × V)) : Prop := ∃ z u, H z = some u ∧ Mut (some u) ∧ ∀ od, ∃ o, ∀ H1, Lk z od u H H1 → H1 d = some (.frz o (.dK kvs))
theorem Lz.of {H : Hp} {d : Addr} {kvs : List (Key × V)} (h : H d = some (.dK kvs)) : Lz H d kvs := ⟨d, _, h, trivial, fun od => ⟨od, fun _ L => L.fz⟩⟩
theorem Lz.frz {H : Hp} {d z : Addr} {kvs : List (Key × V)} {o : Obj} {u : HO} (h : H d = some (.frz o (.dK kvs))) (hz : H z = some u) (m : Mut (some u)) : Lz H d kvs :=
  ⟨z, u, hz, m, fun od => ⟨o, fun H1 L => L.st d _ (fun e => by rw [e, hz] at h; cases h; exact m) h⟩⟩
theorem Lz.same {H H' : Hp} {d : Addr} {kvs : List (Key × V)} (L : Lz H d kvs) (s : Same H H') : Lz H' d kvs := by
  obtain ⟨z, u, hz, m, k⟩ := L
  exact ⟨z, u, s _ _ hz, m, fun od => (k od).imp fun o q H1 L1 => q H1 ⟨L1.fz, fun c w n e => L1.st c w n (s _ _ e)⟩⟩
theorem Lk.tupM {b : Addr} {od : Obj} {u : HO} {H H1 : Hp} (L : Lk b od u H H1) (hb : H b = some u) (m : Mut (some u)) : ∀ t xs, H t = some (.tup xs) → H1 t = some (.tup xs) := fun t xs e => L.st t _ (fun z => by rw [z, hb] at e; cases e; exact m) e
theorem rdTy {K : PySem.W.Frag} {H : Hp} {d : Addr} {kvs : List (Key × V)} (h : Rd H d (.dK kvs)) : TyX K H (.ref d) (.type "dict") := by
  rcases h with h | ⟨o, h⟩
  · exact .base (.dK h)
  · exact .fDict h
theorem call_lenR {X : Cx} : CallR X (.builtin "len") (fun xs H Q => ∃ a kvs, xs = [V.ref a] ∧ Rd H a (.dK kvs) ∧ Q (.int kvs.length) H) := by
  intro pins s σ H xs us Q I r h
  obtain ⟨a, kvs, rfl, ha, q⟩ := h
  obtain ⟨v, rfl, rv⟩ := vals1 r
  cases rv
  exact d_len I ha fun t s' I' => ⟨.int kvs.length, H, I', ⟨t, rfl⟩, q⟩
theorem _root_.L2.Same.rdK {H H' : Hp} {d : Addr} {o : HO} (s : Same H H') (h : Rd H d o) : Rd H' d o := by
  rcases h with k | ⟨u, k⟩
  · exact .inl (s _ _ k)
  · exact .inr ⟨u, s _ _ k⟩
theorem nd_take {α : Type} {xs : List α} (nd : xs.Nodup) {i : Nat} {x : α} (h : xs[i]? = some x) : x ∉ xs.take i := by
  intro m
  obtain ⟨j, hj⟩ := List.mem_iff_getElem?.mp m
  obtain ⟨hl, _⟩ := List.getElem?_eq_some_iff.mp hj
  rw [List.length_take] at hl
  have e : xs[j]? = some x := by
    rw [List.getElem?_take] at hj
    split at hj
    · exact hj
    · cases hj
  have := nd_ix nd e h
  omega
section
variable {P : Program} {w : World} {K : PySem.W.Frag} {mg : Str → Option Value} {base : Heap}
abbrev s_is_dict_of : Stmt := topS 14
theorem sc_is_dict_of : FnScope ["names", "thing", "key", "name"] ["names", "thing"] (defScope s_is_dict_of) := ⟨rfl, rfl, rfl, by decide +kernel, rfl, by decide +kernel, by decide +kernel⟩
def spIsDictOf : Sp := fun vs H Q _ => ∃ (a b : Addr) (ks ls : List (Key × V)), vs = [.ref a, .ref b] ∧ H a = some (.dK ks) ∧ H b = some (.dK ls) ∧ a ≠ b ∧ ks.length = ls.length ∧ ls.length ≤ 1000 ∧ (∀ p ∈ ls, ∃ x, p.1 = Sum.inr x) ∧ (∀ p ∈ ks, (valV ls p.1).isSome = true) ∧ ∀ H', Same H H' → Q (.bl true) H'
theorem ok_is_dict_of {f : Addr} {fd : FuncData} (F : Fun K "is_dict_of" "is_dict_of" s_is_dict_of f fd) (T : Bi mg) : FnOk P w K mg base CX0 1 f fd ["names", "thing"] spIsDictOf := by
  refine F.ok sc_is_dict_of (fun vs H Q E h => ?_) (fun cdv A outer s₀ H vs Q E hr h => ?_)
  · obtain ⟨a, b, ks, ls, rfl, _⟩ := h
    rfl
  · obtain ⟨a, b, ks, ls, rfl, ha, hb, nab, hl, l1, hk, hv, kk⟩ := h
    have hu := hu_of hr
    refine ⟨_, (pss_cons (ps_if ((pw_or (pt_not (pt_val (pe_callB (id := "isinstance") (r := rIsi K) call_isi (by rfl) T.isinstance (by decide +kernel) (pa_cons (pv 1) (pa_cons (pe_bltn (v := .ty "dict") (by rfl) T.dict_ (by decide +kernel) rfl) pa_nil))))) (pw_or1 (pt_cmpR op_ne (pe_callB call_lenD (by rfl) T.len PySem.boot_len (pa_cons (pv 1) pa_nil)) (pe_callB call_lenD (by rfl) T.len PySem.boot_len (pa_cons (pv 0) pa_nil)) (nomark _))))).pt
  (pss_one (ps_ret pe_bl))
  pss_nil)
 (pss_one (ps_ret (pe_and (pe_callB (id := "all") (r := rAll K) (cr_all (by rfl)) (by rfl) T.all (by decide +kernel) (pa_cons (pe_lock (pe_lc (own := [("key", 2)]) (g := gName 2) (tt := tYes) (by rfl) sc_is_dict_of.nd (pi_keys (pv 1)) (blkOk_by (N := ["names", "thing", "key", "name"]) (sc := defScope s_is_dict_of) (by decide +kernel)) (fun _ _ _ _ _ => pg_name (i := 2) sc_is_dict_of.nd rfl (.inl rfl)) (fun _ _ _ _ _ => pts_nil) (fun _ _ _ _ _ => (pe_callB (id := "isinstance") (r := rIsi K) call_isi (by rfl) T.isinstance (by decide +kernel) (pa_cons (pv 2) (pa_cons (pe_bltn (v := .ty "str") (by rfl) T.str_ (by decide +kernel) rfl) pa_nil)))))) pa_nil)) (pe_one (pe_callB (id := "all") (r := rAll K) (cr_all (by rfl)) (by rfl) T.all (by decide +kernel) (pa_cons (pe_lock (pe_lc (own := [("name", 3)]) (g := gName 3) (tt := tYes) (by rfl) sc_is_dict_of.nd (pi_keys (pv 0)) (blkOk_by (N := ["names", "thing", "key", "name"]) (sc := defScope s_is_dict_of) (by decide +kernel)) (fun _ _ _ _ _ => pg_name (i := 3) sc_is_dict_of.nd rfl (.inl rfl)) (fun _ _ _ _ _ => pts_nil) (fun _ _ _ _ _ => (pe_cmp (pc_din hu (pv 3) (pv 1)))))) pa_nil))))))), ?_⟩
    refine ⟨_, rfl, _, _, _, _, true, rfl, .ty "dict", .base (.dK hb), kit_ty (by decide +kernel), true, rfl, ?_⟩
    refine ⟨_, rfl, b, ls, rfl, hb, _, rfl, a, ks, rfl, ha, rfl, _, rfl, ?_⟩
    refine noB (by rw [hl, decide_eq_true rfl]; rfl) ?_
    -- the keys are texts
    refine ⟨b, _, hb, trivial, fun od => ⟨_, rfl, b, od, rfl, .inl ⟨ls, upd_same, fun D nD => lc_it (walk_keys (d := b) (o := od) (kvs := ls)) (fun i H1 => Lk b od (.dK ls) H H1 ∧ H1 D = some (.lst ((trs i).map V.bl)))
      ⟨?_, upd_same⟩ (fun i H1 _ q => q.1.fz) (fun i v H1 H1' hi q y => ?_) fun H1 q => ?_⟩⟩⟩
    · have k := Lk.free (Lk.start (u := .dK ls)) nD
      exact Lk.start.put k.1 (k.2 k.1)
    · obtain ⟨rfl, kx, v0, hx, rfl⟩ := y
      obtain ⟨q1, q2⟩ := q
      obtain ⟨x, ex⟩ := hk _ (at_mem hx)
      have ex : kx = Sum.inr x := ex
      subst ex
      have k := Lk.free (Lk.start (u := .dK ls)) nD
      refine ⟨rfl, _, rfl, _, _, _, _, true, rfl, .ty "str", .base (.str x), kit_ty (by decide +kernel), _, q2, by rw [trs_len]; exact big1 (by omega), q1.put k.1 (k.2 k.1), ?_⟩
      rw [upd_same, trs_next]
    obtain ⟨q1, q2⟩ := q
    have k := Lk.free (Lk.start (u := .dK ls)) nD
    have s1 := q1.done hb
    have d1 : (upd H1 b (.dK ls)) D = some (.lst ((trs ls.length).map V.bl)) := by rw [upd_ne k.1]; exact q2
    refine ⟨q1.fz, D, _, rfl, SqL.of d1, true, by rw [trs_all], ?_⟩
    have ha2 := s1 _ _ ha
    have hb2 := s1 _ _ hb
    generalize upd H1 b (.dK ls) = H2 at s1 d1 ha2 hb2
    clear q1 q2
    -- the names are keys
    refine ⟨a, _, ha2, trivial, fun od2 => ⟨_, rfl, a, od2, rfl, .inl ⟨ks, upd_same, fun D2 nD2 => lc_it (walk_keys (d := a) (o := od2) (kvs := ks)) (fun i H3 => Lk a od2 (.dK ks) H2 H3 ∧ H3 D2 = some (.lst ((trs i).map V.bl)))
      ⟨?_, upd_same⟩ (fun i H1 _ q => q.1.fz) (fun i v H3 H3' hi q y => ?_) fun H3 q => ?_⟩⟩⟩
    · have k := Lk.free (Lk.start (u := .dK ks)) nD2
      exact Lk.start.put k.1 (k.2 k.1)
    · obtain ⟨rfl, kx, v0, hx, rfl⟩ := y
      obtain ⟨q1, q2⟩ := q
      have hp := hv _ (at_mem hx)
      have k := Lk.free (Lk.start (u := .dK ks)) nD2
      refine ⟨rfl, _, rfl, _, rfl, b, _, rfl, DGet.k (k := kx) (q1.st b _ nab.symm hb2), _, q2, by rw [trs_len]; exact big1 (by omega), q1.put k.1 (k.2 k.1), ?_⟩
      rw [upd_same, hp, trs_next]
    · obtain ⟨q1, q2⟩ := q
      have k := Lk.free (Lk.start (u := .dK ks)) nD2
      have s2 := q1.done ha2
      refine ⟨q1.fz, D2, _, rfl, SqL.of (by rw [upd_ne k.1]; exact q2), ?_⟩
      rw [trs_all]
      exact kk _ (s1.trans s2)
/-- what the module says of the lengths of deeds -/
structure Dls (K : PySem.W.Frag) (w : World) (mg : Str → Option Value) (d : Addr) (es : Array DictEntry) (n : Nat) : Prop where
  at_ : mg "DEED_LENGTHS" = some (.ref d)
  kd : KDict K w d es n
  z : ∃ t, PySem.W.nsIn K d "zero" = some (some (.int 2 t))
  c : ∃ t, PySem.W.nsIn K d "copy" = some (some (.int 3 t))
  m : ∃ t, PySem.W.nsIn K d "more" = some (some (.int 2 t))
abbrev s_is_deed : Stmt := topS 15
theorem sc_is_deed : FnScope ["thing", "part"] ["thing"] (defScope s_is_deed) := ⟨rfl, rfl, rfl, by decide +kernel, rfl, by decide +kernel, by decide +kernel⟩
def spIsDeed : Sp := fun vs H Q _ => ∃ (t : Addr) (e : De), vs = [.ref t] ∧ H t = some (.tup (deV e)) ∧ (∀ x ∈ e.ns, nmB x = true) ∧ ∀ H', Same H H' → Q (.bl true) H'
theorem ok_is_deed {f : Addr} {fd : FuncData} (F : Fun K "is_deed" "is_deed" s_is_deed f fd) (T : Bi mg) {a_DEED_LENGTHS : Addr} {es : Array DictEntry} {n : Nat} (L : Dls K w mg a_DEED_LENGTHS es n) (D_is_name : Has P w K mg base "is_name" 1 ["thing"] spIsName) :
    FnOk P w K mg base CX0 2 f fd ["thing"] spIsDeed := by
  have c_DEED_LENGTHS := L.at_
  have d_DEED_LENGTHS := L.kd
  refine F.ok sc_is_deed (fun vs H Q E h => ?_) (fun cdv A outer s₀ H vs Q E hr h => ?_)
  · obtain ⟨t, e, rfl, _⟩ := h
    rfl
  · obtain ⟨t, e, rfl, ht, hn, kk⟩ := h
    obtain ⟨t1, n1⟩ := L.z
    obtain ⟨t2, n2⟩ := L.c
    obtain ⟨t3, n3⟩ := L.m
    -- what all deeds share, told the names behind the word
    have tail : ∀ (xs : List Str) (wd : Str) (D : Addr) (H1 : Hp), deV e = .str wd :: xs.map V.str → e.ns = xs → xs.length ≤ 5 → True := fun _ _ _ _ _ _ _ => trivial
    refine ⟨_, (pss_cons (ps_if ((pw_or (pt_not (pt_val (pe_callB (id := "isinstance") (r := rIsi K) call_isi (by rfl) T.isinstance (by decide +kernel) (pa_cons (pv 0) (pa_cons (pe_bltn (v := .ty "tuple") (by rfl) T.tuple_ (by decide +kernel) rfl) pa_nil))))) (pw_or (pt_cmpR op_eq (pe_callB call_len_seq (by rfl) T.len PySem.boot_len (pa_cons (pv 0) pa_nil)) pe_int (nomark _)) (pw_or1 (pt_not (pt_val (pe_callB (id := "isinstance") (r := rIsi K) call_isi (by rfl) T.isinstance (by decide +kernel) (pa_cons (pe_ix ix_tup (pv 0) pe_int (fun _ _ => rfl)) (pa_cons (pe_bltn (v := .ty "str") (by rfl) T.str_ (by decide +kernel) rfl) pa_nil))))))))).pt
  (pss_one (ps_ret pe_bl))
  pss_nil)
 (pss_cons (ps_if (pt_cmpR op_ne (pe_kget1 d_DEED_LENGTHS (pe_glob (v := .ref a_DEED_LENGTHS) (by rfl) c_DEED_LENGTHS rfl) (pe_ix ix_tup (pv 0) pe_int (fun _ _ => rfl)) ⟨rfl, rfl, rfl, rfl⟩) (pe_callB call_len_seq (by rfl) T.len PySem.boot_len (pa_cons (pv 0) pa_nil)) (nomark _))
  (pss_one (ps_ret pe_bl))
  pss_nil)
 (pss_one (ps_ret (pe_callB (id := "all") (r := rAll K) (cr_all (by rfl)) (by rfl) T.all (by decide +kernel) (pa_cons (pe_lc (own := [("part", 1)]) (g := gName 1) (tt := tYes) (by rfl) sc_is_deed.nd (pi_tup (pe_slice sl_tupA (pv 0) (po_some pe_int) po_none)) (blkOk_by (N := ["thing", "part"]) (sc := defScope s_is_deed) (by decide +kernel)) (fun _ _ _ _ _ => pg_name (i := 1) sc_is_deed.nd rfl (.inl rfl)) (fun _ _ _ _ _ => pts_nil) (fun _ _ _ _ _ => (D_is_name.call (hr.mono (by decide)) (by rfl) (pa_cons (pv 1) pa_nil)))) pa_nil)))))), ?_⟩
    have fin : ∀ (xs : List Str) (a : Addr) (H1 : Hp), (∀ x ∈ xs, nmB x = true) → xs.length ≤ 5 → Same H H1 → H1 a = some (.tup (xs.map V.str)) → ∀ D, H1 D = none → ∀ i (H2 : Hp), Same H1 H2 → H2 D = some (.lst ((trs i).map V.bl)) → ∀ v, (xs.map V.str)[i]? = some v → ∃ x, v = .str x ∧ nmB x = true ∧ ∀ H3, Same H2 H3 → H3 D = some (.lst ((trs i).map V.bl)) ∧ ((trs i).map V.bl).length < sizeLine ∧ Same H1 (upd H3 D (.lst ((trs i).map V.bl ++ [V.bl true]))) ∧ (upd H3 D (.lst ((trs i).map V.bl ++ [V.bl true]))) D = some (.lst ((trs (i + 1)).map V.bl)) := by
      intro xs a H1 hx lx s1 ha D nD i H2 s2 hD v hv
      obtain ⟨x, hx2, rfl⟩ := map_at hv
      have hi : i < xs.length := (List.getElem?_eq_some_iff.mp hx2).1
      refine ⟨x, rfl, hx x (at_mem hx2), fun H3 s3 => ⟨s3 _ _ hD, by rw [trs_len]; exact big1 (by omega), (s2.trans s3).put nD, ?_⟩⟩
      rw [upd_same, trs_next]
    cases e with
    | zero x =>
      refine ⟨_, rfl, _, _, _, _, true, rfl, .ty "tuple", .base (.tup ht), kit_ty (by decide +kernel), true, rfl, ?_⟩
      refine ⟨_, rfl, t, _, rfl, .inr (SqT.of ht), rfl, _, rfl, ?_⟩
      refine ⟨_, rfl, t, _, _, _, rfl, rfl, SqT.of ht, atI_nat (j := 0) rfl, _, _, _, _, true, rfl, .ty "str", .base (.str "zero"), kit_ty (by decide +kernel), true, rfl, ?_⟩
      refine ⟨rfl, _, rfl, t, _, _, _, rfl, rfl, SqT.of ht, atI_nat (j := 0) rfl, "zero", _, .int 2, rfl, n1, ⟨_, rfl⟩, _, rfl, t, _, rfl, .inr (SqT.of ht), rfl, _, rfl, ?_⟩
      refine ⟨_, rfl, 1, rfl, t, _, rfl, SqT.of ht, fun z => absurd z.1 (show ¬ HT.sIx 2 0 (some 1) = 0 by decide), fun _ c nc => ⟨c, rfl, ⟨_, SqT.of upd_same⟩, fun D nD => lc_tup (K := K) (a := c) (xs := [x].map V.str) (fun i H2 => Same (upd H c (.tup ([x].map V.str))) H2 ∧ H2 D = some (.lst ((trs i).map V.bl))) ⟨same_upd nD, upd_same⟩ (fun i H1 _ q => q.1.tup (SqT.of upd_same)) (fun i v H2 hv q => ?_) fun H2 q => ?_⟩⟩
      · obtain ⟨y, rfl, hy, g⟩ := fin [x] c _ hn (by simp) (same_upd nc) upd_same D nD i H2 q.1 q.2 v hv
        exact ⟨rfl, _, rfl, y, rfl, hy, fun H3 s3 => ⟨_, g H3 s3⟩⟩
      · refine ⟨D, _, rfl, SqL.of q.2, ?_⟩
        rw [trs_all]
        exact kk H2 ((same_upd nc).trans q.1)
    | copy x y =>
      refine ⟨_, rfl, _, _, _, _, true, rfl, .ty "tuple", .base (.tup ht), kit_ty (by decide +kernel), true, rfl, ?_⟩
      refine ⟨_, rfl, t, _, rfl, .inr (SqT.of ht), rfl, _, rfl, ?_⟩
      refine ⟨_, rfl, t, _, _, _, rfl, rfl, SqT.of ht, atI_nat (j := 0) rfl, _, _, _, _, true, rfl, .ty "str", .base (.str "copy"), kit_ty (by decide +kernel), true, rfl, ?_⟩
      refine ⟨rfl, _, rfl, t, _, _, _, rfl, rfl, SqT.of ht, atI_nat (j := 0) rfl, "copy", _, .int 3, rfl, n2, ⟨_, rfl⟩, _, rfl, t, _, rfl, .inr (SqT.of ht), rfl, _, rfl, ?_⟩
      refine ⟨_, rfl, 1, rfl, t, _, rfl, SqT.of ht, fun z => absurd z.1 (show ¬ HT.sIx 3 0 (some 1) = 0 by decide), fun _ c nc => ⟨c, rfl, ⟨_, SqT.of upd_same⟩, fun D nD => lc_tup (K := K) (a := c) (xs := [x, y].map V.str) (fun i H2 => Same (upd H c (.tup ([x, y].map V.str))) H2 ∧ H2 D = some (.lst ((trs i).map V.bl))) ⟨same_upd nD, upd_same⟩ (fun i H1 _ q => q.1.tup (SqT.of upd_same)) (fun i v H2 hv q => ?_) fun H2 q => ?_⟩⟩
      · obtain ⟨y, rfl, hy, g⟩ := fin [x, y] c _ hn (by simp) (same_upd nc) upd_same D nD i H2 q.1 q.2 v hv
        exact ⟨rfl, _, rfl, y, rfl, hy, fun H3 s3 => ⟨_, g H3 s3⟩⟩
      · refine ⟨D, _, rfl, SqL.of q.2, ?_⟩
        rw [trs_all]
        exact kk H2 ((same_upd nc).trans q.1)
    | more x =>
      refine ⟨_, rfl, _, _, _, _, true, rfl, .ty "tuple", .base (.tup ht), kit_ty (by decide +kernel), true, rfl, ?_⟩
      refine ⟨_, rfl, t, _, rfl, .inr (SqT.of ht), rfl, _, rfl, ?_⟩
      refine ⟨_, rfl, t, _, _, _, rfl, rfl, SqT.of ht, atI_nat (j := 0) rfl, _, _, _, _, true, rfl, .ty "str", .base (.str "more"), kit_ty (by decide +kernel), true, rfl, ?_⟩
      refine ⟨rfl, _, rfl, t, _, _, _, rfl, rfl, SqT.of ht, atI_nat (j := 0) rfl, "more", _, .int 2, rfl, n3, ⟨_, rfl⟩, _, rfl, t, _, rfl, .inr (SqT.of ht), rfl, _, rfl, ?_⟩
      refine ⟨_, rfl, 1, rfl, t, _, rfl, SqT.of ht, fun z => absurd z.1 (show ¬ HT.sIx 2 0 (some 1) = 0 by decide), fun _ c nc => ⟨c, rfl, ⟨_, SqT.of upd_same⟩, fun D nD => lc_tup (K := K) (a := c) (xs := [x].map V.str) (fun i H2 => Same (upd H c (.tup ([x].map V.str))) H2 ∧ H2 D = some (.lst ((trs i).map V.bl))) ⟨same_upd nD, upd_same⟩ (fun i H1 _ q => q.1.tup (SqT.of upd_same)) (fun i v H2 hv q => ?_) fun H2 q => ?_⟩⟩
      · obtain ⟨y, rfl, hy, g⟩ := fin [x] c _ hn (by simp) (same_upd nc) upd_same D nD i H2 q.1 q.2 v hv
        exact ⟨rfl, _, rfl, y, rfl, hy, fun H3 s3 => ⟨_, g H3 s3⟩⟩
      · refine ⟨D, _, rfl, SqL.of q.2, ?_⟩
        rw [trs_all]
        exact kk H2 ((same_upd nc).trans q.1)
end
end Y

namespace Y
open PySem PySem.Spec PyProof.Rows L2
theorem Dic.keep {F : PF} {H H' : Hp} {kvs : List (Key × V)} {ns : List Str} (D : Dic (isPair F) H kvs ns) (h : ∀ t xs, H t = some (.tup xs) → H' t = some (.tup xs)) : Dic (isPair F) H' kvs ns := D.mono fun _ _ _ g => pair_keep h g
section
variable {P : Program} {w : World} {K : PySem.W.Frag} {mg : Str → Option Value} {base : Heap}
abbrev s_first_wrong_deed : Stmt := topS 16
theorem sc_first_wrong_deed : FnScope ["things", "j", "thing"] ["things"] (defScope s_first_wrong_deed) := ⟨rfl, rfl, rfl, by decide +kernel, rfl, by decide +kernel, by decide +kernel⟩
def spFirstWrong (K : PySem.W.Frag) : Sp := fun vs H Q _ => ∃ (a : Addr) (ts : List V) (ds : List De), vs = [.ref a] ∧ SqT K H a ts ∧ DeT H ts ds ∧ (∀ d ∈ ds, ∀ x ∈ d.ns, nmB x = true) ∧ ∀ H', Same H H' → Q .non H'
theorem ok_first_wrong {f : Addr} {fd : FuncData} (F : Fun K "first_wrong_deed" "first_wrong_deed" s_first_wrong_deed f fd) (T : Bi mg) (D_is_deed : Has P w K mg base "is_deed" 2 ["thing"] spIsDeed) : FnOk P w K mg base CX0 3 f fd ["things"] (spFirstWrong K) := by
  refine F.ok sc_first_wrong_deed (fun vs H Q E h => ?_) (fun cdv A outer s₀ H vs Q E hr h => ?_)
  · obtain ⟨a, ts, ds, rfl, _⟩ := h
    rfl
  · obtain ⟨a, ts, ds, rfl, ha, hd, hn, kk⟩ := h
    refine ⟨_, (pss_cons (ps_for PassesOwn.never rfl (pi_enumT (by rfl) T.enumerate (pa_cons (pv 0) pa_nil)) (pg_tup (by rfl) (pgs_cons (pg_name (i := 1) sc_first_wrong_deed.nd rfl (.inl rfl)) (pgs_cons (pg_name (i := 2) sc_first_wrong_deed.nd rfl (.inl rfl)) pgs_nil)))
  (pss_one (ps_if (pt_not (pt_val (D_is_deed.call (hr.mono (by decide)) (by rfl) (pa_cons (pv 2) pa_nil))))
  (pss_one (ps_ret (pv 1)))
  pss_nil)))
 (pss_one (ps_ret pe_non))), ?_⟩
    refine ⟨_, rfl, a, ts, rfl, ha, for_it walk_enumT (fun i σ H1 => ∃ y1 y2, σ = [some (.ref a), y1, y2] ∧ Same H H1) ⟨none, none, rfl, Same.refl H⟩ (fun i σ H1 _ q => by obtain ⟨_, _, _, s⟩ := q; exact s.tup ha) (fun i v σ H1 H1' hi q y => ?_) fun σ H1 q => ?_⟩
    · obtain ⟨y1, y2, rfl, s1⟩ := q
      obtain ⟨t, n, x, rfl, nt, rfl, en, ex⟩ := y
      cases en
      obtain ⟨d, hdx, t2, rfl, ht2⟩ := Paired.get hd ex
      have s2 : Same H (upd H1 t (.tup [V.int (i : Nat), V.ref t2])) := s1.trans (same_upd nt)
      refine ⟨t, _, rfl, SqT.of upd_same, rfl, _, _, rfl, _, _, rfl, rfl, ?_⟩
      refine ⟨_, rfl, t2, d, rfl, s2 _ _ ht2, fun x m => hn d (at_mem hdx) x m, fun H2 s3 => ⟨true, rfl, ?_⟩⟩
      exact ⟨_, _, rfl, s2.trans s3⟩
    · obtain ⟨y1, y2, rfl, s1⟩ := q
      exact kk H1 s1
abbrev s_is_deed_tuple : Stmt := topS 17
theorem sc_is_deed_tuple : FnScope ["thing"] ["thing"] (defScope s_is_deed_tuple) := ⟨rfl, rfl, rfl, by decide +kernel, rfl, by decide +kernel, by decide +kernel⟩
def spIsDeedTuple (K : PySem.W.Frag) : Sp := fun vs H Q _ => ∃ (a : Addr) (ts : List V) (ds : List De), vs = [.ref a] ∧ H a = some (.tup ts) ∧ DeT H ts ds ∧ (∀ d ∈ ds, ∀ x ∈ d.ns, nmB x = true) ∧ ∀ H', Same H H' → Q (.bl true) H'
theorem ok_is_deed_tuple {f : Addr} {fd : FuncData} (F : Fun K "is_deed_tuple" "is_deed_tuple" s_is_deed_tuple f fd) (T : Bi mg) (D_first_wrong_deed : Has P w K mg base "first_wrong_deed" 3 ["things"] (spFirstWrong K)) : FnOk P w K mg base CX0 4 f fd ["thing"] (spIsDeedTuple K) := by
  refine F.ok sc_is_deed_tuple (fun vs H Q E h => ?_) (fun cdv A outer s₀ H vs Q E hr h => ?_)
  · obtain ⟨a, ts, ds, rfl, _⟩ := h
    rfl
  · obtain ⟨a, ts, ds, rfl, ha, hd, hn, kk⟩ := h
    refine ⟨_, (pss_one (ps_ret (pe_and (pe_callB (id := "isinstance") (r := rIsi K) call_isi (by rfl) T.isinstance (by decide +kernel) (pa_cons (pv 0) (pa_cons (pe_bltn (v := .ty "tuple") (by rfl) T.tuple_ (by decide +kernel) rfl) pa_nil))) (pe_one (pe_cmp (pc_isN (D_first_wrong_deed.call (hr.mono (by decide)) (by rfl) (pa_cons (pv 0) pa_nil)))))))), ?_⟩
    refine ⟨_, rfl, _, _, _, _, true, rfl, .ty "tuple", .base (.tup ha), kit_ty (by decide +kernel), true, rfl, ?_⟩
    exact ⟨_, rfl, a, ts, ds, rfl, SqT.of ha, hd, hn, fun H2 s2 => kk H2 s2⟩
abbrev s_is_push : Stmt := topS 19
theorem sc_is_push : FnScope ["thing", "name", "pair"] ["thing"] (defScope s_is_push) := ⟨rfl, rfl, rfl, by decide +kernel, rfl, by decide +kernel, by decide +kernel⟩
def spIsPush : Sp := fun vs H Q _ => ∃ (d : Addr) (kvs : List (Key × V)) (ns : List Str) (F : PF), vs = [.ref d] ∧ Rd H d (.dK kvs) ∧ Lz H d kvs ∧ Dic (isPair F) H kvs ns ∧ ns.Nodup ∧ 0 < ns.length ∧ ns.length ≤ 1000 ∧ (∀ x ∈ ns, nmB x = true) ∧ (∀ x ∈ ns, ∀ y, (F x).1 = some y → y ∈ ns) ∧ (∀ x, 0 ≤ (F x).2) ∧ ∀ H', Same H H' → Q (.bl true) H'
theorem ok_is_push {f : Addr} {fd : FuncData} (F : Fun K "is_push" "is_push" s_is_push f fd) (T : Bi mg) (D_is_name : Has P w K mg base "is_name" 1 ["thing"] spIsName) (D_is_pair_in : Has P w K mg base "_is_pair_in" 3 ["push", "thing"] spIsPair) : FnOk P w K mg base CX0 4 f fd ["thing"] spIsPush := by
  refine F.ok sc_is_push (fun vs H Q E h => ?_) (fun cdv A outer s₀ H vs Q E hr h => ?_)
  · obtain ⟨d, kvs, ns, F0, rfl, _⟩ := h
    rfl
  · obtain ⟨d, kvs, ns, F0, rfl, hd, lz, D, nd, l0, l1, hn, hs, hm, kk⟩ := h
    have hu := hu_of hr
    refine ⟨_, (pss_cons (ps_if ((pw_or (pt_not (pt_val (pe_callB (id := "isinstance") (r := rIsi K) call_isi (by rfl) T.isinstance (by decide +kernel) (pa_cons (pv 0) (pa_cons (pe_bltn (v := .ty "dict") (by rfl) T.dict_ (by decide +kernel) rfl) pa_nil))))) (pw_or1 (pt_cmpR op_eq (pe_callB call_lenR (by rfl) T.len PySem.boot_len (pa_cons (pv 0) pa_nil)) pe_int (nomark _))))).pt
  (pss_one (ps_ret pe_bl))
  pss_nil)
 (pss_cons (ps_if (pt_not (pt_val (pe_callB (id := "all") (r := rAll K) (cr_all (by rfl)) (by rfl) T.all (by decide +kernel) (pa_cons (pe_lock (pe_lc (own := [("name", 1)]) (g := gName 1) (tt := tYes) (by rfl) sc_is_push.nd (pi_keys (pv 0)) (blkOk_by (N := ["thing", "name", "pair"]) (sc := defScope s_is_push) (by decide +kernel)) (fun _ _ _ _ _ => pg_name (i := 1) sc_is_push.nd rfl (.inl rfl)) (fun _ _ _ _ _ => pts_nil) (fun _ _ _ _ _ => (D_is_name.call (hr.mono (by decide)) (by rfl) (pa_cons (pv 1) pa_nil))))) pa_nil))))
  (pss_one (ps_ret pe_bl))
  pss_nil)
 (pss_one (ps_ret (pe_callB (id := "all") (r := rAll K) (cr_all (by rfl)) (by rfl) T.all (by decide +kernel) (pa_cons (pe_lock (pe_lc (own := [("pair", 2)]) (g := gName 2) (tt := tYes) (by rfl) sc_is_push.nd (pi_values (pv 0)) (blkOk_by (N := ["thing", "name", "pair"]) (sc := defScope s_is_push) (by decide +kernel)) (fun _ _ _ _ _ => pg_name (i := 2) sc_is_push.nd rfl (.inl rfl)) (fun _ _ _ _ _ => pts_nil) (fun _ _ _ _ _ => (D_is_pair_in.call (hr.mono (by decide)) (by rfl) (pa_cons (pv 0) (pa_cons (pv 2) pa_nil)))))) pa_nil)))))), ?_⟩
    refine ⟨_, rfl, _, _, _, _, true, rfl, .ty "dict", rdTy hd, kit_ty (by decide +kernel), true, rfl, ?_⟩
    refine ⟨_, rfl, d, kvs, rfl, hd, rfl, _, rfl, ?_⟩
    refine noB (decide_eq_false fun z => ?_) ?_
    · have z := V.int.inj z
      rw [D.len] at z
      omega
    -- the names
    obtain ⟨z, u, hz, mu, wk⟩ := lz
    refine ⟨z, u, hz, mu, fun od => ?_⟩
    obtain ⟨o, wk⟩ := wk od
    refine ⟨_, rfl, d, o, rfl, .inl ⟨kvs, wk _ Lk.start, fun D1 nD => lc_it (walk_keys (d := d) (o := o) (kvs := kvs)) (fun i H1 => Lk z od u H H1 ∧ H1 D1 = some (.lst ((trs i).map V.bl)))
      ⟨?_, upd_same⟩ (fun i H1 _ q => wk _ q.1) (fun i v H1 H1' hi q y => ?_) fun H1 q => ?_⟩⟩
    · have k := Lk.free (Lk.start (u := u)) nD
      exact Lk.start.put k.1 (k.2 k.1)
    · obtain ⟨rfl, kx, v0, hx, rfl⟩ := y
      obtain ⟨q1, q2⟩ := q
      obtain ⟨x, _, xm, rfl, _⟩ := D.at_ nd hx
      have k := Lk.free (Lk.start (u := u)) nD
      refine ⟨rfl, _, rfl, x, rfl, hn x xm, fun H2 s2 => ⟨_, s2 _ _ q2, by rw [trs_len, ]; rw [D.len] at hi; exact big1 (by omega), (q1.step s2).put k.1 (k.2 k.1), ?_⟩⟩
      rw [upd_same, trs_next]
    obtain ⟨q1, q2⟩ := q
    have k := Lk.free (Lk.start (u := u)) nD
    have s1 := q1.done hz
    have d1 : (upd H1 z u) D1 = some (.lst ((trs kvs.length).map V.bl)) := by rw [upd_ne k.1]; exact q2
    refine ⟨q1.fz, D1, _, rfl, SqL.of d1, true, by rw [trs_all], ?_⟩
    have D2 := D.keep s1.tupP
    have hd2 := s1.rdK hd
    have lz2 : Lz (upd H1 z u) d kvs := Lz.same ⟨z, u, hz, mu, fun od' => by
      by_cases e : d = z
      · subst e
        rcases hd with h | ⟨w, h⟩
        · rw [h] at hz; cases hz; exact ⟨od', fun _ L => L.fz⟩
        · rw [h] at hz; cases hz; exact mu.elim
      · rcases hd with h | ⟨w, h⟩
        · have := wk _ (Lk.start (b := z) (od := od) (u := u) (H := H))
          rw [upd_ne e, h] at this
          cases this
        · exact ⟨w, fun _ L => L.st d _ e h⟩⟩ s1
    generalize upd H1 z u = H2 at s1 d1 D2 hd2 lz2
    clear q1 q2 wk hz mu k
    -- the pairs
    obtain ⟨z2, u2, hz2, mu2, wk⟩ := lz2
    refine ⟨z2, u2, hz2, mu2, fun od2 => ?_⟩
    obtain ⟨o2, wk⟩ := wk od2
    refine ⟨_, rfl, d, o2, kvs, rfl, wk _ Lk.start, fun D3 nD3 => lc_it (walk_values (d := d) (o := o2) (kvs := kvs)) (fun i H3 => Lk z2 od2 u2 H2 H3 ∧ H3 D3 = some (.lst ((trs i).map V.bl)))
      ⟨?_, upd_same⟩ (fun i H1 _ q => wk _ q.1) (fun i v H3 H3' hi q y => ?_) fun H3 q => ?_⟩
    · have k := Lk.free (Lk.start (u := u2)) nD3
      exact Lk.start.put k.1 (k.2 k.1)
    · obtain ⟨rfl, kx, hx⟩ := y
      obtain ⟨q1, q2⟩ := q
      obtain ⟨x, _, xm, rfl, _, t, rfl, ht⟩ := D2.at_ nd hx
      have k := Lk.free (Lk.start (u := u2)) nD3
      refine ⟨rfl, _, rfl, _, rfl, d, t, kvs, (F0 x).1, (F0 x).2, rfl, .inr ⟨o2, wk _ q1⟩, q1.tupM hz2 mu2 _ _ ht, fun y ey => ?_, hm x, _, q2, by rw [trs_len]; rw [D.len] at hi; exact big1 (by omega), q1.put k.1 (k.2 k.1), ?_⟩
      · obtain ⟨v, ev, _⟩ := D.val y (hs x xm y ey)
        rw [ev]
        rfl
      · rw [upd_same, trs_next]
    · obtain ⟨q1, q2⟩ := q
      have k := Lk.free (Lk.start (u := u2)) nD3
      have s2 := q1.done hz2
      refine ⟨q1.fz, D3, _, rfl, SqL.of (by rw [upd_ne k.1]; exact q2), ?_⟩
      rw [trs_all]
      exact kk _ (s1.trans s2)
abbrev s_still : Stmt := topS 22
theorem sc_still : FnScope ["names", "name"] ["names"] (defScope s_still) := ⟨rfl, rfl, rfl, by decide +kernel, rfl, by decide +kernel, by decide +kernel⟩
def spStill (K : PySem.W.Frag) : Sp := fun vs H Q _ => ∃ (a : Addr) (ns : List Str), vs = [.ref a] ∧ SqT K H a (ns.map V.str) ∧ ns.Nodup ∧ ns.length ≤ 1000 ∧ ∀ (d : Addr) (kvs : List (Key × V)) H', Same H H' → H d = none → H' d = some (.dK kvs) → Dic (isPair stillF) H' kvs ns → Q (.ref d) H'
theorem ok_still {f : Addr} {fd : FuncData} (F : Fun K "_still" "_still" s_still f fd) (T : Bi mg) : FnOk P w K mg base CX0 1 f fd ["names"] (spStill K) := by
  refine F.ok sc_still (fun vs H Q E h => ?_) (fun cdv A outer s₀ H vs Q E hr h => ?_)
  · obtain ⟨a, ns, rfl, _⟩ := h
    rfl
  · obtain ⟨a, ns, rfl, ha, nd, l1, kk⟩ := h
    refine ⟨_, (pss_one (ps_ret (pe_dc (own := [("name", 1)]) (g := gName 1) (tt := tYes) (by rfl) sc_still.nd (pi_tup (pv 0)) (blkOk_by (N := ["names", "name"]) (sc := defScope s_still) (by decide +kernel)) (fun _ _ _ _ _ => pg_name (i := 1) sc_still.nd rfl (.inl rfl)) (fun _ _ _ _ _ => pts_nil) (fun _ _ _ _ _ => (pv 1)) (fun _ _ _ _ _ => (pe_tup (pa_cons (pv 1) (pa_cons pe_int pa_nil))))))), ?_⟩
    refine ⟨_, rfl, a, rfl, ⟨_, ha⟩, fun d hd => dc_tup (K := K) (a := a) (xs := ns.map V.str) (fun i H1 => Same H H1 ∧ ∃ kvs, H1 d = some (.dK kvs) ∧ Dic (isPair stillF) H1 kvs (ns.take i)) ⟨same_upd hd, [], upd_same, Dic.nil⟩ (fun i H1 _ q => q.1.tup ha) (fun i v H1 hv q => ?_) fun H1 q => ?_⟩
    · obtain ⟨x, hx, rfl⟩ := map_at hv
      obtain ⟨q1, kvs, q2, D⟩ := q
      refine ⟨rfl, _, rfl, _, rfl, (by show 2 ≤ sizeLine; decide), fun t nt => ?_⟩
      have ndt : d ≠ t := ne_of_none q2 nt
      refine ⟨kvs, Sum.inr x, rfl, by rw [upd_ne ndt]; exact q2, by rw [D.len, List.length_take]; exact big1 (by omega), (q1.trans (same_upd nt)).put hd, _, upd_same, ?_⟩
      rw [take_next hx]
      refine D.snoc (nd_take nd hx) ⟨t, rfl, ?_⟩ fun y u _ g => pair_keep (fun c xs e => ?_) g
      · rw [upd_ne ndt.symm, upd_same]; rfl
      · rw [upd_ne (fun z => by rw [z, q2] at e; cases e), upd_ne (ne_of_none e nt)]; exact e
    · obtain ⟨q1, kvs, q2, D⟩ := q
      rw [List.length_map, List.take_length] at D
      exact kk d kvs H1 q1 hd q2 D
abbrev s_pair_behind : Stmt := topS 24
theorem sc_pair_behind : FnScope ["push", "deed", "source", "more"] ["push", "deed"] (defScope s_pair_behind) := ⟨rfl, rfl, rfl, by decide +kernel, rfl, by decide +kernel, by decide +kernel⟩
def spPairBehind : Sp := fun vs H Q _ => ∃ (d t : Addr) (kvs : List (Key × V)) (ns : List Str) (F : PF) (e : De), vs = [.ref d, .ref t] ∧ H d = some (.dK kvs) ∧ Dic (isPair F) H kvs ns ∧ H t = some (.tup (deV e)) ∧ (∀ x ∈ e.ns, x ∈ ns) ∧
  ∀ (v : V) H', Same H H' → (∃ t', v = .ref t' ∧ H' t' = some (.tup [osV (behF F e).1, .int (behF F e).2])) → Q v H'
theorem ok_pair_behind {f : Addr} {fd : FuncData} (F : Fun K "_pair_behind" "_pair_behind" s_pair_behind f fd) (T : Bi mg) : FnOk P w K mg base CX0 1 f fd ["push", "deed"] spPairBehind := by
  refine F.ok sc_pair_behind (fun vs H Q E h => ?_) (fun cdv A outer s₀ H vs Q E hr h => ?_)
  · obtain ⟨d, t, kvs, ns, F0, e, rfl, _⟩ := h
    rfl
  · obtain ⟨d, t, kvs, ns, F0, e, rfl, hd, D, ht, hn, kk⟩ := h
    have hu := hu_of hr
    refine ⟨_, (pss_cons (ps_if (pt_cmpR op_eq (pe_ix ix_tup (pv 1) pe_int (fun _ _ => rfl)) pe_str (nomark _))
  (pss_one (ps_ret (pe_tup (pa_cons pe_non (pa_cons pe_int pa_nil)))))
  pss_nil)
 (pss_cons (ps_if (pt_cmpR op_eq (pe_ix ix_tup (pv 1) pe_int (fun _ _ => rfl)) pe_str (nomark _))
  (pss_one (ps_ret (pe_dget hu (pv 0) (pe_ix ix_tup (pv 1) pe_int (fun _ _ => rfl)) (fun _ _ => rfl))))
  pss_nil)
 (pss_cons (ps_asg (pe_dget hu (pv 0) (pe_ix ix_tup (pv 1) pe_int (fun _ _ => rfl)) (fun _ _ => rfl)) (pg_tup (by rfl) (pgs_cons (pg_name (i := 2) sc_pair_behind.nd rfl (.inl rfl)) (pgs_cons (pg_name (i := 3) sc_pair_behind.nd rfl (.inl rfl)) pgs_nil))))
 (pss_one (ps_ret (pe_tup (pa_cons (pv 2) (pa_cons (pe_op op_add (pv 3) pe_int) pa_nil)))))))), ?_⟩
    cases e with
    | zero x =>
      refine ⟨_, rfl, t, _, _, _, rfl, rfl, SqT.of ht, atI_nat (j := 0) rfl, rfl, _, rfl, ?_⟩
      exact ⟨(by show 2 ≤ sizeLine; decide), fun c nc => kk _ _ (same_upd nc) ⟨c, rfl, upd_same⟩⟩
    | copy x y =>
      refine ⟨_, rfl, t, _, _, _, rfl, rfl, SqT.of ht, atI_nat (j := 0) rfl, rfl, _, rfl, ?_⟩
      refine ⟨_, rfl, t, _, _, _, rfl, rfl, SqT.of ht, atI_nat (j := 0) rfl, rfl, _, rfl, ?_⟩
      obtain ⟨v, ev, g⟩ := D.val y (hn y (by simp [De.ns]))
      refine ⟨_, rfl, _, rfl, t, _, _, _, rfl, rfl, SqT.of ht, atI_nat (j := 2) rfl, d, _, rfl, (by rw [← ev]; exact DGet.k (k := Sum.inr y) hd), ?_⟩
      exact kk v H (Same.refl H) g
    | more x =>
      refine ⟨_, rfl, t, _, _, _, rfl, rfl, SqT.of ht, atI_nat (j := 0) rfl, rfl, _, rfl, ?_⟩
      refine ⟨_, rfl, t, _, _, _, rfl, rfl, SqT.of ht, atI_nat (j := 0) rfl, rfl, _, rfl, ?_⟩
      obtain ⟨v, ev, t2, rfl, ht2⟩ := D.val x (hn x (by simp [De.ns]))
      refine ⟨_, rfl, _, rfl, t, _, _, _, rfl, rfl, SqT.of ht, atI_nat (j := 1) rfl, d, _, rfl, (by rw [← ev]; exact DGet.k (k := Sum.inr x) hd), ?_⟩
      refine ⟨t2, _, rfl, SqT.of ht2, rfl, _, _, rfl, _, _, rfl, rfl, _, rfl, _, rfl, _, _, rfl, rfl, (by show 2 ≤ sizeLine; decide), fun c nc => ?_⟩
      exact kk _ _ (same_upd nc) ⟨c, rfl, upd_same⟩
end
end Y

namespace Y
open PySem PySem.Spec PyProof.Rows L2
theorem Dic.num {u : Str → Int} {H H' : Hp} {kvs : List (Key × V)} {ns : List Str} (D : Dic (isNum u) H kvs ns) : Dic (isNum u) H' kvs ns := D.mono fun _ _ _ g => g
theorem Dic.cong {F F' : PF} {H : Hp} {kvs : List (Key × V)} {ns : List Str} (D : Dic (isPair F) H kvs ns) (h : ∀ x ∈ ns, F x = F' x) : Dic (isPair F') H kvs ns := D.mono fun x v m g => by
  obtain ⟨t, e, k⟩ := g
  rw [h x m] at k
  exact ⟨t, e, k⟩
theorem fold_take {ds : List De} {i : Nat} {d : De} (h : ds[i]? = some d) : pushF (ds.take (i + 1)) = stepF (pushF (ds.take i)) d := by
  unfold pushF
  rw [take_next h, List.foldl_append]
  rfl
theorem nm_strOk {y : Str} (h : nmB y = true) : PyData.strOk y = true := by
  obtain ⟨_, _, hc⟩ := nmB_parts h
  show y.cps.all (fun c => decide (c < 0x110000)) = true
  rw [Array.all_eq_true]
  intro i hi
  have := hc y.cps[i] (by rw [Array.mem_toList_iff]; exact Array.getElem_mem hi)
  exact decide_eq_true (by omega)
/-- two dicts of one kind hold the same -/
theorem dicts_same {F : PF} {K : PySem.W.Frag} {H : Hp} {ks ls : List (Key × V)} {ns : List Str} (D : Dic (isPair F) H ks ns) (D' : Dic (isPair F) H ls ns) (nd : ns.Nodup) (ok : ∀ x ∈ ns, ∀ y, (F x).1 = some y → nmB y = true) :
    ks.length = ls.length ∧ ∀ p ∈ ks, ∃ u d, valV ls p.1 = some u ∧ Dp K H p.2 d ∧ Dp K H u d ∧ SeqAt.shaped d = true := by
  refine ⟨by rw [D.len, D'.len], fun p hp => ?_⟩
  obtain ⟨i, hi⟩ := List.mem_iff_getElem?.mp hp
  obtain ⟨kx, v⟩ := p
  obtain ⟨x, _, xm, rfl, _, t, rfl, ht⟩ := D.at_ nd hi
  obtain ⟨u, eu, t2, rfl, ht2⟩ := D'.val x xm
  have mk : ∀ c, H c = some (.tup [osV (F x).1, .int (F x).2]) → Dp K H (.ref c) (.tuple [(match (F x).1 with | none => .none | some y => .str y), .int (F x).2]) := fun c hc => by
    refine .tup (SqT.of hc) (.cons ?_ (.cons (.int _) .nil))
    cases (F x).1 with
    | none => exact .non
    | some y => exact .str y
  refine ⟨_, _, eu, mk t ht, mk t2 ht2, ?_⟩
  have okx := ok x xm
  revert okx
  cases (F x).1 with
  | none => intro _; rfl
  | some y =>
    intro okx
    show (PyData.strOk y && true && decide _) = true
    rw [nm_strOk (okx y rfl)]
    rfl
theorem nums_same {u : Str → Int} {K : PySem.W.Frag} {H : Hp} {ks ls : List (Key × V)} {ns : List Str} (D : Dic (isNum u) H ks ns) (D' : Dic (isNum u) H ls ns) (nd : ns.Nodup) :
    ks.length = ls.length ∧ ∀ p ∈ ks, ∃ u d, valV ls p.1 = some u ∧ Dp K H p.2 d ∧ Dp K H u d ∧ SeqAt.shaped d = true := by
  refine ⟨by rw [D.len, D'.len], fun p hp => ?_⟩
  obtain ⟨i, hi⟩ := List.mem_iff_getElem?.mp hp
  obtain ⟨kx, v⟩ := p
  obtain ⟨x, _, xm, rfl, _, hg⟩ := D.at_ nd hi
  have hg : v = V.int (u x) := hg
  obtain ⟨w, eu, hg2⟩ := D'.val x xm
  have hg2 : w = V.int (u x) := hg2
  subst hg hg2
  exact ⟨_, _, eu, .int _, .int _, rfl⟩
section
variable {P : Program} {w : World} {K : PySem.W.Frag} {mg : Str → Option Value} {base : Heap}
abbrev s_push_of : Stmt := topS 23
theorem sc_push_of : FnScope ["names", "deeds", "push", "deed", "name"] ["names", "deeds"] (defScope s_push_of) := ⟨rfl, rfl, rfl, by decide +kernel, rfl, by decide +kernel, by decide +kernel⟩
def spPushOf (K : PySem.W.Frag) : Sp := fun vs H Q _ => ∃ (a b : Addr) (ns : List Str) (ts : List V) (ds : List De), vs = [.ref a, .ref b] ∧ H a = some (.tup (ns.map V.str)) ∧ H b = some (.tup ts) ∧ DeT H ts ds ∧ ns.Nodup ∧ (∀ x ∈ ns, nmB x = true) ∧ 0 < ns.length ∧ ns.length ≤ 1000 ∧ (∀ d ∈ ds, ∀ x ∈ d.ns, x ∈ ns) ∧
  ∀ (d : Addr) (kvs : List (Key × V)) H', Same H H' → H d = none → H' d = some (.dK kvs) → Dic (isPair (pushF ds)) H' kvs ns → Q (.ref d) H'
theorem ok_push_of {f : Addr} {fd : FuncData} (F : Fun K "push_of" "push_of" s_push_of f fd) (T : Bi mg) (D_is_name_tuple : Has P w K mg base "is_name_tuple" 2 ["thing"] (spIsNameTuple K)) (D_is_deed_tuple : Has P w K mg base "is_deed_tuple" 4 ["thing"] (spIsDeedTuple K))
    (D_still : Has P w K mg base "_still" 1 ["names"] (spStill K)) (D_pair_behind : Has P w K mg base "_pair_behind" 1 ["push", "deed"] spPairBehind) : FnOk P w K mg base CX0 5 f fd ["names", "deeds"] (spPushOf K) := by
  refine F.ok sc_push_of (fun vs H Q E h => ?_) (fun cdv A outer s₀ H vs Q E hr h => ?_)
  · obtain ⟨a, b, ns, ts, ds, rfl, _⟩ := h
    rfl
  · obtain ⟨a, b, ns, ts, ds, rfl, ha, hb, hd, nd, ok, l0, l1, hn, kk⟩ := h
    have hu := hu_of hr
    refine ⟨_, (pss_cons (ps_if ((pw_or (pt_not (pt_val (D_is_name_tuple.call (hr.mono (by decide)) (by rfl) (pa_cons (pv 0) pa_nil)))) (pw_or1 (pt_cmpR op_eq (pe_callB call_len_seq (by rfl) T.len PySem.boot_len (pa_cons (pv 0) pa_nil)) pe_int (nomark _))))).pt
  (pss_one ps_never)
  pss_nil)
 (pss_cons (ps_if (pt_not (pt_val (D_is_deed_tuple.call (hr.mono (by decide)) (by rfl) (pa_cons (pv 1) pa_nil))))
  (pss_one ps_never)
  pss_nil)
 (pss_cons (ps_set (i := 2) sc_push_of.nd rfl (.inr rfl) (D_still.call (hr.mono (by decide)) (by rfl) (pa_cons (pv 0) pa_nil)))
 (pss_cons (ps_for PassesOwn.never rfl (pi_tup (pv 1)) (pg_name (i := 3) sc_push_of.nd rfl (.inl rfl))
  (pss_cons (ps_if (pt_not (pt_val (pe_callB (id := "all") (r := rAll K) (cr_all (by rfl)) (by rfl) T.all (by decide +kernel) (pa_cons (pe_lc (own := [("name", 4)]) (g := gName 4) (tt := tYes) (by rfl) sc_push_of.nd (pi_tup (pe_slice sl_tupA (pv 3) (po_some pe_int) po_none)) (blkOk_by (N := ["names", "deeds", "push", "deed", "name"]) (sc := defScope s_push_of) (by decide +kernel)) (fun _ _ _ _ _ => pg_name (i := 4) sc_push_of.nd rfl (.inl rfl)) (fun _ _ _ _ _ => pts_nil) (fun _ _ _ _ _ => (pe_cmp (pc_din hu (pv 4) (pv 2))))) pa_nil))))
  (pss_one ps_never)
  pss_nil)
 (pss_one (ps_dput hu (pv 2) (pe_ix ix_tup (pv 3) pe_int (fun _ _ => rfl)) (D_pair_behind.call (hr.mono (by decide)) (by rfl) (pa_cons (pv 2) (pa_cons (pv 3) pa_nil))) rfl))))
 (pss_one (ps_ret (pv 2))))))), ?_⟩
    refine ⟨_, rfl, a, ns, rfl, ha, nd, ok, l1, fun H1 s1 => ⟨true, rfl, ?_⟩⟩
    refine ⟨_, rfl, a, _, rfl, .inr (SqT.of (s1 _ _ ha)), rfl, _, rfl, ?_⟩
    refine noB (decide_eq_false fun z => ?_) ?_
    · have z := V.int.inj z
      rw [List.length_map] at z
      omega
    refine ⟨_, rfl, b, ts, ds, rfl, s1 _ _ hb, hd.keep s1.tupP, fun d m x mx => ok x (hn d m x mx), fun H2 s2 => ⟨true, rfl, ?_⟩⟩
    have s12 := s1.trans s2
    refine ⟨_, rfl, a, ns, rfl, SqT.of (s12 _ _ ha), nd, l1, fun d kv0 H3 s3 nd0 hd3 D3 => ?_⟩
    have s13 := s12.trans s3
    have ndH : H d = none := s12.free nd0
    refine ⟨_, rfl, b, rfl, ⟨_, SqT.of (s13 _ _ hb)⟩, for_tup (K := K) (a := b) (xs := ts) (fun i σ H4 => ∃ y3 y4, σ = [some (.ref a), some (.ref b), some (.ref d), y3, y4] ∧ Same H H4 ∧ ∃ kvs, H4 d = some (.dK kvs) ∧ Dic (isPair (pushF (ds.take i))) H4 kvs ns)
      ⟨none, none, rfl, s13, kv0, hd3, D3⟩ (fun i σ H4 _ q => by obtain ⟨_, _, _, s, _⟩ := q; exact s.tup (SqT.of hb)) (fun i v σ H4 hv q => ?_) fun σ H4 q => ?_⟩
    · obtain ⟨y3, y4, rfl, s4, kvs, hd4, D4⟩ := q
      obtain ⟨e, he, t, rfl, ht⟩ := Paired.get hd hv
      have ht4 := s4 _ _ ht
      have hen := hn e (at_mem he)
      -- all names of the deed are there
      have main : ∀ (xs : List Str) (c : Addr) (H5 : Hp), xs = e.ns → Same H4 H5 → H5 c = some (.tup (xs.map V.str)) → ∀ D5, H5 D5 = none → ∀ i (H6 : Hp), Same H5 H6 → H6 D5 = some (.lst ((trs i).map V.bl)) → ∀ v, (xs.map V.str)[i]? = some v → ∃ x, v = .str x ∧ DGet H6 d (kV (Sum.inr x)) (valV kvs (Sum.inr x)) ∧ (valV kvs (Sum.inr x)).isSome = true := by
        intro xs c H5 ex s5 hc D5 nD5 i H6 s6 hD6 v hv
        obtain ⟨x, hx, rfl⟩ := map_at hv
        obtain ⟨u, eu, _⟩ := D4.val x (hen x (by rw [← ex]; exact at_mem hx))
        exact ⟨x, rfl, DGet.k (k := Sum.inr x) (s6 _ _ (s5 _ _ hd4)), by rw [eu]; rfl⟩
      -- the store behind
      have store : ∀ (H6 : Hp), Same H4 H6 → ∀ (v : V) (H7 : Hp), Same H6 H7 → (∃ t', v = .ref t' ∧ H7 t' = some (.tup [osV (behF (pushF (ds.take i)) e).1, .int (behF (pushF (ds.take i)) e).2])) →
          DPut H7 d (kV (Sum.inr e.fst)) v (upd H7 d (.dK (putK kvs (Sum.inr e.fst) v))) ∧ Same H (upd H7 d (.dK (putK kvs (Sum.inr e.fst) v))) ∧ Dic (isPair (pushF (ds.take (i + 1)))) (upd H7 d (.dK (putK kvs (Sum.inr e.fst) v))) (putK kvs (Sum.inr e.fst) v) ns := by
        intro H6 s6 v H7 s7 g
        have hd7 := s7 _ _ (s6 _ _ hd4)
        have xm : e.fst ∈ ns := hen e.fst (by cases e <;> simp [De.ns, De.fst])
        have tk : ∀ t xs, H7 t = some (.tup xs) → (upd H7 d (.dK (putK kvs (Sum.inr e.fst) v))) t = some (.tup xs) := fun t xs k => by rw [upd_ne (fun z => by rw [z, hd7] at k; cases k)]; exact k
        refine ⟨DPut.k (k := Sum.inr e.fst) hd7 (by rw [D4.len]; exact big1 (by omega)), (s4.trans (s6.trans s7)).put ndH, ?_⟩
        rw [fold_take he]
        refine D4.put xm ?_ fun y u ym ne gg => ?_
        · obtain ⟨t', e1, e2⟩ := g
          refine ⟨t', e1, ?_⟩
          unfold stepF
          rw [upF_same]
          exact tk _ _ e2
        · obtain ⟨t', e1, e2⟩ := gg
          refine ⟨t', e1, ?_⟩
          unfold stepF
          rw [upF_ne ne]
          exact tk _ _ (s7 _ _ (s6 _ _ e2))
      cases e with
      | zero x =>
        refine ⟨_, rfl, 1, rfl, t, _, rfl, SqT.of ht4, fun z => absurd z.1 (show ¬ HT.sIx 2 0 (some 1) = 0 by decide), fun _ c nc => ⟨c, rfl, ⟨_, SqT.of upd_same⟩, fun D5 nD5 => lc_tup (K := K) (a := c) (xs := [x].map V.str) (fun i H6 => Same (upd H4 c (.tup ([x].map V.str))) H6 ∧ H6 D5 = some (.lst ((trs i).map V.bl))) ⟨same_upd nD5, upd_same⟩ (fun i H1 _ q => q.1.tup (SqT.of upd_same)) (fun i v H6 hv q => ?_) fun H6 q => ?_⟩⟩
        · obtain ⟨y, rfl, g1, g2⟩ := main [x] c _ rfl (same_upd nc) upd_same D5 nD5 i H6 q.1 q.2 v hv
          have hi : i < 1 := (List.getElem?_eq_some_iff.mp hv).1
          refine ⟨rfl, _, rfl, _, rfl, d, _, rfl, g1, _, q.2, by rw [trs_len]; exact big1 (by omega), q.1.put nD5, ?_⟩
          rw [upd_same, g2, trs_next]
        · refine ⟨D5, _, rfl, SqL.of q.2, true, by rw [trs_all], ?_⟩
          have s6 := (same_upd nc).trans q.1
          refine ⟨_, rfl, _, rfl, d, t, kvs, ns, pushF (ds.take i), .zero x, rfl, s6 _ _ hd4, D4.keep s6.tupP, s6 _ _ ht4, hen, fun v H7 s7 g => ?_⟩
          obtain ⟨g1, g2, g3⟩ := store H6 s6 v H7 s7 g
          exact ⟨_, rfl, _, rfl, t, _, _, _, rfl, rfl, SqT.of (s7 _ _ (s6 _ _ ht4)), atI_nat (j := 1) rfl, d, _, rfl, g1, _, _, rfl, g2, _, upd_same, g3⟩
      | copy x z =>
        refine ⟨_, rfl, 1, rfl, t, _, rfl, SqT.of ht4, fun z => absurd z.1 (show ¬ HT.sIx 3 0 (some 1) = 0 by decide), fun _ c nc => ⟨c, rfl, ⟨_, SqT.of upd_same⟩, fun D5 nD5 => lc_tup (K := K) (a := c) (xs := [x, z].map V.str) (fun i H6 => Same (upd H4 c (.tup ([x, z].map V.str))) H6 ∧ H6 D5 = some (.lst ((trs i).map V.bl))) ⟨same_upd nD5, upd_same⟩ (fun i H1 _ q => q.1.tup (SqT.of upd_same)) (fun i v H6 hv q => ?_) fun H6 q => ?_⟩⟩
        · obtain ⟨y, rfl, g1, g2⟩ := main [x, z] c _ rfl (same_upd nc) upd_same D5 nD5 i H6 q.1 q.2 v hv
          have hi : i < 2 := (List.getElem?_eq_some_iff.mp hv).1
          refine ⟨rfl, _, rfl, _, rfl, d, _, rfl, g1, _, q.2, by rw [trs_len]; exact big1 (by omega), q.1.put nD5, ?_⟩
          rw [upd_same, g2, trs_next]
        · refine ⟨D5, _, rfl, SqL.of q.2, true, by rw [trs_all], ?_⟩
          have s6 := (same_upd nc).trans q.1
          refine ⟨_, rfl, _, rfl, d, t, kvs, ns, pushF (ds.take i), .copy x z, rfl, s6 _ _ hd4, D4.keep s6.tupP, s6 _ _ ht4, hen, fun v H7 s7 g => ?_⟩
          obtain ⟨g1, g2, g3⟩ := store H6 s6 v H7 s7 g
          exact ⟨_, rfl, _, rfl, t, _, _, _, rfl, rfl, SqT.of (s7 _ _ (s6 _ _ ht4)), atI_nat (j := 1) rfl, d, _, rfl, g1, _, _, rfl, g2, _, upd_same, g3⟩
      | more x =>
        refine ⟨_, rfl, 1, rfl, t, _, rfl, SqT.of ht4, fun z => absurd z.1 (show ¬ HT.sIx 2 0 (some 1) = 0 by decide), fun _ c nc => ⟨c, rfl, ⟨_, SqT.of upd_same⟩, fun D5 nD5 => lc_tup (K := K) (a := c) (xs := [x].map V.str) (fun i H6 => Same (upd H4 c (.tup ([x].map V.str))) H6 ∧ H6 D5 = some (.lst ((trs i).map V.bl))) ⟨same_upd nD5, upd_same⟩ (fun i H1 _ q => q.1.tup (SqT.of upd_same)) (fun i v H6 hv q => ?_) fun H6 q => ?_⟩⟩
        · obtain ⟨y, rfl, g1, g2⟩ := main [x] c _ rfl (same_upd nc) upd_same D5 nD5 i H6 q.1 q.2 v hv
          have hi : i < 1 := (List.getElem?_eq_some_iff.mp hv).1
          refine ⟨rfl, _, rfl, _, rfl, d, _, rfl, g1, _, q.2, by rw [trs_len]; exact big1 (by omega), q.1.put nD5, ?_⟩
          rw [upd_same, g2, trs_next]
        · refine ⟨D5, _, rfl, SqL.of q.2, true, by rw [trs_all], ?_⟩
          have s6 := (same_upd nc).trans q.1
          refine ⟨_, rfl, _, rfl, d, t, kvs, ns, pushF (ds.take i), .more x, rfl, s6 _ _ hd4, D4.keep s6.tupP, s6 _ _ ht4, hen, fun v H7 s7 g => ?_⟩
          obtain ⟨g1, g2, g3⟩ := store H6 s6 v H7 s7 g
          exact ⟨_, rfl, _, rfl, t, _, _, _, rfl, rfl, SqT.of (s7 _ _ (s6 _ _ ht4)), atI_nat (j := 1) rfl, d, _, rfl, g1, _, _, rfl, g2, _, upd_same, g3⟩
    · obtain ⟨y3, y4, rfl, s4, kvs, hd4, D4⟩ := q
      have el : ds.take ts.length = ds := List.take_of_length_le (Nat.le_of_eq (Paired.length hd).symm)
      rw [el] at D4
      exact ⟨_, rfl, kk d kvs H4 s4 ndH hd4 D4⟩
end
end Y

namespace Y
open PySem PySem.Spec PyProof.Rows L2
theorem Lk.begin {b : Addr} {od : Obj} {u : HO} {H H4 : Hp} (s : Same H H4) : Lk b od u H (upd H4 b (.frz od u)) := ⟨upd_same, fun c o n e => by rw [upd_ne n]; exact s c o e⟩
theorem Lk.sameT {b : Addr} {od : Obj} {u : HO} {H H1 : Hp} (L : Lk b od u H H1) {D : Addr} {o : HO} (n : H1 D = none) : Lk b od u H (upd H1 D o) := L.step (same_upd n)
theorem ev_none {F : PF} {u : Str → Int} {x : Str} {m : Int} (h : F x = (none, m)) : evP F u x = m := by
  unfold evP
  rw [h]
  exact Int.zero_add m
theorem ev_some {F : PF} {u : Str → Int} {x y : Str} {m : Int} (h : F x = (some y, m)) : evP F u x = u y + m := by
  unfold evP
  rw [h]
theorem then_none {A B : PF} {x : Str} {m : Int} (h : B x = (none, m)) : thenF A B x = (none, m) := by
  unfold thenF
  rw [h]
theorem then_some {A B : PF} {x y : Str} {m : Int} (h : B x = (some y, m)) : thenF A B x = ((A y).1, (A y).2 + m) := by
  unfold thenF
  rw [h]
section
variable {P : Program} {w : World} {K : PySem.W.Frag} {mg : Str → Option Value} {base : Heap}
abbrev s_pushed : Stmt := topS 25
theorem sc_pushed : FnScope ["push", "numbers", "behind", "name", "source", "more", "number"] ["push", "numbers"] (defScope s_pushed) := ⟨rfl, rfl, rfl, by decide +kernel, rfl, by decide +kernel, by decide +kernel⟩
def spPushed : Sp := fun vs H Q _ => ∃ (d e : Addr) (ks ls : List (Key × V)) (ns : List Str) (F : PF) (u : Str → Int), vs = [.ref d, .ref e] ∧ H d = some (.dK ks) ∧ Dic (isPair F) H ks ns ∧ H e = some (.dK ls) ∧ Dic (isNum u) H ls ns ∧ d ≠ e ∧ ns.Nodup ∧ 0 < ns.length ∧ ns.length ≤ 1000 ∧
  (∀ x ∈ ns, nmB x = true) ∧ (∀ x ∈ ns, ∀ y, (F x).1 = some y → y ∈ ns) ∧ (∀ x, 0 ≤ (F x).2) ∧ (∀ x ∈ ns, 0 ≤ u x) ∧
  ∀ (f : Addr) (kvs : List (Key × V)) H', Same H H' → H f = none → H' f = some (.dK kvs) → Dic (isNum (evP F u)) H' kvs ns → Q (.ref f) H'
theorem dic_of {G G' : Hp → Str → V → Prop} {H H' : Hp} {ks ls : List (Key × V)} {ns : List Str} (D : Dic G H ks ns) (D' : Dic G' H' ls ns) (nd : ns.Nodup) : ks.length = ls.length ∧ (∀ p ∈ ls, ∃ x, p.1 = Sum.inr x) ∧ (∀ p ∈ ks, (valV ls p.1).isSome = true) := by
  refine ⟨by rw [D.len, D'.len], fun p hp => ?_, fun p hp => ?_⟩
  · obtain ⟨i, hi⟩ := List.mem_iff_getElem?.mp hp
    obtain ⟨kx, v⟩ := p
    obtain ⟨x, _, _, e, _⟩ := D'.at_ nd hi
    exact ⟨x, e⟩
  · obtain ⟨i, hi⟩ := List.mem_iff_getElem?.mp hp
    obtain ⟨kx, v⟩ := p
    obtain ⟨x, _, xm, e, _⟩ := D.at_ nd hi
    subst e
    obtain ⟨z, ez, _⟩ := D'.val x xm
    show (valV ls (Sum.inr x)).isSome = true
    rw [ez]
    rfl
theorem ok_pushed {f : Addr} {fd : FuncData} (F : Fun K "pushed" "pushed" s_pushed f fd) (T : Bi mg) (D_is_push : Has P w K mg base "is_push" 4 ["thing"] spIsPush) (D_is_dict_of : Has P w K mg base "is_dict_of" 1 ["names", "thing"] spIsDictOf)
    (D_is_number : Has P w K mg base "is_number" 2 ["thing"] spIsNum) : FnOk P w K mg base CX0 5 f fd ["push", "numbers"] spPushed := by
  refine F.ok sc_pushed (fun vs H Q E h => ?_) (fun cdv A outer s₀ H vs Q E hr h => ?_)
  · obtain ⟨d, e, ks, ls, ns, F0, u, rfl, _⟩ := h
    rfl
  · obtain ⟨d, e, ks, ls, ns, F0, u, rfl, hd, D, he, N, nde, nd, l0, l1, ok, hs, hm, hu0, kk⟩ := h
    have hu := hu_of hr
    refine ⟨_, (pss_cons (ps_if (pt_not (pt_val (D_is_push.call (hr.mono (by decide)) (by rfl) (pa_cons (pv 0) pa_nil))))
  (pss_one ps_never)
  pss_nil)
 (pss_cons (ps_if ((pw_or (pt_not (pt_val (D_is_dict_of.call (hr.mono (by decide)) (by rfl) (pa_cons (pv 0) (pa_cons (pv 1) pa_nil))))) (pw_or1 (pt_not (pt_val (pe_callB (id := "all") (r := rAll K) (cr_all (by rfl)) (by rfl) T.all (by decide +kernel) (pa_cons (pe_lock (pe_lc (own := [("number", 6)]) (g := gName 6) (tt := tYes) (by rfl) sc_pushed.nd (pi_values (pv 1)) (blkOk_by (N := ["push", "numbers", "behind", "name", "source", "more", "number"]) (sc := defScope s_pushed) (by decide +kernel)) (fun _ _ _ _ _ => pg_name (i := 6) sc_pushed.nd rfl (.inl rfl)) (fun _ _ _ _ _ => pts_nil) (fun _ _ _ _ _ => (D_is_number.call (hr.mono (by decide)) (by rfl) (pa_cons (pv 6) pa_nil))))) pa_nil))))))).pt
  (pss_one ps_never)
  pss_nil)
 (pss_cons (ps_set (i := 2) sc_pushed.nd rfl (.inl rfl) pe_dnewK)
 (pss_cons (ps_lock (ps_for PassesOwn.never rfl (pi_items (pv 0)) (pg_tup (by rfl) (pgs_cons (pg_name (i := 3) sc_pushed.nd rfl (.inl rfl)) (pgs_cons (pg_tup (by rfl) (pgs_cons (pg_name (i := 4) sc_pushed.nd rfl (.inl rfl)) (pgs_cons (pg_name (i := 5) sc_pushed.nd rfl (.inl rfl)) pgs_nil))) pgs_nil)))
  (pss_one (ps_dput hu (pv 2) (pv 3) (pe_ifExp (pt_cmp (pc_isN (pv 4))) (pv 5) (pe_op op_add (pe_dget hu (pv 1) (pv 4) (fun _ _ => rfl)) (pv 5))) rfl))))
 (pss_one (ps_ret (pv 2))))))), ?_⟩
    obtain ⟨dl, dk, dv⟩ := dic_of D N nd
    refine ⟨_, rfl, d, ks, ns, F0, rfl, .inl hd, Lz.of hd, D, nd, l0, l1, ok, hs, hm, fun H1 s1 => ⟨true, rfl, ?_⟩⟩
    refine ⟨_, rfl, _, rfl, d, e, ks, ls, rfl, s1 _ _ hd, s1 _ _ he, nde, dl, by rw [N.len]; exact l1, dk, dv, fun H2 s2 => ⟨true, rfl, ?_⟩⟩
    have s12 := s1.trans s2
    have he2 := s12 _ _ he
    -- the numbers are numbers
    refine ⟨e, _, he2, trivial, fun od => ⟨_, rfl, e, od, ls, rfl, upd_same, fun D1 nD => lc_it (walk_values (d := e) (o := od) (kvs := ls)) (fun i H3 => Lk e od (.dK ls) H2 H3 ∧ H3 D1 = some (.lst ((trs i).map V.bl)))
      ⟨?_, upd_same⟩ (fun i H1 _ q => q.1.fz) (fun i v H3 H3' hi q y => ?_) fun H3 q => ?_⟩⟩
    · have k := Lk.free (Lk.start (u := .dK ls)) nD
      exact Lk.start.put k.1 (k.2 k.1)
    · obtain ⟨rfl, kx, hx⟩ := y
      obtain ⟨q1, q2⟩ := q
      obtain ⟨x, _, xm, rfl, _, g⟩ := N.at_ nd hx
      have g : v = V.int (u x) := g
      subst g
      have k := Lk.free (Lk.start (u := .dK ls)) nD
      refine ⟨rfl, _, rfl, u x, rfl, hu0 x xm, _, q2, by rw [trs_len]; rw [N.len] at hi; exact big1 (by omega), q1.put k.1 (k.2 k.1), ?_⟩
      rw [upd_same, trs_next]
    obtain ⟨q1, q2⟩ := q
    have k := Lk.free (Lk.start (u := .dK ls)) nD
    have s23 := q1.done he2
    refine ⟨q1.fz, D1, _, rfl, SqL.of (by rw [upd_ne k.1]; exact q2), true, by rw [trs_all], ?_⟩
    have s3 := s12.trans s23
    generalize upd H3 e (.dK ls) = H4 at s3
    have hd4 := s3 _ _ hd
    have he4 := s3 _ _ he
    have D4 := D.keep s3.tupP
    clear q1 q2 k s23 s12 s1 s2 he2
    -- behind = {}
    intro b nb
    have nb0 : H b = none := s3.free nb
    have ndb : d ≠ b := ne_of_none hd4 nb
    have neb : e ≠ b := ne_of_none he4 nb
    refine ⟨d, .dK ks, (by rw [upd_ne ndb]; exact hd4), trivial, fun od => ⟨_, rfl, d, od, ks, rfl, upd_same, for_it (walk_items (d := d) (o := od) (kvs := ks)) (fun i σ H5 => ∃ y3 y4 y5 y6, σ = [some (.ref d), some (.ref e), some (.ref b), y3, y4, y5, y6] ∧ Lk d od (.dK ks) H4 H5 ∧ ∃ kvs, H5 b = some (.dK kvs) ∧ Dic (isNum (evP F0 u)) H5 kvs (ns.take i))
      ⟨none, none, none, none, rfl, Lk.begin (same_upd nb), [], by rw [upd_ne ndb.symm, upd_same], Dic.nil⟩ (fun i σ H5 _ q => by obtain ⟨_, _, _, _, _, q, _⟩ := q; exact q.fz) (fun i v σ H5 H5' hi q y => ?_) fun σ H5 q => ?_⟩⟩
    · obtain ⟨y3, y4, y5, y6, rfl, L, kvs, hb5, N5⟩ := q
      obtain ⟨T1, x1, x2, rfl, nT, rfl, e1, e2⟩ := y
      obtain ⟨⟨kx, v0⟩, hx⟩ : ∃ p, ks[i]? = some p := ⟨_, List.getElem?_eq_getElem hi⟩
      have e1 : (ks[i]?.map fun kv => kV kv.1) = some x1 := e1
      have e2 : (ks[i]?.map Prod.snd) = some x2 := e2
      rw [hx] at e1 e2
      cases e1
      cases e2
      obtain ⟨x, hxi, xm, rfl, _, t, rfl, ht⟩ := D4.at_ nd hx
      have L2 := L.sameT (o := .tup [kV (Sum.inr x), V.ref t]) nT
      have ht5 := L2.tup hd4 _ _ ht
      have he5 := L2.st e _ nde.symm he4
      have hb5' : (upd H5 T1 (.tup [kV (Sum.inr x), V.ref t])) b = some (.dK kvs) := by rw [upd_ne (ne_of_none hb5 nT)]; exact hb5
      have hT5 : (upd H5 T1 (.tup [kV (Sum.inr x), V.ref t])) T1 = some (.tup [kV (Sum.inr x), V.ref t]) := upd_same
      generalize upd H5 T1 (.tup [kV (Sum.inr x), V.ref t]) = H6 at L2 ht5 he5 hb5' hT5 ⊢
      have size : kvs.length < sizeLine := by rw [N5.len, List.length_take]; exact big1 (by omega)
      have next : ∀ m : Int, m = evP F0 u x → Dic (isNum (evP F0 u)) (upd H6 b (.dK (putK kvs (Sum.inr x) (.int m)))) (putK kvs (Sum.inr x) (.int m)) (ns.take (i + 1)) := fun m em => by
        rw [take_next hxi]
        exact N5.snoc (nd_take nd hxi) (by rw [em]; rfl) fun y v _ g => g
      have sx := hs x xm
      generalize hF : F0 x = fx at ht5 sx
      obtain ⟨so, m⟩ := fx
      refine ⟨T1, _, rfl, SqT.of hT5, rfl, _, _, rfl, _, _, rfl, t, _, rfl, SqT.of ht5, rfl, _, _, rfl, _, _, rfl, rfl, rfl, ?_⟩
      cases so with
      | none =>
        refine ⟨_, rfl, _, rfl, _, rfl, _, rfl, _, rfl, b, _, rfl, DPut.k (k := Sum.inr x) hb5' size, ?_⟩
        exact ⟨_, _, _, _, rfl, L2.put ndb.symm nb, _, upd_same, next m (ev_none hF).symm⟩
      | some y =>
        obtain ⟨w, ew, hw⟩ := N.val y (sx y rfl)
        have hw : w = V.int (u y) := hw
        subst hw
        refine ⟨_, rfl, _, rfl, _, rfl, _, rfl, e, _, rfl, (by rw [← ew]; exact DGet.k (k := Sum.inr y) he5), _, rfl, _, _, rfl, rfl, _, rfl, _, rfl, b, _, rfl, DPut.k (k := Sum.inr x) hb5' size, ?_⟩
        exact ⟨_, _, _, _, rfl, L2.put ndb.symm nb, _, upd_same, next (u y + m) (ev_some hF).symm⟩
    · obtain ⟨y3, y4, y5, y6, rfl, L, kvs, hb5, N5⟩ := q
      rw [D.len, List.take_length] at N5
      have s5 := L.done hd4
      refine ⟨L.fz, _, rfl, kk b kvs _ (s3.trans s5) nb0 (by rw [upd_ne ndb.symm]; exact hb5) N5.num⟩
abbrev s_then : Stmt := topS 27
theorem sc_then : FnScope ["push", "other", "behind", "name", "source", "more", "first", "less"] ["push", "other"] (defScope s_then) := ⟨rfl, rfl, rfl, by decide +kernel, rfl, by decide +kernel, by decide +kernel⟩
theorem Lk.rd {z d : Addr} {od : Obj} {u : HO} {H H1 : Hp} {ks : List (Key × V)} (L : Lk z od u H H1) (hz : H z = some u) (m : Mut (some u)) (h : Rd H d (.dK ks)) : Rd H1 d (.dK ks) := by
  by_cases e : d = z
  · subst e
    rcases h with h | ⟨w, h⟩
    · rw [h] at hz
      cases hz
      exact .inr ⟨od, L.fz⟩
    · rw [h] at hz
      cases hz
      exact m.elim
  · rcases h with h | ⟨w, h⟩
    · exact .inl (L.st _ _ e h)
    · exact .inr ⟨w, L.st _ _ e h⟩
def spThen : Sp := fun vs H Q _ => ∃ (d e : Addr) (ks ls : List (Key × V)) (ns es : List Str) (A B : PF), vs = [.ref d, .ref e] ∧ Rd H d (.dK ks) ∧ Dic (isPair A) H ks ns ∧ Lz H e ls ∧ Dic (isPair B) H ls es ∧ es.Nodup ∧ es.length ≤ 1000 ∧ (∀ x ∈ es, ∀ y, (B x).1 = some y → y ∈ ns) ∧
  ∀ (f : Addr) (kvs : List (Key × V)) H', Same H H' → H f = none → H' f = some (.dK kvs) → Dic (isPair (thenF A B)) H' kvs es → Q (.ref f) H'
theorem ok_then {f : Addr} {fd : FuncData} (F : Fun K "_then" "_then" s_then f fd) (T : Bi mg) : FnOk P w K mg base CX0 1 f fd ["push", "other"] spThen := by
  refine F.ok sc_then (fun vs H Q E h => ?_) (fun cdv A outer s₀ H vs Q E hr h => ?_)
  · obtain ⟨d, e, ks, ls, ns, es, A0, B0, rfl, _⟩ := h
    rfl
  · obtain ⟨d, e, ks, ls, ns, es, A0, B0, rfl, hd, DA, ⟨z, u, hz, mu, wk⟩, DB, nd, l1, hs, kk⟩ := h
    have hu := hu_of hr
    refine ⟨_, (pss_cons (ps_set (i := 2) sc_then.nd rfl (.inl rfl) pe_dnewK)
 (pss_cons (ps_lock (ps_for PassesOwn.never rfl (pi_items (pv 1)) (pg_tup (by rfl) (pgs_cons (pg_name (i := 3) sc_then.nd rfl (.inl rfl)) (pgs_cons (pg_tup (by rfl) (pgs_cons (pg_name (i := 4) sc_then.nd rfl (.inl rfl)) (pgs_cons (pg_name (i := 5) sc_then.nd rfl (.inl rfl)) pgs_nil))) pgs_nil)))
  (pss_one (ps_if (pt_cmp (pc_isN (pv 4)))
  (pss_one (ps_dput hu (pv 2) (pv 3) (pe_tup (pa_cons pe_non (pa_cons (pv 5) pa_nil))) rfl))
  (pss_cons (ps_asg (pe_dget hu (pv 0) (pv 4) (fun _ _ => rfl)) (pg_tup (by rfl) (pgs_cons (pg_name (i := 6) sc_then.nd rfl (.inl rfl)) (pgs_cons (pg_name (i := 7) sc_then.nd rfl (.inl rfl)) pgs_nil))))
 (pss_one (ps_dput hu (pv 2) (pv 3) (pe_tup (pa_cons (pv 6) (pa_cons (pe_op op_add (pv 7) (pv 5)) pa_nil))) rfl)))))))
 (pss_one (ps_ret (pv 2))))), ?_⟩
    intro b nb
    have nzb : z ≠ b := ne_of_none hz nb
    refine ⟨z, u, (by rw [upd_ne nzb]; exact hz), mu, fun od => ?_⟩
    obtain ⟨o, wk⟩ := wk od
    refine ⟨_, rfl, e, o, ls, rfl, wk _ (Lk.begin (same_upd nb)), for_it (walk_items (d := e) (o := o) (kvs := ls)) (fun i σ H5 => ∃ y3 y4 y5 y6 y7, σ = [some (.ref d), some (.ref e), some (.ref b), y3, y4, y5, y6, y7] ∧ Lk z od u H H5 ∧ ∃ kvs, H5 b = some (.dK kvs) ∧ Dic (isPair (thenF A0 B0)) H5 kvs (es.take i))
      ⟨none, none, none, none, none, rfl, Lk.begin (same_upd nb), [], by rw [upd_ne nzb.symm, upd_same], Dic.nil⟩ (fun i σ H5 _ q => by obtain ⟨_, _, _, _, _, _, q, _⟩ := q; exact wk _ q) (fun i v σ H5 H5' hi q y => ?_) fun σ H5 q => ?_⟩
    · obtain ⟨y3, y4, y5, y6, y7, rfl, L, kvs, hb5, N5⟩ := q
      obtain ⟨T1, x1, x2, rfl, nT, rfl, e1, e2⟩ := y
      obtain ⟨⟨kx, v0⟩, hx⟩ : ∃ p, ls[i]? = some p := ⟨_, List.getElem?_eq_getElem hi⟩
      have e1 : (ls[i]?.map fun kv => kV kv.1) = some x1 := e1
      have e2 : (ls[i]?.map Prod.snd) = some x2 := e2
      rw [hx] at e1 e2
      cases e1
      cases e2
      obtain ⟨x, hxi, xm, rfl, _, t, rfl, ht⟩ := DB.at_ nd hx
      have L2 := L.sameT (o := .tup [kV (Sum.inr x), V.ref t]) nT
      have ht5 := L2.tupM hz mu _ _ ht
      have hd5 := L2.rd hz mu hd
      have hb5' : (upd H5 T1 (.tup [kV (Sum.inr x), V.ref t])) b = some (.dK kvs) := by rw [upd_ne (ne_of_none hb5 nT)]; exact hb5
      have hT5 : (upd H5 T1 (.tup [kV (Sum.inr x), V.ref t])) T1 = some (.tup [kV (Sum.inr x), V.ref t]) := upd_same
      have N6 := N5.keep (same_upd (o := .tup [kV (Sum.inr x), V.ref t]) nT).tupP
      generalize upd H5 T1 (.tup [kV (Sum.inr x), V.ref t]) = H6 at L2 ht5 hd5 hb5' hT5 N6 ⊢
      have size : kvs.length < sizeLine := by rw [N5.len, List.length_take]; exact big1 (by omega)
      have next : ∀ (so : Option Str) (m : Int) (c : Addr), H6 c = none → (so, m) = thenF A0 B0 x → (upd H6 c (.tup [osV so, .int m])) b = some (.dK kvs) ∧ Lk z od u H (upd (upd H6 c (.tup [osV so, .int m])) b (.dK (putK kvs (Sum.inr x) (.ref c)))) ∧
          Dic (isPair (thenF A0 B0)) (upd (upd H6 c (.tup [osV so, .int m])) b (.dK (putK kvs (Sum.inr x) (.ref c)))) (putK kvs (Sum.inr x) (.ref c)) (es.take (i + 1)) := fun so m c nc em => by
        have nbc : b ≠ c := ne_of_none hb5' nc
        refine ⟨by rw [upd_ne nbc]; exact hb5', (L2.sameT nc).put nzb.symm nb, ?_⟩
        rw [take_next hxi]
        refine N6.snoc (nd_take nd hxi) ⟨c, rfl, ?_⟩ fun y v _ g => pair_keep (fun t' xs k => ?_) g
        · rw [upd_ne nbc.symm, upd_same, ← em]
        · rw [upd_ne (fun z => by rw [z, hb5'] at k; cases k), upd_ne (ne_of_none k nc)]; exact k
      have sx := hs x xm
      generalize hF : B0 x = fx at ht5 sx
      obtain ⟨so, m⟩ := fx
      refine ⟨T1, _, rfl, SqT.of hT5, rfl, _, _, rfl, _, _, rfl, t, _, rfl, SqT.of ht5, rfl, _, _, rfl, _, _, rfl, rfl, rfl, ?_⟩
      cases so with
      | none =>
        refine ⟨_, rfl, _, rfl, _, rfl, (by show 2 ≤ sizeLine; decide), fun c nc => ?_⟩
        obtain ⟨n1, n2, n3⟩ := next none m c nc (then_none hF).symm
        refine ⟨_, rfl, _, rfl, b, _, rfl, DPut.k (k := Sum.inr x) n1 size, ?_⟩
        exact ⟨_, _, _, _, _, rfl, n2, _, upd_same, n3⟩
      | some y =>
        obtain ⟨w, ew, t3, rfl, ht3⟩ := DA.val y (sx y rfl)
        have ht6 := L2.tupM hz mu _ _ ht3
        refine ⟨_, rfl, _, rfl, _, rfl, _, rfl, d, _, rfl, .inl ⟨ks, Sum.inr y, hd5, rfl, ew.symm⟩, ?_⟩
        refine ⟨t3, _, rfl, SqT.of ht6, rfl, _, _, rfl, _, _, rfl, rfl, ?_⟩
        refine ⟨_, rfl, _, rfl, _, rfl, _, _, rfl, rfl, (by show 2 ≤ sizeLine; decide), fun c nc => ?_⟩
        obtain ⟨n1, n2, n3⟩ := next (A0 y).1 ((A0 y).2 + m) c nc (then_some hF).symm
        refine ⟨_, rfl, _, rfl, b, _, rfl, DPut.k (k := Sum.inr x) n1 size, ?_⟩
        exact ⟨_, _, _, _, _, rfl, n2, _, upd_same, n3⟩
    · obtain ⟨y3, y4, y5, y6, y7, rfl, L, kvs, hb5, N5⟩ := q
      rw [DB.len, List.take_length] at N5
      have s5 := L.done hz
      have hb6 : (upd H5 z u) b = some (.dK kvs) := by rw [upd_ne nzb.symm]; exact hb5
      refine ⟨L.fz, _, rfl, kk b kvs _ s5 nb hb6 (N5.keep fun t xs k => ?_)⟩
      rw [upd_ne (fun z => by rw [z, L.fz] at k; cases k)]
      exact k
abbrev s_one_more : Stmt := topS 26
theorem sc_one_more : FnScope ["push", "other"] ["push", "other"] (defScope s_one_more) := ⟨rfl, rfl, rfl, by decide +kernel, rfl, by decide +kernel, by decide +kernel⟩
def spOneMore : Sp := fun vs H Q _ => ∃ (d e : Addr) (ks ls : List (Key × V)) (ns es : List Str) (A B : PF), vs = [.ref d, .ref e] ∧ H d = some (.dK ks) ∧ Dic (isPair A) H ks ns ∧ H e = some (.dK ls) ∧ Dic (isPair B) H ls es ∧ d ≠ e ∧ ns.Nodup ∧ es.Perm ns ∧ 0 < ns.length ∧ ns.length ≤ 1000 ∧ (∀ x ∈ ns, nmB x = true) ∧
  (∀ x ∈ ns, ∀ y, (A x).1 = some y → y ∈ ns) ∧ (∀ x, 0 ≤ (A x).2) ∧ (∀ x ∈ es, ∀ y, (B x).1 = some y → y ∈ es) ∧ (∀ x, 0 ≤ (B x).2) ∧
  ∀ (f : Addr) (kvs : List (Key × V)) H', Same H H' → H f = none → H' f = some (.dK kvs) → Dic (isPair (thenF A B)) H' kvs es → Q (.ref f) H'
theorem dic_ofP {G G' : Hp → Str → V → Prop} {H H' : Hp} {ks ls : List (Key × V)} {ns es : List Str} (D : Dic G H ks ns) (D' : Dic G' H' ls es) (nd : ns.Nodup) (pm : es.Perm ns) : ks.length = ls.length ∧ (∀ p ∈ ls, ∃ x, p.1 = Sum.inr x) ∧ (∀ p ∈ ks, (valV ls p.1).isSome = true) := by
  refine ⟨by rw [D.len, D'.len, pm.length_eq], fun p hp => ?_, fun p hp => ?_⟩
  · obtain ⟨i, hi⟩ := List.mem_iff_getElem?.mp hp
    obtain ⟨kx, v⟩ := p
    obtain ⟨x, _, _, e, _⟩ := D'.at_ (pm.nodup_iff.mpr nd) hi
    exact ⟨x, e⟩
  · obtain ⟨i, hi⟩ := List.mem_iff_getElem?.mp hp
    obtain ⟨kx, v⟩ := p
    obtain ⟨x, _, xm, e, _⟩ := D.at_ nd hi
    subst e
    obtain ⟨z, ez, _⟩ := D'.val x (pm.mem_iff.mpr xm)
    show (valV ls (Sum.inr x)).isSome = true
    rw [ez]
    rfl
theorem ok_one_more {f : Addr} {fd : FuncData} (F : Fun K "one_more" "one_more" s_one_more f fd) (T : Bi mg) (D_is_push : Has P w K mg base "is_push" 4 ["thing"] spIsPush) (D_is_dict_of : Has P w K mg base "is_dict_of" 1 ["names", "thing"] spIsDictOf)
    (D_then : Has P w K mg base "_then" 1 ["push", "other"] spThen) : FnOk P w K mg base CX0 5 f fd ["push", "other"] spOneMore := by
  refine F.ok sc_one_more (fun vs H Q E h => ?_) (fun cdv A outer s₀ H vs Q E hr h => ?_)
  · obtain ⟨d, e, ks, ls, ns, es, A0, B0, rfl, _⟩ := h
    rfl
  · obtain ⟨d, e, ks, ls, ns, es, A0, B0, rfl, hd, DA, he, DB, nde, nd, pm, l0, l1, ok, hsA, hmA, hsB, hmB, kk⟩ := h
    refine ⟨_, (pss_cons (ps_if ((pw_or (pt_not (pt_val (D_is_push.call (hr.mono (by decide)) (by rfl) (pa_cons (pv 0) pa_nil)))) (pw_or1 (pt_not (pt_val (D_is_push.call (hr.mono (by decide)) (by rfl) (pa_cons (pv 1) pa_nil))))))).pt
  (pss_one ps_never)
  pss_nil)
 (pss_cons (ps_if (pt_not (pt_val (D_is_dict_of.call (hr.mono (by decide)) (by rfl) (pa_cons (pv 0) (pa_cons (pv 1) pa_nil)))))
  (pss_one ps_never)
  pss_nil)
 (pss_one (ps_ret (D_then.call (hr.mono (by decide)) (by rfl) (pa_cons (pv 0) (pa_cons (pv 1) pa_nil))))))), ?_⟩
    obtain ⟨dl, dk, dv⟩ := dic_ofP DA DB nd pm
    have nde2 : es.Nodup := pm.nodup_iff.mpr nd
    have le := pm.length_eq
    refine ⟨_, rfl, d, ks, ns, A0, rfl, .inl hd, Lz.of hd, DA, nd, l0, l1, ok, hsA, hmA, fun H1 s1 => ⟨true, rfl, ?_⟩⟩
    refine ⟨_, rfl, e, ls, es, B0, rfl, .inl (s1 _ _ he), Lz.of (s1 _ _ he), DB.keep s1.tupP, nde2, by omega, by omega, fun x m => ok x (pm.mem_iff.mp m), hsB, hmB, fun H2 s2 => ⟨true, rfl, ?_⟩⟩
    have s12 := s1.trans s2
    refine ⟨_, rfl, _, rfl, d, e, ks, ls, rfl, s12 _ _ hd, s12 _ _ he, nde, dl, by rw [DB.len]; omega, dk, dv, fun H3 s3 => ⟨true, rfl, ?_⟩⟩
    have s13 := s12.trans s3
    exact ⟨_, rfl, _, rfl, d, e, ks, ls, ns, es, A0, B0, rfl, .inl (s13 _ _ hd), DA.keep s13.tupP, Lz.of (s13 _ _ he), DB.keep s13.tupP, nde2, by omega, fun x m y e => pm.mem_iff.mp (hsB x m y e), fun f kvs H4 s4 nf hf Df => kk f kvs H4 (s13.trans s4) (s13.free nf) hf Df⟩
/-- as the laws of pushes in one order ask it -/
def spOneMore0 : Sp := fun vs H Q _ => ∃ (d e : Addr) (ks ls : List (Key × V)) (ns : List Str) (A B : PF), vs = [.ref d, .ref e] ∧ H d = some (.dK ks) ∧ Dic (isPair A) H ks ns ∧ H e = some (.dK ls) ∧ Dic (isPair B) H ls ns ∧ d ≠ e ∧ ns.Nodup ∧ 0 < ns.length ∧ ns.length ≤ 1000 ∧ (∀ x ∈ ns, nmB x = true) ∧
  (∀ x ∈ ns, ∀ y, (A x).1 = some y → y ∈ ns) ∧ (∀ x, 0 ≤ (A x).2) ∧ (∀ x ∈ ns, ∀ y, (B x).1 = some y → y ∈ ns) ∧ (∀ x, 0 ≤ (B x).2) ∧
  ∀ (f : Addr) (kvs : List (Key × V)) H', Same H H' → H f = none → H' f = some (.dK kvs) → Dic (isPair (thenF A B)) H' kvs ns → Q (.ref f) H'
theorem one_more0 (vs : List V) (H : Hp) (Q : VK) (E : XK) (h : spOneMore0 vs H Q E) : spOneMore vs H Q E := by
  obtain ⟨d, e, ks, ls, ns, A, B, a1, a2, a3, a4, a5, a6, a7, a8, a9, a10, a11, a12, a13, a14, kk⟩ := h
  exact ⟨d, e, ks, ls, ns, ns, A, B, a1, a2, a3, a4, a5, a6, a7, List.Perm.refl _, a8, a9, a10, a11, a12, a13, a14, kk⟩
end
end Y

namespace Y
open PySem PySem.Spec PyProof.Rows L2
theorem DeT.but {p g s : Addr} {H H' : Hp} {ts : List V} {ds : List De} (D : DeT H ts ds) (b : But p g H H') (Z : PotAt H p g s) : DeT H' ts ds := D.keep (b.tupP Z)
section
variable {P : Program} {w : World} {K : PySem.W.Frag} {mg : Str → Option Value} {base : Heap}
abbrev s_l_wheel : Stmt := topS 34
theorem sc_l_wheel : FnScope ["_law_pot_here", "_law_names", "_law_line", "_law_inside", "_law_at"] ["_law_pot_here", "_law_names"] (defScope s_l_wheel) := ⟨rfl, rfl, rfl, by decide +kernel, rfl, by decide +kernel, by decide +kernel⟩
def spWheel (K : PySem.W.Frag) : Sp := fun vs H Q _ => ∃ (p g s a : Addr) (ns : List Str), vs = [.ref p, .ref a] ∧ PotAt H p g s ∧ SqT K H a (ns.map V.str) ∧ 4 ≤ ns.length ∧ ns.length ≤ 1000 ∧
  ∀ (t : Addr) (ts : List V) (ds : List De) H', DeT H' ts ds → (∀ d ∈ ds, ∀ x ∈ d.ns, x ∈ ns) → ds.length ≤ 6 → H t = none → H' t = some (.tup ts) → PotAt H' p g s → But p g H H' → Q (.ref t) H'
theorem at_neg {xs : List V} {j : Nat} {v : V} (hj : 1 ≤ j) (hl : j ≤ xs.length) (h : xs[xs.length - j]? = some v) : atI xs (-(j : Int)) = some v := by
  unfold atI
  have e : ixN xs.length (-(j : Int)) = some (xs.length - j) := by
    unfold ixN
    rw [if_neg (by omega), if_pos (by omega)]
    congr 1
    omega
  rw [e]
  exact h
theorem ok_wheel {f : Addr} {fd : FuncData} (F : Fun K "_law_wheel" "_law_wheel" s_l_wheel f fd) (T : Bi mg) (D_l_draw : Has P w K mg base "_law_draw" 1 ["_law_pot_here", "_law_many"] spDraw) (D_l_mixed : Has P w K mg base "_law_mixed" 2 ["_law_pot_here", "_law_items"] (spMixed K)) :
    FnOk P w K mg base CX0 3 f fd ["_law_pot_here", "_law_names"] (spWheel K) := by
  refine F.ok sc_l_wheel (fun vs H Q E h => ?_) (fun cdv A outer s₀ H vs Q E hr h => ?_)
  · obtain ⟨p, g, s, a, ns, rfl, _⟩ := h
    rfl
  · obtain ⟨p, g, s, a, ns, rfl, Z, hS, l0, l1, kk⟩ := h
    refine ⟨_, (pss_cons (ps_set (i := 2) sc_l_wheel.nd rfl (.inl rfl) (pe_slice sl_list (D_l_mixed.call (hr.mono (by decide)) (by rfl) (pa_cons (pv 0) (pa_cons (pv 1) pa_nil))) po_none (po_some (pe_op op_add pe_int (D_l_draw.call (hr.mono (by decide)) (by rfl) (pa_cons (pv 0) (pa_cons pe_int pa_nil)))))))
 (pss_cons (ps_set (i := 3) sc_l_wheel.nd rfl (.inl rfl) (pe_lst (pa_cons (pe_tup (pa_cons pe_str (pa_cons (pe_ix ix_list (pv 2) (pe_un un_neg pe_int) (fun _ _ => rfl)) (pa_cons (pe_ix ix_list (pv 2) (pe_un un_neg pe_int) (fun _ _ => rfl)) pa_nil)))) pa_nil)))
 (pss_cons (ps_for PassesOwn.never rfl (pi_range3 (by rfl) T.range (pa_cons (pe_op op_sub (pe_callB call_len_seq (by rfl) T.len PySem.boot_len (pa_cons (pv 2) pa_nil)) pe_int) (pa_cons pe_int (pa_cons (pe_un un_neg pe_int) pa_nil)))) (pg_name (i := 4) sc_l_wheel.nd rfl (.inl rfl))
  (pss_one (ps_expr (pe_bm PySem.F.plainAttrs_list PySem.F.slot_list_append PySem.F.type_list_append mt_append (pv 3) (pa_cons (pe_tup (pa_cons pe_str (pa_cons (pe_ix ix_list (pv 2) (pv 4) (fun _ _ => rfl)) (pa_cons (pe_ix ix_list (pv 2) (pe_op op_sub (pv 4) pe_int) (fun _ _ => rfl)) pa_nil)))) pa_nil)))))
 (pss_one (ps_ret (pe_callTy (T := "tuple") (call_tuple_of) (by rfl) T.tuple_ (by decide +kernel) (pa_cons (pe_op op_cat (pv 3) (pe_lst (pa_cons (pe_tup (pa_cons pe_str (pa_cons (pe_ix ix_list (pv 2) pe_int (fun _ _ => rfl)) (pa_cons (pe_ix ix_list (pv 2) (pe_un un_neg pe_int) (fun _ _ => rfl)) pa_nil)))) (pa_cons (pe_tup (pa_cons pe_str (pa_cons (pe_ix ix_list (pv 2) (D_l_draw.call (hr.mono (by decide)) (by rfl) (pa_cons (pv 0) (pa_cons (pe_op op_sub (pe_callB call_len_seq (by rfl) T.len PySem.boot_len (pa_cons (pv 2) pa_nil)) pe_int) pa_nil))) (fun _ _ => rfl)) pa_nil))) pa_nil)))) pa_nil))))))), ?_⟩
    refine ⟨_, rfl, _, rfl, p, g, s, a, _, rfl, Z, .inr hS, by rw [List.length_map]; omega, by rw [List.length_map]; omega, fun l ys H1 pm nl hl Z1 b1 => ?_⟩
    obtain ⟨ws, pn, rfl⟩ := perm_map pm rfl
    have nl3 := Z.free nl
    refine ⟨_, rfl, p, g, s, 2, rfl, Z1, by decide, by decide, fun r H2 r0 r1 Z2 b2 => ?_⟩
    obtain ⟨n, rfl⟩ : ∃ n : Nat, r = (n : Int) := ⟨_, (Int.toNat_of_nonneg r0).symm⟩
    have hl2 := b2 _ _ hl nl3.1 nl3.2.1
    refine ⟨_, _, rfl, rfl, _, rfl, l, _, rfl, SqL.of hl2, fun c nc => ?_⟩
    have ec : cutV (ws.map V.str) none (some (3 + (n : Int))) = (ws.take (n + 3)).map V.str := by
      rw [show (3 + (n : Int)) = ((n + 3 : Nat) : Int) by omega, cut_take, List.map_take]
    rw [ec]
    have lms : (ws.take (n + 3)).length = n + 3 := by rw [List.length_take, pn.length_eq]; omega
    have mms : ∀ x ∈ ws.take (n + 3), x ∈ ns := fun x m => pn.mem_iff.mp (List.mem_of_mem_take m)
    generalize ws.take (n + 3) = ms at lms mms
    have hn2 : n < 2 := by omega
    have nc3 := Z2.free nc
    have b12 := b1.trans b2
    have nc0 : H c = none := b12.free nc nc3.1 nc3.2.1
    have Z3 : PotAt (upd H2 c (.lst (ms.map V.str))) p g s := Z2.put nc3
    have b3 : But p g H (upd H2 c (.lst (ms.map V.str))) := b12.put nc0
    have hc3 : (upd H2 c (.lst (ms.map V.str))) c = some (.lst (ms.map V.str)) := upd_same
    generalize upd H2 c (.lst (ms.map V.str)) = H3 at Z3 b3 hc3
    have lm : (ms.map V.str).length = n + 3 := by rw [List.length_map]; exact lms
    have item : ∀ j, j < n + 3 → ∃ x, x ∈ ns ∧ (ms.map V.str)[j]? = some (.str x) := fun j hj => by
      have e : ms[j]? = some ms[j] := List.getElem?_eq_getElem (by omega)
      exact ⟨ms[j], mms _ (at_mem e), by rw [List.getElem?_map, e]; rfl⟩
    obtain ⟨x1, m1, e1⟩ := item (n + 2) (by omega)
    obtain ⟨x2, m2, e2⟩ := item (n + 1) (by omega)
    obtain ⟨x0, m0, e0⟩ := item 0 (by omega)
    have a1 : atI (ms.map V.str) (-(1 : Int)) = some (.str x1) := at_neg (j := 1) (by omega) (by omega) (by rw [lm]; exact e1)
    have a2 : atI (ms.map V.str) (-(2 : Int)) = some (.str x2) := at_neg (j := 2) (by omega) (by omega) (by rw [lm]; exact e2)
    -- inside = [..]
    refine ⟨_, rfl, 1, rfl, c, _, _, _, rfl, rfl, SqL.of hc3, a1, _, rfl, 2, rfl, c, _, _, _, rfl, rfl, SqL.of hc3, a2, (by show 3 ≤ sizeLine; decide), fun t1 nt1 => ?_⟩
    refine ⟨(by show 1 ≤ sizeLine; decide), fun q nq => ?_⟩
    have nt3 := Z3.free nt1
    have nt10 : H t1 = none := b3.free nt1 nt3.1 nt3.2.1
    have Z4 : PotAt (upd H3 t1 (.tup [V.str "copy", V.str x1, V.str x2])) p g s := Z3.put nt3
    have nq3 := Z4.free nq
    have b4 : But p g H (upd H3 t1 (.tup [V.str "copy", V.str x1, V.str x2])) := b3.put nt10
    have nq0 : H q = none := b4.free nq nq3.1 nq3.2.1
    have nct1 : c ≠ t1 := ne_of_none hc3 nt1
    have hc4 : (upd H3 t1 (.tup [V.str "copy", V.str x1, V.str x2])) c = some (.lst (ms.map V.str)) := by rw [upd_ne nct1]; exact hc3
    have ncq : c ≠ q := ne_of_none hc4 nq
    have ntq : t1 ≠ q := ne_of_none upd_same nq
    -- the loop
    refine ⟨_, rfl, c, _, rfl, .inl (SqL.of (by rw [upd_ne ncq]; exact hc4)), _, _, rfl, rfl, 1, rfl, _, _, _, _, rfl, RgC.neg (by rw [lm]; omega) (by rw [lm]; omega) (by decide) (by decide), ?_⟩
    refine for_it walk_rangeC (fun i σ H5 => ∃ y4 ts ds, σ = [some (.ref p), some (.ref a), some (.ref c), some (.ref q), y4] ∧ H5 q = some (.lst ts) ∧ DeT H5 ts ds ∧ (∀ d ∈ ds, ∀ x ∈ d.ns, x ∈ ns) ∧ ds.length = i + 1 ∧ H5 c = some (.lst (ms.map V.str)) ∧ PotAt H5 p g s ∧ But p g H H5) ?_ (fun _ _ _ _ _ => trivial) (fun i v σ H5 H5' hi w y => ?_) fun σ H5 w => ?_
    · refine ⟨none, [.ref t1], [.copy x1 x2], rfl, upd_same, .cons ⟨t1, rfl, by rw [upd_ne ntq, upd_same]; rfl⟩ .nil, fun d hd x hx => ?_, rfl, by rw [upd_ne ncq]; exact hc4, Z4.put nq3, b4.put nq0⟩
      rw [List.mem_singleton.mp hd] at hx
      rcases List.mem_cons.mp hx with k | k
      · rw [k]; exact m1
      · rw [List.mem_singleton.mp k]; exact m2
    · obtain ⟨y4, ts, ds, rfl, hq5, dt5, nm5, l5, hc5, Z5, b5⟩ := w
      obtain ⟨e5, rfl⟩ := y
      subst e5
      have hi' : i < n + 1 := by
        rw [lm] at hi
        omega
      obtain ⟨u1, k1, f1⟩ := item (n + 1 - i) (by omega)
      obtain ⟨u2, k2, f2⟩ := item (n - i) (by omega)
      have g1 : atI (ms.map V.str) (((ms.map V.str).length : Int) - 2 + (i : Nat) * -1) = some (.str u1) := at_of (j := n + 1 - i) (by rw [lm]; omega) f1
      have g2 : atI (ms.map V.str) (((ms.map V.str).length : Int) - 2 + (i : Nat) * -1 - 1) = some (.str u2) := at_of (j := n - i) (by rw [lm]; omega) f2
      refine ⟨_, rfl, .inl ⟨rfl, _, SqL.of hq5⟩, _, rfl, _, rfl, c, _, _, _, rfl, rfl, SqL.of hc5, g1, _, rfl, _, rfl, _, _, rfl, rfl, c, _, _, _, rfl, rfl, SqL.of hc5, g2, (by show 3 ≤ sizeLine; decide), fun t2 nt2 => ?_⟩
      have nqt : q ≠ t2 := ne_of_none hq5 nt2
      have nct : c ≠ t2 := ne_of_none hc5 nt2
      have ntt := Z5.free nt2
      have nt20 : H t2 = none := b5.free nt2 ntt.1 ntt.2.1
      have hq6 : (upd H5' t2 (.tup [V.str "copy", V.str u1, V.str u2])) q = some (.lst ts) := by rw [upd_ne nqt]; exact hq5
      have lts : ts.length = ds.length := Paired.length dt5
      refine ⟨q, ts, _, rfl, rfl, hq6, (show ts.length < sizeLine from big1 (by rw [lts, l5]; omega)), ?_⟩
      refine ⟨_, ts ++ [.ref t2], ds ++ [.copy u1 u2], rfl, upd_same, Paired.snoc (dt5.keep fun t xs k => ?_) ⟨t2, rfl, by rw [upd_ne nqt.symm, upd_same]; rfl⟩, fun d hd x hx => ?_, by rw [List.length_append, l5]; rfl, by rw [upd_ne ncq, upd_ne nct]; exact hc5, (Z5.put ntt).put nq3, (b5.put nt20).put nq0⟩
      · rw [upd_ne (fun z => by rw [z, hq5] at k; cases k), upd_ne (ne_of_none k nt2)]; exact k
      · rcases List.mem_append.mp hd with k | k
        · exact nm5 d k x hx
        · rw [List.mem_singleton.mp k] at hx
          rcases List.mem_cons.mp hx with k | k
          · rw [k]; exact k1
          · rw [List.mem_singleton.mp k]; exact k2
    · obtain ⟨y4, ts, ds, rfl, hq5, dt5, nm5, l5, hc5, Z5, b5⟩ := w
      have l5' : ds.length ≤ 4 := by rw [l5, lm]; omega
      have lts : ts.length = ds.length := Paired.length dt5
      -- the last two deeds
      refine ⟨_, rfl, _, rfl, c, _, _, _, rfl, rfl, SqL.of hc5, atI_nat (j := 0) e0, _, rfl, 1, rfl, c, _, _, _, rfl, rfl, SqL.of hc5, a1, (by show 3 ≤ sizeLine; decide), fun t2 nt2 => ?_⟩
      have nqt : q ≠ t2 := ne_of_none hq5 nt2
      have nct : c ≠ t2 := ne_of_none hc5 nt2
      have ntt := Z5.free nt2
      have nt20 : H t2 = none := b5.free nt2 ntt.1 ntt.2.1
      have Z6 : PotAt (upd H5 t2 (.tup [V.str "copy", V.str x0, V.str x1])) p g s := Z5.put ntt
      have b6 : But p g H (upd H5 t2 (.tup [V.str "copy", V.str x0, V.str x1])) := b5.put nt20
      have hc6 : (upd H5 t2 (.tup [V.str "copy", V.str x0, V.str x1])) c = some (.lst (ms.map V.str)) := by rw [upd_ne nct]; exact hc5
      have hq6 : (upd H5 t2 (.tup [V.str "copy", V.str x0, V.str x1])) q = some (.lst ts) := by rw [upd_ne nqt]; exact hq5
      have dt6 : DeT (upd H5 t2 (.tup [V.str "copy", V.str x0, V.str x1])) ts ds := dt5.keep (same_upd nt2).tupP
      have h26 : (upd H5 t2 (.tup [V.str "copy", V.str x0, V.str x1])) t2 = some (.tup (deV (.copy x0 x1))) := upd_same
      generalize upd H5 t2 (.tup [V.str "copy", V.str x0, V.str x1]) = H6 at Z6 b6 hc6 hq6 dt6 h26
      refine ⟨_, rfl, _, rfl, _, rfl, c, _, rfl, .inl (SqL.of hc6), _, _, rfl, rfl, p, g, s, _, rfl, Z6, (by rw [lm]; omega), (by rw [lm]; omega), fun r2 H7 r20 r21 Z7 b7 => ?_⟩
      obtain ⟨j, rfl⟩ : ∃ j : Nat, r2 = (j : Int) := ⟨_, (Int.toNat_of_nonneg r20).symm⟩
      obtain ⟨x3, m3, e3⟩ := item j (by rw [lm] at r21; omega)
      have hc7 := b7 _ _ hc6 nc3.1 nc3.2.1
      have hq7 := b7 _ _ hq6 nq3.1 nq3.2.1
      have dt7 := dt6.but b7 Z6
      have h27 := b7.tupP Z6 _ _ h26
      have b67 := b6.trans b7
      refine ⟨c, _, _, _, rfl, rfl, SqL.of hc7, atI_nat e3, (by show 2 ≤ sizeLine; decide), fun t3 nt3' => ?_⟩
      have n33 := Z7.free nt3'
      have n30 : H t3 = none := b67.free nt3' n33.1 n33.2.1
      have s78 := same_upd (o := .tup [V.str "more", V.str x3]) nt3'
      refine ⟨(by show 2 ≤ sizeLine; decide), fun u nu => ?_⟩
      have nu7 : H7 u = none := s78.free nu
      have nu3 := Z7.free nu7
      have nu0 : H u = none := b67.free nu7 nu3.1 nu3.2.1
      have s89 := same_upd (o := .lst [V.ref t2, V.ref t3]) nu
      have s79 := s78.trans s89
      refine ⟨q, u, _, _, rfl, rfl, s79 _ _ hq7, upd_same, Nat.le_of_lt (big1 (by show ts.length + 2 ≤ 1000000; omega)), fun v nv => ?_⟩
      have nv7 : H7 v = none := s79.free nv
      have nv3 := Z7.free nv7
      have nv0 : H v = none := b67.free nv7 nv3.1 nv3.2.1
      have s9a := same_upd (o := .lst (ts ++ [V.ref t2, V.ref t3])) nv
      have s7a := s79.trans s9a
      refine ⟨v, _, rfl, .inl ⟨SqL.of upd_same, fun z nz => ?_⟩⟩
      have nz7 : H7 z = none := s7a.free nz
      have nz3 := Z7.free nz7
      have nz0 : H z = none := b67.free nz7 nz3.1 nz3.2.1
      have sab := same_upd (o := .tup (ts ++ [V.ref t2, V.ref t3])) nz
      have s7b := s7a.trans sab
      have h3b := (s89.trans (s9a.trans sab)) t3 _ (upd_same (H := H7) (a := t3) (o := .tup [V.str "more", V.str x3]))
      refine kk z (ts ++ [V.ref t2, V.ref t3]) (ds ++ [.copy x0 x1, .more x3]) _ (Paired.app (vs := [De.copy x0 x1, De.more x3]) (dt7.keep s7b.tupP) (.cons ⟨t2, rfl, s7b _ _ h27⟩ (.cons ⟨t3, rfl, h3b⟩ .nil))) (fun d hd x hx => ?_) (by rw [List.length_append]; show ds.length + 2 ≤ 6; omega) nz0 upd_same (Z7.same s7b) (b67.trans (But.of s7b))
      rcases List.mem_append.mp hd with k | k
      · exact nm5 d k x hx
      · rcases List.mem_cons.mp k with k | k
        · rw [k] at hx
          rcases List.mem_cons.mp hx with k | k
          · rw [k]; exact m0
          · rw [List.mem_singleton.mp k]; exact m1
        · rw [List.mem_singleton.mp k] at hx
          rw [List.mem_singleton.mp hx]; exact m3
end
end Y

namespace Y
open PySem PySem.Spec PyProof.Rows L2
/-- at which place a name stands -/
def posI : List Str → Str → Nat
  | [], _ => 0
  | a :: r, x => if a = x then 0 else posI r x + 1
theorem posI_at : ∀ {ns : List Str} {x : Str}, x ∈ ns → ns[posI ns x]? = some x
  | [], _, h => nomatch h
  | a :: r, x, h => by
    unfold posI
    by_cases e : a = x
    · rw [if_pos e, e]; rfl
    · rw [if_neg e]
      exact posI_at ((List.mem_cons.mp h).resolve_left fun z => e z.symm)
theorem posI_of {ns : List Str} (nd : ns.Nodup) {i : Nat} {x : Str} (h : ns[i]? = some x) : posI ns x = i := nd_ix nd (posI_at (at_mem h)) h
def farV (ns : List Str) : Str → Int := fun x => ((posI ns x : Nat) + 1) * 10000
theorem Dic.congN {u v : Str → Int} {H : Hp} {kvs : List (Key × V)} {ns : List Str} (D : Dic (isNum u) H kvs ns) (h : ∀ x ∈ ns, u x = v x) : Dic (isNum v) H kvs ns := D.mono fun x _ m g => by
  have g : _ = V.int (u x) := g
  rw [h x m] at g
  exact g
section
variable {P : Program} {w : World} {K : PySem.W.Frag} {mg : Str → Option Value} {base : Heap}
abbrev s_l_push_by : Stmt := topS 40
theorem sc_l_push_by : FnScope ["_law_names", "_law_deeds", "_law_far", "_law_numbers", "_law_at", "_law_name", "_law_deed_here", "_law_found"] ["_law_names", "_law_deeds"] (defScope s_l_push_by) := ⟨rfl, rfl, rfl, by decide +kernel, rfl, by decide +kernel, by decide +kernel⟩
def spPushBy (K : PySem.W.Frag) : Sp := fun vs H Q _ => ∃ (a b : Addr) (ns : List Str) (ts : List V) (ds : List De), vs = [.ref a, .ref b] ∧ SqT K H a (ns.map V.str) ∧ SqT K H b ts ∧ DeT H ts ds ∧ ns.Nodup ∧ ns.length ≤ 1000 ∧ (∀ d ∈ ds, ∀ x ∈ d.ns, x ∈ ns) ∧ ds.length ≤ 1000 ∧
  ∀ (d : Addr) (kvs : List (Key × V)) H', Same H H' → H d = none → H' d = some (.dK kvs) → Dic (isPair (pushF ds)) H' kvs ns → Q (.ref d) H'
theorem ok_push_by {f : Addr} {fd : FuncData} (F : Fun K "_law_push_by" "_law_push_by" s_l_push_by f fd) (T : Bi mg) (D_l_do : Has P w K mg base "_law_do" 1 ["_law_numbers", "_law_deed_here"] spDo) : FnOk P w K mg base CX0 2 f fd ["_law_names", "_law_deeds"] (spPushBy K) := by
  refine F.ok sc_l_push_by (fun vs H Q E h => ?_) (fun cdv A outer s₀ H vs Q E hr h => ?_)
  · obtain ⟨a, b, ns, ts, ds, rfl, _⟩ := h
    rfl
  · obtain ⟨a, b, ns, ts, ds, rfl, ha, hb, hd, nd, l1, hn, l2, kk⟩ := h
    have hu := hu_of hr
    refine ⟨_, (pss_cons (ps_set (i := 2) sc_l_push_by.nd rfl (.inl rfl) (pe_op op_pow pe_int pe_int))
 (pss_cons (ps_set (i := 3) sc_l_push_by.nd rfl (.inl rfl) pe_dnewK)
 (pss_cons (ps_for PassesOwn.never rfl (pi_enumT (by rfl) T.enumerate (pa_cons (pv 0) pa_nil)) (pg_tup (by rfl) (pgs_cons (pg_name (i := 4) sc_l_push_by.nd rfl (.inl rfl)) (pgs_cons (pg_name (i := 5) sc_l_push_by.nd rfl (.inl rfl)) pgs_nil)))
  (pss_one (ps_dput hu (pv 3) (pv 5) (pe_op op_mul (pe_op op_add (pv 4) pe_int) (pv 2)) rfl)))
 (pss_cons (ps_for PassesOwn.never rfl (pi_tup (pv 1)) (pg_name (i := 6) sc_l_push_by.nd rfl (.inl rfl))
  (pss_one (ps_expr (D_l_do.call (hr.mono (by decide)) (by rfl) (pa_cons (pv 3) (pa_cons (pv 6) pa_nil))))))
 (pss_cons (ps_set (i := 7) sc_l_push_by.nd rfl (.inl rfl) pe_dnewK)
 (pss_cons (ps_for PassesOwn.never rfl (pi_tup (pv 0)) (pg_name (i := 5) sc_l_push_by.nd rfl (.inl rfl))
  (pss_cons (ps_set (i := 4) sc_l_push_by.nd rfl (.inl rfl) (pe_op op_fdiv (pe_dget hu (pv 3) (pv 5) (fun _ _ => rfl)) (pv 2)))
 (pss_one (ps_dput hu (pv 7) (pv 5) (pe_tup (pa_cons (pe_ifExp (pt_cmpR op_eq (pv 4) pe_int (nomark _)) pe_non (pe_ix ix_tup (pv 0) (pe_op op_sub (pv 4) pe_int) (fun _ _ => rfl))) (pa_cons (pe_op op_sub (pe_dget hu (pv 3) (pv 5) (fun _ _ => rfl)) (pe_op op_mul (pv 4) (pv 2))) pa_nil))) rfl))))
 (pss_one (ps_ret (pv 7))))))))), ?_⟩
    refine ⟨10, 4, rfl, rfl, ⟨by decide, by decide, by decide⟩, ?_⟩
    -- numbers = {}
    intro d nd0
    refine ⟨_, rfl, a, _, rfl, (same_upd nd0).tup ha, for_it walk_enumT (fun i σ H1 => ∃ y4 y5 y6 y7, σ = [some (.ref a), some (.ref b), some (.int (10 ^ (4 : Int).toNat)), some (.ref d), y4, y5, y6, y7] ∧ Same H H1 ∧ ∃ kvs, H1 d = some (.dK kvs) ∧ Dic (isNum (farV ns)) H1 kvs (ns.take i)) ?_ (fun i σ H1 _ q => by obtain ⟨_, _, _, _, _, s, _⟩ := q; exact s.tup ha) (fun i v σ H1 H1' hi q y => ?_) fun σ H1 q => ?_⟩
    · exact ⟨_, _, _, _, rfl, same_upd nd0, [], upd_same, Dic.nil⟩
    · obtain ⟨y4, y5, y6, y7, rfl, s1, kvs, hd1, N⟩ := q
      obtain ⟨T1, x1, x2, rfl, nT, rfl, e1, e2⟩ := y
      cases e1
      obtain ⟨x, hx, rfl⟩ := map_at e2
      have hi' : i < ns.length := (List.getElem?_eq_some_iff.mp hx).1
      have hd2 : (upd H1 T1 (.tup [V.int (i : Nat), V.str x])) d = some (.dK kvs) := by rw [upd_ne (ne_of_none hd1 nT)]; exact hd1
      refine ⟨T1, _, rfl, SqT.of upd_same, rfl, _, _, rfl, _, _, rfl, rfl, ?_⟩
      refine ⟨_, rfl, _, _, rfl, rfl, _, rfl, _, _, rfl, rfl, .inr (by decide), _, rfl, _, rfl, d, _, rfl, DPut.k (k := Sum.inr x) hd2 (by rw [N.len, List.length_take]; exact big1 (by omega)), ?_⟩
      refine ⟨_, _, _, _, rfl, (s1.trans (same_upd nT)).put nd0, _, upd_same, ?_⟩
      rw [take_next hx]
      refine N.snoc (nd_take nd hx) ?_ fun y v _ g => g
      show V.int ((i : Int) + 1 |>.mul (10 ^ (4 : Int).toNat)) = V.int (farV ns x)
      unfold farV
      rw [posI_of nd hx]
      rfl
    obtain ⟨y4, y5, y6, y7, rfl, s1, kv1, hd1, N1⟩ := q
    rw [List.length_map, List.take_length] at N1
    -- the deeds, one by one
    refine ⟨_, rfl, b, rfl, ⟨_, s1.tup hb⟩, for_tup (K := K) (a := b) (xs := ts) (fun i σ H2 => ∃ y4 y5 y6 y7, σ = [some (.ref a), some (.ref b), some (.int (10 ^ (4 : Int).toNat)), some (.ref d), y4, y5, y6, y7] ∧ Same H H2 ∧ ∃ kvs, H2 d = some (.dK kvs) ∧ Dic (isNum ((ds.take i).foldl doF (farV ns))) H2 kvs ns) ?_ (fun i σ H1 _ q => by obtain ⟨_, _, _, _, _, s, _⟩ := q; exact s.tup hb) (fun i v σ H2 hv q => ?_) fun σ H2 q => ?_⟩
    · exact ⟨_, _, _, _, rfl, s1, kv1, hd1, N1⟩
    · obtain ⟨y4, y5, y6, y7, rfl, s2, kvs, hd2, N⟩ := q
      obtain ⟨e, he, t, rfl, ht⟩ := Paired.get hd hv
      refine ⟨_, rfl, _, rfl, d, t, kvs, ns, _, e, rfl, hd2, N, s2 _ _ ht, hn e (at_mem he), l1, fun kvs' H3 e3 N3 => ?_⟩
      subst e3
      refine ⟨_, _, _, _, rfl, s2.put nd0, kvs', upd_same, ?_⟩
      rw [take_next he, List.foldl_append]
      exact N3
    obtain ⟨y4, y5, y6, y7, rfl, s2, kv2, hd2, N2⟩ := q
    have lts : ts.length = ds.length := Paired.length hd
    rw [lts, List.take_length, ← ev_push] at N2
    have W := within_push ds hn
    -- found = {}
    intro f nf
    have nf0 : H f = none := s2.free nf
    have ndf : d ≠ f := ne_of_none hd2 nf
    refine ⟨_, rfl, a, rfl, ⟨_, (s2.trans (same_upd nf)).tup ha⟩, for_tup (K := K) (a := a) (xs := ns.map V.str) (fun i σ H3 => ∃ y4 y5 y6, σ = [some (.ref a), some (.ref b), some (.int (10 ^ (4 : Int).toNat)), some (.ref d), y4, y5, y6, some (.ref f)] ∧ Same H H3 ∧ H3 d = some (.dK kv2) ∧ ∃ kvs, H3 f = some (.dK kvs) ∧ Dic (isPair (pushF ds)) H3 kvs (ns.take i)) ?_ (fun i σ H1 _ q => by obtain ⟨_, _, _, _, s, _⟩ := q; exact s.tup ha) (fun i v σ H3 hv q => ?_) fun σ H3 q => ?_⟩
    · exact ⟨_, _, _, rfl, s2.trans (same_upd nf), by rw [upd_ne ndf]; exact hd2, [], upd_same, Dic.nil⟩
    · obtain ⟨y4, y5, y6, rfl, s3, hd3, kvs, hf3, D3⟩ := q
      obtain ⟨x, hx, rfl⟩ := map_at hv
      have xm := at_mem hx
      obtain ⟨w0, ew, hw⟩ := N2.val x xm
      have hw : w0 = V.int (evP (pushF ds) (farV ns) x) := hw
      subst hw
      have mo := W.lo x
      have mi := W.hi x
      have size : kvs.length < sizeLine := by rw [D3.len, List.length_take]; exact big1 (by omega)
      have ten : (10 : Int) ^ (4 : Int).toNat = 10000 := by decide
      have gd : ∀ {H' : Hp}, H' d = some (.dK kv2) → DGet H' d (kV (Sum.inr x)) (some (V.int (evP (pushF ds) (farV ns) x))) := fun k => by rw [← ew]; exact DGet.k (k := Sum.inr x) k
      generalize hF : pushF ds x = fx at mo mi
      obtain ⟨so, m⟩ := fx
      have mo : 0 ≤ m := mo
      have mi : m ≤ (ds.length : Nat) := mi
      have next : ∀ (c : Addr), H3 c = none → (upd H3 c (.tup [osV so, .int m])) f = some (.dK kvs) ∧ Same H (upd (upd H3 c (.tup [osV so, .int m])) f (.dK (putK kvs (Sum.inr x) (.ref c)))) ∧ (upd (upd H3 c (.tup [osV so, .int m])) f (.dK (putK kvs (Sum.inr x) (.ref c)))) d = some (.dK kv2) ∧
          Dic (isPair (pushF ds)) (upd (upd H3 c (.tup [osV so, .int m])) f (.dK (putK kvs (Sum.inr x) (.ref c)))) (putK kvs (Sum.inr x) (.ref c)) (ns.take (i + 1)) := fun c nc => by
        have nfc : f ≠ c := ne_of_none hf3 nc
        refine ⟨by rw [upd_ne nfc]; exact hf3, (s3.trans (same_upd nc)).put nf0, by rw [upd_ne ndf, upd_ne (ne_of_none hd3 nc)]; exact hd3, ?_⟩
        rw [take_next hx]
        refine D3.snoc (nd_take nd hx) ⟨c, rfl, ?_⟩ fun y v _ g => pair_keep (fun t' xs k => ?_) g
        · rw [upd_ne nfc.symm, upd_same, hF]
        · rw [upd_ne (fun z => by rw [z, hf3] at k; cases k), upd_ne (ne_of_none k nc)]; exact k
      cases so with
      | none =>
        have ev : evP (pushF ds) (farV ns) x = m := ev_none hF
        rw [ev] at gd
        have q0 : m / 10 ^ (4 : Int).toNat = 0 := by rw [ten]; omega
        have q1 : m - m / 10 ^ (4 : Int).toNat * 10 ^ (4 : Int).toNat = m := by rw [q0]; omega
        refine ⟨_, rfl, _, rfl, d, _, rfl, gd hd3, _, rfl, _, _, rfl, rfl, ⟨by decide, by decide⟩, ?_⟩
        refine ⟨_, rfl, rfl, _, rfl, ?_⟩
        refine yesB (decide_eq_true (show V.int (m / 10 ^ (4 : Int).toNat) = V.int 0 by rw [q0])) ?_
        refine ⟨_, rfl, _, rfl, d, _, rfl, gd hd3, _, rfl, _, rfl, _, _, rfl, rfl, .inr (by decide), _, _, rfl, rfl, (by show 2 ≤ sizeLine; decide), fun c nc => ?_⟩
        dsimp only
        rw [q1]
        obtain ⟨n1, n2, n3, n4⟩ := next c nc
        refine ⟨_, rfl, _, rfl, f, _, rfl, DPut.k (k := Sum.inr x) n1 size, ?_⟩
        exact ⟨_, _, _, rfl, n2, n3, _, upd_same, n4⟩
      | some y =>
        have ym : y ∈ ns := W.src x xm y (by rw [hF])
        have ev : evP (pushF ds) (farV ns) x = farV ns y + m := ev_some hF
        rw [ev] at gd
        have fy : farV ns y = ((posI ns y : Nat) + 1) * 10000 := rfl
        have q0 : (farV ns y + m) / 10 ^ (4 : Int).toNat = (posI ns y : Nat) + 1 := by rw [ten, fy]; omega
        have q1 : (farV ns y + m) - (farV ns y + m) / 10 ^ (4 : Int).toNat * 10 ^ (4 : Int).toNat = m := by rw [q0, ten, fy]; omega
        have py : (ns.map V.str)[posI ns y]? = some (.str y) := by rw [List.getElem?_map, posI_at ym]; rfl
        refine ⟨_, rfl, _, rfl, d, _, rfl, gd hd3, _, rfl, _, _, rfl, rfl, ⟨by decide, by decide⟩, ?_⟩
        refine ⟨_, rfl, rfl, _, rfl, ?_⟩
        refine noB (decide_eq_false fun z => by
          have z : V.int ((farV ns y + m) / 10 ^ (4 : Int).toNat) = V.int 0 := z
          rw [q0] at z
          have := V.int.inj z
          omega) ?_
        refine ⟨_, rfl, _, rfl, _, _, rfl, rfl, a, _, _, _, rfl, rfl, s3.tup ha, at_of (j := posI ns y) (by rw [q0]; omega) py, ?_⟩
        refine ⟨_, rfl, _, rfl, d, _, rfl, gd hd3, _, rfl, _, rfl, _, _, rfl, rfl, .inr (by decide), _, _, rfl, rfl, (by show 2 ≤ sizeLine; decide), fun c nc => ?_⟩
        dsimp only
        rw [q1]
        obtain ⟨n1, n2, n3, n4⟩ := next c nc
        refine ⟨_, rfl, _, rfl, f, _, rfl, DPut.k (k := Sum.inr x) n1 size, ?_⟩
        exact ⟨_, _, _, rfl, n2, n3, _, upd_same, n4⟩
    · obtain ⟨y4, y5, y6, rfl, s3, hd3, kvs, hf3, D3⟩ := q
      rw [List.length_map, List.take_length] at D3
      exact ⟨_, rfl, kk f kvs H3 s3 nf0 hf3 D3⟩
abbrev s_l_push_told : Stmt := topS 38
theorem sc_l_push_told : FnScope ["_law_told", "_law_due", "_law_name", "_law_pair"] ["_law_told", "_law_due"] (defScope s_l_push_told) := ⟨rfl, rfl, rfl, by decide +kernel, rfl, by decide +kernel, by decide +kernel⟩
def spPushTold : Sp := fun vs H Q _ => ∃ (d e : Addr) (ks ls : List (Key × V)) (ns : List Str) (F : PF), vs = [.ref d, .ref e] ∧ H d = some (.dK ks) ∧ H e = some (.dK ls) ∧ Dic (isPair F) H ks ns ∧ Dic (isPair F) H ls ns ∧ ns.Nodup ∧ (∀ x ∈ ns, ∀ y, (F x).1 = some y → nmB y = true) ∧ ∀ H', Same H H' → Q (.bl true) H'
theorem ok_push_told {f : Addr} {fd : FuncData} (F : Fun K "_law_push_told" "_law_push_told" s_l_push_told f fd) (T : Bi mg) (D_l_is_int : Has P w K mg base "_law_is_int" 1 ["_law_thing"] spIsInt) : FnOk P w K mg base CX0 2 f fd ["_law_told", "_law_due"] spPushTold := by
  refine F.ok sc_l_push_told (fun vs H Q E h => ?_) (fun cdv A outer s₀ H vs Q E hr h => ?_)
  · obtain ⟨d, e, ks, ls, ns, F0, rfl, _⟩ := h
    rfl
  · obtain ⟨d, e, ks, ls, ns, F0, rfl, hd, he, D, D', nd, ok, kk⟩ := h
    have hu := hu_of hr
    refine ⟨_, (pss_cons (ps_if ((pw_or (pt_not (pt_val (pe_callB (id := "isinstance") (r := rIsi K) call_isi (by rfl) T.isinstance (by decide +kernel) (pa_cons (pv 0) (pa_cons (pe_bltn (v := .ty "dict") (by rfl) T.dict_ (by decide +kernel) rfl) pa_nil))))) (pw_or1 (pt_cmpR (op_neDicts (hu66 hr)) (pv 0) (pv 1) (nomark _))))).pt
  (pss_one (ps_ret pe_bl))
  pss_nil)
 (pss_cons (ps_lock (ps_for PassesOwn.never rfl (pi_keys (pv 0)) (pg_name (i := 2) sc_l_push_told.nd rfl (.inl rfl))
  (pss_cons (ps_set (i := 3) sc_l_push_told.nd rfl (.inl rfl) (pe_dget hu (pv 0) (pv 2) (fun _ _ => rfl)))
 (pss_one (ps_if ((pw_or (pt_not (pt_val (pe_callB (id := "isinstance") (r := rIsi K) call_isi (by rfl) T.isinstance (by decide +kernel) (pa_cons (pv 3) (pa_cons (pe_bltn (v := .ty "tuple") (by rfl) T.tuple_ (by decide +kernel) rfl) pa_nil))))) (pw_or1 (pt_not (pt_val (D_l_is_int.call (hr.mono (by decide)) (by rfl) (pa_cons (pe_ix ix_tup (pv 3) pe_int (fun _ _ => rfl)) pa_nil))))))).pt
  (pss_one (ps_ret pe_bl))
  pss_nil)))))
 (pss_one (ps_ret pe_bl)))), ?_⟩
    obtain ⟨dl, dv⟩ := dicts_same (K := K) D D' nd ok
    refine ⟨_, rfl, _, _, _, _, true, rfl, .ty "dict", .base (.dK hd), kit_ty (by decide +kernel), true, rfl, ?_⟩
    refine ⟨_, rfl, _, rfl, d, e, ks, ls, rfl, rfl, hd, he, dl, dv, _, rfl, ?_⟩
    refine ⟨d, .dK ks, hd, trivial, fun od => ⟨_, rfl, d, od, rfl, .inl ⟨ks, upd_same, for_it (walk_keys (d := d) (o := od) (kvs := ks)) (fun i σ H1 => ∃ y2 y3, σ = [some (.ref d), some (.ref e), y2, y3] ∧ Lk d od (.dK ks) H H1) ⟨none, none, rfl, Lk.start⟩ (fun i σ H1 _ q => by obtain ⟨_, _, _, q⟩ := q; exact q.fz) (fun i v σ H1 H1' hi q y => ?_) fun σ H1 q => ?_⟩⟩⟩
    · obtain ⟨y2, y3, rfl, L⟩ := q
      obtain ⟨e1, kx, v0, hx, rfl⟩ := y
      subst e1
      obtain ⟨x, _, xm, rfl, ev, t, rfl, ht⟩ := D.at_ nd hx
      have ht1 := L.tup hd _ _ ht
      refine ⟨_, rfl, _, rfl, d, _, rfl, (by rw [← ev]; exact .inl ⟨ks, Sum.inr x, .inr ⟨od, L.fz⟩, rfl, rfl⟩), ?_⟩
      refine ⟨_, rfl, _, _, _, _, true, rfl, .ty "tuple", .base (.tup ht1), kit_ty (by decide +kernel), true, rfl, ?_⟩
      refine ⟨_, rfl, t, _, _, _, rfl, rfl, SqT.of ht1, atI_nat (j := 1) rfl, _, rfl, true, rfl, ?_⟩
      exact ⟨_, _, rfl, L⟩
    · obtain ⟨y2, y3, rfl, L⟩ := q
      exact ⟨L.fz, kk _ (L.done hd)⟩
end
end Y

namespace Y
open PySem PySem.Spec PyProof.Rows L2
theorem cut_whole {xs : List V} {lo hi : Option Int} (h : HT.sIx xs.length 0 lo = 0 ∧ HT.sIx xs.length xs.length hi = xs.length) : cutV xs lo hi = xs := by
  unfold cutV
  rw [h.1, h.2, List.drop_zero, Nat.sub_zero, List.take_length]
/-- a slice of a tuple, whole or not -/
theorem slT {K : PySem.W.Frag} {H : Hp} {b : Addr} {xs : List V} {lo hi : Option Int} {Q : VK} (hb : H b = some (.tup xs)) (k : ∀ c H', Same H H' → H' c = some (.tup (cutV xs lo hi)) → Q (.ref c) H') : rSlA K (.ref b) lo hi H Q :=
  ⟨b, xs, rfl, SqT.of hb, fun h => k b H (Same.refl H) (by rw [cut_whole h]; exact hb), fun _ c nc => k c _ (same_upd nc) upd_same⟩
section
variable {P : Program} {w : World} {K : PySem.W.Frag} {mg : Str → Option Value} {base : Heap}
abbrev s_law : Stmt := topS 41
theorem sc_law : FnScope ["_law_script", "_law_pot_here", "_law_again", "_law_names", "_law_deeds", "_law_told", "_law_numbers", "_law_name", "_law_kept", "_law_due", "_law_deed_here", "_law_at", "_law_k"] ["_law_script"] (defScope s_law) := ⟨rfl, rfl, rfl, by decide +kernel, rfl, by decide +kernel, by decide +kernel⟩
def spLaw (K : PySem.W.Frag) : Sp := fun vs H Q _ => ∃ (a : Addr) (ns : List Int), vs = [.ref a] ∧ SqL K H a (ns.map V.int) ∧ ns.length ≤ 63 ∧ ∀ H', Q (.bl true) H'
theorem ok_law {f : Addr} {fd : FuncData} (F : Fun K "law" "law" s_law f fd) (T : Bi mg)
    (D_l_pot : Has P w K mg base "_law_pot" 1 ["_law_script"] (spPot K)) (D_l_draw : Has P w K mg base "_law_draw" 1 ["_law_pot_here", "_law_many"] spDraw) (D_l_push_names : Has P w K mg base "_law_push_names" 3 ["_law_pot_here"] spPushNames)
    (D_l_deed : Has P w K mg base "_law_deed" 3 ["_law_pot_here", "_law_names"] (spDeed K)) (D_l_wheel : Has P w K mg base "_law_wheel" 3 ["_law_pot_here", "_law_names"] (spWheel K)) (D_push_of : Has P w K mg base "push_of" 5 ["names", "deeds"] (spPushOf K))
    (D_l_push_told : Has P w K mg base "_law_push_told" 2 ["_law_told", "_law_due"] spPushTold) (D_l_push_by : Has P w K mg base "_law_push_by" 2 ["_law_names", "_law_deeds"] (spPushBy K)) (D_l_great : Has P w K mg base "_law_great" 2 ["_law_pot_here"] spGreat)
    (D_l_do : Has P w K mg base "_law_do" 1 ["_law_numbers", "_law_deed_here"] spDo) (D_pushed : Has P w K mg base "pushed" 5 ["push", "numbers"] spPushed) (D_one_more : Has P w K mg base "one_more" 5 ["push", "other"] spOneMore) :
    FnOk P w K mg base CX0 6 f fd ["_law_script"] (spLaw K) := by
  refine F.ok sc_law (fun vs H Q E h => ?_) (fun cdv A outer s₀ H vs Q E hr h => ?_)
  · obtain ⟨a, ns, rfl, _⟩ := h
    rfl
  · obtain ⟨a, sc, rfl, hS, hlen, kk⟩ := h
    have hu := hu_of hr
    refine ⟨_, (pss_cons (ps_set (i := 1) sc_law.nd rfl (.inr rfl) (D_l_pot.call (hr.mono (by decide)) (by rfl) (pa_cons (pv 0) pa_nil)))
 (pss_cons (ps_for PassesOwn.never rfl (pi_range1 (by rfl) T.range (pa_cons pe_int pa_nil)) (pg_name (i := 2) sc_law.nd rfl (.inl rfl))
  (pss_cons (ps_set (i := 3) sc_law.nd rfl (.inr rfl) (D_l_push_names.call (hr.mono (by decide)) (by rfl) (pa_cons (pv 1) pa_nil)))
 (pss_cons (ps_setLc (i := 4) (own := [("_law_k", 12)]) (g := gName 12) (tt := tYes) (by rfl) sc_law.nd rfl rfl (sw_true rfl rfl rfl (by decide +kernel)) (pi_range1 (by rfl) T.range (pa_cons (D_l_draw.call (hr.mono (by decide)) (by rfl) (pa_cons (pv 1) (pa_cons (pe_ix ix_list (pe_lst (pa_cons pe_int (pa_cons pe_int (pa_cons pe_int pa_nil)))) (D_l_draw.call (hr.mono (by decide)) (by rfl) (pa_cons (pv 1) (pa_cons pe_int pa_nil))) (fun _ _ => rfl)) pa_nil))) pa_nil)) (blkOk_by (N := ["_law_script", "_law_pot_here", "_law_again", "_law_names", "_law_deeds", "_law_told", "_law_numbers", "_law_name", "_law_kept", "_law_due", "_law_deed_here", "_law_at", "_law_k"]) (sc := defScope s_law) (by decide +kernel)) (fun _ _ _ _ _ => pg_name (i := 12) sc_law.nd rfl (.inl rfl)) (fun _ _ _ _ _ => pts_nil) (fun _ _ _ _ _ => (D_l_deed.call (hr.mono (by decide)) (by rfl) (pa_cons (pv 1) (pa_cons (pv 3) pa_nil)))))
 (C8.pss_cut (ps_if ((pw_and (pt_cmpR op_gt (pe_callB call_len_seq (by rfl) T.len PySem.boot_len (pa_cons (pv 3) pa_nil)) pe_int (nomark _)) (pw_and1 (pt_cmpR op_eq (D_l_draw.call (hr.mono (by decide)) (by rfl) (pa_cons (pv 1) (pa_cons pe_int pa_nil))) pe_int (nomark _))))).pt
  (pss_one (ps_set (i := 4) sc_law.nd rfl (.inl rfl) (pe_op op_cat (pv 4) (pe_callTy (T := "list") (call_list_of) (by rfl) T.list_ (by decide +kernel) (pa_cons (D_l_wheel.call (hr.mono (by decide)) (by rfl) (pa_cons (pv 1) (pa_cons (pv 3) pa_nil))) pa_nil)))))
  pss_nil)
 (pss_cons (ps_set (i := 4) sc_law.nd rfl (.inl rfl) (pe_callTy (T := "tuple") (call_tuple_of) (by rfl) T.tuple_ (by decide +kernel) (pa_cons (pv 4) pa_nil)))
 (pss_cons (ps_set (i := 5) sc_law.nd rfl (.inl rfl) (D_push_of.call (hr.mono (by decide)) (by rfl) (pa_cons (pv 3) (pa_cons (pv 4) pa_nil))))
 (pss_cons (ps_if (pt_not (pt_val (D_l_push_told.call (hr.mono (by decide)) (by rfl) (pa_cons (pv 5) (pa_cons (D_l_push_by.call (hr.mono (by decide)) (by rfl) (pa_cons (pv 3) (pa_cons (pv 4) pa_nil))) pa_nil)))))
  (pss_one (ps_ret pe_bl))
  pss_nil)
 (pss_cons (ps_set (i := 6) sc_law.nd rfl (.inl rfl) pe_dnewK)
 (pss_cons (ps_for PassesOwn.never rfl (pi_tup (pv 3)) (pg_name (i := 7) sc_law.nd rfl (.inl rfl))
  (pss_one (ps_dput hu (pv 6) (pv 7) (D_l_great.call (hr.mono (by decide)) (by rfl) (pa_cons (pv 1) pa_nil)) rfl)))
 (pss_cons (ps_set (i := 8) sc_law.nd rfl (.inl rfl) (pe_callTy (T := "dict") (call_dictD) (by rfl) T.dict_ (by decide +kernel) (pa_cons (pv 6) pa_nil)))
 (pss_cons (ps_set (i := 9) sc_law.nd rfl (.inl rfl) (pe_callTy (T := "dict") (call_dictD) (by rfl) T.dict_ (by decide +kernel) (pa_cons (pv 6) pa_nil)))
 (pss_cons (ps_for PassesOwn.never rfl (pi_tup (pv 4)) (pg_name (i := 10) sc_law.nd rfl (.inl rfl))
  (pss_one (ps_expr (D_l_do.call (hr.mono (by decide)) (by rfl) (pa_cons (pv 9) (pa_cons (pv 10) pa_nil))))))
 (pss_cons (ps_if ((pw_or (pt_cmpR (op_neDicts (hu66 hr)) (D_pushed.call (hr.mono (by decide)) (by rfl) (pa_cons (pv 5) (pa_cons (pv 6) pa_nil))) (pv 9) (nomark _)) (pw_or1 (pt_cmpR (op_neDicts (hu66 hr)) (pv 6) (pv 8) (nomark _))))).pt
  (pss_one (ps_ret pe_bl))
  pss_nil)
 (pss_cons (ps_set (i := 11) sc_law.nd rfl (.inl rfl) (D_l_draw.call (hr.mono (by decide)) (by rfl) (pa_cons (pv 1) (pa_cons (pe_op op_add (pe_callB call_len_seq (by rfl) T.len PySem.boot_len (pa_cons (pv 4) pa_nil)) pe_int) pa_nil))))
 (pss_cons (ps_if (pt_cmpR (op_neDicts (hu66 hr)) (D_one_more.call (hr.mono (by decide)) (by rfl) (pa_cons (D_push_of.call (hr.mono (by decide)) (by rfl) (pa_cons (pv 3) (pa_cons (pe_slice sl_tupA (pv 4) po_none (po_some (pv 11))) pa_nil))) (pa_cons (D_push_of.call (hr.mono (by decide)) (by rfl) (pa_cons (pv 3) (pa_cons (pe_slice sl_tupA (pv 4) (po_some (pv 11)) po_none) pa_nil))) pa_nil))) (pv 5) (nomark _))
  (pss_one (ps_ret pe_bl))
  pss_nil)
 (pss_cons (ps_expr (pe_dclear (pv 5)))
 (pss_one (ps_if (pt_cmpR (op_neDicts (hu66 hr)) (D_push_of.call (hr.mono (by decide)) (by rfl) (pa_cons (pv 3) (pa_cons (pv 4) pa_nil))) (D_l_push_by.call (hr.mono (by decide)) (by rfl) (pa_cons (pv 3) (pa_cons (pv 4) pa_nil))) (nomark _))
  (pss_one (ps_ret pe_bl))
  pss_nil))))))))))))))))))
 (pss_one (ps_ret pe_bl)))), ?_⟩
    refine ⟨_, rfl, a, sc, rfl, hS, hlen, fun p g s H1 s1 np ng nz Z1 => ?_⟩
    refine ⟨4, rfl, by decide, by decide, for_range (lo := 0) (n := ((4 : Int)).toNat) (fun i σ H2 => ∃ y2 y3 y4 y5 y6 y7 y8 y9 y10 y11 y12, σ = [some (.ref a), some (.ref p), y2, y3, y4, y5, y6, y7, y8, y9, y10, y11, y12] ∧ PotAt H2 p g s) ⟨_, _, _, _, _, _, _, _, _, _, _, rfl, Z1⟩ ?_ ?_⟩
    · rintro i σ H2 hi ⟨y2, y3, y4, y5, y6, y7, y8, y9, y10, y11, y12, rfl, Z2⟩
      -- names
      refine ⟨_, rfl, p, g, s, rfl, Z2, fun t ns H3 nd n8 l1 l7 nt ht Z3 b3 => ?_⟩
      have ok : ∀ x ∈ ns, nmB x = true := fun x m => nm8_ok x (n8 x m)
      -- how many deeds
      refine ⟨_, rfl, (by show 3 ≤ sizeLine; decide), fun l nl => ?_⟩
      have nl3 := Z3.free nl
      refine ⟨_, rfl, p, g, s, 3, rfl, Z3.put nl3, by decide, by decide, fun r H4 r0 r1 Z4 b4 => ?_⟩
      obtain ⟨j, rfl⟩ : ∃ j : Nat, r = (j : Int) := ⟨_, (Int.toNat_of_nonneg r0).symm⟩
      have hl4 := b4 _ _ upd_same nl3.1 nl3.2.1
      have ht4 : H4 t = some (.tup (ns.map V.str)) := b4 _ _ (by rw [upd_ne (ne_of_none ht nl)]; exact ht) (Z3.p_ne ht).1 (Z3.p_ne ht).2
      obtain ⟨n, hn, n1, n2⟩ : ∃ n : Int, atI [V.int 4, V.int 12, V.int 41] (j : Int) = some (.int n) ∧ 1 ≤ n ∧ n ≤ 41 := by
        match j, (show j < 3 by omega) with
        | 0, _ => exact ⟨4, atI_nat rfl, by decide, by decide⟩
        | 1, _ => exact ⟨12, atI_nat rfl, by decide, by decide⟩
        | 2, _ => exact ⟨41, atI_nat rfl, by decide, by decide⟩
      refine ⟨l, _, _, _, rfl, rfl, SqL.of hl4, hn, p, g, s, n, rfl, Z4, n1, by omega, fun many H5 m0 m1 Z5 b5 => ?_⟩
      have ht5 := b5.tupP Z4 _ _ ht4
      refine ⟨many, rfl, by omega, by omega, fun q nq => ?_⟩
      have nq3 := Z5.free nq
      have ntq : t ≠ q := ne_of_none ht5 nq
      refine lc_range (lo := 0) (n := many.toNat) (fun i H6 => ∃ ts ds, H6 q = some (.lst ts) ∧ DeT H6 ts ds ∧ (∀ d ∈ ds, ∀ x ∈ d.ns, x ∈ ns) ∧ ds.length = i ∧ H6 t = some (.tup (ns.map V.str)) ∧ PotAt H6 p g s) ⟨[], [], upd_same, .nil, fun d m => (nomatch m), rfl, by rw [upd_ne ntq]; exact ht5, Z5.put nq3⟩ (fun i H6 hi w => ?_) fun H6 w => ?_
      · obtain ⟨ts, ds, hq6, dt6, nm6, l6, ht6, Z6⟩ := w
        refine ⟨rfl, _, rfl, _, rfl, p, g, s, t, ns, rfl, Z6, SqT.of ht6, l1, by omega, fun c d H7 hd nc hc Z7 b7 => ?_⟩
        have hq7 := b7 _ _ hq6 nq3.1 nq3.2.1
        have lts : ts.length = ds.length := Paired.length dt6
        refine ⟨ts, hq7, big1 (by omega), ts ++ [.ref c], ds ++ [d], upd_same, Paired.snoc ((dt6.but b7 Z6).keep fun t' xs k => ?_) ⟨c, rfl, ?_⟩, fun e he x hx => ?_, by rw [List.length_append, l6]; rfl, ?_, Z7.put nq3⟩
        · rw [upd_ne (fun z => by rw [z, hq7] at k; cases k)]; exact k
        · rw [upd_ne (fun z => by rw [z, hq7] at hc; cases hc)]; exact hc
        · rcases List.mem_append.mp he with k | k
          · exact nm6 e k x hx
          · rw [List.mem_singleton.mp k] at hx
            exact hd x hx
        · rw [upd_ne ntq]; exact b7.tupP Z6 _ _ ht6
      obtain ⟨ts, ds, hq6, dt6, nm6, l6, ht6, Z6⟩ := w
      have l6' : ds.length ≤ 41 := by omega
      -- the wheel
      refine ⟨fun σ H7 => ∃ y12 q ts ds, σ = [some (.ref a), some (.ref p), some (.int (0 + (i : Nat))), some (.ref t), some (.ref q), y5, y6, y7, y8, y9, y10, y11, y12] ∧ H7 q = some (.lst ts) ∧ DeT H7 ts ds ∧ (∀ d ∈ ds, ∀ x ∈ d.ns, x ∈ ns) ∧ ds.length ≤ 47 ∧ H7 t = some (.tup (ns.map V.str)) ∧ PotAt H7 p g s, ?_, ?_⟩
      · refine ⟨_, rfl, t, _, rfl, .inr (SqT.of ht6), _, _, rfl, rfl, _, rfl, ite2 (fun hc => ?_) (fun hc => ?_)⟩
        · have l4 : 4 ≤ ns.length := by
            have z : (3 : Int) < ((ns.map V.str).length : Nat) := of_decide_eq_true hc
            rw [List.length_map] at z
            omega
          refine ⟨_, rfl, p, g, s, 3, rfl, Z6, by decide, by decide, fun r2 H7 _ _ Z7 b7 => ⟨rfl, _, rfl, ?_⟩⟩
          have hq7 := b7 _ _ hq6 nq3.1 nq3.2.1
          have dt7 := dt6.but b7 Z6
          have ht7 := b7.tupP Z6 _ _ ht6
          refine ite2 (fun _ => ?_) (fun _ => ⟨_, q, ts, ds, rfl, hq7, dt7, nm6, by omega, ht7, Z7⟩)
          refine ⟨_, rfl, _, rfl, _, rfl, p, g, s, t, ns, rfl, Z7, SqT.of ht7, l4, by omega, fun c us es H8 dt8 nm8 l8 nc hc8 Z8 b8 => ?_⟩
          have hq8 := b8 _ _ hq7 nq3.1 nq3.2.1
          refine ⟨c, _, rfl, .inr (SqT.of hc8), fun u nu => ?_⟩
          have s89 := same_upd (o := .lst us) nu
          have l1' : ts.length = ds.length := Paired.length dt7
          have l2' : us.length = es.length := Paired.length dt8
          refine ⟨q, u, ts, us, rfl, rfl, s89 _ _ hq8, upd_same, Nat.le_of_lt (big1 (by omega)), fun v nv => ?_⟩
          have s8a := s89.trans (same_upd (o := .lst (ts ++ us)) nv)
          refine ⟨_, v, ts ++ us, ds ++ es, rfl, upd_same, Paired.app ((dt7.but b8 Z7).keep s8a.tupP) (dt8.keep s8a.tupP), fun d hd x hx => ?_, by rw [List.length_append]; omega, s8a _ _ (b8.tupP Z7 _ _ ht7), Z8.same s8a⟩
          rcases List.mem_append.mp hd with k | k
          · exact nm6 d k x hx
          · exact nm8 d k x hx
        · exact ⟨_, q, ts, ds, rfl, hq6, dt6, nm6, by omega, ht6, Z6⟩
      clear hq6 dt6 nm6 l6 ht6 Z6 l6' nq3 ntq ht5 hl4 ht4
      rintro σ H7 ⟨y12', q, ts, ds, rfl, hq7, dt7, nm7, l7', ht7, Z7⟩
      -- deeds = tuple(deeds)
      have lts : ts.length = ds.length := Paired.length dt7
      refine ⟨_, rfl, q, ts, rfl, .inl ⟨SqL.of hq7, fun b nb => ?_⟩⟩
      have s78 := same_upd (o := .tup ts) nb
      have hb8 : (upd H7 b (.tup ts)) b = some (.tup ts) := upd_same
      have dt8 := dt7.keep s78.tupP
      have ht8 := s78 _ _ ht7
      have Z8 := Z7.same s78
      generalize upd H7 b (.tup ts) = H8 at s78 hb8 dt8 ht8 Z8
      clear s78 hq7 dt7 ht7 Z7 nb
      have W := within_push ds nm7
      have mo := W.lo
      have sr : ∀ x ∈ ns, ∀ y, ((pushF ds) x).1 = some y → y ∈ ns := W.src
      have srk : ∀ x ∈ ns, ∀ y, ((pushF ds) x).1 = some y → nmB y = true := fun x m y e => ok y (sr x m y e)
      -- told
      refine ⟨_, rfl, _, rfl, t, b, ns, ts, ds, rfl, ht8, hb8, dt8, nd, ok, l1, by omega, nm7, fun d kd H9 s9 nd9 hd9 D9 => ?_⟩
      have ht9 := s9 _ _ ht8
      have hb9 := s9 _ _ hb8
      have dt9 := dt8.keep s9.tupP
      have Z9 := Z8.same s9
      clear s9
      -- told right
      refine ⟨_, rfl, _, rfl, _, rfl, t, b, ns, ts, ds, rfl, SqT.of ht9, SqT.of hb9, dt9, nd, by omega, nm7, by omega, fun e ke H10 s10 ne10 he10 D10 => ?_⟩
      refine ⟨d, e, kd, ke, ns, pushF ds, rfl, s10 _ _ hd9, he10, D9.keep s10.tupP, D10, nd, srk, fun H11 s11 => ⟨true, rfl, ?_⟩⟩
      have sb := s10.trans s11
      have ht11 := sb _ _ ht9
      have hb11 := sb _ _ hb9
      have dt11 := dt9.keep sb.tupP
      have hd11 := sb _ _ hd9
      have D11 := D9.keep sb.tupP
      have Z11 := Z9.same sb
      clear sb s10 s11 D10 he10 ne10 D9 hd9 Z9 dt9 hb9 ht9 dt8 hb8 ht8 Z8
      -- numbers
      intro nu nnu
      have ntu : t ≠ nu := ne_of_none ht11 nnu
      have nu3 := Z11.free nnu
      have ndu : d ≠ nu := ne_of_none hd11 nnu
      have s12 := same_upd (o := .dK []) nnu
      refine ⟨_, rfl, t, rfl, ⟨_, SqT.of (s12 _ _ ht11)⟩, for_tup (K := K) (a := t) (xs := ns.map V.str) (fun i' σ H12 => ∃ (y7 : Option V) (u : Str → Int) (kn : List (Key × V)), σ = [some (.ref a), some (.ref p), some (.int (0 + (i : Nat))), some (.ref t), some (.ref b), some (.ref d), some (.ref nu), y7, y8, y9, y10, y11, y12'] ∧ H12 nu = some (.dK kn) ∧ Dic (isNum u) H12 kn (ns.take i') ∧ (∀ x, 0 ≤ u x) ∧
          H12 t = some (.tup (ns.map V.str)) ∧ H12 b = some (.tup ts) ∧ DeT H12 ts ds ∧ H12 d = some (.dK kd) ∧ Dic (isPair (pushF ds)) H12 kd ns ∧ PotAt H12 p g s)
        ⟨_, fun _ => 0, [], rfl, upd_same, Dic.nil, fun _ => Int.le_refl _, s12 _ _ ht11, s12 _ _ hb11, dt11.keep s12.tupP, s12 _ _ hd11, D11.keep s12.tupP, Z11.same s12⟩ (fun _ _ _ _ q => by obtain ⟨_, _, _, _, _, _, _, q, _⟩ := q; exact SqT.of q) (fun i' v σ H12 hv w => ?_) fun σ H12 w => ?_⟩
      · obtain ⟨y7', u, kn, rfl, hn12, N12, u0, ht12, hb12, dt12, hd12, D12, Z12⟩ := w
        obtain ⟨x, hx, rfl⟩ := map_at hv
        refine ⟨_, rfl, p, g, s, rfl, Z12, fun z H13 z0 Z13 b13 => ?_⟩
        have hn13 := b13 _ _ hn12 nu3.1 nu3.2.1
        refine ⟨_, rfl, _, rfl, nu, _, rfl, DPut.k (k := Sum.inr x) hn13 (by rw [N12.len, List.length_take]; exact big1 (by omega)), ?_⟩
        have tk : ∀ t xs, H13 t = some (.tup xs) → (upd H13 nu (.dK (putK kn (Sum.inr x) (.int z)))) t = some (.tup xs) := fun t xs k => by rw [upd_ne (fun z => by rw [z, hn13] at k; cases k)]; exact k
        have hd13 := b13 _ _ hd12 (Z12.p_neD hd12).1 (Z12.p_neD hd12).2
        refine ⟨_, upF u x z, _, rfl, upd_same, ?_, fun y => ?_, tk _ _ (b13.tupP Z12 _ _ ht12), tk _ _ (b13.tupP Z12 _ _ hb12), (dt12.but b13 Z12).keep tk, by rw [upd_ne ndu]; exact hd13, (D12.keep (b13.tupP Z12)).keep tk, Z13.put nu3⟩
        · rw [take_next hx]
          have nx := nd_take nd hx
          refine N12.snoc nx (by show V.int z = V.int (upF u x z x); rw [upF_same]) fun y v ym g => ?_
          have g : v = V.int (u y) := g
          show v = V.int (upF u x z y)
          rw [upF_ne (fun e : y = x => nx (by rw [← e]; exact ym))]
          exact g
        · by_cases e : y = x
          · subst e; rw [upF_same]; exact z0
          · rw [upF_ne e]; exact u0 y
      obtain ⟨y7', u, kn, rfl, hn12, N12, u0, ht12, hb12, dt12, hd12, D12, Z12⟩ := w
      rw [List.length_map, List.take_length] at N12
      clear ht11 hb11 dt11 hd11 D11 Z11 s12
      -- kept, due
      refine ⟨_, rfl, nu, kn, rfl, .inl hn12, fun ke nke => ?_⟩
      have nke' : nu ≠ ke := ne_of_none hn12 nke
      refine ⟨_, rfl, nu, kn, rfl, .inl (by rw [upd_ne nke']; exact hn12), fun du ndu2 => ?_⟩
      have s13 := (same_upd (o := .dK kn) nke).trans (same_upd (o := .dK kn) ndu2)
      have hk13 : (upd (upd H12 ke (.dK kn)) du (.dK kn)) ke = some (.dK kn) := by rw [upd_ne (ne_of_none upd_same ndu2), upd_same]
      have hdu13 : (upd (upd H12 ke (.dK kn)) du (.dK kn)) du = some (.dK kn) := upd_same
      have ndu0 : H12 du = none := (same_upd nke).free ndu2
      have n1 : nu ≠ du := ne_of_none hn12 ndu0
      have n2 : ke ≠ du := ne_of_none upd_same ndu2
      have n3 : d ≠ du := ne_of_none hd12 ndu0
      have du3 := Z12.free ndu0
      have hn13 := s13 _ _ hn12
      have N13 : Dic (isNum u) (upd (upd H12 ke (.dK kn)) du (.dK kn)) kn ns := N12.num
      have ht13 := s13 _ _ ht12
      have hb13 := s13 _ _ hb12
      have dt13 := dt12.keep s13.tupP
      have hd13 := s13 _ _ hd12
      have D13 := D12.keep s13.tupP
      have Z13 := Z12.same s13
      generalize upd (upd H12 ke (.dK kn)) du (.dK kn) = H13 at s13 hk13 hdu13 hn13 N13 ht13 hb13 dt13 hd13 D13 Z13
      clear s13 hn12 N12 ht12 hb12 dt12 hd12 D12 Z12 nke ndu2 ndu0
      refine ⟨_, rfl, b, rfl, ⟨_, SqT.of hb13⟩, for_tup (K := K) (a := b) (xs := ts) (fun i' σ H14 => ∃ y10 kv, σ = [some (.ref a), some (.ref p), some (.int (0 + (i : Nat))), some (.ref t), some (.ref b), some (.ref d), some (.ref nu), y7', some (.ref ke), some (.ref du), y10, y11, y12'] ∧ H14 du = some (.dK kv) ∧ Dic (isNum ((ds.take i').foldl doF u)) H14 kv ns ∧ (∀ c o, c ≠ du → H13 c = some o → H14 c = some o))
        ⟨_, _, rfl, hdu13, N13, fun _ _ _ h => h⟩ (fun _ _ _ _ q => by obtain ⟨_, _, _, _, _, q⟩ := q; exact SqT.of (q b _ (fun z => by rw [z, hdu13] at hb13; cases hb13) hb13)) (fun i' v σ H14 hv w => ?_) fun σ H14 w => ?_⟩
      · obtain ⟨y10', kv, rfl, hdu14, N14, k14⟩ := w
        obtain ⟨e, he, t2, rfl, ht2⟩ := Paired.get dt13 hv
        refine ⟨_, rfl, _, rfl, du, t2, kv, ns, _, e, rfl, hdu14, N14, k14 _ _ (fun z => by rw [z, hdu13] at ht2; cases ht2) ht2, nm7 e (at_mem he), by omega, fun kv' H15 e15 N15 => ?_⟩
        subst e15
        refine ⟨_, kv', rfl, upd_same, ?_, fun c o n h => by rw [upd_ne n]; exact k14 c o n h⟩
        rw [take_next he, List.foldl_append]
        exact N15
      obtain ⟨y10', kv, rfl, hdu14, N14, k14⟩ := w
      rw [lts, List.take_length, ← ev_push] at N14
      have tk14 : ∀ t xs, H13 t = some (.tup xs) → H14 t = some (.tup xs) := fun t xs k => k14 _ _ (fun z => by rw [z, hdu13] at k; cases k) k
      have ht14 := tk14 _ _ ht13
      have hb14 := tk14 _ _ hb13
      have dt14 := dt13.keep tk14
      have hd14 := k14 _ _ n3 hd13
      have D14 := D13.keep tk14
      have hn14 := k14 _ _ n1 hn13
      have hk14 := k14 _ _ n2 hk13
      have N14' : Dic (isNum u) H14 kn ns := N13.num
      have Z14 : PotAt H14 p g s := by
        obtain ⟨⟨gs, ss, lap, qq, hp, hg, hs, r⟩, k1, k2, k3⟩ := Z13
        exact ⟨⟨gs, ss, lap, qq, k14 _ _ du3.1.symm hp, k14 _ _ du3.2.1.symm hg, k14 _ _ du3.2.2.symm hs, r⟩, k1, k2, k3⟩
      clear Z13 N13 hn13 D13 hd13 dt13 hb13 ht13 hk13 hdu13 tk14 k14
      -- pushed
      refine ⟨_, rfl, _, rfl, d, nu, kd, kn, ns, pushF ds, u, rfl, hd14, D14, hn14, N14', ndu, nd, l1, by omega, ok, sr, mo, fun x _ => u0 x, fun f1 kf H15 s15 nf15 hf15 N15 => ?_⟩
      obtain ⟨c1, c2⟩ := nums_same (K := K) N15 (N14.num (H' := H15)) nd
      refine ⟨_, rfl, f1, du, kf, kv, rfl, rfl, hf15, s15 _ _ hdu14, c1, c2, _, rfl, ?_⟩
      obtain ⟨c3, c4⟩ := nums_same (K := K) (N14'.num (H' := H15)) (N14'.num (H' := H15)) nd
      refine ⟨_, rfl, _, rfl, nu, ke, kn, kn, rfl, rfl, s15 _ _ hn14, s15 _ _ hk14, c3, c4, _, rfl, ?_⟩
      have ht15 := s15 _ _ ht14
      have hb15 := s15 _ _ hb14
      have dt15 := dt14.keep s15.tupP
      have hd15 := s15 _ _ hd14
      have D15 := D14.keep s15.tupP
      have Z15 := Z14.same s15
      clear c1 c2 c3 c4 N15 hf15 nf15 s15 Z14 N14 N14' hk14 hn14 D14 hd14 dt14 hb14 ht14 hdu14
      -- at
      refine ⟨_, rfl, _, rfl, b, _, rfl, .inr (SqT.of hb15), _, _, rfl, rfl, p, g, s, _, rfl, Z15, by omega, (by omega : ((ts.length : Nat) : Int) + 1 < 1073741824), fun r2 H16 q0 q1 Z16 b16 => ?_⟩
      obtain ⟨at_, rfl⟩ : ∃ j : Nat, r2 = (j : Int) := ⟨_, (Int.toNat_of_nonneg q0).symm⟩
      have ht16 := b16.tupP Z15 _ _ ht15
      have hb16 := b16.tupP Z15 _ _ hb15
      have dt16 := dt15.but b16 Z15
      have hd16 := b16 _ _ hd15 (Z15.p_neD hd15).1 (Z15.p_neD hd15).2
      have D16 := D15.keep (b16.tupP Z15)
      clear b16 D15 hd15 dt15 hb15 ht15 Z15
      -- the two parts
      refine ⟨_, rfl, _, rfl, _, rfl, at_, rfl, slT hb16 fun c H17 s17 hc17 => ?_⟩
      rw [cut_take] at hc17
      refine ⟨t, c, ns, ts.take at_, ds.take at_, rfl, s17 _ _ ht16, hc17, Paired.takeP at_ (dt16.keep s17.tupP), nd, ok, l1, by omega, fun d m => nm7 d (List.mem_of_mem_take m), fun d1 k1 H18 s18 nd1 hd1 D1 => ?_⟩
      have s1618 := s17.trans s18
      refine ⟨_, rfl, _, rfl, _, rfl, at_, rfl, ?_⟩
      dsimp only [tNoPart]
      refine slT (s1618 _ _ hb16) fun c' H19 s19 hc19 => ?_
      rw [cut_drop] at hc19
      have s1619 := s1618.trans s19
      refine ⟨t, c', ns, ts.drop at_, ds.drop at_, rfl, s1619 _ _ ht16, hc19, Paired.dropP at_ (dt16.keep s1619.tupP), nd, ok, l1, by omega, fun d m => nm7 d (List.mem_of_mem_drop m), fun d2 k2 H20 s20 nd2 hd2 D2 => ?_⟩
      have s1820 := s19.trans s20
      have W1 := within_push (ds.take at_) fun d m => nm7 d (List.mem_of_mem_take m)
      have W2 := within_push (ds.drop at_) fun d m => nm7 d (List.mem_of_mem_drop m)
      have hd1' := s1820 _ _ hd1
      refine ⟨d1, d2, k1, k2, ns, ns, _, _, rfl, hd1', D1.keep s1820.tupP, hd2, D2, ne_of_none (s19 _ _ hd1) nd2, nd, List.Perm.refl _, l1, by omega, ok, W1.src, W1.lo, W2.src, W2.lo, fun f2 k3 H21 s21 nf2 hf2 D3 => ?_⟩
      rw [then_push, List.take_append_drop] at D3
      have s1621 := (s1618.trans s1820).trans s21
      have hd21 := s1621 _ _ hd16
      obtain ⟨c1, c2⟩ := dicts_same (K := K) D3 (D16.keep s1621.tupP) nd srk
      refine ⟨_, rfl, f2, d, k3, kd, rfl, rfl, hf2, hd21, c1, c2, _, rfl, ?_⟩
      have ht21 := s1621 _ _ ht16
      have hb21 := s1621 _ _ hb16
      have dt21 := dt16.keep s1621.tupP
      have Z21 := Z16.same s1621
      have d3 := Z21.p_neD hd21
      clear c1 c2 D3 hf2 nf2 s1621 s21 D2 hd2 nd2 s20 s1820 s19 s1619 s1618 s18 s17 hd1' D1 hd1 nd1 hc17 hc19 D16 hd16 dt16 hb16 ht16 Z16
      have nds : d ≠ s := by
        obtain ⟨⟨gs, ss, lap, qq, hp, hg, hs, r⟩, k1, k2, k3⟩ := Z21
        exact ne_of hd21 hs fun z => nomatch z
      -- told.clear()
      refine ⟨_, rfl, .inr (.inr (.inl ⟨rfl, .inl ⟨_, hd21⟩⟩)), d, kd, rfl, rfl, hd21, ?_⟩
      have tk22 : ∀ t xs, H21 t = some (.tup xs) → (upd H21 d (.dK [])) t = some (.tup xs) := fun t xs k => by rw [upd_ne (fun z => by rw [z, hd21] at k; cases k)]; exact k
      have ht22 := tk22 _ _ ht21
      have hb22 := tk22 _ _ hb21
      have dt22 := dt21.keep tk22
      have Z22 : PotAt (upd H21 d (.dK [])) p g s := Z21.put ⟨d3.1, d3.2, nds⟩
      generalize upd H21 d (.dK []) = H22 at ht22 hb22 dt22 Z22
      refine ⟨_, rfl, _, rfl, t, b, ns, ts, ds, rfl, ht22, hb22, dt22, nd, ok, l1, by omega, nm7, fun d5 k5 H23 s23 nd5 hd5 D5 => ?_⟩
      refine ⟨_, rfl, _, rfl, t, b, ns, ts, ds, rfl, SqT.of (s23 _ _ ht22), SqT.of (s23 _ _ hb22), dt22.keep s23.tupP, nd, by omega, nm7, by omega, fun d6 k6 H24 s24 nd6 hd6 D6 => ?_⟩
      obtain ⟨c1, c2⟩ := dicts_same (K := K) (D5.keep s24.tupP) D6 nd srk
      refine ⟨d5, d6, k5, k6, rfl, rfl, s24 _ _ hd5, hd6, c1, c2, _, rfl, ?_⟩
      exact ⟨_, _, _, _, _, _, _, _, _, _, _, rfl, (Z22.same s23).same s24⟩
    · rintro σ H2 ⟨y2, y3, y4, y5, y6, y7, y8, y9, y10, y11, y12, rfl, Z2⟩
      exact kk H2
end
end Y

namespace Y
open PySem PySem.Spec PyProof.Rows L2
/-- a def of the text as the top leaves it -/
def DefAt (K : PySem.W.Frag) (x : Str) (st : Stmt) : Prop := ∃ (f : Addr) (fd : FuncData), PySem.W.nsIn K mainGlobals x = some (some (.ref f)) ∧ Fun K x x st f fd
theorem defAt_mk {K : PySem.W.Frag} {x : Str} {st : Stmt} {f : Addr} {od an : Option Addr} {sl : Array (Option Value)} {oc kV dc pm cd ct : Value} (a : PySem.W.nsIn K mainGlobals x = some (some (.ref f)))
    (l : K.lookup f = some ⟨oc, od, .func (PySem.W.fnOf x x (defArgs st) (defBody st) (defScope st) .none kV dc pm an cd ct), sl⟩) (c : PySem.W.codeIn K cd x = true) (k : PySem.W.keepIn K (.ref f) = true) : DefAt K x st :=
  ⟨f, _, a, fun_mk (st := st) l c k⟩
theorem all_mk {l : PySem.W.OpenLaw} {w : World} {K : PySem.W.Frag} {h : Heap} {mg : Str → Option Value} {fa : Addr} {t_MOST_LETTERS : Tok} {a_DEED_LENGTHS : Addr} {e_DEED_LENGTHS : Array DictEntry} {n_DEED_LENGTHS : Nat} {t1 t2 t3 : Tok} (X : K.In h) (G : h.Ns mainGlobals mg) (hfa : mg "law" = some (.ref fa))
    (d0 : DefAt K "_law_draw" s_l_draw)
    (d1 : DefAt K "_law_pot" s_l_pot)
    (d2 : DefAt K "_law_any" s_l_any)
    (d3 : DefAt K "_law_mixed" s_l_mixed)
    (d4 : DefAt K "_law_push_names" s_l_push_names)
    (d5 : DefAt K "_law_deed" s_l_deed)
    (d6 : DefAt K "_law_is_int" s_l_is_int)
    (d7 : DefAt K "_law_great" s_l_great)
    (d8 : DefAt K "_law_do" s_l_do)
    (d9 : DefAt K "is_integer" s_is_integer)
    (d10 : DefAt K "is_number" s_is_number)
    (d11 : DefAt K "is_name" s_is_name)
    (d12 : DefAt K "is_name_tuple" s_is_name_tuple)
    (d13 : DefAt K "_has" s_has)
    (d14 : DefAt K "_is_pair_in" s_is_pair_in)
    (d15 : DefAt K "is_dict_of" s_is_dict_of)
    (d16 : DefAt K "is_deed" s_is_deed)
    (d17 : DefAt K "first_wrong_deed" s_first_wrong_deed)
    (d18 : DefAt K "is_deed_tuple" s_is_deed_tuple)
    (d19 : DefAt K "is_push" s_is_push)
    (d20 : DefAt K "_still" s_still)
    (d21 : DefAt K "_pair_behind" s_pair_behind)
    (d22 : DefAt K "push_of" s_push_of)
    (d23 : DefAt K "pushed" s_pushed)
    (d24 : DefAt K "_then" s_then)
    (d25 : DefAt K "one_more" s_one_more)
    (d26 : DefAt K "_law_wheel" s_l_wheel)
    (d27 : DefAt K "_law_push_by" s_l_push_by)
    (d28 : DefAt K "_law_push_told" s_l_push_told)
    (d29 : DefAt K "law" s_law)
    (z_len : PySem.W.nsIn K mainGlobals "len" = some none)
    (z_int_ : PySem.W.nsIn K mainGlobals "int" = some none)
    (z_abs : PySem.W.nsIn K mainGlobals "abs" = some none)
    (z_sum : PySem.W.nsIn K mainGlobals "sum" = some none)
    (z_list_ : PySem.W.nsIn K mainGlobals "list" = some none)
    (z_tuple_ : PySem.W.nsIn K mainGlobals "tuple" = some none)
    (z_range : PySem.W.nsIn K mainGlobals "range" = some none)
    (z_isinstance : PySem.W.nsIn K mainGlobals "isinstance" = some none)
    (z_str_ : PySem.W.nsIn K mainGlobals "str" = some none)
    (z_bool_ : PySem.W.nsIn K mainGlobals "bool" = some none)
    (z_dict_ : PySem.W.nsIn K mainGlobals "dict" = some none)
    (z_all : PySem.W.nsIn K mainGlobals "all" = some none)
    (z_set_ : PySem.W.nsIn K mainGlobals "set" = some none)
    (z_enumerate : PySem.W.nsIn K mainGlobals "enumerate" = some none)
    (q_MOST_LETTERS : PySem.W.nsIn K mainGlobals "MOST_LETTERS" = some (some (.int 8 t_MOST_LETTERS)))
    (q_DEED_LENGTHS : PySem.W.nsIn K mainGlobals "DEED_LENGTHS" = some (some (.ref a_DEED_LENGTHS)))
    (l_DEED_LENGTHS : K.lookup a_DEED_LENGTHS = some ⟨.type "dict", none, .dict e_DEED_LENGTHS n_DEED_LENGTHS, #[]⟩)
    (k_DEED_LENGTHS : PySem.W.KeysLit w.params e_DEED_LENGTHS.toList)
    (s_DEED_LENGTHS : (a_DEED_LENGTHS == sysModules) = false)
    (v0_DEED_LENGTHS : PySem.W.nsIn K a_DEED_LENGTHS "zero" = some (some (.int 2 t1)))
    (v1_DEED_LENGTHS : PySem.W.nsIn K a_DEED_LENGTHS "copy" = some (some (.int 3 t2)))
    (v2_DEED_LENGTHS : PySem.W.nsIn K a_DEED_LENGTHS "more" = some (some (.int 2 t3)))
    : ∃ fd : FuncData, (∀ (s : Shared) (v : Value), BindsTo s fd ⟨[v], []⟩ [("_law_script", v)]) ∧ ∀ base : Heap, K.In base → base.Ns mainGlobals mg → FnOk l.prog w K mg base CX0 6 fa fd ["_law_script"] (spLaw K) := by
  have T : Bi mg := ⟨PySem.W.mg_none_of X G z_len, PySem.W.mg_none_of X G z_int_, PySem.W.mg_none_of X G z_abs, PySem.W.mg_none_of X G z_sum, PySem.W.mg_none_of X G z_list_, PySem.W.mg_none_of X G z_tuple_, PySem.W.mg_none_of X G z_range, PySem.W.mg_none_of X G z_isinstance, PySem.W.mg_none_of X G z_str_, PySem.W.mg_none_of X G z_bool_, PySem.W.mg_none_of X G z_dict_, PySem.W.mg_none_of X G z_all, PySem.W.mg_none_of X G z_set_, PySem.W.mg_none_of X G z_enumerate⟩
  have c_MOST_LETTERS := PySem.W.mg_of X G q_MOST_LETTERS
  have c_DEED_LENGTHS := PySem.W.mg_of X G q_DEED_LENGTHS
  have L_DEED_LENGTHS : Dls K w mg a_DEED_LENGTHS e_DEED_LENGTHS n_DEED_LENGTHS := ⟨c_DEED_LENGTHS, ⟨l_DEED_LENGTHS, k_DEED_LENGTHS, s_DEED_LENGTHS⟩, ⟨_, v0_DEED_LENGTHS⟩, ⟨_, v1_DEED_LENGTHS⟩, ⟨_, v2_DEED_LENGTHS⟩⟩
  obtain ⟨f0, fd0, a0, F0⟩ := d0
  have b0 := F0.binds (ps := ["_law_pot_here", "_law_many"]) fun _ _ _ _ _ _ us hl => match us, hl with | [_, _], _ => rfl
  obtain ⟨f1, fd1, a1, F1⟩ := d1
  have b1 := F1.binds (ps := ["_law_script"]) fun _ _ _ _ _ _ us hl => match us, hl with | [_], _ => rfl
  obtain ⟨f2, fd2, a2, F2⟩ := d2
  have b2 := F2.binds (ps := ["_law_pot_here", "_law_items"]) fun _ _ _ _ _ _ us hl => match us, hl with | [_, _], _ => rfl
  obtain ⟨f3, fd3, a3, F3⟩ := d3
  have b3 := F3.binds (ps := ["_law_pot_here", "_law_items"]) fun _ _ _ _ _ _ us hl => match us, hl with | [_, _], _ => rfl
  obtain ⟨f4, fd4, a4, F4⟩ := d4
  have b4 := F4.binds (ps := ["_law_pot_here"]) fun _ _ _ _ _ _ us hl => match us, hl with | [_], _ => rfl
  obtain ⟨f5, fd5, a5, F5⟩ := d5
  have b5 := F5.binds (ps := ["_law_pot_here", "_law_names"]) fun _ _ _ _ _ _ us hl => match us, hl with | [_, _], _ => rfl
  obtain ⟨f6, fd6, a6, F6⟩ := d6
  have b6 := F6.binds (ps := ["_law_thing"]) fun _ _ _ _ _ _ us hl => match us, hl with | [_], _ => rfl
  obtain ⟨f7, fd7, a7, F7⟩ := d7
  have b7 := F7.binds (ps := ["_law_pot_here"]) fun _ _ _ _ _ _ us hl => match us, hl with | [_], _ => rfl
  obtain ⟨f8, fd8, a8, F8⟩ := d8
  have b8 := F8.binds (ps := ["_law_numbers", "_law_deed_here"]) fun _ _ _ _ _ _ us hl => match us, hl with | [_, _], _ => rfl
  obtain ⟨f9, fd9, a9, F9⟩ := d9
  have b9 := F9.binds (ps := ["thing"]) fun _ _ _ _ _ _ us hl => match us, hl with | [_], _ => rfl
  obtain ⟨f10, fd10, a10, F10⟩ := d10
  have b10 := F10.binds (ps := ["thing"]) fun _ _ _ _ _ _ us hl => match us, hl with | [_], _ => rfl
  obtain ⟨f11, fd11, a11, F11⟩ := d11
  have b11 := F11.binds (ps := ["thing"]) fun _ _ _ _ _ _ us hl => match us, hl with | [_], _ => rfl
  obtain ⟨f12, fd12, a12, F12⟩ := d12
  have b12 := F12.binds (ps := ["thing"]) fun _ _ _ _ _ _ us hl => match us, hl with | [_], _ => rfl
  obtain ⟨f13, fd13, a13, F13⟩ := d13
  have b13 := F13.binds (ps := ["push", "thing"]) fun _ _ _ _ _ _ us hl => match us, hl with | [_, _], _ => rfl
  obtain ⟨f14, fd14, a14, F14⟩ := d14
  have b14 := F14.binds (ps := ["push", "thing"]) fun _ _ _ _ _ _ us hl => match us, hl with | [_, _], _ => rfl
  obtain ⟨f15, fd15, a15, F15⟩ := d15
  have b15 := F15.binds (ps := ["names", "thing"]) fun _ _ _ _ _ _ us hl => match us, hl with | [_, _], _ => rfl
  obtain ⟨f16, fd16, a16, F16⟩ := d16
  have b16 := F16.binds (ps := ["thing"]) fun _ _ _ _ _ _ us hl => match us, hl with | [_], _ => rfl
  obtain ⟨f17, fd17, a17, F17⟩ := d17
  have b17 := F17.binds (ps := ["things"]) fun _ _ _ _ _ _ us hl => match us, hl with | [_], _ => rfl
  obtain ⟨f18, fd18, a18, F18⟩ := d18
  have b18 := F18.binds (ps := ["thing"]) fun _ _ _ _ _ _ us hl => match us, hl with | [_], _ => rfl
  obtain ⟨f19, fd19, a19, F19⟩ := d19
  have b19 := F19.binds (ps := ["thing"]) fun _ _ _ _ _ _ us hl => match us, hl with | [_], _ => rfl
  obtain ⟨f20, fd20, a20, F20⟩ := d20
  have b20 := F20.binds (ps := ["names"]) fun _ _ _ _ _ _ us hl => match us, hl with | [_], _ => rfl
  obtain ⟨f21, fd21, a21, F21⟩ := d21
  have b21 := F21.binds (ps := ["push", "deed"]) fun _ _ _ _ _ _ us hl => match us, hl with | [_, _], _ => rfl
  obtain ⟨f22, fd22, a22, F22⟩ := d22
  have b22 := F22.binds (ps := ["names", "deeds"]) fun _ _ _ _ _ _ us hl => match us, hl with | [_, _], _ => rfl
  obtain ⟨f23, fd23, a23, F23⟩ := d23
  have b23 := F23.binds (ps := ["push", "numbers"]) fun _ _ _ _ _ _ us hl => match us, hl with | [_, _], _ => rfl
  obtain ⟨f24, fd24, a24, F24⟩ := d24
  have b24 := F24.binds (ps := ["push", "other"]) fun _ _ _ _ _ _ us hl => match us, hl with | [_, _], _ => rfl
  obtain ⟨f25, fd25, a25, F25⟩ := d25
  have b25 := F25.binds (ps := ["push", "other"]) fun _ _ _ _ _ _ us hl => match us, hl with | [_, _], _ => rfl
  obtain ⟨f26, fd26, a26, F26⟩ := d26
  have b26 := F26.binds (ps := ["_law_pot_here", "_law_names"]) fun _ _ _ _ _ _ us hl => match us, hl with | [_, _], _ => rfl
  obtain ⟨f27, fd27, a27, F27⟩ := d27
  have b27 := F27.binds (ps := ["_law_names", "_law_deeds"]) fun _ _ _ _ _ _ us hl => match us, hl with | [_, _], _ => rfl
  obtain ⟨f28, fd28, a28, F28⟩ := d28
  have b28 := F28.binds (ps := ["_law_told", "_law_due"]) fun _ _ _ _ _ _ us hl => match us, hl with | [_, _], _ => rfl
  obtain ⟨f29, fd29, a29, F29⟩ := d29
  have e := hfa.symm.trans (PySem.W.mg_of X G a29)
  cases e
  refine ⟨fd29, fun s v => ?_, fun base _ _ => ?_⟩
  · obtain ⟨oc, od, kV, doc, pm, an, cdv, ct, osl, rfl, lk, hcd⟩ := F29.ex
    exact .of_eq rfl
  have D_l_draw : Has l.prog w K mg base "_law_draw" 1 ["_law_pot_here", "_law_many"] spDraw := .mk' (PySem.W.mg_of X G a0) (ok_draw F0 T) b0 F0.kp
  have D_l_pot : Has l.prog w K mg base "_law_pot" 1 ["_law_script"] (spPot K) := .mk' (PySem.W.mg_of X G a1) (ok_pot F1 T) b1 F1.kp
  have D_l_any : Has l.prog w K mg base "_law_any" 2 ["_law_pot_here", "_law_items"] (spAny K) := .mk' (PySem.W.mg_of X G a2) (ok_any F2 T D_l_draw) b2 F2.kp
  have D_l_mixed : Has l.prog w K mg base "_law_mixed" 2 ["_law_pot_here", "_law_items"] (spMixed K) := .mk' (PySem.W.mg_of X G a3) (ok_mixed F3 T D_l_draw) b3 F3.kp
  have D_l_push_names : Has l.prog w K mg base "_law_push_names" 3 ["_law_pot_here"] spPushNames := .mk' (PySem.W.mg_of X G a4) (ok_push_names F4 T D_l_draw D_l_mixed) b4 F4.kp
  have D_l_deed : Has l.prog w K mg base "_law_deed" 3 ["_law_pot_here", "_law_names"] (spDeed K) := .mk' (PySem.W.mg_of X G a5) (ok_ldeed F5 T D_l_draw D_l_any) b5 F5.kp
  have D_l_is_int : Has l.prog w K mg base "_law_is_int" 1 ["_law_thing"] spIsInt := .mk' (PySem.W.mg_of X G a6) (ok_lis_int F6 T) b6 F6.kp
  have D_l_great : Has l.prog w K mg base "_law_great" 2 ["_law_pot_here"] spGreat := .mk' (PySem.W.mg_of X G a7) (ok_great F7 T D_l_draw) b7 F7.kp
  have D_l_do : Has l.prog w K mg base "_law_do" 1 ["_law_numbers", "_law_deed_here"] spDo := .mk' (PySem.W.mg_of X G a8) (ok_do F8 T) b8 F8.kp
  have D_is_integer : Has l.prog w K mg base "is_integer" 1 ["thing"] spIsInt := .mk' (PySem.W.mg_of X G a9) (ok_is_integer F9 T) b9 F9.kp
  have D_is_number : Has l.prog w K mg base "is_number" 2 ["thing"] spIsNum := .mk' (PySem.W.mg_of X G a10) (ok_is_number F10 D_is_integer) b10 F10.kp
  have D_is_name : Has l.prog w K mg base "is_name" 1 ["thing"] spIsName := .mk' (PySem.W.mg_of X G a11) (ok_is_name F11 T c_MOST_LETTERS) b11 F11.kp
  have D_is_name_tuple : Has l.prog w K mg base "is_name_tuple" 2 ["thing"] (spIsNameTuple K) := .mk' (PySem.W.mg_of X G a12) (ok_is_name_tuple F12 T D_is_name) b12 F12.kp
  have D_has : Has l.prog w K mg base "_has" 1 ["push", "thing"] spHas := .mk' (PySem.W.mg_of X G a13) (ok_has F13 T) b13 F13.kp
  have D_is_pair_in : Has l.prog w K mg base "_is_pair_in" 3 ["push", "thing"] spIsPair := .mk' (PySem.W.mg_of X G a14) (ok_is_pair_in F14 T D_has D_is_number) b14 F14.kp
  have D_is_dict_of : Has l.prog w K mg base "is_dict_of" 1 ["names", "thing"] spIsDictOf := .mk' (PySem.W.mg_of X G a15) (ok_is_dict_of F15 T) b15 F15.kp
  have D_is_deed : Has l.prog w K mg base "is_deed" 2 ["thing"] spIsDeed := .mk' (PySem.W.mg_of X G a16) (ok_is_deed F16 T L_DEED_LENGTHS D_is_name) b16 F16.kp
  have D_first_wrong_deed : Has l.prog w K mg base "first_wrong_deed" 3 ["things"] (spFirstWrong K) := .mk' (PySem.W.mg_of X G a17) (ok_first_wrong F17 T D_is_deed) b17 F17.kp
  have D_is_deed_tuple : Has l.prog w K mg base "is_deed_tuple" 4 ["thing"] (spIsDeedTuple K) := .mk' (PySem.W.mg_of X G a18) (ok_is_deed_tuple F18 T D_first_wrong_deed) b18 F18.kp
  have D_is_push : Has l.prog w K mg base "is_push" 4 ["thing"] spIsPush := .mk' (PySem.W.mg_of X G a19) (ok_is_push F19 T D_is_name D_is_pair_in) b19 F19.kp
  have D_still : Has l.prog w K mg base "_still" 1 ["names"] (spStill K) := .mk' (PySem.W.mg_of X G a20) (ok_still F20 T) b20 F20.kp
  have D_pair_behind : Has l.prog w K mg base "_pair_behind" 1 ["push", "deed"] spPairBehind := .mk' (PySem.W.mg_of X G a21) (ok_pair_behind F21 T) b21 F21.kp
  have D_push_of : Has l.prog w K mg base "push_of" 5 ["names", "deeds"] (spPushOf K) := .mk' (PySem.W.mg_of X G a22) (ok_push_of F22 T D_is_name_tuple D_is_deed_tuple D_still D_pair_behind) b22 F22.kp
  have D_pushed : Has l.prog w K mg base "pushed" 5 ["push", "numbers"] spPushed := .mk' (PySem.W.mg_of X G a23) (ok_pushed F23 T D_is_push D_is_dict_of D_is_number) b23 F23.kp
  have D_then : Has l.prog w K mg base "_then" 1 ["push", "other"] spThen := .mk' (PySem.W.mg_of X G a24) (ok_then F24 T) b24 F24.kp
  have D_one_more : Has l.prog w K mg base "one_more" 5 ["push", "other"] spOneMore := .mk' (PySem.W.mg_of X G a25) (ok_one_more F25 T D_is_push D_is_dict_of D_then) b25 F25.kp
  have D_l_wheel : Has l.prog w K mg base "_law_wheel" 3 ["_law_pot_here", "_law_names"] (spWheel K) := .mk' (PySem.W.mg_of X G a26) (ok_wheel F26 T D_l_draw D_l_mixed) b26 F26.kp
  have D_l_push_by : Has l.prog w K mg base "_law_push_by" 2 ["_law_names", "_law_deeds"] (spPushBy K) := .mk' (PySem.W.mg_of X G a27) (ok_push_by F27 T D_l_do) b27 F27.kp
  have D_l_push_told : Has l.prog w K mg base "_law_push_told" 2 ["_law_told", "_law_due"] spPushTold := .mk' (PySem.W.mg_of X G a28) (ok_push_told F28 T D_l_is_int) b28 F28.kp
  exact ok_law F29 T D_l_pot D_l_draw D_l_push_names D_l_deed D_l_wheel D_push_of D_l_push_told D_l_push_by D_l_great D_l_do D_pushed D_one_more
end Y
open PySem PySem.W PyProof.Rows
set_option maxHeartbeats 0 in
theorem PySem.Challenge.cw_flatrounds_k24_whole_pushes_of_deeds_holds : PySem.Challenge.rw_flatrounds_k24_whole_pushes_of_deeds.Holds := by
  w_on; o_law; k_head; (case hw => w_witness2)
  k_fill
  refine L2.walk_of (l := PySem.Challenge.rw_flatrounds_k24_whole_pushes_of_deeds) (n := 63) (k := 6) (x := "_law_script") (CX := fun _ => L2.CX0) (sp := fun w => Y.spLaw _) rfl (by decide) rfl ⟨rfl, by decide, by decide⟩ (fun w h Y => PySem.W.kIn_of Y) ?F (fun _ _ a ns hl _ hS => ⟨a, ns, rfl, hS, hl, fun _ => rfl⟩) (fun _ _ _ _ _ h => h)
  case F =>
    intro w mg fa h KX G hmg
    refine' Y.all_mk KX G hmg ?d0 ?d1 ?d2 ?d3 ?d4 ?d5 ?d6 ?d7 ?d8 ?d9 ?d10 ?d11 ?d12 ?d13 ?d14 ?d15 ?d16 ?d17 ?d18 ?d19 ?d20 ?d21 ?d22 ?d23 ?d24 ?d25 ?d26 ?d27 ?d28 ?d29 ?z_len ?z_int_ ?z_abs ?z_sum ?z_list_ ?z_tuple_ ?z_range ?z_isinstance ?z_str_ ?z_bool_ ?z_dict_ ?z_all ?z_set_ ?z_enumerate ?q_MOST_LETTERS ?q_DEED_LENGTHS ?l_DEED_LENGTHS ?k_DEED_LENGTHS ?s_DEED_LENGTHS ?v0_DEED_LENGTHS ?v1_DEED_LENGTHS ?v2_DEED_LENGTHS
    (case d0 => refine' Y.defAt_mk ?a0 ?l0 ?c0 ?k0; (case a0 => k_is); (case l0 => k_is); (case c0 => k_is); (case k0 => k_is))
    (case d1 => refine' Y.defAt_mk ?a1 ?l1 ?c1 ?k1; (case a1 => k_is); (case l1 => k_is); (case c1 => k_is); (case k1 => k_is))
    (case d2 => refine' Y.defAt_mk ?a2 ?l2 ?c2 ?k2; (case a2 => k_is); (case l2 => k_is); (case c2 => k_is); (case k2 => k_is))
    (case d3 => refine' Y.defAt_mk ?a3 ?l3 ?c3 ?k3; (case a3 => k_is); (case l3 => k_is); (case c3 => k_is); (case k3 => k_is))
    (case d4 => refine' Y.defAt_mk ?a4 ?l4 ?c4 ?k4; (case a4 => k_is); (case l4 => k_is); (case c4 => k_is); (case k4 => k_is))
    (case d5 => refine' Y.defAt_mk ?a5 ?l5 ?c5 ?k5; (case a5 => k_is); (case l5 => k_is); (case c5 => k_is); (case k5 => k_is))
    (case d6 => refine' Y.defAt_mk ?a6 ?l6 ?c6 ?k6; (case a6 => k_is); (case l6 => k_is); (case c6 => k_is); (case k6 => k_is))
    (case d7 => refine' Y.defAt_mk ?a7 ?l7 ?c7 ?k7; (case a7 => k_is); (case l7 => k_is); (case c7 => k_is); (case k7 => k_is))
    (case d8 => refine' Y.defAt_mk ?a8 ?l8 ?c8 ?k8; (case a8 => k_is); (case l8 => k_is); (case c8 => k_is); (case k8 => k_is))
    (case d9 => refine' Y.defAt_mk ?a9 ?l9 ?c9 ?k9; (case a9 => k_is); (case l9 => k_is); (case c9 => k_is); (case k9 => k_is))
    (case d10 => refine' Y.defAt_mk ?a10 ?l10 ?c10 ?k10; (case a10 => k_is); (case l10 => k_is); (case c10 => k_is); (case k10 => k_is))
    (case d11 => refine' Y.defAt_mk ?a11 ?l11 ?c11 ?k11; (case a11 => k_is); (case l11 => k_is); (case c11 => k_is); (case k11 => k_is))
    (case d12 => refine' Y.defAt_mk ?a12 ?l12 ?c12 ?k12; (case a12 => k_is); (case l12 => k_is); (case c12 => k_is); (case k12 => k_is))
    (case d13 => refine' Y.defAt_mk ?a13 ?l13 ?c13 ?k13; (case a13 => k_is); (case l13 => k_is); (case c13 => k_is); (case k13 => k_is))
    (case d14 => refine' Y.defAt_mk ?a14 ?l14 ?c14 ?k14; (case a14 => k_is); (case l14 => k_is); (case c14 => k_is); (case k14 => k_is))
    (case d15 => refine' Y.defAt_mk ?a15 ?l15 ?c15 ?k15; (case a15 => k_is); (case l15 => k_is); (case c15 => k_is); (case k15 => k_is))
    (case d16 => refine' Y.defAt_mk ?a16 ?l16 ?c16 ?k16; (case a16 => k_is); (case l16 => k_is); (case c16 => k_is); (case k16 => k_is))
    (case d17 => refine' Y.defAt_mk ?a17 ?l17 ?c17 ?k17; (case a17 => k_is); (case l17 => k_is); (case c17 => k_is); (case k17 => k_is))
    (case d18 => refine' Y.defAt_mk ?a18 ?l18 ?c18 ?k18; (case a18 => k_is); (case l18 => k_is); (case c18 => k_is); (case k18 => k_is))
    (case d19 => refine' Y.defAt_mk ?a19 ?l19 ?c19 ?k19; (case a19 => k_is); (case l19 => k_is); (case c19 => k_is); (case k19 => k_is))
    (case d20 => refine' Y.defAt_mk ?a20 ?l20 ?c20 ?k20; (case a20 => k_is); (case l20 => k_is); (case c20 => k_is); (case k20 => k_is))
    (case d21 => refine' Y.defAt_mk ?a21 ?l21 ?c21 ?k21; (case a21 => k_is); (case l21 => k_is); (case c21 => k_is); (case k21 => k_is))
    (case d22 => refine' Y.defAt_mk ?a22 ?l22 ?c22 ?k22; (case a22 => k_is); (case l22 => k_is); (case c22 => k_is); (case k22 => k_is))
    (case d23 => refine' Y.defAt_mk ?a23 ?l23 ?c23 ?k23; (case a23 => k_is); (case l23 => k_is); (case c23 => k_is); (case k23 => k_is))
    (case d24 => refine' Y.defAt_mk ?a24 ?l24 ?c24 ?k24; (case a24 => k_is); (case l24 => k_is); (case c24 => k_is); (case k24 => k_is))
    (case d25 => refine' Y.defAt_mk ?a25 ?l25 ?c25 ?k25; (case a25 => k_is); (case l25 => k_is); (case c25 => k_is); (case k25 => k_is))
    (case d26 => refine' Y.defAt_mk ?a26 ?l26 ?c26 ?k26; (case a26 => k_is); (case l26 => k_is); (case c26 => k_is); (case k26 => k_is))
    (case d27 => refine' Y.defAt_mk ?a27 ?l27 ?c27 ?k27; (case a27 => k_is); (case l27 => k_is); (case c27 => k_is); (case k27 => k_is))
    (case d28 => refine' Y.defAt_mk ?a28 ?l28 ?c28 ?k28; (case a28 => k_is); (case l28 => k_is); (case c28 => k_is); (case k28 => k_is))
    (case d29 => refine' Y.defAt_mk ?a29 ?l29 ?c29 ?k29; (case a29 => k_is); (case l29 => k_is); (case c29 => k_is); (case k29 => k_is))
    (case z_len => k_is)
    (case z_int_ => k_is)
    (case z_abs => k_is)
    (case z_sum => k_is)
    (case z_list_ => k_is)
    (case z_tuple_ => k_is)
    (case z_range => k_is)
    (case z_isinstance => k_is)
    (case z_str_ => k_is)
    (case z_bool_ => k_is)
    (case z_dict_ => k_is)
    (case z_all => k_is)
    (case z_set_ => k_is)
    (case z_enumerate => k_is)
    (case q_MOST_LETTERS => k_is)
    (case q_DEED_LENGTHS => k_is)
    (case l_DEED_LENGTHS => k_is)
    (case k_DEED_LENGTHS => k_keys)
    (case s_DEED_LENGTHS => first | k_is | rfl | decide)
    (case v0_DEED_LENGTHS => k_is)
    (case v1_DEED_LENGTHS => k_is)
    (case v2_DEED_LENGTHS => k_is)
