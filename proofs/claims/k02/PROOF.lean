import PyProof.Rows.All
import Wide.All
import OpenK.AllK
import Wide.FinOn
import HandS.ForMost
import HandS.Walk
import HandS.IsInst
import HandS.DictComp
import HandS.TupAny
import HandS.Finally
import HandS.More
import HandS.Codes
import KE.GoesEnum
import KE.KEqDict
import HandS.SetKeys
import HandS.Strs
import HandS.SetFor
import PySem.Challenge.RW_flatrounds_k02_whole_programs_kept_and_e
import HandS.Set
import HandS.OwnEq
import HandS.Style
set_option Elab.async false
set_option linter.all false
set_option maxRecDepth 100000
set_option maxHeartbeats 8000000
namespace Y
open PySem PySem.Spec PyProof.Rows L2

/-- the def under the name x of the module keeps a promise -/
structure Has (P : Program) (w : World) (K : PySem.W.Frag) (mg : Str → Option Value) (base : Heap) (x : Str) (k : Nat) (ps : List Str) (sp : Sp) : Prop where
  ex : ∃ (f : Addr) (fd : FuncData), mg x = some (.ref f) ∧ FnOk P w K mg base CX0 k f fd ps sp ∧ Binds K fd ps [] ∧ PySem.W.keepIn K (.ref f) = true
section
variable {X : Cx} {k : Nat} {ps : List Str} {sp : Sp} {x : Str} {p pos : Pos} {e : Expr} {es : List Expr} {t : TA}
def tGo (sp : Sp) (t : TA) : TE := fun σ H Q => t σ H fun vs H1 => sp vs H1 Q E0
theorem Has.call (h : Has X.prog X.w X.K X.mg X.base x k ps sp) (hr : Room k X.A) (hg : Gl X x) (ha : PA X (e :: es) t) (hdb : (x == ("__debug__" : Str)) = false := by decide)
    (he : starEach (e :: es) X.env = (false, eval e X.env) :: starEach es X.env := by rfl) (hpl : (backTo pos (starEach es X.env)).any (·.1) = false := by rfl) : PE X (.Call (.Name x p) (e :: es) [] pos) (tGo sp t) := by
  obtain ⟨f, fd, hm, F, hb, hk⟩ := h.ex
  have q := pe_call (dvs := []) (p := p) (pos := pos) F hr hg hm hk hb .nil pass0 ha hdb he hpl
  refine ⟨fun pins s σ H Q I hw => q.run pins s σ H Q I ?_⟩
  have e0 : tCall sp [] E0 t = tGo sp t := by
    funext σ' H' Q'
    show (t σ' H' fun vs H1 => sp (vs ++ []) H1 Q' E0) = t σ' H' fun vs H1 => sp vs H1 Q' E0
    congr 1
    funext vs H1
    rw [List.append_nil]
  rw [e0]
  exact hw
theorem Has.call0 (h : Has X.prog X.w X.K X.mg X.base x k ps sp) (hr : Room k X.A) (hg : Gl X x) (hdb : (x == ("__debug__" : Str)) = false := by decide) : PE X (.Call (.Name x p) [] [] pos) (tGo sp tNil) := by
  obtain ⟨f, fd, hm, F, hb, hk⟩ := h.ex
  exact pe_call0 (dvs := []) F hr hg hm hk hb .nil pass0 hdb
end
theorem Has.mk' {P : Program} {w : World} {K : PySem.W.Frag} {mg : Str → Option Value} {base : Heap} {x : Str} {k : Nat} {ps : List Str} {sp : Sp} {f : Addr} {fd : FuncData} (hm : mg x = some (.ref f)) (F : FnOk P w K mg base CX0 k f fd ps sp) (b : Binds K fd ps []) (hk : PySem.W.keepIn K (.ref f) = true) :
    Has P w K mg base x k ps sp := ⟨f, fd, hm, F, b, hk⟩

/-! ### heaps -/
theorem same_upd {H : Hp} {p : Addr} {o : HO} (h : H p = none) : Same H (upd H p o) := fun b x e => by
  rw [upd_ne (ne_of_none e h)]
  exact e
/-- all that was tracked is as it was, but for what stands at the two places -/
def But (p g : Addr) (H H' : Hp) : Prop := ∀ b o, H b = some o → b ≠ p → b ≠ g → H' b = some o
theorem But.refl {p g : Addr} (H : Hp) : But p g H H := fun _ _ h _ _ => h
theorem But.trans {p g : Addr} {H H1 H2 : Hp} (a : But p g H H1) (b : But p g H1 H2) : But p g H H2 := fun c o h n m => b c o (a c o h n m) n m
theorem But.of {p g : Addr} {H H' : Hp} (s : Same H H') : But p g H H' := fun b o h _ _ => s b o h
theorem But.seq {p g : Addr} {K : PySem.W.Frag} {H H' : Hp} {a : Addr} {xs : List V} (e : But p g H H') (hp : H p ≠ none → a ≠ p) (hg : H g ≠ none → a ≠ g) (h : SqL K H a xs) : SqL K H' a xs := by
  have ne : ∀ {o}, H a = some o → a ≠ p ∧ a ≠ g := fun {o} q => ⟨fun z => hp (by rw [← z, q]; exact fun y => nomatch y) z, fun z => hg (by rw [← z, q]; exact fun y => nomatch y) z⟩
  rcases h with (h | ⟨o, h⟩) | h
  · exact .inl (.inl (e _ _ h (ne h).1 (ne h).2))
  · exact .inl (.inr ⟨o, e _ _ h (ne h).1 (ne h).2⟩)
  · exact .inr h
theorem _root_.L2.Same.tup {K : PySem.W.Frag} {H H' : Hp} {a : Addr} {xs : List V} (e : Same H H') (h : SqT K H a xs) : SqT K H' a xs := by
  rcases h with (h | ⟨o, h⟩) | h
  · exact .inl (.inl (e _ _ h))
  · exact .inl (.inr ⟨o, e _ _ h⟩)
  · exact .inr h

/-! ### numbers that are drawn -/
structure PotAt (H : Hp) (p g s : Addr) : Prop where
  ex : ∃ (gs ss : List Int) (lap q : Int), H p = some (.lst [.ref g, .ref s, .int lap, .int q]) ∧ H g = some (.lst (gs.map V.int)) ∧ H s = some (.lst (ss.map V.int)) ∧
    0 < ss.length ∧ 0 ≤ lap ∧ (∀ x ∈ gs, 0 ≤ x) ∧ (∀ x ∈ ss, 0 ≤ x) ∧ 0 ≤ q ∧ gs.length ≤ 63 ∧ ss.length ≤ 64
  pg : p ≠ g
  ps : p ≠ s
  gs : g ≠ s
theorem ixN_nat {n j : Nat} (h : j < n) : ixN n (j : Int) = some j := by
  unfold ixN
  rw [if_pos (Int.natCast_nonneg j), if_pos (by omega)]
  rfl
theorem at_mem {α : Type} {xs : List α} {i : Nat} {x : α} (h : xs[i]? = some x) : x ∈ xs := by
  obtain ⟨h1, e⟩ := List.getElem?_eq_some_iff.mp h
  rw [← e]
  exact List.getElem_mem h1
theorem map_at {α : Type} {f : α → V} {xs : List α} {i : Nat} {y : V} (h : (xs.map f)[i]? = some y) : ∃ x, xs[i]? = some x ∧ y = f x := by
  rw [List.getElem?_map] at h
  cases e : xs[i]? with
  | none => rw [e] at h; cases h
  | some x => rw [e] at h; exact ⟨x, rfl, (Option.some.inj h).symm⟩
end Y
namespace Y
open PySem PySem.Spec PyProof.Rows L2
theorem _root_.L2.Same.put {H H1 : Hp} {D : Addr} {o : HO} (s : Same H H1) (n : H D = none) : Same H (upd H1 D o) := fun b u e => by
  rw [upd_ne (ne_of_none e n)]
  exact s b u e
theorem _root_.L2.Same.freeOf {H H1 : Hp} {D : Addr} (s : Same H H1) (n : H1 D = none) : H D = none := s.free n
theorem cut_all {xs : List V} {n : Nat} (h : xs.length ≤ n) : cutV xs none (some (n : Int)) = xs := by
  unfold cutV
  rw [HT.sIx_none, show HT.sIx xs.length xs.length (some (n : Int)) = min n xs.length from HT.sIx_nat xs.length xs.length n, Nat.min_eq_right h, Nat.sub_zero, List.drop_zero, List.take_length]
theorem cut_take {xs : List V} {n : Nat} : cutV xs none (some (n : Int)) = xs.take n := by
  unfold cutV
  rw [HT.sIx_none, show HT.sIx xs.length xs.length (some (n : Int)) = min n xs.length from HT.sIx_nat xs.length xs.length n, Nat.sub_zero, List.drop_zero]
  rw [List.take_eq_take_iff]
  omega
theorem cut_drop {xs : List V} {n : Nat} : cutV xs (some (n : Int)) none = xs.drop n := by
  unfold cutV
  rw [HT.sIx_none, show HT.sIx xs.length 0 (some (n : Int)) = min n xs.length from HT.sIx_nat xs.length 0 n]
  by_cases h : n ≤ xs.length
  · rw [Nat.min_eq_left h, ← List.length_drop, List.take_length]
  · rw [Nat.min_eq_right (by omega), Nat.sub_self, List.take_zero, List.drop_eq_nil_iff.mpr (by omega)]
theorem take_next {α : Type} {xs : List α} {i : Nat} {x : α} (h : xs[i]? = some x) : xs.take (i + 1) = xs.take i ++ [x] := by
  rw [List.take_add_one, h]
  rfl
theorem big1 {n : Nat} (h : n ≤ 1000000) : n < sizeLine := Nat.lt_of_le_of_lt h (by decide)
theorem sum_nn : ∀ {l : List Int}, (∀ x ∈ l, 0 ≤ x) → 0 ≤ l.sum
  | [], _ => Int.le_refl _
  | a :: r, h => by
    have ih := sum_nn (l := r) fun x m => h x (List.mem_cons_of_mem _ m)
    have := h a List.mem_cons_self
    rw [List.sum_cons]
    omega
end Y

namespace Y
open PySem PySem.Spec PyProof.Rows L2
/-! ### D.get(e), D a written dict with text keys -/
section
variable {X : Cx} {d : Addr} {es : Array DictEntry} {n : Nat} {o e : Expr} {td ty : TE} {apos cpos : Pos}
def tKGet (K : PySem.W.Frag) (d : Addr) (td ty : TE) : TE := fun σ H Q => td σ H fun x H1 => x = .ref d ∧ ty σ H1 fun y H2 => ∃ (z : Str) (r : Option Value) (v : V), y = .str z ∧ PySem.W.nsIn K d z = some r ∧ RelV v (r.getD .none) ∧ Q v H2
theorem pe_kget1 (D : KDict X.K X.w d es n) (ho : PE X o td) (he : PE X e ty) (m : M1 X o "get" apos e cpos) : PE X (.Call (.Attribute o "get" apos) [e] [] cpos) (tKGet X.K d td ty) := by
  refine ⟨fun pins s σ H Q I h => ?_⟩
  have kd : ∀ {s' : Shared} {H' : Hp}, Inv X pins σ H' s' → s'.heap.get? d = some ⟨.type "dict", none, .dict es n, #[]⟩ := fun J => J.kIn _ _ D.at_
  refine wpAny_Call_method m.base m.few m.line PySem.F.plainAttrs_dict PySem.F.slot_dict_get PySem.F.type_dict_get (thn (ho.run pins s σ H _ I h) fun u0 sa ⟨x, Ha, Ia, rx, ex, qa⟩ => ?_)
  subst ex
  obtain rfl : u0 = Value.ref d := rx
  refine ⟨⟨_, kd Ia, rfl⟩, fun b eb => ?_, ?_⟩
  · injection eb with eb'
    subst eb'
    exact ⟨_, kd Ia, rfl⟩
  rw [m.trees]
  refine Calls.callWith_builtin rfl (Calls.evalArgs_plain (Calls.spliced_cons (thn (he.run pins sa σ Ha _ Ia qa) fun uz sb ⟨y, Hb, Ib, ry, z, r, v, ey, ns, rv, qb⟩ => Calls.spliced_nil ?_)))
  subst ey
  obtain ⟨tz, rfl⟩ : ∃ t, uz = Value.str z t := ry
  have mp := PySem.W.mapOf_K (prog := X.prog) (w := X.w) Ib.kIn D.at_ D.lit
  refine call_meetsIn PySem.F.slot_dict_get mp.typeIs PySem.F.entry_dict_get (PySem.F.args_dict_get_2 _ _) (meets_dict_get (PySem.strKind X.prog X.w) d (PySem.strKind_is X.prog X.w z tz) D.low) ⟨_, mp, v, Hb, Ib.tok _, ?_, qb⟩
  show RelV v ((findBy Value.isStrOf es z).getD .none)
  rw [PySem.W.find_K D.at_ ns]
  exact rv
end
/-! ### dicts whose values are data, compared -/
theorem hits_data {P : Program} {w : World} {K : PySem.W.Frag} {H : Hp} {X : Cx} {pins : List (Addr × Obj)} {σ : L2.St} {s : Shared} {A : Around} (I : Inv X pins σ H s) (hA : A.in1.units + 64 < cLine) {ls : List (Key × V)} {vb : List (Key × Value)} (rb : KV ls vb) {ks : List (Key × V)} {va : List (Key × Value)} (ra : KV ks va) :
    (∀ p ∈ ks, ∃ u d, valV ls p.1 = some u ∧ Dp X.K H p.2 d ∧ Dp X.K H u d ∧ SeqAt.shaped d = true) → PySem.W.KeqHits A.in1 s vb va true := by
  unfold KV at ra
  induction ra with
  | nil => exact fun _ => .nil
  | @cons p q ps qs hd tl ih =>
    intro hall
    obtain ⟨kk, vv⟩ := q
    obtain ⟨hk, hv⟩ := hd
    obtain ⟨u, d, eu, d1, d2, sh⟩ := hall p List.mem_cons_self
    have rl : RelO (some u) (valueAt vb p.1) := by rw [← eu]; exact rb.val p.1
    obtain ⟨yy, hy, ry⟩ := rl.some_of
    have hk' : p.1 = kk := hk
    rw [hk'] at hy
    obtain ⟨as, r1⟩ := Dp.reads I d p.2 vv d1 hv
    obtain ⟨bs, r2⟩ := Dp.reads I d u yy d2 ry
    have eqd := PySem.W.keq_at r1 r2 sh sh hA
    rw [SeqAt.eqv_refl _ (SeqAt.canLay_of_shaped sh)] at eqd
    have fin := PySem.W.KeqHits.hit hy eqd (ih fun p' m => hall p' (List.mem_cons_of_mem _ m))
    exact fin
section
variable {X : Cx}
def rDicts (K : PySem.W.Frag) (ans : Bool) : R2 := fun x y H Q => ∃ (a b : Addr) (ks ls : List (Key × V)), x = .ref a ∧ y = .ref b ∧ H a = some (.dK ks) ∧ H b = some (.dK ls) ∧ ks.length = ls.length ∧
  (∀ p ∈ ks, ∃ u d, valV ls p.1 = some u ∧ Dp K H p.2 d ∧ Dp K H u d ∧ SeqAt.shaped d = true) ∧ Q (.bl ans) H
theorem op_eqDicts (hu : X.A.units + 66 < cLine) : OpR X (compareOp .Eq) (rDicts X.K true) := by
  intro pins s σ H x y v u Q I rx ry h
  obtain ⟨a, b, ks, ls, rfl, rfl, ea, eb, hlen, hall, q⟩ := h
  obtain rfl : v = Value.ref a := rx
  obtain rfl : u = Value.ref b := ry
  obtain ⟨_, na, va, ra, da⟩ := (show ObjOk X.prog X.w H s.heap a (.dK ks) from I.hok a _ ea)
  obtain ⟨_, nb, vb, rb, db⟩ := (show ObjOk X.prog X.w H s.heap b (.dK ls) from I.hok b _ eb)
  have hl : va.length = vb.length := by rw [← ra.length, ← rb.length]; exact hlen
  exact PySem.W.keq_eq (knd := mixKind X.prog X.w) (r := true) na nb da db (by omega) (fun _ => hits_data (P := X.prog) (w := X.w) (K := X.K) I (by show X.A.units + 1 + 64 < cLine; omega) rb ra hall) (fin_bl I q (by simp [hl]))
theorem op_neDicts (hu : X.A.units + 66 < cLine) : OpR X (compareOp .NotEq) (rDicts X.K false) := by
  intro pins s σ H x y v u Q I rx ry h
  obtain ⟨a, b, ks, ls, rfl, rfl, ea, eb, hlen, hall, q⟩ := h
  obtain rfl : v = Value.ref a := rx
  obtain rfl : u = Value.ref b := ry
  obtain ⟨_, na, va, ra, da⟩ := (show ObjOk X.prog X.w H s.heap a (.dK ks) from I.hok a _ ea)
  obtain ⟨_, nb, vb, rb, db⟩ := (show ObjOk X.prog X.w H s.heap b (.dK ls) from I.hok b _ eb)
  have hl : va.length = vb.length := by rw [← ra.length, ← rb.length]; exact hlen
  exact PySem.W.keq_ne (knd := mixKind X.prog X.w) (r := true) na nb da db (by omega) (fun _ => hits_data (P := X.prog) (w := X.w) (K := X.K) I (by show X.A.units + 1 + 64 < cLine; omega) rb ra hall) (fin_bl I q (by simp [hl]))
end
end Y

namespace Y
open PySem PySem.Spec PyProof.Rows L2
/-! ### enumerate(v), v told by how its iterator begins -/
theorem meets_enum_one {v : Value} {ob : Obj} {G : Heap → Prop} (B : Begins v ob G) :
    Meets (Builtin.«enumerate.__new__» ⟨[.type "enumerate", v], []⟩) (fun _ R st => G st.heap ∧
      R (.ok (.ret (.ref (st.heap.push ob).objs.size))) { st with heap := (st.heap.push ob).push { cls := .type "enumerate", data := .fields #[.none, .bool false, .ref st.heap.objs.size, rawInt 0, .none, .none] } }) :=
  .of_wp fun prog w A R st h => by
    obtain ⟨hp, gg, dd, tk, os⟩ := st
    obtain ⟨g1, h⟩ := h
    have hsub := sub_enumerate
    have pit : ∀ {A' : Around} {E : Value → Shared → Prop} {Q : Value → Shared → Prop}, Q (.ref hp.objs.size) ⟨hp.push ob, gg, dd, tk, os⟩ → wpAny (model prog w) A' (pyIter v) Q E ⟨hp, gg, dd, tk, os⟩ :=
      fun q => B.iter prog w _ _ ⟨hp, gg, dd, tk, os⟩ _ g1 q
    wp_walk using pit
    refine wpAny_stack_any fun sk => wpAny_pure ?_
    split
    · rename_i c _ _ _ _ _
      cases (c == Value.type "enumerate")
      all_goals
        wp_walk using pit
        exact ⟨_, rfl, h⟩
    · wp_walk using pit
      exact ⟨_, rfl, h⟩
section
variable {prog : Program} {w : World} {A : Around} {E : Value → Shared → Prop} {s : Shared}
theorem enum_one {v : Value} {ob : Obj} {G : Heap → Prop} {Q : Value → Shared → Prop} (B : Begins v ob G) (g1 : G s.heap)
    (h : ∀ h2, IsEnum h2 (s.heap.objs.size + 1) s.heap.objs.size 0 .none → h2.get? s.heap.objs.size = some ob → (∀ b o, s.heap.get? b = some o → h2.get? b = some o) → Q (.ref (s.heap.objs.size + 1)) { s with heap := h2 }) :
    wpAny (model prog w) A (call (.type "enumerate") [v]) Q E s := by
  refine callType_new F.called_enumerate (by decide) (F.typeCall_enumerate_1 _) (F.newCall_enumerate_1 _) (fun self => F.args_object_init_2 self _) F.entry_enumerate_new (meets_enum_one B) ⟨g1, ?_⟩
  have sz1 : (s.heap.push ob).objs.size = s.heap.objs.size + 1 := Heap.size_push ..
  show _ ∧ _
  rw [sz1]
  have at1 : IsEnum ((s.heap.push ob).push { cls := .type "enumerate", data := .fields #[.none, .bool false, .ref s.heap.objs.size, rawInt 0, .none, .none] }) (s.heap.objs.size + 1) s.heap.objs.size 0 .none := by
    have q := Heap.get?_push_size (s.heap.push ob) (o := { cls := .type "enumerate", data := .fields #[.none, .bool false, .ref s.heap.objs.size, rawInt 0, .none, .none] }) rfl
    rw [sz1] at q
    exact q
  exact ⟨⟨_, at1, rfl⟩, h _ at1 (Heap.get?_push_of_some _ (Heap.get?_push_size _ B.free)) fun b o e => Heap.get?_push_of_some _ (Heap.get?_push_of_some _ e)⟩
end
/-- the tuple at a, each item in a new pair with its number -/
def ItE (K : PySem.W.Frag) (a : Addr) : It :=
  ⟨fun i H => ∃ (xs : List V) (x : V), SqT K H a xs ∧ xs[i]? = some x,
   fun i H v H' => ∃ T x, v = .ref T ∧ H T = none ∧ H' = upd H T (.tup [.int (i : Nat), x]) ∧ ∀ xs, SqT K H a xs → xs[i]? = some x,
   fun i H => ∃ xs : List V, SqT K H a xs ∧ xs.length = i⟩
theorem turn_enumT {P : Program} {w : World} {K : PySem.W.Frag} {elts : List Expr} {kk : Nat} {tpos : Pos} (a e it : Addr) :
    Turn P w K (.Tuple elts kk tpos) (ItE K a) [e, it] e (fun i h => (∃ old, IsEnum h e it ((i : Nat) : Int) old) ∧ h.IsTupleIter it a i ∧ e ≠ it ∧ a ≠ it ∧ a ≠ e) where
  mem := by simp
  obj := fun i h st b hb => by
    obtain ⟨⟨old, he⟩, ⟨ob, ho, hc, hd⟩, _⟩ := st
    rcases (by simpa using hb : b = e ∨ b = it) with z | z
    · subst z
      exact ⟨_, he, fun v q => nomatch q⟩
    · subst z
      exact ⟨ob, ho, fun v q => by rw [hd] at q; cases q⟩
  keep := fun i h h' st k => by
    obtain ⟨⟨old, he⟩, hi, n1, n2, n3⟩ := st
    exact ⟨⟨old, k e (by simp) _ he⟩, hi.at fun ob q => k it (by simp) ob q, n1, n2, n3⟩
  item := by
    intro X hP hw hK hc i pins s σ H E I hf st hg
    subst hP hw hK
    obtain ⟨⟨old, he⟩, hit, n1, n2, n3⟩ := st
    obtain ⟨xs, x, hq, hx⟩ := hg
    obtain ⟨its, rv, tp, _⟩ := I.tuple hq
    obtain ⟨u, hu, ru⟩ := rv.get hx
    have lte : e < s.heap.objs.size := Heap.lt_size he
    have lti : it < s.heap.objs.size := by obtain ⟨_, q, _⟩ := hit; exact Heap.lt_size q
    have D := Draws.tuple (prog := X.prog) (w := X.w) (A := X.A.in1) (show X.A.in1.handled = none from by simpa using I.ok.hd hc) it a n2 its.toArray
    refine wpAny_pyNext_enum_itemC (c := (i : Int)) D he ⟨hit, tp⟩ (by rw [List.size_toArray]; exact (List.getElem?_eq_some_iff.mp hu).1) n1 (by simp [n1, n3.symm]) fun y h1 tk hy ho hst hT hsz hk => ?_
    have ey : y = u := by
      have q : its.toArray[i]? = some y := hy
      rw [List.getElem?_toArray, hu] at q
      exact (Option.some.inj q).symm
    subst ey
    refine ⟨_, rfl, wpAny_letOwnedTupleGo_enum (s := { s with heap := h1, toks := tk + 1 }) ho fun h2 he2 sb => ?_⟩
    have hT2 : h2.get? s.heap.objs.size = some { cls := .type "tuple", data := .seq #[.int i tk, y] } := (sb.2 _ (Nat.ne_of_gt lte)).trans hT
    have new : ObjOk X.prog X.w (upd H s.heap.objs.size (.tup [.int (i : Nat), x])) h2 s.heap.objs.size (.tup [.int (i : Nat), x]) :=
      ⟨by show 2 ≤ sizeLine; decide, [.int i tk, y], .cons ⟨_, rfl⟩ (.cons ru .nil), ⟨_, hT2, rfl, _, rfl⟩⟩
    have J : L2.Inv X pins σ (upd H s.heap.objs.size (.tup [.int (i : Nat), x])) { s with heap := h2, toks := tk + 1 } :=
      I.turnedNew (ch := [e, it]) (fun b ob hb q => (sb.2 b (fun z => hb (by simp [z]))).trans (hk b ob (fun z => hb (by simp [z])) (fun z => hb (by simp [z])) q)) hf (Nat.le_refl _) new
    have st2 : (∃ old', IsEnum h2 e it (((i + 1 : Nat)) : Int) old') ∧ h2.IsTupleIter it a (i + 1) ∧ e ≠ it ∧ a ≠ it ∧ a ≠ e := by
      refine ⟨⟨y, ?_⟩, hst.1.at fun ob q => (sb.2 it n1.symm).trans q, n1, n2, n3⟩
      rw [show ((i + 1 : Nat) : Int) = (i : Int) + 1 by omega]
      exact he2
    refine ⟨.ref s.heap.objs.size, _, J, rfl, ⟨_, x, rfl, I.hok.fresh (Nat.le_refl _), rfl, fun ys hy2 => by rw [I.tuple_inj hy2 hq]; exact hx⟩, st2, fun b hb => ?_⟩
    have lb : b < s.heap.objs.size := by
      rcases (by simpa using hb : b = e ∨ b = it) with z | z
      · rw [z]; exact lte
      · rw [z]; exact lti
    rw [upd_ne (Nat.ne_of_lt lb)]
    exact (hf b hb).1
  done := by
    intro X hP hw hK hc i pins s σ H E I hf st hg
    subst hP hw hK
    obtain ⟨⟨old, he⟩, hit, n1, n2, n3⟩ := st
    obtain ⟨xs, hq, hx⟩ := hg
    obtain ⟨its, rv, tp, _⟩ := I.tuple hq
    obtain ⟨f0, f1, f2, f3, f4, f5⟩ := hf it (by simp)
    have hl : its.toArray.size = i := by rw [List.size_toArray, ← rv.length]; exact hx
    have D := Draws.tuple (prog := X.prog) (w := X.w) (A := X.A.in1) (show X.A.in1.handled = none from by simpa using I.ok.hd hc) it a n2 its.toArray
    refine wpAny_pyNext_enum_endD D he ⟨by rw [hl]; exact hit, tp⟩ fun h' eb => ⟨rfl, I.turned (t' := s.toks) (fun b o hb q => eb b o hb q) f0 f1 f3 f4 f5⟩
  self := fun A i s Q E st h => by
    obtain ⟨⟨old, he⟩, _⟩ := st
    exact wpAny_pyIter_enum he h
def iEnT (K : PySem.W.Frag) (ta : TA) : TI := fun σ H R => ta σ H fun vs H1 => ∃ a xs, vs = [.ref a] ∧ SqT K H1 a xs ∧ R (ItE K a) H1
theorem pi_enumT {X : Cx} {e : Expr} {ta : TA} {p pos tpos : Pos} {elts : List Expr} {kk : Nat} (hg : Gl X "enumerate") (hm : X.mg "enumerate" = none) (ha : PA X [e] ta) (hs : starEach [e] X.env = [(false, eval e X.env)] := by rfl) :
    PI X (.Tuple elts kk tpos) (.Call (.Name "enumerate" p) [e] [] pos) (iEnT X.K ta) := by
  refine ⟨fun pins s σ H R I h => ?_⟩
  refine Call_ (ld_blt I hg hm boot_enumerate (PyProof.Rows.callWith_type1 (thn (ha.run pos pins s σ H _ I h) fun us sa ⟨vs, Ha, Ia, ra, qa⟩ => ?_) hs rfl))
  obtain ⟨a, xs, ex, hq, q⟩ := qa
  subst ex
  cases ra with
  | cons r rr =>
    cases rr
    cases r
    obtain ⟨its, rv, tp, _⟩ := Ia.tuple hq
    have lta : a < sa.heap.objs.size := by obtain ⟨_, z, _⟩ := tp; exact Heap.lt_size z
    refine enum_one (begins_tuple a its.toArray) tp fun h2 he hit hk => wpAny_pyIter_enum he ?_
    have J : L2.Inv X pins σ Ha { sa with heap := h2 } := Ia.kept (t' := sa.toks) hk
    refine ⟨sa.heap.objs.size + 1, [sa.heap.objs.size + 1, sa.heap.objs.size], _, _, Ha, rfl, J, turn_enumT a (sa.heap.objs.size + 1) sa.heap.objs.size, ⟨⟨.none, he⟩, ⟨_, hit, rfl, rfl⟩, Nat.succ_ne_self _, Nat.ne_of_lt lta, Nat.ne_of_lt (Nat.lt_succ_of_lt lta)⟩, fun b hb => ?_, q⟩
    have le : sa.heap.objs.size ≤ b := by
      rcases (by simpa using hb : b = sa.heap.objs.size + 1 ∨ b = sa.heap.objs.size) with z | z
      · rw [z]; exact Nat.le_add_right _ _
      · rw [z]; exact Nat.le_refl _
    exact Ia.fpOk le (Ia.hok.fresh le)
theorem walk_enumT {K : PySem.W.Frag} {a : Addr} {xs : List V} : Walk (ItE K a) xs.length (fun H => SqT K H a xs) (YPair (fun i => some (.int (i : Nat))) (fun i => xs[i]?)) := by
  refine ⟨fun i _ hi q => ⟨xs, xs[i], q, by simp [hi]⟩, fun _ q => ⟨xs, q, rfl⟩, fun i H v H' _ q y => ?_⟩
  obtain ⟨T, x, h1, h2, h3, h4⟩ := y
  exact ⟨T, .int (i : Nat), x, h1, h2, h3, rfl, h4 xs q⟩
end Y

namespace Y
open PySem PySem.Spec PyProof.Rows L2
/-! ### items, each once -/
def isIn {α : Type} [DecidableEq α] (l : List α) (x : α) : Bool := l.any fun y => decide (y = x)
theorem isIn_iff {α : Type} [DecidableEq α] {l : List α} {x : α} : isIn l x = true ↔ x ∈ l := by
  unfold isIn
  rw [List.any_eq_true]
  exact ⟨fun ⟨y, m, e⟩ => of_decide_eq_true e ▸ m, fun m => ⟨x, m, decide_eq_true rfl⟩⟩
def stp {α : Type} [DecidableEq α] (acc : List α) (x : α) : List α := if isIn acc x = true then acc else acc ++ [x]
def uqF {α : Type} [DecidableEq α] : List α → List α → List α
  | acc, [] => acc
  | acc, x :: r => uqF (stp acc x) r
def uq {α : Type} [DecidableEq α] (l : List α) : List α := uqF [] l
section
variable {α : Type} [DecidableEq α]
theorem mem_stp {acc : List α} {x y : α} : y ∈ stp acc x ↔ y ∈ acc ∨ y = x := by
  unfold stp
  by_cases h : isIn acc x = true
  · rw [if_pos h]
    exact ⟨.inl, fun k => k.elim id fun e => by rw [e]; exact isIn_iff.mp h⟩
  · rw [if_neg h, List.mem_append, List.mem_singleton]
theorem mem_uqF : ∀ {l acc : List α} {y : α}, y ∈ uqF acc l ↔ y ∈ acc ∨ y ∈ l
  | [], acc, y => by simp [uqF]
  | x :: r, acc, y => by
    show y ∈ uqF (stp acc x) r ↔ _
    rw [mem_uqF, mem_stp, List.mem_cons, or_assoc]
theorem mem_uq {l : List α} {y : α} : y ∈ uq l ↔ y ∈ l := by
  unfold uq
  rw [mem_uqF]
  simp
theorem uqF_snoc : ∀ {l acc : List α} {x : α}, uqF acc (l ++ [x]) = stp (uqF acc l) x
  | [], _, _ => rfl
  | _ :: r, acc, x => by
    show uqF _ (r ++ [x]) = _
    rw [uqF_snoc]
    rfl
theorem uq_snoc {l : List α} {x : α} : uq (l ++ [x]) = if isIn l x = true then uq l else uq l ++ [x] := by
  show uqF [] (l ++ [x]) = _
  rw [uqF_snoc]
  unfold stp
  have h : x ∈ uqF [] l ↔ x ∈ l := mem_uq
  by_cases k : isIn l x = true
  · rw [if_pos (isIn_iff.mpr (h.mpr (isIn_iff.mp k))), if_pos k]; rfl
  · rw [if_neg fun z => k (isIn_iff.mpr (h.mp (isIn_iff.mp z))), if_neg k]; rfl
theorem stp_len {acc : List α} {x : α} : acc.length ≤ (stp acc x).length := by
  unfold stp
  split
  · exact Nat.le_refl _
  · rw [List.length_append]; exact Nat.le_add_right _ _
theorem uqF_ge : ∀ {l acc : List α}, acc.length ≤ (uqF acc l).length
  | [], _ => Nat.le_refl _
  | _ :: _, _ => Nat.le_trans stp_len uqF_ge
theorem uqF_app : ∀ {l r acc : List α}, uqF acc (l ++ r) = uqF (uqF acc l) r
  | [], _, _ => rfl
  | x :: l, r, acc => by
    show uqF _ (l ++ r) = _
    rw [uqF_app]
    rfl
theorem uq_take_len (l : List α) (i : Nat) : (uq (l.take i)).length ≤ (uq l).length := by
  have e : uq l = uqF (uq (l.take i)) (l.drop i) := by
    show uqF [] l = uqF (uqF [] (l.take i)) (l.drop i)
    rw [← uqF_app, List.take_append_drop]
  rw [e]
  exact uqF_ge
theorem uqF_nd : ∀ {l acc : List α}, (acc ++ l).Nodup → uqF acc l = acc ++ l
  | [], acc, _ => by simp [uqF]
  | x :: r, acc, h => by
    have hx : x ∉ acc := fun m => by
      have q := (List.nodup_append.mp h).2.2 x m x List.mem_cons_self
      exact q rfl
    show uqF (stp acc x) r = _
    unfold stp
    rw [if_neg fun z => hx (isIn_iff.mp z), uqF_nd (by rw [List.append_assoc]; exact h), List.append_assoc]
    rfl
theorem uq_nd {l : List α} (h : l.Nodup) : uq l = l := uqF_nd (acc := []) h
theorem uq_le : ∀ (l : List α), (uq l).length ≤ l.length := by
  have go : ∀ (l acc : List α), (uqF acc l).length ≤ acc.length + l.length := by
    intro l
    induction l with
    | nil => intro acc; exact Nat.le_refl _
    | cons x r ih =>
      intro acc
      have k := ih (stp acc x)
      have j : (stp acc x).length ≤ acc.length + 1 := by
        unfold stp
        split
        · exact Nat.le_succ _
        · rw [List.length_append]; exact Nat.le_refl _
      show (uqF (stp acc x) r).length ≤ acc.length + (r.length + 1)
      omega
  intro l
  have q := go l []
  rw [List.length_nil, Nat.zero_add] at q
  exact q
end
theorem paired_at {α β : Type} {F : α → β → Prop} : ∀ {xs : List α} {ys : List β} {i : Nat} {y : β}, Paired F xs ys → ys[i]? = some y → ∃ x, xs[i]? = some x ∧ F x y
  | _, _, _, _, .nil, h => by simp at h
  | _, _, 0, _, .cons f _, h => by
    have e := Option.some.inj h
    subst e
    exact ⟨_, rfl, f⟩
  | _, _, i + 1, _, .cons _ t, h => paired_at (i := i) t h
/-! ### set(v), v a list or a tuple of keys -/
section
variable {P : Program} {w : World} {A : Around} {E : Value → Shared → Prop} {s : Shared}
theorem keys_into {I : Addr} {fp wr : List Addr} {G : Array GenState → Array GenState → Prop} {n : Nat} {Pv : Nat → Value → Prop} {St : Nat → Shared → Prop} {R : Result → Shared → Prop}
    (W : WalksS P w A.in1 I fp wr G n Pv St) (S : Addr) (apart : S ∉ fp) (ks : List Key) (hn : n = ks.length) (few : (uq ks).length + 1 < scanBound) (vals : ∀ i v, Pv i v → ∃ k, ks[i]? = some k ∧ keyIs k v = true) :
    ∀ (left i : Nat) (st : Shared), n - i = left → i ≤ n → St i st → st.heap.SetOf (mixKind P w) S (isIn (ks.take i)) (uq (ks.take i)).length →
      (∀ st', Moved (S :: wr) G st st' → st'.heap.SetOf (mixKind P w) S (isIn ks) (uq ks).length → R (.ok (.ret .none)) st') → codeAny (model P w) A (.builtin "set.update.loop" ⟨[.ref S, .ref I], []⟩) R st := by
  have notw : S ∉ wr := fun m => apart (W.sub _ m)
  have more : ∀ b ∈ wr, b ∈ S :: wr := fun b m => List.mem_cons_of_mem _ m
  have stays : ∀ {st st' : Shared} {T : Key → Bool} {c : Nat}, Moved wr G st st' → st.heap.SetOf (mixKind P w) S T c → st'.heap.SetOf (mixKind P w) S T c := fun mv ⟨o, es, ep, tb, ho, rest⟩ => ⟨o, es, ep, tb, mv.heap S _ notw ho, rest⟩
  intro left
  induction left with
  | zero =>
    intro i st hl hi hst hS hR
    obtain rfl : i = n := by omega
    refine codeAny_builtin F.entry_set_update_loop ?_
    rw [Around.under_plainId F.plain_set_update_loop _]
    refine wpAny_bind (m := pyNext (.ref I)) (W.done st _ _ hst fun st' mv => ?_)
    have all : ks.take i = ks := List.take_of_length_le (by omega)
    rw [all] at hS
    exact wpAny_pure (hR st' (mv.mono more) (stays mv hS))
  | succ left ih =>
    intro i st hl hi hst hS hR
    have lt : i < n := by omega
    refine codeAny_builtin F.entry_set_update_loop ?_
    rw [Around.under_plainId F.plain_set_update_loop _]
    refine wpAny_bind (m := pyNext (.ref I)) (W.item i st _ _ lt hst fun v st' hP hst' mv => ?_)
    obtain ⟨k, hk, kis⟩ := vals i v hP
    have hS' := stays mv hS
    refine wpAny_bind (m := holding [v] (setAdd S v)) (wpAny_holding ?_)
    unfold setAdd
    refine wpAny_holding ?_
    have sc : v.scannable = true := by
      rcases keyIs_shape kis with ⟨_, _, _, rfl⟩ | ⟨_, _, _, rfl⟩ <;> rfl
    refine wpAny_bind ((mixKind P w).pyHash (k := k) kis ?_)
    have room : (uq (ks.take i)).length + 1 < scanBound := Nat.lt_of_le_of_lt (Nat.succ_le_succ (uq_take_len ks i)) few
    refine wpAny_setAddHashed_of (knd := mixKind P w) (s := { st' with toks := st'.toks + 1 }) kis sc hS' room fun h' sb hS2 => ?_
    have hS3 : h'.SetOf (mixKind P w) S (isIn (ks.take (i + 1))) (uq (ks.take (i + 1))).length := by
      rw [take_next hk, uq_snoc]
      have e1 : (fun j => isIn (ks.take i) j || decide (j = k)) = isIn (ks.take i ++ [k]) := by
        funext j
        unfold isIn
        rw [List.any_append]
        congr 1
        simp [eq_comm]
      have e2 : (if isIn (ks.take i) k = true then (uq (ks.take i)).length else (uq (ks.take i)).length + 1) = (if isIn (ks.take i) k = true then uq (ks.take i) else uq (ks.take i) ++ [k]).length := by
        by_cases h1 : isIn (ks.take i) k = true
        · rw [if_pos h1, if_pos h1]
        · rw [if_neg h1, if_neg h1, List.length_append]; rfl
      rw [← e1, ← e2]
      exact hS2
    refine wpAny_pure ⟨plainId_quiet F.plain_set_update_loop _, ih (i + 1) _ (by omega) lt (W.frame _ st' _ _ hst' (Nat.le_succ _) fun b m o e => ?_) hS3 fun st2 mv2 hS4 => ?_⟩
    · exact (sb.2 b fun z => apart (z ▸ m)).trans e
    · refine hR st2 (Moved.trans W.gtrans ((mv.mono more).then_heap (Nat.le_succ _) fun b o m e => ?_) mv2) hS4
      exact (sb.2 b fun z => m (z ▸ List.mem_cons_self)).trans e
end
end Y

namespace Y
open PySem PySem.Spec PyProof.Rows L2
section
variable {P : Program} {w : World} {A : Around} {E : Value → Shared → Prop} {s : Shared}
theorem set_of_tuple {l : Addr} {items : Array Value} (ks : List Key) {Q : Value → Shared → Prop} (free : A.handled = none) (hl : s.heap.IsTuple l items) (hk : Paired (fun k v => keyIs k v = true) ks items.toList) (few : (uq ks).length + 1 < scanBound)
    (fin : ∀ (h2 : Heap) (tk : Nat), h2.SetOf (mixKind P w) s.heap.objs.size (isIn ks) (uq ks).length → (∀ b o, s.heap.get? b = some o → h2.get? b = some o) → Q (.ref s.heap.objs.size) { s with heap := h2, toks := tk }) :
    wpAny (model P w) A (call (.type "set") [.ref l]) Q E s := by
  have size : items.size = ks.length := by
    have q := Paired.length hk
    rw [Array.length_toList] at q
    exact q.symm
  obtain ⟨cc, tl, hmro⟩ := PySem.F.called_set.mro
  have mk1 := PySem.F.called_set.made
  have mk2 := PySem.F.called_set.sub
  have mk3 := PySem.F.called_set.notType
  have mk4 := PySem.F.called_set.canCreate
  have mk5 := PySem.F.typeCall_set_1 (.ref l)
  refine wpAny_call (codeAny_of_tree ?_)
  refine wpAny_pure ⟨Code.quiet_builtin _ (by decide +kernel), codeAny_builtin PySem.F.entry_type_call ?_⟩
  rw [Around.under_plain (weight_type_call_type "set" [.ref l] []) rfl]
  repeat (any_goals (first | assumption | wp_step))
  refine codeAny_mono (code_set_new_1 (.ref l) (E := E) (Q₁ := fun self st1 => ∃ led : Bool, self = .ref s.heap.objs.size ∧ st1 = { s with heap := s.heap.push { cls := .type "set", dict := none, data := .set #[] 0 (.fresh 0 0 led) } }) fun led => ⟨led, rfl, rfl⟩) fun r st1 hr => ?_
  cases r with
  | error e => exact hr
  | ok fl =>
    cases fl with
    | ret self =>
      obtain ⟨led, rfl, rfl⟩ := hr
      generalize fresh : (Obj.mk (.type "set") none (.set #[] 0 (.fresh 0 0 led)) #[]) = ob
      have atS : (s.heap.push ob).get? s.heap.objs.size = some ob := Heap.get?_push_size _ (by rw [← fresh]; rfl)
      have isS : Shared.TypeIs { s with heap := s.heap.push ob } (.ref s.heap.objs.size) "set" := ⟨_, atS, by rw [← fresh]⟩
      have in1 := PySem.F.called_set.init.lookup
      have in2 := PySem.F.called_set.init.bind (.ref s.heap.objs.size)
      repeat (any_goals (first | assumption | wp_step))
      refine codeAny_mono (codeAny_call_builtin (R := wants (fun r st2 => r = .none ∧ ∃ h2 tk, st2 = { s with heap := h2, toks := tk } ∧ h2.SetOf (mixKind P w) s.heap.objs.size (isIn ks) (uq ks).length ∧
          (∀ b o, s.heap.get? b = some o → h2.get? b = some o)) E) PySem.F.called_set.init.plain PySem.F.entry_set_init (check_set_init_1 isS ?_)) fun r2 st2 hr2 => ?_
      · obtain ⟨lo, hlo, hcl, nl, hdl⟩ := hl
        obtain ⟨lcls, ldict, ldata, lslots⟩ := lo
        simp only at hcl hdl
        subst hcl; subst hdl
        have hlo' : (s.heap.push ob).get? l = some { cls := .type "tuple", dict := ldict, data := .seq items nl, slots := lslots } := Heap.get?_push_of_some _ hlo
        have no1 := PySem.F.sub_tuple_set
        have no2 := PySem.F.sub_tuple_frozenset
        have no3 : (Value.type "tuple" == Value.type "dict") = false := by decide
        have hl1 : (s.heap.push ob).IsTuple l items := ⟨_, hlo', rfl, nl, rfl⟩
        have hS0 : (s.heap.push ob).get? s.heap.objs.size = some { cls := .type "set", dict := none, data := .set #[] 0 (.fresh 0 0 led) } := by rw [atS, ← fresh]
        unfold Builtin.«set.__init__» noKeywords Builtin.Frozenset.updateFrom
        generalize hPI : pyIter = PI
        wp_walk
        subst hPI
        refine wpAny_pyIter_tuple hl1 ?_
        refine wpAny_bind (wpAny_runValue ?_)
        have ltl : l < s.heap.objs.size := Heap.lt_size hlo
        have free3 : A.in1.in1.in1.handled = none := by simp [free]
        have szp : (s.heap.push ob).objs.size = s.heap.objs.size + 1 := Heap.size_push ..
        have ne1 : l ≠ (s.heap.push ob).objs.size := by rw [szp]; exact Nat.ne_of_lt (Nat.lt_succ_of_lt ltl)
        have ne2 : s.heap.objs.size ∉ [(s.heap.push ob).objs.size, l] := by
          rw [szp]
          simp only [List.mem_cons, List.not_mem_nil, or_false, not_or]
          exact ⟨Nat.ne_of_lt (Nat.lt_succ_self _), Nat.ne_of_gt ltl⟩
        have vals : ∀ (i : Nat) (v : Value), items[i]? = some v → ∃ k, ks[i]? = some k ∧ keyIs k v = true := fun i v hv => by
          rw [← Array.getElem?_toList] at hv
          exact paired_at (F := fun k v => keyIs k v = true) hk hv
        refine keys_into ((Walks.tuple free3 _ l ne1 items).toS) s.heap.objs.size ne2 ks size few vals (items.size - 0) 0 _ (by omega) (Nat.zero_le _) ⟨⟨_, Heap.get?_push_size _ rfl, rfl, rfl⟩, (hl1.push _)⟩ ?hS0 ?hR
        case hS0 =>
          have got : ((s.heap.push ob).push { cls := .type "tuple_iterator", data := .fields #[.ref l, .int 0 0] }).get? s.heap.objs.size = some { cls := .type "set", dict := none, data := .set #[] 0 (.fresh 0 0 led) } := Heap.get?_push_of_some _ hS0
          have z : Heap.SetOf (mixKind P w) _ s.heap.objs.size (fun _ => false) 0 := ⟨_, #[], 0, _, got, ⟨rfl, rfl, rfl⟩, rfl, (fun e he => by simp at he), (fun k => by simp), (by decide), (by rfl), rfl⟩
          exact z
        case hR =>
          intro st' mv hS'
          obtain ⟨h2, g2, d2, tk2, os2⟩ := st'
          obtain rfl : g2 = s.gens := mv.gens
          obtain rfl : d2 = s.drawn := mv.drawn
          obtain rfl : os2 = s.os := mv.os
          refine wpAny_pure ?_
          refine wpAny_pure ⟨rfl, h2, tk2, rfl, hS', fun b o e => ?_⟩
          have ltb : b < s.heap.objs.size := Heap.lt_size e
          refine mv.heap b o ?_ (Heap.get?_push_of_some _ (Heap.get?_push_of_some _ e))
          simp only [List.mem_cons, List.not_mem_nil, or_false, not_or, szp]
          exact ⟨Nat.ne_of_lt ltb, Nat.ne_of_lt (Nat.lt_succ_of_lt ltb)⟩
      · cases r2 with
        | error e => exact hr2
        | ok fl2 =>
          cases fl2 with
          | ret r =>
            obtain ⟨rfl, h2, tk, rfl, hS', keep⟩ := hr2
            repeat (any_goals (first | assumption | wp_step))
            exact fin _ _ hS' keep
          | _ => exact hr2.elim
    | _ => exact hr.elim
end
end Y

namespace Y
open PySem PySem.Spec PyProof.Rows L2
section
variable {P : Program} {w : World} {A : Around} {E : Value → Shared → Prop} {s : Shared}
theorem set_of_list {l : Addr} {items : Array Value} (ks : List Key) {Q : Value → Shared → Prop} (free : A.handled = none) (hl : s.heap.IsList l items) (hk : Paired (fun k v => keyIs k v = true) ks items.toList) (few : (uq ks).length + 1 < scanBound)
    (fin : ∀ (h2 : Heap) (tk : Nat), h2.SetOf (mixKind P w) s.heap.objs.size (isIn ks) (uq ks).length → (∀ b o, s.heap.get? b = some o → h2.get? b = some o) → Q (.ref s.heap.objs.size) { s with heap := h2, toks := tk }) :
    wpAny (model P w) A (call (.type "set") [.ref l]) Q E s := by
  have size : items.size = ks.length := by
    have q := Paired.length hk
    rw [Array.length_toList] at q
    exact q.symm
  obtain ⟨cc, tl, hmro⟩ := PySem.F.called_set.mro
  have mk1 := PySem.F.called_set.made
  have mk2 := PySem.F.called_set.sub
  have mk3 := PySem.F.called_set.notType
  have mk4 := PySem.F.called_set.canCreate
  have mk5 := PySem.F.typeCall_set_1 (.ref l)
  refine wpAny_call (codeAny_of_tree ?_)
  refine wpAny_pure ⟨Code.quiet_builtin _ (by decide +kernel), codeAny_builtin PySem.F.entry_type_call ?_⟩
  rw [Around.under_plain (weight_type_call_type "set" [.ref l] []) rfl]
  repeat (any_goals (first | assumption | wp_step))
  refine codeAny_mono (code_set_new_1 (.ref l) (E := E) (Q₁ := fun self st1 => ∃ led : Bool, self = .ref s.heap.objs.size ∧ st1 = { s with heap := s.heap.push { cls := .type "set", dict := none, data := .set #[] 0 (.fresh 0 0 led) } }) fun led => ⟨led, rfl, rfl⟩) fun r st1 hr => ?_
  cases r with
  | error e => exact hr
  | ok fl =>
    cases fl with
    | ret self =>
      obtain ⟨led, rfl, rfl⟩ := hr
      generalize fresh : (Obj.mk (.type "set") none (.set #[] 0 (.fresh 0 0 led)) #[]) = ob
      have atS : (s.heap.push ob).get? s.heap.objs.size = some ob := Heap.get?_push_size _ (by rw [← fresh]; rfl)
      have isS : Shared.TypeIs { s with heap := s.heap.push ob } (.ref s.heap.objs.size) "set" := ⟨_, atS, by rw [← fresh]⟩
      have in1 := PySem.F.called_set.init.lookup
      have in2 := PySem.F.called_set.init.bind (.ref s.heap.objs.size)
      repeat (any_goals (first | assumption | wp_step))
      refine codeAny_mono (codeAny_call_builtin (R := wants (fun r st2 => r = .none ∧ ∃ h2 tk, st2 = { s with heap := h2, toks := tk } ∧ h2.SetOf (mixKind P w) s.heap.objs.size (isIn ks) (uq ks).length ∧
          (∀ b o, s.heap.get? b = some o → h2.get? b = some o)) E) PySem.F.called_set.init.plain PySem.F.entry_set_init (check_set_init_1 isS ?_)) fun r2 st2 hr2 => ?_
      · obtain ⟨lo, hlo, hcl, nl, hdl⟩ := hl
        obtain ⟨lcls, ldict, ldata, lslots⟩ := lo
        simp only at hcl hdl
        subst hcl; subst hdl
        have hlo' : (s.heap.push ob).get? l = some { cls := .type "list", dict := ldict, data := .seq items nl, slots := lslots } := Heap.get?_push_of_some _ hlo
        have no1 := PySem.F.sub_list_set
        have no2 := PySem.F.sub_list_frozenset
        have no3 : (Value.type "list" == Value.type "dict") = false := by decide
        have hl1 : (s.heap.push ob).IsList l items := ⟨_, hlo', rfl, nl, rfl⟩
        have hS0 : (s.heap.push ob).get? s.heap.objs.size = some { cls := .type "set", dict := none, data := .set #[] 0 (.fresh 0 0 led) } := by rw [atS, ← fresh]
        unfold Builtin.«set.__init__» noKeywords Builtin.Frozenset.updateFrom
        generalize hPI : pyIter = PI
        wp_walk
        subst hPI
        refine wpAny_pyIter_list hl1 ?_
        refine wpAny_bind (wpAny_runValue ?_)
        have ltl : l < s.heap.objs.size := Heap.lt_size hlo
        have free3 : A.in1.in1.in1.handled = none := by simp [free]
        have szp : (s.heap.push ob).objs.size = s.heap.objs.size + 1 := Heap.size_push ..
        have ne1 : l ≠ (s.heap.push ob).objs.size := by rw [szp]; exact Nat.ne_of_lt (Nat.lt_succ_of_lt ltl)
        have ne2 : s.heap.objs.size ∉ [(s.heap.push ob).objs.size, l] := by
          rw [szp]
          simp only [List.mem_cons, List.not_mem_nil, or_false, not_or]
          exact ⟨Nat.ne_of_lt (Nat.lt_succ_self _), Nat.ne_of_gt ltl⟩
        have vals : ∀ (i : Nat) (v : Value), items[i]? = some v → ∃ k, ks[i]? = some k ∧ keyIs k v = true := fun i v hv => by
          rw [← Array.getElem?_toList] at hv
          exact paired_at (F := fun k v => keyIs k v = true) hk hv
        refine keys_into ((Walks.list free3 _ l ne1 items).toS) s.heap.objs.size ne2 ks size few vals (items.size - 0) 0 _ (by omega) (Nat.zero_le _) ⟨⟨_, Heap.get?_push_size _ rfl, rfl, rfl⟩, (hl1.push _)⟩ ?hS0 ?hR
        case hS0 =>
          have got : ((s.heap.push ob).push { cls := .type "list_iterator", data := .fields #[.ref l, .int 0 0] }).get? s.heap.objs.size = some { cls := .type "set", dict := none, data := .set #[] 0 (.fresh 0 0 led) } := Heap.get?_push_of_some _ hS0
          have z : Heap.SetOf (mixKind P w) _ s.heap.objs.size (fun _ => false) 0 := ⟨_, #[], 0, _, got, ⟨rfl, rfl, rfl⟩, rfl, (fun e he => by simp at he), (fun k => by simp), (by decide), (by rfl), rfl⟩
          exact z
        case hR =>
          intro st' mv hS'
          obtain ⟨h2, g2, d2, tk2, os2⟩ := st'
          obtain rfl : g2 = s.gens := mv.gens
          obtain rfl : d2 = s.drawn := mv.drawn
          obtain rfl : os2 = s.os := mv.os
          refine wpAny_pure ?_
          refine wpAny_pure ⟨rfl, h2, tk2, rfl, hS', fun b o e => ?_⟩
          have ltb : b < s.heap.objs.size := Heap.lt_size e
          refine mv.heap b o ?_ (Heap.get?_push_of_some _ (Heap.get?_push_of_some _ e))
          simp only [List.mem_cons, List.not_mem_nil, or_false, not_or, szp]
          exact ⟨Nat.ne_of_lt ltb, Nat.ne_of_lt (Nat.lt_succ_of_lt ltb)⟩
      · cases r2 with
        | error e => exact hr2
        | ok fl2 =>
          cases fl2 with
          | ret r =>
            obtain ⟨rfl, h2, tk, rfl, hS', keep⟩ := hr2
            repeat (any_goals (first | assumption | wp_step))
            exact fin _ _ hS' keep
          | _ => exact hr2.elim
    | _ => exact hr.elim
end
end Y

namespace Y
open PySem PySem.Spec PyProof.Rows L2
section
variable {P : Program} {w : World} {A : Around} {E : Value → Shared → Prop} {s : Shared}
end
section
variable {X : Cx}
theorem key_is {k : Key} {u : Value} (r : L2.RelV (kV k) u) : keyIs k u = true := by
  cases k with
  | inl i => obtain ⟨t, rfl⟩ : ∃ t, u = Value.int i t := r; exact keyIs_int i t
  | inr x => obtain ⟨t, rfl⟩ : ∃ t, u = Value.str x t := r; exact keyIs_str x t
theorem keys_of_vals : ∀ {ks : List Key} {us : List Value}, Vals (ks.map kV) us → Paired (fun k v => keyIs k v = true) ks us
  | [], _, .nil => .nil
  | k :: ks, _, .cons r t => .cons (key_is r) (keys_of_vals t)
def rSetK (K : PySem.W.Frag) (P : Program) (w : World) : List V → Hp → VK → Prop := fun xs H Q => ∃ (a : Addr) (ks : List Key), xs = [.ref a] ∧ (SqL K H a (ks.map kV) ∨ SqT K H a (ks.map kV)) ∧ (uq ks).length ≤ 4000 ∧
  ∀ p, H p = none → Q (.ref p) (upd H p (SetK P w p (isIn ks) (uq ks).length))
theorem cr_setK (hc : X.calm = true) : CallR X (.type "set") (rSetK X.K X.prog X.w) := by
  intro pins s σ H xs us Q I r h
  obtain ⟨a, ks, rfl, hq, few, q⟩ := h
  obtain ⟨u, rfl, ru⟩ := vals1 r
  cases ru
  have room : (uq ks).length + 1 < scanBound := by show (uq ks).length + 1 < 4096; omega
  have done : ∀ (h2 : Heap) (tk : Nat), h2.SetOf (mixKind X.prog X.w) s.heap.objs.size (isIn ks) (uq ks).length → (∀ b o, s.heap.get? b = some o → h2.get? b = some o) → EP X pins σ Q (.ref s.heap.objs.size) { s with heap := h2, toks := tk } := fun h2 tk hS keep =>
    ⟨.ref _, _, I.laid (t' := tk) keep (Nat.le_refl _) (setK_new hS), rfl, q _ (I.hok.fresh (Nat.le_refl _))⟩
  rcases hq with hq | hq
  · obtain ⟨its, rv, pl, _⟩ := I.list hq
    exact set_of_list ks (I.ok.hd hc) pl.isList (by simpa using keys_of_vals rv) room done
  · obtain ⟨its, rv, tp, _⟩ := I.tuple hq
    exact set_of_tuple ks (I.ok.hd hc) tp (by simpa using keys_of_vals rv) room done
theorem call_lenK : CallR X (.builtin "len") (fun xs H Q => ∃ (a : Addr) (S : Key → Bool) (n : Nat), xs = [.ref a] ∧ H a = some (SetK X.prog X.w a S n) ∧ n ≤ 100000 ∧ Q (.int (n : Nat)) H) := by
  intro pins s σ H xs us Q I r h
  obtain ⟨a, S, n, rfl, ha, few, q⟩ := h
  obtain ⟨u, rfl, ru⟩ := vals1 r
  cases ru
  obtain ⟨o, es, ep, t, ho, hex, hd, _, _, _, hf, hn⟩ := setK_get I ha
  exact call_len_set ho hex hd hf (by rw [hn]; omega) ⟨.int (n : Nat), H, I.tok _, ⟨_, by rw [hn]⟩, q⟩
end
end Y

namespace Y
open PySem PySem.Spec PyProof.Rows L2
/-! ### names -/
def NM8 : List Str := ["a", "b", "c", "d", "e", "x", "yy", "half"]
def nmB (x : Str) : Bool := decide (1 ≤ x.cps.size) && decide (x.cps.size ≤ 8) && x.cps.toList.all fun c => decide (97 ≤ c) && decide (c ≤ 122)
theorem nm8_ok : ∀ x ∈ NM8, nmB x = true := by decide +kernel
theorem nm8_nd : NM8.Nodup := by decide +kernel
theorem perm_map {α β : Type} {f : α → β} {ys zs : List β} (h : ys.Perm zs) : ∀ {xs : List α}, zs = xs.map f → ∃ ws : List α, ws.Perm xs ∧ ys = ws.map f := by
  induction h with
  | nil =>
    intro xs e
    cases xs with
    | nil => exact ⟨[], .nil, rfl⟩
    | cons a r => simp at e
  | cons y _ ih =>
    intro xs e
    cases xs with
    | nil => simp at e
    | cons a r =>
      simp only [List.map_cons, List.cons.injEq] at e
      obtain ⟨e1, e2⟩ := e
      obtain ⟨ws, p, q⟩ := ih e2
      exact ⟨a :: ws, p.cons a, by rw [List.map_cons, ← e1, ← q]⟩
  | swap y z l =>
    intro xs e
    match xs, e with
    | [], e => simp at e
    | [_], e => simp at e
    | a :: b :: r, e =>
      simp only [List.map_cons, List.cons.injEq] at e
      obtain ⟨e1, e2, e3⟩ := e
      exact ⟨b :: a :: r, List.Perm.swap a b r, by rw [List.map_cons, List.map_cons, ← e1, ← e2, ← e3]⟩
  | trans _ _ ih1 ih2 =>
    intro xs e
    obtain ⟨ws, p, q⟩ := ih2 e
    obtain ⟨vs, p2, q2⟩ := ih1 q
    exact ⟨vs, p2.trans p, q2⟩
/-! ### deeds, pushes: the mathematics -/
inductive De where
  | zero (x : Str) | copy (x y : Str) | more (x : Str)
def De.fst : De → Str
  | .zero x => x
  | .copy x _ => x
  | .more x => x
def De.ns : De → List Str
  | .zero x => [x]
  | .copy x y => [x, y]
  | .more x => [x]
def deV : De → List V
  | .zero x => [.str "zero", .str x]
  | .copy x y => [.str "copy", .str x, .str y]
  | .more x => [.str "more", .str x]
abbrev PF := Str → Option Str × Int
def upF {β : Type} (F : Str → β) (x : Str) (e : β) : Str → β := fun y => if y = x then e else F y
theorem upF_same {β : Type} {F : Str → β} {x : Str} {e : β} : upF F x e x = e := if_pos rfl
theorem upF_ne {β : Type} {F : Str → β} {x y : Str} {e : β} (h : y ≠ x) : upF F x e y = F y := if_neg h
def stillF : PF := fun x => (some x, 0)
def behF (F : PF) : De → Option Str × Int
  | .zero _ => (none, 0)
  | .copy _ y => F y
  | .more x => ((F x).1, (F x).2 + 1)
def stepF (F : PF) (d : De) : PF := upF F d.fst (behF F d)
def pushF (ds : List De) : PF := ds.foldl stepF stillF
def doV (v : Str → Int) : De → Int
  | .zero _ => 0
  | .copy _ y => v y
  | .more x => v x + 1
def doF (v : Str → Int) (d : De) : Str → Int := upF v d.fst (doV v d)
def evP (F : PF) (v : Str → Int) : Str → Int := fun x => (match (F x).1 with | none => 0 | some y => v y) + (F x).2
theorem ev_still (v : Str → Int) : evP stillF v = v := by
  funext x
  show v x + 0 = v x
  omega
theorem ev_step (F : PF) (v : Str → Int) (d : De) : evP (stepF F d) v = doF (evP F v) d := by
  funext x
  unfold evP stepF doF
  by_cases h : x = d.fst
  · subst h
    rw [upF_same, upF_same]
    cases d with
    | zero x => show (0 : Int) + 0 = 0; rfl
    | copy x y => rfl
    | more x =>
      show (match (F x).1 with | none => 0 | some y => v y) + ((F x).2 + 1) = ((match (F x).1 with | none => 0 | some y => v y) + (F x).2) + 1
      omega
  · rw [upF_ne h, upF_ne h]
theorem ev_fold (v : Str → Int) : ∀ (ds : List De) (F : PF), evP (ds.foldl stepF F) v = ds.foldl doF (evP F v)
  | [], _ => rfl
  | d :: ds, F => by
    show evP (ds.foldl stepF (stepF F d)) v = ds.foldl doF (doF (evP F v) d)
    rw [ev_fold v ds, ev_step]
theorem ev_push (v : Str → Int) (ds : List De) : evP (pushF ds) v = ds.foldl doF v := by
  unfold pushF
  rw [ev_fold, ev_still]
def thenF (A B : PF) : PF := fun x => match (B x).1 with | none => (none, (B x).2) | some y => ((A y).1, (A y).2 + (B x).2)
theorem then_still (A : PF) : thenF A stillF = A := by
  funext x
  show ((A x).1, (A x).2 + 0) = A x
  rw [Int.add_zero]
theorem then_step (A B : PF) (d : De) : thenF A (stepF B d) = stepF (thenF A B) d := by
  funext x
  unfold stepF
  by_cases h : x = d.fst
  · subst h
    rw [upF_same]
    unfold thenF
    rw [upF_same]
    cases d with
    | zero x => rfl
    | copy x y => rfl
    | more x =>
      show (match (B x).1 with | none => (none, (B x).2 + 1) | some y => ((A y).1, (A y).2 + ((B x).2 + 1))) = _
      show _ = ((match (B x).1 with | none => ((none : Option Str), (B x).2) | some y => ((A y).1, (A y).2 + (B x).2)).1, (match (B x).1 with | none => ((none : Option Str), (B x).2) | some y => ((A y).1, (A y).2 + (B x).2)).2 + 1)
      cases (B x).1 with
      | none => rfl
      | some y => show ((A y).1, (A y).2 + ((B x).2 + 1)) = ((A y).1, ((A y).2 + (B x).2) + 1); rw [Int.add_assoc]
  · rw [upF_ne h]
    unfold thenF
    rw [upF_ne h]
theorem then_fold (A : PF) : ∀ (ds : List De) (B : PF), thenF A (ds.foldl stepF B) = ds.foldl stepF (thenF A B)
  | [], _ => rfl
  | d :: ds, B => by
    show thenF A (ds.foldl stepF (stepF B d)) = ds.foldl stepF (stepF (thenF A B) d)
    rw [then_fold A ds, then_step]
theorem then_push (ds es : List De) : thenF (pushF ds) (pushF es) = pushF (ds ++ es) := by
  show thenF (pushF ds) (es.foldl stepF stillF) = _
  rw [then_fold, then_still]
  unfold pushF
  rw [List.foldl_append]
/-- sources stay among the names, mores within the number of deeds -/
structure Within (ns : List Str) (n : Int) (F : PF) : Prop where
  src : ∀ x ∈ ns, ∀ y, (F x).1 = some y → y ∈ ns
  lo : ∀ x, 0 ≤ (F x).2
  hi : ∀ x, (F x).2 ≤ n
theorem within_still (ns : List Str) : Within ns 0 stillF := ⟨fun x hx y e => by cases e; exact hx, fun _ => Int.le_refl _, fun _ => Int.le_refl _⟩
theorem within_step {ns : List Str} {n : Int} {F : PF} {d : De} (h : Within ns n F) (hd : ∀ x ∈ d.ns, x ∈ ns) : Within ns (n + 1) (stepF F d) := by
  have hn : 0 ≤ n := Int.le_trans (h.lo d.fst) (h.hi d.fst)
  refine ⟨fun x hx y e => ?_, fun x => ?_, fun x => ?_⟩
  · unfold stepF at e
    by_cases k : x = d.fst
    · subst k
      rw [upF_same] at e
      cases d with
      | zero x => cases e
      | copy x z => exact h.src z (hd z (by simp [De.ns])) y e
      | more x => exact h.src x hx y e
    · rw [upF_ne k] at e
      exact h.src x hx y e
  · unfold stepF
    by_cases k : x = d.fst
    · subst k
      rw [upF_same]
      cases d with
      | zero x => exact Int.le_refl _
      | copy x z => exact h.lo z
      | more x => have := h.lo x; show 0 ≤ (F x).2 + 1; omega
    · rw [upF_ne k]; exact h.lo x
  · unfold stepF
    by_cases k : x = d.fst
    · subst k
      rw [upF_same]
      cases d with
      | zero x => show (0 : Int) ≤ n + 1; omega
      | copy x z => have := h.hi z; show (F z).2 ≤ n + 1; omega
      | more x => have := h.hi x; show (F x).2 + 1 ≤ n + 1; omega
    · rw [upF_ne k]; have := h.hi x; omega
theorem within_fold {ns : List Str} : ∀ (ds : List De) (n : Int) (F : PF), Within ns n F → (∀ d ∈ ds, ∀ x ∈ d.ns, x ∈ ns) → Within ns (n + (ds.length : Nat)) (ds.foldl stepF F)
  | [], n, F, h, _ => by simpa using h
  | d :: ds, n, F, h, hd => by
    have q := within_fold ds (n + 1) (stepF F d) (within_step h (hd d List.mem_cons_self)) fun e m => hd e (List.mem_cons_of_mem _ m)
    have e : n + ((d :: ds).length : Nat) = n + 1 + (ds.length : Nat) := by rw [List.length_cons]; omega
    rw [e]
    exact q
theorem within_push {ns : List Str} (ds : List De) (h : ∀ d ∈ ds, ∀ x ∈ d.ns, x ∈ ns) : Within ns (ds.length : Nat) (pushF ds) := by
  have q := within_fold ds 0 stillF (within_still ns) h
  rw [Int.zero_add] at q
  exact q
/-! ### how they stand in the heap -/
def osV : Option Str → V
  | none => .non
  | some x => .str x
/-- a dict with the names as keys, in their order, and values of which something is told -/
def DicAt (G : Hp → Str → V → Prop) (H : Hp) (d : Addr) (ns : List Str) : Prop := ∃ kvs : List (Key × V), H d = some (.dK kvs) ∧ kvs.map (·.1) = ns.map Sum.inr ∧ ∀ x ∈ ns, ∃ v, valV kvs (.inr x) = some v ∧ G H x v
def isPair (F : PF) (H : Hp) (x : Str) (v : V) : Prop := ∃ t, v = .ref t ∧ H t = some (.tup [osV (F x).1, .int (F x).2])
def isNum (u : Str → Int) (_ : Hp) (x : Str) (v : V) : Prop := v = .int (u x)
/-- what is told as kvs (whoever locks it) -/
structure Dic (G : Hp → Str → V → Prop) (H : Hp) (kvs : List (Key × V)) (ns : List Str) : Prop where
  keys : kvs.map (·.1) = ns.map Sum.inr
  val : ∀ x ∈ ns, ∃ v, valV kvs (.inr x) = some v ∧ G H x v
theorem inr_nd {ns : List Str} (h : ns.Nodup) : (ns.map (Sum.inr : Str → Key)).Nodup := by
  induction ns with
  | nil => exact List.nodup_nil
  | cons a r ih =>
    obtain ⟨h1, h2⟩ := List.nodup_cons.mp h
    rw [List.map_cons]
    refine List.nodup_cons.mpr ⟨fun m => ?_, ih h2⟩
    obtain ⟨z, hz, e⟩ := List.mem_map.mp m
    cases e
    exact h1 hz
section
variable {G : Hp → Str → V → Prop} {H : Hp} {kvs : List (Key × V)} {ns : List Str}
theorem Dic.len (D : Dic G H kvs ns) : kvs.length = ns.length := by
  have q := congrArg List.length D.keys
  simpa using q
theorem Dic.at_ (D : Dic G H kvs ns) (nd : ns.Nodup) {i : Nat} {k : Key} {v : V} (h : kvs[i]? = some (k, v)) : ∃ x, ns[i]? = some x ∧ x ∈ ns ∧ k = Sum.inr x ∧ valV kvs (.inr x) = some v ∧ G H x v := by
  have e : (kvs.map (·.1))[i]? = some k := by rw [List.getElem?_map, h]; rfl
  rw [D.keys] at e
  rw [List.getElem?_map] at e
  cases q : ns[i]? with
  | none => rw [q] at e; cases e
  | some x =>
    rw [q] at e
    have ek : Sum.inr x = k := Option.some.inj e
    subst ek
    have hx := at_mem q
    have hv : valV kvs (Sum.inr x : Key) = some v := val_nodup (by rw [D.keys]; exact inr_nd nd) ((Sum.inr x : Key), v) (at_mem h)
    obtain ⟨v', h1, h2⟩ := D.val x hx
    rw [hv] at h1
    cases h1
    exact ⟨x, rfl, hx, rfl, hv, h2⟩
theorem Dic.mono {G' : Hp → Str → V → Prop} {H' : Hp} (D : Dic G H kvs ns) (h : ∀ x v, x ∈ ns → G H x v → G' H' x v) : Dic G' H' kvs ns := ⟨D.keys, fun x hx => by obtain ⟨v, e, g⟩ := D.val x hx; exact ⟨v, e, h x v hx g⟩⟩
theorem putK_keys {k : Key} {v : V} : ∀ {kvs : List (Key × V)}, (valV kvs k).isSome = true → (putK kvs k v).map (·.1) = kvs.map (·.1) := fun {kvs} h => by
  unfold putK
  rw [valV_any, h, if_pos rfl, List.map_map]
  apply List.map_congr_left
  intro p _
  show (if p.1 = k then (p.1, v) else p).1 = p.1
  by_cases e : p.1 = k
  · rw [if_pos e]
  · rw [if_neg e]
/-- a value is stored under a name -/
theorem Dic.put {G' : Hp → Str → V → Prop} {H' : Hp} (D : Dic G H kvs ns) {x : Str} {v : V} (hx : x ∈ ns) (g : G' H' x v) (h : ∀ y u, y ∈ ns → y ≠ x → G H y u → G' H' y u) : Dic G' H' (putK kvs (.inr x) v) ns := by
  obtain ⟨v0, e0, _⟩ := D.val x hx
  refine ⟨(putK_keys (by rw [e0]; rfl)).trans D.keys, fun y hy => ?_⟩
  rw [valV_put]
  by_cases e : y = x
  · subst e
    exact ⟨v, if_pos rfl, g⟩
  · obtain ⟨u, e1, g1⟩ := D.val y hy
    exact ⟨u, (if_neg fun z => e (Sum.inr.inj z)).trans e1, h y u hy e g1⟩
theorem Dic.none_of (D : Dic G H kvs ns) {x : Str} (hx : x ∉ ns) : valV kvs (.inr x) = none := by
  cases e : valV kvs (.inr x) with
  | none => rfl
  | some v =>
    have q := valV_in e
    rw [D.keys] at q
    obtain ⟨z, hz, e2⟩ := List.mem_map.mp q
    cases e2
    exact (hx hz).elim
/-- a further name -/
theorem Dic.snoc {G' : Hp → Str → V → Prop} {H' : Hp} (D : Dic G H kvs ns) {x : Str} {v : V} (hx : x ∉ ns) (g : G' H' x v) (h : ∀ y u, y ∈ ns → G H y u → G' H' y u) : Dic G' H' (putK kvs (.inr x) v) (ns ++ [x]) := by
  have e0 := D.none_of hx
  rw [putK_new v e0]
  refine ⟨by rw [List.map_append, List.map_append, D.keys]; rfl, fun y hy => ?_⟩
  rw [valV_snoc _ _ _ _ e0]
  rcases List.mem_append.mp hy with m | m
  · have ne : y ≠ x := fun z => hx (z ▸ m)
    obtain ⟨u, e1, g1⟩ := D.val y m
    exact ⟨u, (if_neg fun z => ne (Sum.inr.inj z)).trans e1, h y u m g1⟩
  · rw [List.mem_singleton.mp m]
    exact ⟨v, if_pos rfl, g⟩
theorem Dic.nil : Dic G H [] [] := ⟨rfl, fun x h => nomatch h⟩
theorem pair_keep {F : PF} {H H' : Hp} (h : ∀ t xs, H t = some (.tup xs) → H' t = some (.tup xs)) {x : Str} {v : V} (g : isPair F H x v) : isPair F H' x v := by
  obtain ⟨t, e, k⟩ := g
  exact ⟨t, e, h _ _ k⟩
end
/-- the deeds' tuples -/
abbrev DeT (H : Hp) (ts : List V) (ds : List De) : Prop := Paired (fun v d => ∃ t, v = .ref t ∧ H t = some (.tup (deV d))) ts ds
theorem DeT.keep {H H' : Hp} (h : ∀ t xs, H t = some (.tup xs) → H' t = some (.tup xs)) {ts : List V} {ds : List De} (D : DeT H ts ds) : DeT H' ts ds := Paired.mapP D fun v d ⟨t, e, k⟩ => ⟨t, e, h _ _ k⟩
theorem Paired.get {α β : Type} {F : α → β → Prop} : ∀ {xs : List α} {ys : List β} {i : Nat} {x : α}, Paired F xs ys → xs[i]? = some x → ∃ y, ys[i]? = some y ∧ F x y
  | _, _, _, _, .nil, h => by simp at h
  | _, _, 0, _, .cons f _, h => by
    have e := Option.some.inj h
    subst e
    exact ⟨_, rfl, f⟩
  | _, _, i + 1, _, .cons _ t, h => Paired.get (i := i) t h
theorem Paired.snoc {α β : Type} {F : α → β → Prop} : ∀ {xs : List α} {ys : List β} {x : α} {y : β}, Paired F xs ys → F x y → Paired F (xs ++ [x]) (ys ++ [y])
  | _, _, _, _, .nil, f => .cons f .nil
  | _, _, _, _, .cons g t, f => .cons g (Paired.snoc t f)
theorem Paired.app {α β : Type} {F : α → β → Prop} : ∀ {xs us : List α} {ys vs : List β}, Paired F xs ys → Paired F us vs → Paired F (xs ++ us) (ys ++ vs)
  | _, _, _, _, .nil, t => t
  | _, _, _, _, .cons g t, u => .cons g (Paired.app t u)
theorem Paired.takeP {α β : Type} {F : α → β → Prop} : ∀ {xs : List α} {ys : List β} (n : Nat), Paired F xs ys → Paired F (xs.take n) (ys.take n)
  | _, _, 0, _ => by simp; exact .nil
  | _, _, _ + 1, .nil => .nil
  | _, _, n + 1, .cons g t => .cons g (Paired.takeP n t)
theorem Paired.dropP {α β : Type} {F : α → β → Prop} : ∀ {xs : List α} {ys : List β} (n : Nat), Paired F xs ys → Paired F (xs.drop n) (ys.drop n)
  | _, _, 0, h => h
  | _, _, _ + 1, .nil => .nil
  | _, _, n + 1, .cons _ t => Paired.dropP n t
end Y

namespace Y
open PySem PySem.Spec PyProof.Rows L2
/-! ### data that stands in tuples alone -/
mutual
inductive Tp (K : PySem.W.Frag) (H : Hp) : V → PyData → Prop
  | non : Tp K H .non .none
  | bl (b : Bool) : Tp K H (.bl b) (.bool b)
  | int (i : Int) : Tp K H (.int i) (.int i)
  | str (x : Str) : Tp K H (.str x) (.str x)
  | tup {a : Addr} {xs : List V} {ds : List PyData} : SqT K H a xs → TpAll K H xs ds → Tp K H (.ref a) (.tuple ds)
inductive TpAll (K : PySem.W.Frag) (H : Hp) : List V → List PyData → Prop
  | nil : TpAll K H [] []
  | cons {v : V} {vs : List V} {d : PyData} {ds : List PyData} : Tp K H v d → TpAll K H vs ds → TpAll K H (v :: vs) (d :: ds)
end
/-- tuples stay -/
def Kp (K : PySem.W.Frag) (H H' : Hp) : Prop := ∀ a xs, SqT K H a xs → SqT K H' a xs
section
variable {K : PySem.W.Frag} {H H' : Hp}
theorem Kp.refl : Kp K H H := fun _ _ h => h
theorem Kp.trans {H1 H2 H3 : Hp} (a : Kp K H1 H2) (b : Kp K H2 H3) : Kp K H1 H3 := fun x xs h => b x xs (a x xs h)
theorem _root_.L2.Same.kp (s : Same H H') : Kp K H H' := fun _ _ h => s.tup h
mutual
theorem Tp.keep (k : Kp K H H') : ∀ (d : PyData) (v : V), Tp K H v d → Tp K H' v d
  | .none, _, h => by cases h; exact .non
  | .bool b, _, h => by cases h; exact .bl b
  | .int i, _, h => by cases h; exact .int i
  | .str x, _, h => by cases h; exact .str x
  | .list _, _, h => by cases h
  | .dict _, _, h => by cases h
  | .tuple ds, _, h => by
    cases h with
    | tup hs ha => exact .tup (k _ _ hs) (TpAll.keep k ds _ ha)
theorem TpAll.keep (k : Kp K H H') : ∀ (ds : List PyData) (vs : List V), TpAll K H vs ds → TpAll K H' vs ds
  | [], _, h => by cases h; exact .nil
  | d :: ds, _, h => by
    cases h with
    | cons h1 h2 => exact .cons (Tp.keep k d _ h1) (TpAll.keep k ds _ h2)
end
mutual
theorem Tp.dp : ∀ (d : PyData) (v : V), Tp K H v d → Dp K H v d
  | .none, _, h => by cases h; exact .non
  | .bool b, _, h => by cases h; exact .bl b
  | .int i, _, h => by cases h; exact .int i
  | .str x, _, h => by cases h; exact .str x
  | .list _, _, h => by cases h
  | .dict _, _, h => by cases h
  | .tuple ds, _, h => by
    cases h with
    | tup hs ha => exact .tup hs (TpAll.dp ds _ ha)
theorem TpAll.dp : ∀ (ds : List PyData) (vs : List V), TpAll K H vs ds → DpAll K H vs ds
  | [], _, h => by cases h; exact .nil
  | d :: ds, _, h => by
    cases h with
    | cons h1 h2 => exact .cons (Tp.dp d _ h1) (TpAll.dp ds _ h2)
end
theorem TpAll.len : ∀ {vs : List V} {ds : List PyData}, TpAll K H vs ds → vs.length = ds.length
  | _, _, .nil => rfl
  | _, _, .cons _ t => by rw [List.length_cons, List.length_cons, TpAll.len t]
theorem TpAll.get : ∀ {vs : List V} {ds : List PyData} {i : Nat} {v : V}, TpAll K H vs ds → vs[i]? = some v → ∃ d, ds[i]? = some d ∧ Tp K H v d
  | _, _, _, _, .nil, h => by simp at h
  | _, _, 0, _, .cons f _, h => by
    have e := Option.some.inj h
    subst e
    exact ⟨_, rfl, f⟩
  | _, _, i + 1, _, .cons _ t, h => TpAll.get (i := i) t h
theorem TpAll.at_ : ∀ {vs : List V} {ds : List PyData} {i : Nat} {d : PyData}, TpAll K H vs ds → ds[i]? = some d → ∃ v, vs[i]? = some v ∧ Tp K H v d
  | _, _, _, _, .nil, h => by simp at h
  | _, _, 0, _, .cons f _, h => by
    have e := Option.some.inj h
    subst e
    exact ⟨_, rfl, f⟩
  | _, _, i + 1, _, .cons _ t, h => TpAll.at_ (i := i) t h
theorem TpAll.snoc : ∀ {vs : List V} {ds : List PyData} {v : V} {d : PyData}, TpAll K H vs ds → Tp K H v d → TpAll K H (vs ++ [v]) (ds ++ [d])
  | _, _, _, _, .nil, f => .cons f .nil
  | _, _, _, _, .cons g t, f => .cons g (TpAll.snoc t f)
theorem TpAll.app : ∀ {vs us : List V} {ds es : List PyData}, TpAll K H vs ds → TpAll K H us es → TpAll K H (vs ++ us) (ds ++ es)
  | _, _, _, _, .nil, t => t
  | _, _, _, _, .cons g t, u => .cons g (TpAll.app t u)
theorem TpAll.takeP : ∀ {vs : List V} {ds : List PyData} (n : Nat), TpAll K H vs ds → TpAll K H (vs.take n) (ds.take n)
  | _, _, 0, _ => by simp; exact .nil
  | _, _, _ + 1, .nil => .nil
  | _, _, n + 1, .cons g t => .cons g (TpAll.takeP n t)
theorem TpAll.dropP : ∀ {vs : List V} {ds : List PyData} (n : Nat), TpAll K H vs ds → TpAll K H (vs.drop n) (ds.drop n)
  | _, _, 0, h => h
  | _, _, _ + 1, .nil => .nil
  | _, _, n + 1, .cons _ t => TpAll.dropP n t
theorem TpAll.strs : ∀ (ns : List Str), TpAll K H (ns.map V.str) (ns.map PyData.str)
  | [] => .nil
  | x :: r => .cons (.str x) (TpAll.strs r)
theorem TpAll.ints : ∀ (ns : List Int), TpAll K H (ns.map V.int) (ns.map PyData.int)
  | [] => .nil
  | x :: r => .cons (.int x) (TpAll.ints r)
theorem TpAll.strs_inv : ∀ {vs : List V} {ns : List Str}, TpAll K H vs (ns.map PyData.str) → vs = ns.map V.str
  | _, [], h => by cases h; rfl
  | _, x :: r, h => by
    cases h with
    | cons h1 h2 =>
      cases h1
      rw [TpAll.strs_inv h2]
      rfl
theorem Tp.tup_inv {v : V} {ds : List PyData} (h : Tp K H v (.tuple ds)) : ∃ a xs, v = .ref a ∧ SqT K H a xs ∧ TpAll K H xs ds := by
  cases h with
  | tup hs ha => exact ⟨_, _, rfl, hs, ha⟩
theorem Tp.strs_inv {v : V} {ns : List Str} (h : Tp K H v (.tuple (ns.map .str))) : ∃ a, v = .ref a ∧ SqT K H a (ns.map V.str) := by
  obtain ⟨a, xs, e, hs, ha⟩ := h.tup_inv
  rw [TpAll.strs_inv ha] at hs
  exact ⟨a, e, hs⟩
theorem Tp.ints {a : Addr} {ns : List Int} (h : SqT K H a (ns.map V.int)) : Tp K H (.ref a) (.tuple (ns.map .int)) := .tup h (TpAll.ints ns)
theorem Tp.strs {a : Addr} {ns : List Str} (h : SqT K H a (ns.map V.str)) : Tp K H (.ref a) (.tuple (ns.map .str)) := .tup h (TpAll.strs ns)
end
/-! ### statements as data -/
inductive Sm where
  | deed (d : De) | rnd (x : Str) (ds : List De)
def Sm.ns : Sm → List Str
  | .deed d => d.ns
  | .rnd x ds => x :: (ds.map De.ns).flatten
def deP : De → List PyData
  | .zero x => [.str "zero", .str x]
  | .copy x y => [.str "copy", .str x, .str y]
  | .more x => [.str "more", .str x]
def deD (d : De) : PyData := .tuple (deP d)
def smP : Sm → List PyData
  | .deed d => deP d
  | .rnd x ds => [.str "round", .str x, .tuple (ds.map deD)]
def smD (s : Sm) : PyData := .tuple (smP s)
def nmD (ns : List Str) : PyData := .tuple (ns.map .str)
def blD (ss : List Sm) : PyData := .tuple (ss.map smD)
def Sm.deeds : Sm → List De
  | .deed _ => []
  | .rnd _ ds => ds
section
variable {K : PySem.W.Frag} {H : Hp}
theorem deV_all (d : De) : TpAll K H (deV d) (deP d) := by
  cases d with
  | zero x => exact .cons (.str _) (.cons (.str _) .nil)
  | copy x y => exact .cons (.str _) (.cons (.str _) (.cons (.str _) .nil))
  | more x => exact .cons (.str _) (.cons (.str _) .nil)
theorem deV_inv {d : De} {xs : List V} (h : TpAll K H xs (deP d)) : xs = deV d := by
  cases d with
  | zero x => cases h with | cons a b => cases a; cases b with | cons c e => cases c; cases e; rfl
  | more x => cases h with | cons a b => cases a; cases b with | cons c e => cases c; cases e; rfl
  | copy x y => cases h with | cons a b => cases a; cases b with | cons c e => cases c; cases e with | cons f g => cases f; cases g; rfl
theorem Tp.deed {a : Addr} {d : De} (h : SqT K H a (deV d)) : Tp K H (.ref a) (deD d) := .tup h (deV_all d)
theorem Tp.deed_inv {v : V} {d : De} (h : Tp K H v (deD d)) : ∃ a, v = .ref a ∧ SqT K H a (deV d) := by
  obtain ⟨a, xs, e, hs, ha⟩ := h.tup_inv
  rw [deV_inv ha] at hs
  exact ⟨a, e, hs⟩
theorem Tp.rnd_inv {v : V} {x : Str} {ds : List De} (h : Tp K H v (smD (.rnd x ds))) : ∃ a b ts, v = .ref a ∧ SqT K H a [.str "round", .str x, .ref b] ∧ SqT K H b ts ∧ TpAll K H ts (ds.map deD) := by
  obtain ⟨a, xs, e, hs, ha⟩ := h.tup_inv
  cases ha with
  | cons h1 h2 =>
    cases h1
    cases h2 with
    | cons h3 h4 =>
      cases h3
      cases h4 with
      | cons h5 h6 =>
        cases h6
        obtain ⟨b, ts, rfl, hb, ht⟩ := h5.tup_inv
        exact ⟨a, b, ts, e, hs, hb, ht⟩
theorem Tp.rnd {a b : Addr} {ts : List V} {x : Str} {ds : List De} (h : SqT K H a [.str "round", .str x, .ref b]) (hb : SqT K H b ts) (ht : TpAll K H ts (ds.map deD)) : Tp K H (.ref a) (smD (.rnd x ds)) :=
  .tup h (.cons (.str _) (.cons (.str _) (.cons (.tup hb ht) .nil)))
theorem TpAll.deeds {ts : List V} {ds : List De} {i : Nat} {v : V} (h : TpAll K H ts (ds.map deD)) (hv : ts[i]? = some v) : ∃ d a, ds[i]? = some d ∧ v = .ref a ∧ SqT K H a (deV d) := by
  obtain ⟨p, hp, t⟩ := h.get hv
  rw [List.getElem?_map] at hp
  cases e : ds[i]? with
  | none => rw [e] at hp; cases hp
  | some d =>
    rw [e] at hp
    have q := Option.some.inj hp
    rw [← q] at t
    obtain ⟨a, rfl, hs⟩ := t.deed_inv
    exact ⟨d, a, rfl, rfl, hs⟩
theorem TpAll.sms {ts : List V} {ss : List Sm} {i : Nat} {v : V} (h : TpAll K H ts (ss.map smD)) (hv : ts[i]? = some v) : ∃ s, ss[i]? = some s ∧ Tp K H v (smD s) := by
  obtain ⟨p, hp, t⟩ := h.get hv
  rw [List.getElem?_map] at hp
  cases e : ss[i]? with
  | none => rw [e] at hp; cases hp
  | some d =>
    rw [e] at hp
    have q := Option.some.inj hp
    rw [← q] at t
    exact ⟨d, rfl, t⟩
end
/-! ### the hand: numbers that are drawn -/
structure HandAt (H : Hp) (p c : Addr) : Prop where
  ex : ∃ (cs : List Int) (i b m k : Int), H p = some (.lst [.ref c, .int i, .int b, .int m, .int k]) ∧ H c = some (.lst (cs.map V.int)) ∧ 0 ≤ i
  ne : p ≠ c
/-- all that was tracked is as it was, but for what stands at p -/
abbrev Bt (p : Addr) (H H' : Hp) : Prop := But p p H H'
section
variable {p c a : Addr} {H H' : Hp}
theorem HandAt.p_ne {xs : List V} (Z : HandAt H p c) (h : H a = some (.tup xs)) : a ≠ p := by
  obtain ⟨⟨_, _, _, _, _, hp, _⟩, _⟩ := Z
  exact fun e => (by rw [e, hp] at h; cases h)
theorem HandAt.free (Z : HandAt H p c) (h : H a = none) : a ≠ p ∧ a ≠ c := by
  obtain ⟨⟨_, _, _, _, _, hp, hc, _⟩, _⟩ := Z
  exact ⟨(ne_of_none hp h).symm, (ne_of_none hc h).symm⟩
theorem HandAt.same (Z : HandAt H p c) (e : Same H H') : HandAt H' p c := by
  obtain ⟨⟨cs, i, b, m, k, hp, hc, r⟩, n⟩ := Z
  exact ⟨⟨cs, i, b, m, k, e _ _ hp, e _ _ hc, r⟩, n⟩
theorem HandAt.put {o : HO} (Z : HandAt H p c) (n : a ≠ p ∧ a ≠ c) : HandAt (upd H a o) p c := by
  obtain ⟨⟨cs, i, b, m, k, hp, hc, r⟩, ne⟩ := Z
  exact ⟨⟨cs, i, b, m, k, by rw [upd_ne n.1.symm]; exact hp, by rw [upd_ne n.2.symm]; exact hc, r⟩, ne⟩
theorem Bt.of (s : Same H H') : Bt p H H' := But.of s
theorem Bt.get {o : HO} (b : Bt p H H') (h : H a = some o) (n : a ≠ p) : H' a = some o := b _ _ h n n
theorem Bt.kp {K : PySem.W.Frag} (Z : HandAt H p c) (b : Bt p H H') : Kp K H H' := by
  obtain ⟨⟨_, _, _, _, _, hp, _⟩, _⟩ := Z
  intro a xs h
  rcases h with (h | ⟨o, h⟩) | h
  · have n : a ≠ p := fun e => (by rw [e, hp] at h; cases h)
    exact .inl (.inl (b.get h n))
  · have n : a ≠ p := fun e => (by rw [e, hp] at h; cases h)
    exact .inl (.inr ⟨o, b.get h n⟩)
  · exact .inr h
theorem Bt.free (b : Bt p H H') (h : H' a = none) (n : a ≠ p) : H a = none := by
  cases e : H a with
  | none => rfl
  | some o => rw [b.get e n] at h; cases h
theorem Bt.put {o : HO} (b : Bt p H H') (n : H a = none) : Bt p H (upd H' a o) := fun x u e n1 n2 => by
  rw [upd_ne (ne_of_none e n)]
  exact b x u e n1 n2
theorem Bt.step {H2 : Hp} (b : Bt p H H') (s : Same H' H2) : Bt p H H2 := b.trans (But.of s)
theorem Bt.seqL {K : PySem.W.Frag} {xs : List V} (Z : HandAt H p c) (b : Bt p H H') (n : a ≠ p) (h : SqL K H a xs) : SqL K H' a xs := b.seq (fun _ => n) (fun _ => n) h
end
/-- kinds stay -/
def Ky (K : PySem.W.Frag) (H H' : Hp) : Prop := ∀ v T, TyX K H v T → TyX K H' v T
theorem ky_of {K : PySem.W.Frag} {H H' : Hp} (h : ∀ a o, H a = some o → H' a = some o ∨ ∃ xs ys, o = .lst xs ∧ H' a = some (.lst ys)) : Ky K H H' := fun v T y => by
  have go : ∀ {a o}, H a = some o → (∀ xs, o ≠ .lst xs) → H' a = some o := fun {a o} e n => (h a o e).elim id fun ⟨xs, _, k, _⟩ => (n xs k).elim
  cases y with
  | base b =>
    cases b with
    | non => exact .base .non
    | bl x => exact .base (.bl x)
    | int i => exact .base (.int i)
    | str x => exact .base (.str x)
    | flt x => exact .base (.flt x)
    | lst e =>
      rcases h _ _ e with k | ⟨_, ys, _, k⟩
      · exact .base (.lst k)
      · exact .base (.lst k)
    | frz e => exact .base (.frz (go e fun _ z => nomatch z))
    | tup e => exact .base (.tup (go e fun _ z => nomatch z))
    | dK e => exact .base (.dK (go e fun _ z => nomatch z))
    | dT e => exact .base (.dT (go e fun _ z => nomatch z))
    | ins e c1 c2 c3 c4 c5 => exact .base (.ins (go e fun _ z => nomatch z) c1 c2 c3 c4 c5)
  | byt b => exact .byt b
  | set e => exact .set (go e fun _ z => nomatch z)
  | kList e c => exact .kList e c
  | kTuple e c => exact .kTuple e c
  | kDict e c => exact .kDict e c
  | fTuple e => exact .fTuple (go e fun _ z => nomatch z)
  | fDict e => exact .fDict (go e fun _ z => nomatch z)
theorem _root_.L2.Same.ky {K : PySem.W.Frag} {H H' : Hp} (s : Same H H') : Ky K H H' := ky_of fun a o e => .inl (s a o e)
theorem ky_set {K : PySem.W.Frag} {H : Hp} {p : Addr} {xs ys : List V} (h : H p = some (.lst xs)) : Ky K H (upd H p (.lst ys)) := ky_of fun a o e => by
  by_cases z : a = p
  · subst z
    rw [h] at e
    exact .inr ⟨xs, ys, (Option.some.inj e).symm, upd_same⟩
  · exact .inl (by rw [upd_ne z]; exact e)
theorem Ky.trans {K : PySem.W.Frag} {H H1 H2 : Hp} (a : Ky K H H1) (b : Ky K H1 H2) : Ky K H H2 := fun v T y => b v T (a v T y)
/-- numbers were drawn, new things laid: all else stays -/
structure Drew (K : PySem.W.Frag) (p c : Addr) (H H' : Hp) : Prop where
  z : HandAt H' p c
  b : Bt p H H'
  k : Kp K H H'
  y : Ky K H H'
section
variable {K : PySem.W.Frag} {p c a : Addr} {H H' H2 : Hp}
theorem Drew.refl (Z : HandAt H p c) : Drew K p c H H := ⟨Z, But.refl H, Kp.refl, fun _ _ h => h⟩
theorem Drew.trans (D : Drew K p c H H') (E : Drew K p c H' H2) : Drew K p c H H2 := ⟨E.z, But.trans D.b E.b, D.k.trans E.k, D.y.trans E.y⟩
theorem Drew.same (D : Drew K p c H H') (s : Same H' H2) : Drew K p c H H2 := ⟨D.z.same s, Bt.step D.b s, D.k.trans s.kp, D.y.trans s.ky⟩
theorem Drew.put {o : HO} (D : Drew K p c H H') (n : H' a = none) : Drew K p c H (upd H' a o) := D.same (same_upd n)
theorem Drew.free (D : Drew K p c H H') (h : H' a = none) : H a = none := Bt.free D.b h (D.z.free h).1
theorem Drew.get {o : HO} (D : Drew K p c H H') (h : H a = some o) (n : a ≠ p) : H' a = some o := Bt.get D.b h n
theorem Drew.new {o : HO} (D : Drew K p c H H') (Z : HandAt H2 p c) (nl : H2 a = none) (h : H a = some o) : H' a = some o := D.get h (Z.free nl).1
theorem Drew.seqL {xs : List V} (D : Drew K p c H H') (n : a ≠ p) (h : SqL K H a xs) : SqL K H' a xs := But.seq D.b (fun _ => n) (fun _ => n) h
/-- what was laid since is written anew -/
theorem Drew.set {xs ys : List V} (D : Drew K p c H H') (Z : HandAt H p c) (n : H a = none) (hl : H' a = some (.lst xs)) : Drew K p c H (upd H' a (.lst ys)) := by
  refine ⟨D.z.put (Z.free n), fun x u e n1 n2 => ?_, fun x ys h => ?_, D.y.trans (ky_set hl)⟩
  · rw [upd_ne (ne_of_none e n)]
    exact D.b x u e n1 n2
  · rcases D.k _ _ h with (k | ⟨w, k⟩) | k
    · exact .inl (.inl (by rw [upd_ne (fun e => by rw [e, hl] at k; cases k)]; exact k))
    · exact .inl (.inr ⟨w, by rw [upd_ne (fun e => by rw [e, hl] at k; cases k)]; exact k⟩)
    · exact .inr k
theorem Drew.tp {v : V} {d : PyData} (D : Drew K p c H H') (h : Tp K H v d) : Tp K H' v d := Tp.keep D.k d v h
theorem Drew.tps {vs : List V} {ds : List PyData} (D : Drew K p c H H') (h : TpAll K H vs ds) : TpAll K H' vs ds := TpAll.keep D.k ds vs h
end
theorem nat_of {r : Int} (h : 0 ≤ r) : ∃ j : Nat, r = (j : Int) := ⟨_, (Int.toNat_of_nonneg h).symm⟩
end Y

namespace Y
open PySem PySem.Spec PyProof.Rows L2
/-! ### things of any kind -/
inductive Th where
  | non | bl (b : Bool) | int (i : Int) | str (x : Str) | tup (ts : List Th) | opq (T : Value)
/-- a type of none of the kinds that are asked for -/
structure Odd (K : PySem.W.Frag) (T : Value) : Prop where
  s : PySem.W.kitOne K T (.type "str") = some false
  t : PySem.W.kitOne K T (.type "tuple") = some false
  i : PySem.W.kitOne K T (.type "int") = some false
mutual
inductive Is (K : PySem.W.Frag) (H : Hp) : V → Th → Prop
  | non : Is K H .non .non
  | bl (b : Bool) : Is K H (.bl b) (.bl b)
  | int (i : Int) : Is K H (.int i) (.int i)
  | str (x : Str) (h : x.cps.size ≤ 1000) : Is K H (.str x) (.str x)
  | tup {a : Addr} {xs : List V} {ts : List Th} : SqT K H a xs → IsAll K H xs ts → Is K H (.ref a) (.tup ts)
  | opq {a : Addr} {T : Value} : TyX K H (.ref a) T → Odd K T → Is K H (.ref a) (.opq T)
inductive IsAll (K : PySem.W.Frag) (H : Hp) : List V → List Th → Prop
  | nil : IsAll K H [] []
  | cons {v : V} {vs : List V} {t : Th} {ts : List Th} : Is K H v t → IsAll K H vs ts → IsAll K H (v :: vs) (t :: ts)
end
section
variable {K : PySem.W.Frag} {H H' : Hp}
mutual
theorem Is.keep (k : Kp K H H') (y : Ky K H H') : ∀ (t : Th) (v : V), Is K H v t → Is K H' v t
  | .non, _, h => by cases h; exact .non
  | .bl b, _, h => by cases h; exact .bl b
  | .int i, _, h => by cases h; exact .int i
  | .str x, _, h => by cases h with | str _ k => exact .str x k
  | .tup ts, _, h => by
    cases h with
    | tup hs ha => exact .tup (k _ _ hs) (IsAll.keep k y ts _ ha)
  | .opq T, _, h => by
    cases h with
    | opq ht o => exact .opq (y _ _ ht) o
theorem IsAll.keep (k : Kp K H H') (y : Ky K H H') : ∀ (ts : List Th) (vs : List V), IsAll K H vs ts → IsAll K H' vs ts
  | [], _, h => by cases h; exact .nil
  | d :: ds, _, h => by
    cases h with
    | cons h1 h2 => exact .cons (Is.keep k y d _ h1) (IsAll.keep k y ds _ h2)
end
theorem Is.same {t : Th} {v : V} (h : Is K H v t) (s : Same H H') : Is K H' v t := Is.keep s.kp s.ky t v h
theorem IsAll.same {ts : List Th} {vs : List V} (h : IsAll K H vs ts) (s : Same H H') : IsAll K H' vs ts := IsAll.keep s.kp s.ky ts vs h
theorem IsAll.len : ∀ {vs : List V} {ts : List Th}, IsAll K H vs ts → vs.length = ts.length
  | _, _, .nil => rfl
  | _, _, .cons _ t => by rw [List.length_cons, List.length_cons, IsAll.len t]
theorem IsAll.get : ∀ {vs : List V} {ts : List Th} {i : Nat} {v : V}, IsAll K H vs ts → vs[i]? = some v → ∃ t, ts[i]? = some t ∧ Is K H v t
  | _, _, _, _, .nil, h => by simp at h
  | _, _, 0, _, .cons f _, h => by
    have e := Option.some.inj h
    subst e
    exact ⟨_, rfl, f⟩
  | _, _, i + 1, _, .cons _ t, h => IsAll.get (i := i) t h
theorem IsAll.dropP : ∀ {vs : List V} {ts : List Th} (n : Nat), IsAll K H vs ts → IsAll K H (vs.drop n) (ts.drop n)
  | _, _, 0, h => h
  | _, _, _ + 1, .nil => .nil
  | _, _, n + 1, .cons _ t => IsAll.dropP n t
theorem IsAll.app : ∀ {vs us : List V} {ts rs : List Th}, IsAll K H vs ts → IsAll K H us rs → IsAll K H (vs ++ us) (ts ++ rs)
  | _, _, _, _, .nil, t => t
  | _, _, _, _, .cons g t, u => .cons g (IsAll.app t u)
/-! which kind -/
def Th.isTup : Th → Bool
  | .tup _ => true
  | _ => false
def Th.isStr : Th → Bool
  | .str _ => true
  | _ => false
def Th.isInt : Th → Bool
  | .int _ => true
  | .bl _ => true
  | _ => false
theorem tupTy {a : Addr} {xs : List V} (h : SqT K H a xs) : TyX K H (.ref a) (.type "tuple") := by
  rcases h with (h | ⟨o, h⟩) | h
  · exact .base (.tup h)
  · exact .fTuple h
  · obtain ⟨o, e, c⟩ : ∃ o, K.lookup a = some o ∧ o.cls = .type "tuple" := by
      obtain ⟨o, _, _, h1, h2, _⟩ := h
      exact ⟨o, h1, h2⟩
    exact .kTuple e c
theorem Is.tuple {v : V} {t : Th} (h : Is K H v t) : ∃ T, TyX K H v T ∧ PySem.W.kitOne K T (.type "tuple") = some t.isTup := by
  cases h with
  | non => exact ⟨_, .base .non, kit_ty (show kitB "NoneType" "tuple" = some false by decide +kernel)⟩
  | bl b => exact ⟨_, .base (.bl b), kit_ty (show kitB "bool" "tuple" = some false by decide +kernel)⟩
  | int i => exact ⟨_, .base (.int i), kit_ty (show kitB "int" "tuple" = some false by decide +kernel)⟩
  | str x _ => exact ⟨_, .base (.str x), kit_ty (show kitB "str" "tuple" = some false by decide +kernel)⟩
  | tup hs _ => exact ⟨_, tupTy hs, kit_ty (show kitB "tuple" "tuple" = some true by decide +kernel)⟩
  | opq ht o => exact ⟨_, ht, o.t⟩
theorem Is.strng {v : V} {t : Th} (h : Is K H v t) : ∃ T, TyX K H v T ∧ PySem.W.kitOne K T (.type "str") = some t.isStr := by
  cases h with
  | non => exact ⟨_, .base .non, kit_ty (show kitB "NoneType" "str" = some false by decide +kernel)⟩
  | bl b => exact ⟨_, .base (.bl b), kit_ty (show kitB "bool" "str" = some false by decide +kernel)⟩
  | int i => exact ⟨_, .base (.int i), kit_ty (show kitB "int" "str" = some false by decide +kernel)⟩
  | str x _ => exact ⟨_, .base (.str x), kit_ty (show kitB "str" "str" = some true by decide +kernel)⟩
  | tup hs _ => exact ⟨_, tupTy hs, kit_ty (show kitB "tuple" "str" = some false by decide +kernel)⟩
  | opq ht o => exact ⟨_, ht, o.s⟩
theorem Is.intgr {v : V} {t : Th} (h : Is K H v t) : ∃ T, TyX K H v T ∧ PySem.W.kitOne K T (.type "int") = some t.isInt := by
  cases h with
  | non => exact ⟨_, .base .non, kit_ty (show kitB "NoneType" "int" = some false by decide +kernel)⟩
  | bl b => exact ⟨_, .base (.bl b), kit_ty (show kitB "bool" "int" = some true by decide +kernel)⟩
  | int i => exact ⟨_, .base (.int i), kit_ty (show kitB "int" "int" = some true by decide +kernel)⟩
  | str x _ => exact ⟨_, .base (.str x), kit_ty (show kitB "str" "int" = some false by decide +kernel)⟩
  | tup hs _ => exact ⟨_, tupTy hs, kit_ty (show kitB "tuple" "int" = some false by decide +kernel)⟩
  | opq ht o => exact ⟨_, ht, o.i⟩
end
/-! ### what is judged -/
def Th.name : Th → Bool
  | .str x => nmB x
  | _ => false
def Th.strs : List Th → List Str
  | [] => []
  | .str x :: r => x :: Th.strs r
  | _ :: r => Th.strs r
def namesL (ts : List Th) : Bool := ts.all Th.name && decide (Th.strs ts).Nodup
def Th.names : Th → Bool
  | .tup ts => namesL ts
  | _ => false
def wordLen (z : Str) : Option Nat := if z = "zero" then some 2 else if z = "copy" then some 3 else if z = "more" then some 2 else none
def deedL : List Th → Bool
  | .str z :: r => decide (wordLen z = some (r.length + 1)) && r.all Th.name
  | _ => false
def Th.deed : Th → Bool
  | .tup ts => deedL ts
  | _ => false
/-- the first that is not so -/
def firstNo (f : Th → Bool) : List Th → Option Nat
  | [] => none
  | t :: r => if f t = true then (firstNo f r).map (· + 1) else some 0
def Th.deedTup : Th → Bool
  | .tup ts => ts.all Th.deed
  | _ => false
def frameL : List Th → Bool
  | [.str z, x, .tup _] => decide (z = "round") && x.name
  | _ => false
def Th.frame : Th → Bool
  | .tup ts => frameL ts
  | _ => false
theorem firstNo_none {f : Th → Bool} : ∀ {ts : List Th}, (∀ t ∈ ts, f t = true) → firstNo f ts = none
  | [], _ => rfl
  | t :: r, h => by
    unfold firstNo
    rw [if_pos (h t List.mem_cons_self), firstNo_none fun s m => h s (List.mem_cons_of_mem _ m)]
    rfl
theorem firstNo_iff {f : Th → Bool} : ∀ {ts : List Th}, firstNo f ts = none ↔ ts.all f = true
  | [] => by simp [firstNo]
  | t :: r => by
    unfold firstNo
    by_cases h : f t = true
    · rw [if_pos h, List.all_cons, h, Bool.true_and, ← firstNo_iff (ts := r)]
      cases firstNo f r <;> simp
    · rw [if_neg h, List.all_cons]
      simp [h]
theorem firstNo_at {f : Th → Bool} : ∀ {ts : List Th} {i : Nat} {t : Th}, ts[i]? = some t → f t = false → (∀ j s, j < i → ts[j]? = some s → f s = true) → firstNo f ts = some i
  | [], _, _, h, _, _ => by simp at h
  | t :: r, 0, s, h, hf, _ => by
    have e := Option.some.inj h
    subst e
    unfold firstNo
    rw [if_neg (by rw [hf]; decide)]
  | t :: r, i + 1, s, h, hf, hb => by
    have h0 := hb 0 t (Nat.succ_pos i) rfl
    unfold firstNo
    rw [if_pos h0, firstNo_at (ts := r) (i := i) h hf fun j u hj hu => hb (j + 1) u (Nat.succ_lt_succ hj) hu]
    rfl
/-! ### data as things -/
mutual
def thP : PyData → Th
  | .none => .non
  | .bool b => .bl b
  | .int i => .int i
  | .str x => .str x
  | .tuple ds => .tup (thPs ds)
  | _ => .non
def thPs : List PyData → List Th
  | [] => []
  | d :: ds => thP d :: thPs ds
end
theorem thPs_map {α : Type} {f : α → PyData} : ∀ {l : List α}, thPs (l.map f) = l.map fun x => thP (f x)
  | [] => rfl
  | a :: r => by
    rw [List.map_cons, List.map_cons, ← thPs_map (l := r)]
    rfl
mutual
def shP : PyData → Bool
  | .str x => decide (x.cps.size ≤ 1000)
  | .tuple ds => shPs ds
  | _ => true
def shPs : List PyData → Bool
  | [] => true
  | d :: ds => shP d && shPs ds
end
theorem shPs_all : ∀ {ds : List PyData}, shPs ds = true ↔ ∀ d ∈ ds, shP d = true
  | [] => by simp [shPs]
  | d :: ds => by
    show (shP d && shPs ds) = true ↔ _
    rw [Bool.and_eq_true, shPs_all (ds := ds)]
    simp
section
variable {K : PySem.W.Frag} {H : Hp}
mutual
theorem Tp.is : ∀ (d : PyData) (v : V), shP d = true → Tp K H v d → Is K H v (thP d)
  | .none, _, _, h => by cases h; exact .non
  | .bool b, _, _, h => by cases h; exact .bl b
  | .int i, _, _, h => by cases h; exact .int i
  | .str x, _, s, h => by cases h; exact .str x (of_decide_eq_true s)
  | .list _, _, _, h => by cases h
  | .dict _, _, _, h => by cases h
  | .tuple ds, _, s, h => by
    cases h with
    | tup hs ha => exact .tup hs (TpAll.is ds _ s ha)
theorem TpAll.is : ∀ (ds : List PyData) (vs : List V), shPs ds = true → TpAll K H vs ds → IsAll K H vs (thPs ds)
  | [], _, _, h => by cases h; exact .nil
  | d :: ds, _, s, h => by
    cases h with
    | cons h1 h2 =>
      have s' : (shP d && shPs ds) = true := s
      rw [Bool.and_eq_true] at s'
      exact .cons (Tp.is d _ s'.1 h1) (TpAll.is ds _ s'.2 h2)
end
end
theorem nm_short {x : Str} (h : nmB x = true) : x.cps.size ≤ 1000 := by
  unfold nmB at h
  simp only [Bool.and_eq_true, decide_eq_true_eq] at h
  have := h.1.2
  omega
theorem sh_strs {ns : List Str} (h : ∀ x ∈ ns, nmB x = true) : shP (nmD ns) = true := by
  show shPs _ = true
  rw [shPs_all]
  intro d m
  obtain ⟨x, xm, rfl⟩ := List.mem_map.mp m
  exact decide_eq_true (nm_short (h x xm))
theorem sh_deed {d : De} (h : ∀ x ∈ d.ns, nmB x = true) : shP (deD d) = true := by
  cases d with
  | zero x =>
    show (shP (.str "zero") && (shP (.str x) && true)) = true
    rw [show shP (.str "zero") = true by decide +kernel, show shP (.str x) = true from decide_eq_true (nm_short (h x (by simp [De.ns])))]
    rfl
  | more x =>
    show (shP (.str "more") && (shP (.str x) && true)) = true
    rw [show shP (.str "more") = true by decide +kernel, show shP (.str x) = true from decide_eq_true (nm_short (h x (by simp [De.ns])))]
    rfl
  | copy x y =>
    show (shP (.str "copy") && (shP (.str x) && (shP (.str y) && true))) = true
    rw [show shP (.str "copy") = true by decide +kernel, show shP (.str x) = true from decide_eq_true (nm_short (h x (by simp [De.ns]))), show shP (.str y) = true from decide_eq_true (nm_short (h y (by simp [De.ns])))]
    rfl
theorem sh_sm {s : Sm} (h : ∀ x ∈ s.ns, nmB x = true) : shP (smD s) = true := by
  cases s with
  | deed d => exact sh_deed h
  | rnd x ds =>
    show (shP (.str "round") && (shP (.str x) && (shP (.tuple (ds.map deD)) && true))) = true
    have e : shP (.tuple (ds.map deD)) = true := by
      show shPs _ = true
      rw [shPs_all]
      intro d m
      obtain ⟨e, em, rfl⟩ := List.mem_map.mp m
      exact sh_deed fun y hy => h y (List.mem_cons_of_mem _ (List.mem_flatten.mpr ⟨e.ns, List.mem_map.mpr ⟨e, em, rfl⟩, hy⟩))
    rw [show shP (.str "round") = true by decide +kernel, show shP (.str x) = true from decide_eq_true (nm_short (h x List.mem_cons_self)), e]
    rfl
theorem strs_map (ns : List Str) : Th.strs (ns.map Th.str) = ns := by
  induction ns with
  | nil => rfl
  | cons a r ih => show a :: Th.strs (r.map Th.str) = a :: r; rw [ih]
theorem namesL_map {ns : List Str} (h : ns.Nodup) (k : ∀ x ∈ ns, nmB x = true) : namesL (ns.map Th.str) = true := by
  unfold namesL
  rw [strs_map, decide_eq_true h, Bool.and_true, List.all_eq_true]
  intro t m
  obtain ⟨x, xm, rfl⟩ := List.mem_map.mp m
  exact k x xm
theorem deed_thP {d : De} (h : ∀ x ∈ d.ns, nmB x = true) : (thP (deD d)).deed = true := by
  cases d with
  | zero x =>
    show (decide (wordLen "zero" = some 2) && ([Th.str x].all Th.name)) = true
    rw [show wordLen "zero" = some 2 by decide +kernel]
    show (true && (nmB x && true)) = true
    rw [h x (by simp [De.ns])]
    rfl
  | more x =>
    show (decide (wordLen "more" = some 2) && ([Th.str x].all Th.name)) = true
    rw [show wordLen "more" = some 2 by decide +kernel]
    show (true && (nmB x && true)) = true
    rw [h x (by simp [De.ns])]
    rfl
  | copy x y =>
    show (decide (wordLen "copy" = some 3) && ([Th.str x, Th.str y].all Th.name)) = true
    rw [show wordLen "copy" = some 3 by decide +kernel]
    show (true && (nmB x && (nmB y && true))) = true
    rw [h x (by simp [De.ns]), h y (by simp [De.ns])]
    rfl
theorem round_no_deed {x : Str} {ds : List De} : (thP (smD (.rnd x ds))).deed = false := by
  show (decide (wordLen "round" = some 3) && ([Th.str x, thP (.tuple (ds.map deD))].all Th.name)) = false
  rw [show wordLen "round" = none by decide +kernel]
  rfl
theorem round_frame {x : Str} {ds : List De} (h : nmB x = true) : (thP (smD (.rnd x ds))).frame = true := by
  show (decide (("round" : Str) = "round") && nmB x) = true
  rw [h, decide_eq_true rfl]
  rfl
end Y

namespace Y
open PySem PySem.Spec PyProof.Rows L2
theorem seqI0 {n : Nat} (h : 0 < n) : seqIndex? 0 n = some 0 := by
  have q := (ixN_seq (ixN_nat (j := 0) h)).1
  exact q
def topS (i : Nat) : Stmt := PySem.Challenge.pw_flatrounds_k02_whole_programs_kept_and_e.main.body.getD i (.Pass ⟨0, 0, 0, 0⟩)
theorem hu66 {A : Around} {k : Nat} (hr : Room k A) : A.units + 66 < cLine := by
  have := hr.un
  omega
/-- built-in names that the module does not hide -/
structure Bi (mg : Str → Option Value) : Prop where
  len : mg "len" = none
  int_ : mg "int" = none
  abs : mg "abs" = none
  sum : mg "sum" = none
  list_ : mg "list" = none
  tuple_ : mg "tuple" = none
  range : mg "range" = none
  isinstance : mg "isinstance" = none
  str_ : mg "str" = none
  bool_ : mg "bool" = none
  dict_ : mg "dict" = none
  all : mg "all" = none
  set_ : mg "set" = none
  enumerate : mg "enumerate" = none
  min : mg "min" = none
  sorted : mg "sorted" = none
def absI (i : Int) : Int := if i < 0 then -i else i
section
variable {P : Program} {w : World} {K : PySem.W.Frag} {mg : Str → Option Value} {base : Heap}
abbrev s_l_hand : Stmt := topS 31
theorem sc_l_hand : FnScope ["_law_script", "_law_cells", "_law_cell"] ["_law_script"] (defScope s_l_hand) := ⟨rfl, rfl, rfl, by decide +kernel, rfl, by decide +kernel, by decide +kernel⟩
def spHand (K : PySem.W.Frag) : Sp := fun vs H Q _ => ∃ (a : Addr) (ns : List Int), vs = [.ref a] ∧ SqL K H a (ns.map V.int) ∧ ns.length ≤ 63 ∧ ∀ (p c : Addr) H', Same H H' → H p = none → H c = none → HandAt H' p c → Q (.ref p) H'
theorem ok_hand {f : Addr} {fd : FuncData} (F : Fun K "_law_hand" "_law_hand" s_l_hand f fd) (T : Bi mg) : FnOk P w K mg base CX0 1 f fd ["_law_script"] (spHand K) := by
  refine F.ok sc_l_hand (fun vs H Q E h => ?_) (fun cdv A outer s₀ H vs Q E hr h => ?_)
  · obtain ⟨a, ns, rfl, _⟩ := h
    rfl
  · obtain ⟨a, ns, rfl, hS, hlen, kk⟩ := h
    refine ⟨_, (pss_cons (ps_setLc (i := 1) (own := [("_law_cell", 2)]) (g := gName 2) (tt := tYes) (by rfl) sc_l_hand.nd rfl rfl (sw_true rfl rfl rfl (by decide +kernel)) (pi_list (pe_slice sl_list (pv 0) po_none (po_some pe_int))) (blkOk_by (N := ["_law_script", "_law_cells", "_law_cell"]) (sc := defScope s_l_hand) (by decide +kernel)) (fun _ _ _ _ _ => pg_name (i := 2) sc_l_hand.nd rfl (.inl rfl)) (fun _ _ _ _ _ => pts_nil) (fun _ _ _ _ _ => (pe_callB (id := "abs") call_abs (by rfl) T.abs (by decide +kernel) (pa_cons (pe_callTy (T := "int") call_int1 (by rfl) T.int_ (by decide +kernel) (pa_cons (pv 2) pa_nil)) pa_nil))))
 (pss_one (ps_ret (pe_lst (pa_cons (pv 1) (pa_cons pe_int (pa_cons pe_int (pa_cons (pe_op op_add pe_int (pe_callB call_len_seq (by rfl) T.len PySem.boot_len (pa_cons (pv 1) pa_nil))) (pa_cons pe_int pa_nil))))))))), ?_⟩
    refine ⟨_, rfl, _, rfl, a, _, rfl, hS, fun c nc => ?_⟩
    have ec : cutV (ns.map V.int) none (some 63) = ns.map V.int := cut_all (n := 63) (by rw [List.length_map]; exact hlen)
    rw [ec]
    have s1 : Same H (upd H c (.lst (ns.map V.int))) := same_upd nc
    refine ⟨c, rfl, ⟨_, SqL.of upd_same⟩, fun m nm => lc_list (K := K) (a := c) (xs := ns.map V.int) (fun i H1 => Same H H1 ∧ H1 c = some (.lst (ns.map V.int)) ∧ H1 m = some (.lst (((ns.take i).map absI).map V.int))) ⟨s1.put (s1.freeOf nm), ?_, upd_same⟩ (fun i H1 _ q => SqL.of q.2.1) (fun i x H1 hx q => ?_) fun H2 q => ?_⟩
    · rw [upd_ne (ne_of_none upd_same nm)]; exact upd_same
    · obtain ⟨z, hz, rfl⟩ := map_at hx
      obtain ⟨q1, q2, q3⟩ := q
      have ncm : c ≠ m := ne_of_none upd_same nm
      refine ⟨rfl, ?_⟩
      refine ⟨_, rfl, .inl ⟨_, rfl, _, rfl, _, q3, ?_, q1.put (s1.freeOf nm), (by rw [upd_ne ncm]; exact q2), (by rw [upd_same, take_next hz, List.map_append, List.map_append]; rfl)⟩⟩
      rw [List.length_map, List.length_map, List.length_take]
      exact big1 (by omega)
    · obtain ⟨q1, q2, q3⟩ := q
      rw [List.length_map, List.take_length] at q3
      refine ⟨_, rfl, _, rfl, m, _, rfl, .inl (SqL.of q3), _, _, rfl, rfl, (by show 5 ≤ sizeLine; decide), fun p np => ?_⟩
      exact kk p m _ (q1.put (q1.freeOf np)) (q1.freeOf np) (s1.freeOf nm) ⟨⟨ns.map absI, 0, 0, _, 0, upd_same, by rw [upd_ne (ne_of_none q3 np)]; exact q3, Int.le_refl _⟩, (ne_of_none q3 np).symm⟩
abbrev s_l_draw : Stmt := topS 32
theorem sc_l_draw : FnScope ["_law_hand_here", "_law_many", "_law_cell", "_law_digit", "_law_number"] ["_law_hand_here", "_law_many"] (defScope s_l_draw) := ⟨rfl, rfl, rfl, by decide +kernel, rfl, by decide +kernel, by decide +kernel⟩
def spDraw (K : PySem.W.Frag) : Sp := fun vs H Q _ => ∃ (p c : Addr) (n : Int), vs = [.ref p, .int n] ∧ HandAt H p c ∧ 1 ≤ n ∧ n < 1073741824 ∧ ∀ (r : Nat) H', (r : Int) < n → Drew K p c H H' → Q (.int (r : Nat)) H'
theorem Drew.cell {H H' : Hp} {p c : Addr} {xs ys : List V} {cs : List Int} {i b m k : Int} (D : Drew K p c H H') (h : H' p = some (.lst xs)) (hc : H' c = some (.lst (cs.map V.int))) (e : ys = [.ref c, .int i, .int b, .int m, .int k]) (i0 : 0 ≤ i) : Drew K p c H (upd H' p (.lst ys)) := by
  subst e
  refine ⟨⟨⟨cs, i, b, m, k, upd_same, by rw [upd_ne D.z.ne.symm]; exact hc, i0⟩, D.z.ne⟩, fun x u e n1 n2 => by rw [upd_ne n1]; exact D.b x u e n1 n2, fun x ys h' => ?_, D.y.trans (ky_set h)⟩
  rcases D.k _ _ h' with (k' | ⟨w, k'⟩) | k'
  · exact .inl (.inl (by rw [upd_ne (fun e => by rw [e, h] at k'; cases k')]; exact k'))
  · exact .inl (.inr ⟨w, by rw [upd_ne (fun e => by rw [e, h] at k'; cases k')]; exact k'⟩)
  · exact .inr k'
theorem ok_draw {f : Addr} {fd : FuncData} (F : Fun K "_law_draw" "_law_draw" s_l_draw f fd) (T : Bi mg) : FnOk P w K mg base CX0 1 f fd ["_law_hand_here", "_law_many"] (spDraw K) := by
  refine F.ok sc_l_draw (fun vs H Q E h => ?_) (fun cdv A outer s₀ H vs Q E hr h => ?_)
  · obtain ⟨p, c, n, rfl, _⟩ := h
    rfl
  · obtain ⟨p, c, n, rfl, Z, n1, n2, kk⟩ := h
    have fin : ∀ x : Int, 0 ≤ x → x < n → ∀ H', Drew K p c H H' → Q (.int x) H' := fun x h0 h1 H' D => by
      obtain ⟨r, rfl⟩ := nat_of h0
      exact kk r H' h1 D
    refine ⟨_, (C8.pss_cut (ps_if ((pw_and (pt_cmpR op_eq (pe_ix ix_list (pv 0) pe_int (fun _ _ => rfl)) pe_int (nomark _)) (pw_and1 (pt_cmpR op_lt (pe_ix ix_list (pv 0) pe_int (fun _ _ => rfl)) (pe_callB call_len_seq (by rfl) T.len PySem.boot_len (pa_cons (pe_ix ix_list (pv 0) pe_int (fun _ _ => rfl)) pa_nil)) (nomark _))))).pt
  (pss_cons (ps_set (i := 2) sc_l_draw.nd rfl (.inl rfl) (pe_ix ix_list (pe_ix ix_list (pv 0) pe_int (fun _ _ => rfl)) (pe_ix ix_list (pv 0) pe_int (fun _ _ => rfl)) (fun _ _ => rfl)))
 (pss_cons (ps_asg (pe_op op_add (pe_ix ix_list (pv 0) pe_int (fun _ _ => rfl)) pe_int) (pg_sub (pv 0) pe_int set_list))
 (pss_cons (ps_asg (pe_op op_mod (pe_callTy (T := "int") call_int1 (by rfl) T.int_ (by decide +kernel) (pa_cons (pe_op op_add (pe_op op_add (pe_op op_mul (pe_ix ix_list (pv 0) pe_int (fun _ _ => rfl)) pe_int) (pv 2)) pe_int) pa_nil)) pe_int) (pg_sub (pv 0) pe_int set_list))
 (pss_one (ps_if (pt_cmpR op_ge (pv 2) (pe_op op_pow pe_int pe_int) (nomark _))
  (pss_one (ps_asg (pv 2) (pg_sub (pv 0) pe_int set_list)))
  pss_nil)))))
  pss_nil)
 (pss_cons (ps_if (pt_cmpR op_gt (pe_ix ix_list (pv 0) pe_int (fun _ _ => rfl)) pe_int (nomark _))
  (pss_cons (ps_set (i := 3) sc_l_draw.nd rfl (.inl rfl) (pe_op op_mod (pe_callTy (T := "int") call_int1 (by rfl) T.int_ (by decide +kernel) (pa_cons (pe_ix ix_list (pv 0) pe_int (fun _ _ => rfl)) pa_nil)) (pv 1)))
 (pss_cons (ps_asg (pe_op op_fdiv (pe_ix ix_list (pv 0) pe_int (fun _ _ => rfl)) (pv 1)) (pg_sub (pv 0) pe_int set_list))
 (pss_one (ps_ret (pv 3)))))
  pss_nil)
 (pss_cons (ps_asg (pe_op op_add (pe_ix ix_list (pv 0) pe_int (fun _ _ => rfl)) pe_int) (pg_sub (pv 0) pe_int set_list))
 (pss_cons (ps_set (i := 4) sc_l_draw.nd rfl (.inl rfl) (pe_op op_mod (pe_callTy (T := "int") call_int1 (by rfl) T.int_ (by decide +kernel) (pa_cons (pe_op op_mul (pe_callTy (T := "int") call_int1 (by rfl) T.int_ (by decide +kernel) (pa_cons (pe_op op_add (pe_ix ix_list (pv 0) pe_int (fun _ _ => rfl)) (pe_op op_mul pe_int (pe_ix ix_list (pv 0) pe_int (fun _ _ => rfl)))) pa_nil)) pe_int) pa_nil)) pe_int))
 (pss_cons (ps_set (i := 4) sc_l_draw.nd rfl (.inl rfl) (pe_op op_mod (pe_callTy (T := "int") call_int1 (by rfl) T.int_ (by decide +kernel) (pa_cons (pe_op op_mul (pv 4) (pe_op op_add (pe_op op_fdiv (pv 4) pe_int) pe_int)) pa_nil)) pe_int))
 (pss_cons (ps_set (i := 4) sc_l_draw.nd rfl (.inl rfl) (pe_op op_mod (pe_callTy (T := "int") call_int1 (by rfl) T.int_ (by decide +kernel) (pa_cons (pe_op op_mul (pv 4) (pe_op op_add (pe_op op_fdiv (pv 4) pe_int) pe_int)) pa_nil)) pe_int))
 (pss_one (ps_ret (pe_op op_mod (pe_callTy (T := "int") call_int1 (by rfl) T.int_ (by decide +kernel) (pa_cons (pe_op op_fdiv (pv 4) pe_int) pa_nil)) (pv 1)))))))))), ?_⟩
    refine ⟨fun σ H1 => ∃ y2, σ = [some (.ref p), some (.int n), y2, none, none] ∧ Drew K p c H H1, ?_, ?_⟩
    · obtain ⟨⟨cs, i, b, m, k, hp, hc, i0⟩, ne⟩ := id Z
      have D0 : Drew K p c H H := Drew.refl Z
      refine ⟨_, rfl, p, _, _, _, rfl, rfl, SqL.of hp, rfl, rfl, _, rfl, ite2 (fun _ => ?_) (fun _ => ⟨_, rfl, D0⟩)⟩
      refine ⟨_, rfl, p, _, _, _, rfl, rfl, SqL.of hp, rfl, _, rfl, p, _, _, _, rfl, rfl, SqL.of hp, rfl, c, _, rfl, .inl (SqL.of hc), _, _, rfl, rfl, _, rfl, ite2 (fun hd => ?_) (fun _ => ⟨_, rfl, D0⟩)⟩
      obtain ⟨j, rfl⟩ := nat_of i0
      have hj : j < cs.length := by
        have z : (j : Int) < ((cs.map V.int).length : Int) := of_decide_eq_true hd
        rw [List.length_map] at z
        omega
      have hz : (cs.map V.int)[j]? = some (.int cs[j]) := by rw [List.getElem?_map, List.getElem?_eq_getElem hj]; rfl
      generalize cs[j] = z at hz
      refine ⟨_, rfl, p, _, _, _, rfl, rfl, SqL.of hp, rfl, _, rfl, p, _, _, _, rfl, rfl, SqL.of hp, rfl, c, _, _, _, rfl, rfl, SqL.of hc, atI_nat hz, ?_⟩
      refine ⟨_, rfl, p, _, _, _, rfl, rfl, SqL.of hp, rfl, _, _, rfl, rfl, _, rfl, p, _, _, 1, rfl, rfl, hp, rfl, ?_⟩
      have D1 := D0.cell (ys := [V.ref c, V.int (j : Nat), V.int b, V.int m, V.int k].set 1 (V.int (((j : Nat) : Int) + 1))) (i := ((j : Nat) : Int) + 1) hp hc rfl (by omega)
      have hp1 : (upd H p (.lst ([V.ref c, V.int (j : Nat), V.int b, V.int m, V.int k].set 1 (V.int (((j : Nat) : Int) + 1))))) p = some (.lst [V.ref c, V.int (((j : Nat) : Int) + 1), V.int b, V.int m, V.int k]) := upd_same
      have hc1 : (upd H p (.lst ([V.ref c, V.int (j : Nat), V.int b, V.int m, V.int k].set 1 (V.int (((j : Nat) : Int) + 1))))) c = some (.lst (cs.map V.int)) := by rw [upd_ne ne.symm]; exact hc
      generalize upd H p (.lst ([V.ref c, V.int (j : Nat), V.int b, V.int m, V.int k].set 1 (V.int (((j : Nat) : Int) + 1)))) = H1 at D1 hp1 hc1
      have i1 : (0 : Int) ≤ ((j : Nat) : Int) + 1 := by omega
      generalize ((j : Nat) : Int) + 1 = i at hp1 i1
      refine ⟨_, rfl, p, _, _, _, rfl, rfl, SqL.of hp1, rfl, _, _, rfl, rfl, .inr (by decide), _, rfl, _, _, rfl, rfl, _, _, rfl, rfl, .inl ⟨_, rfl, _, _, rfl, rfl, (by decide : (0 : Int) < 2147483629), _, rfl, p, _, _, 3, rfl, rfl, hp1, rfl, ?_⟩⟩
      have D2 := D1.cell (ys := [V.ref c, V.int i, V.int b, V.int m, V.int k].set 3 (V.int ((m * 69621 + z + 11) % 2147483629))) (m := (m * 69621 + z + 11) % 2147483629) hp1 hc1 rfl i1
      have hp2 : (upd H1 p (.lst ([V.ref c, V.int i, V.int b, V.int m, V.int k].set 3 (V.int ((m * 69621 + z + 11) % 2147483629))))) p = some (.lst [V.ref c, V.int i, V.int b, V.int ((m * 69621 + z + 11) % 2147483629), V.int k]) := upd_same
      have hc2 : (upd H1 p (.lst ([V.ref c, V.int i, V.int b, V.int m, V.int k].set 3 (V.int ((m * 69621 + z + 11) % 2147483629))))) c = some (.lst (cs.map V.int)) := by rw [upd_ne ne.symm]; exact hc1
      generalize upd H1 p (.lst ([V.ref c, V.int i, V.int b, V.int m, V.int k].set 3 (V.int ((m * 69621 + z + 11) % 2147483629)))) = H2 at D2 hp2 hc2
      refine ⟨_, rfl, _, _, rfl, rfl, ⟨by decide, by decide, by decide⟩, _, _, rfl, rfl, _, rfl, ite2 (fun _ => ?_) (fun _ => ⟨_, rfl, D2⟩)⟩
      exact ⟨_, rfl, _, rfl, p, _, _, 2, rfl, rfl, hp2, rfl, _, rfl, D2.cell hp2 hc2 rfl i1⟩
    · rintro σ H1 ⟨y2, rfl, D⟩
      obtain ⟨⟨cs, i, b, m, k, hp, hc, i0⟩, ne⟩ := id D.z
      refine ⟨_, rfl, p, _, _, _, rfl, rfl, SqL.of hp, rfl, _, _, rfl, rfl, _, rfl, ite2 (fun _ => ?_) (fun _ => ?_)⟩
      · have r0 : 0 ≤ b % n := Int.emod_nonneg b (by omega)
        have r1 : b % n < n := Int.emod_lt_of_pos b (by omega)
        refine ⟨_, rfl, p, _, _, _, rfl, rfl, SqL.of hp, rfl, .inl ⟨_, rfl, _, rfl, _, _, rfl, rfl, (by show (0 : Int) < n; omega), ?_⟩⟩
        refine ⟨_, rfl, p, _, _, _, rfl, rfl, SqL.of hp, rfl, _, rfl, _, _, rfl, rfl, ⟨by omega, by omega⟩, _, rfl, p, _, _, 2, rfl, rfl, hp, rfl, _, rfl, ?_⟩
        exact fin _ r0 r1 _ (D.cell hp hc rfl i0)
      · refine ⟨_, rfl, p, _, _, _, rfl, rfl, SqL.of hp, rfl, _, _, rfl, rfl, _, rfl, p, _, _, 4, rfl, rfl, hp, rfl, ?_⟩
        have D1 := D.cell (ys := [V.ref c, V.int i, V.int b, V.int m, V.int k].set 4 (V.int (k + 1))) (k := k + 1) hp hc rfl i0
        have hp1 : (upd H1 p (.lst ([V.ref c, V.int i, V.int b, V.int m, V.int k].set 4 (V.int (k + 1))))) p = some (.lst [V.ref c, V.int i, V.int b, V.int m, V.int (k + 1)]) := upd_same
        generalize upd H1 p (.lst ([V.ref c, V.int i, V.int b, V.int m, V.int k].set 4 (V.int (k + 1)))) = H2 at D1 hp1
        refine ⟨_, rfl, p, _, _, _, rfl, rfl, SqL.of hp1, rfl, _, rfl, p, _, _, _, rfl, rfl, SqL.of hp1, rfl, _, _, rfl, rfl, .inl (by decide), _, _, rfl, rfl, .inl ⟨_, rfl, _, _, rfl, rfl, .inr (by decide), .inl ⟨_, rfl, _, _, rfl, rfl, (by decide : (0 : Int) < 2147483647), ?_⟩⟩⟩
        have a0 : 0 ≤ (m + 7919 * (k + 1)) * 48271 % 2147483647 := Int.emod_nonneg _ (by decide)
        have a1 : (m + 7919 * (k + 1)) * 48271 % 2147483647 < 2147483647 := Int.emod_lt_of_pos _ (by decide)
        generalize (m + 7919 * (k + 1)) * 48271 % 2147483647 = x at a0 a1
        refine ⟨_, rfl, _, rfl, _, _, rfl, rfl, ⟨by decide, by decide⟩, _, _, rfl, rfl, _, _, rfl, rfl, .inl ⟨by omega, by omega⟩, .inl ⟨_, rfl, _, _, rfl, rfl, (by decide : (0 : Int) < 2147483647), ?_⟩⟩
        have b0 : 0 ≤ x * (x / 1009 + 69621) % 2147483647 := Int.emod_nonneg _ (by decide)
        have b1 : x * (x / 1009 + 69621) % 2147483647 < 2147483647 := Int.emod_lt_of_pos _ (by decide)
        generalize x * (x / 1009 + 69621) % 2147483647 = y at b0 b1
        refine ⟨_, rfl, _, rfl, _, _, rfl, rfl, ⟨by decide, by decide⟩, _, _, rfl, rfl, _, _, rfl, rfl, .inl ⟨by omega, by omega⟩, .inl ⟨_, rfl, _, _, rfl, rfl, (by decide : (0 : Int) < 2147483399), ?_⟩⟩
        refine ⟨_, rfl, _, _, rfl, rfl, ⟨by decide, by decide⟩, .inl ⟨_, rfl, _, rfl, _, _, rfl, rfl, (by show (0 : Int) < n; omega), ?_⟩⟩
        exact fin _ (Int.emod_nonneg _ (by omega)) (Int.emod_lt_of_pos _ (by omega)) _ D1
abbrev s_l_some : Stmt := topS 33
theorem sc_l_some : FnScope ["_law_hand_here", "_law_things"] ["_law_hand_here", "_law_things"] (defScope s_l_some) := ⟨rfl, rfl, rfl, by decide +kernel, rfl, by decide +kernel, by decide +kernel⟩
def spSome (K : PySem.W.Frag) : Sp := fun vs H Q _ => ∃ (p c a : Addr) (xs : List V), vs = [.ref p, .ref a] ∧ HandAt H p c ∧ (SqL K H a xs ∧ a ≠ p ∨ SqT K H a xs) ∧ 0 < xs.length ∧ xs.length ≤ 1000000 ∧
  ∀ (j : Nat) (x : V) H', xs[j]? = some x → Drew K p c H H' → Q x H'
theorem ok_some {f : Addr} {fd : FuncData} (F : Fun K "_law_some" "_law_some" s_l_some f fd) (T : Bi mg) (D_l_draw : Has P w K mg base "_law_draw" 1 ["_law_hand_here", "_law_many"] (spDraw K)) : FnOk P w K mg base CX0 2 f fd ["_law_hand_here", "_law_things"] (spSome K) := by
  refine F.ok sc_l_some (fun vs H Q E h => ?_) (fun cdv A outer s₀ H vs Q E hr h => ?_)
  · obtain ⟨p, c, a, xs, rfl, _⟩ := h
    rfl
  · obtain ⟨p, c, a, xs, rfl, Z, hS, l0, l1, kk⟩ := h
    refine ⟨_, (pss_one (ps_ret (pe_ix ix_seq (pv 1) (D_l_draw.call (hr.mono (by decide)) (by rfl) (pa_cons (pv 0) (pa_cons (pe_callB call_len_seq (by rfl) T.len PySem.boot_len (pa_cons (pv 1) pa_nil)) pa_nil))) (fun _ _ => rfl)))), ?_⟩
    have hS' : SqL K H a xs ∨ SqT K H a xs := hS.elim (fun z => .inl z.1) .inr
    refine ⟨_, rfl, _, rfl, _, rfl, a, xs, rfl, hS', p, c, _, rfl, Z, by omega, by omega, fun j H1 r1 D => ?_⟩
    have hj : j < xs.length := by omega
    have hx : xs[j]? = some xs[j] := List.getElem?_eq_getElem hj
    rcases hS with ⟨hS, n1⟩ | hS
    · exact .inl ⟨a, xs, _, _, rfl, rfl, D.seqL n1 hS, atI_nat hx, kk j _ _ hx D⟩
    · exact .inr (.inl ⟨a, xs, _, _, rfl, rfl, D.k _ _ hS, atI_nat hx, kk j _ _ hx D⟩)
theorem take_out {α : Type} : ∀ {zs : List α} {j : Nat} (h : j < zs.length), ([zs[j]] ++ zs.eraseIdx j).Perm zs
  | _ :: _, 0, _ => List.Perm.refl _
  | x :: r, j + 1, h => by
    have q := take_out (zs := r) (j := j) (Nat.lt_of_succ_lt_succ h)
    exact (List.Perm.swap x _ _).trans (q.cons x)
abbrev s_l_shuffled : Stmt := topS 34
theorem sc_l_shuffled : FnScope ["_law_hand_here", "_law_things", "_law_pool", "_law_found"] ["_law_hand_here", "_law_things"] (defScope s_l_shuffled) := ⟨rfl, rfl, rfl, by decide +kernel, rfl, by decide +kernel, by decide +kernel⟩
def spShuf (K : PySem.W.Frag) : Sp := fun vs H Q _ => ∃ (p c a : Addr) (xs : List V), vs = [.ref p, .ref a] ∧ HandAt H p c ∧ (SqL K H a xs ∨ SqT K H a xs) ∧ xs.length ≤ 1000000 ∧
  ∀ (l : Addr) (ys : List V) H', ys.Perm xs → H l = none → H' l = some (.lst ys) → Drew K p c H H' → Q (.ref l) H'
theorem ok_shuf {f : Addr} {fd : FuncData} (F : Fun K "_law_shuffled" "_law_shuffled" s_l_shuffled f fd) (T : Bi mg) (D_l_draw : Has P w K mg base "_law_draw" 1 ["_law_hand_here", "_law_many"] (spDraw K)) : FnOk P w K mg base CX0 2 f fd ["_law_hand_here", "_law_things"] (spShuf K) := by
  refine F.ok sc_l_shuffled (fun vs H Q E h => ?_) (fun cdv A outer s₀ H vs Q E hr h => ?_)
  · obtain ⟨p, c, a, xs, rfl, _⟩ := h
    rfl
  · obtain ⟨p, c, a, xs, rfl, Z, hS, l1, kk⟩ := h
    refine ⟨_, (pss_cons (ps_set (i := 2) sc_l_shuffled.nd rfl (.inl rfl) (pe_callTy (T := "list") (call_list_of) (by rfl) T.list_ (by decide +kernel) (pa_cons (pv 1) pa_nil)))
 (pss_cons (ps_set (i := 3) sc_l_shuffled.nd rfl (.inl rfl) (pe_lst pa_nil))
 (pss_cons (ps_while PassesOwn.never (pt_cmpR op_gt (pe_callB call_len_seq (by rfl) T.len PySem.boot_len (pa_cons (pv 2) pa_nil)) pe_int (nomark _))
  (pss_one (ps_expr (pe_bm PySem.F.plainAttrs_list PySem.F.slot_list_append PySem.F.type_list_append mt_append (pv 3) (pa_cons (pe_bm PySem.F.plainAttrs_list PySem.F.slot_list_pop PySem.F.type_list_pop mt_popAt (pv 2) (pa_cons (D_l_draw.call (hr.mono (by decide)) (by rfl) (pa_cons (pv 0) (pa_cons (pe_callB call_len_seq (by rfl) T.len PySem.boot_len (pa_cons (pv 2) pa_nil)) pa_nil))) pa_nil)) pa_nil)))))
 (pss_one (ps_ret (pv 3)))))), ?_⟩
    refine ⟨_, rfl, a, xs, rfl, hS, fun l nl => ⟨(by show 0 ≤ sizeLine; decide), fun f nf => ?_⟩⟩
    have nlf : l ≠ f := ne_of_none upd_same nf
    have nf0 : H f = none := (same_upd nl).free nf
    refine ⟨fun m σ H1 => ∃ zs ws, σ = [some (.ref p), some (.ref a), some (.ref l), some (.ref f)] ∧ H1 l = some (.lst zs) ∧ H1 f = some (.lst ws) ∧ (ws ++ zs).Perm xs ∧ m = zs.length ∧ Drew K p c H H1,
      ⟨_, xs, [], rfl, by rw [upd_ne nlf]; exact upd_same, upd_same, List.Perm.refl _, rfl, ((Drew.refl Z).put nl).put nf⟩, ?_⟩
    rintro m σ H1 ⟨zs, ws, rfl, hl, hf, pm, rfl, D⟩
    have len := pm.length_eq
    rw [List.length_append] at len
    refine ⟨_, rfl, l, zs, rfl, .inl (SqL.of hl), _, _, rfl, rfl, _, rfl, ite2 (fun hc => ?_) (fun hc => ?_)⟩
    · have h0 : 0 < zs.length := by
        have z : (0 : Int) < (zs.length : Int) := of_decide_eq_true hc
        omega
      refine ⟨fun σ' H' => ∃ zs' ws', σ' = [some (.ref p), some (.ref a), some (.ref l), some (.ref f)] ∧ H' l = some (.lst zs') ∧ H' f = some (.lst ws') ∧ (ws' ++ zs').Perm xs ∧ zs'.length + 1 = zs.length ∧ Drew K p c H H', ?_, ?_⟩
      · rintro σ' H' ⟨zs', ws', e1, e2, e3, e4, e5, e6⟩
        exact ⟨zs'.length, by omega, zs', ws', e1, e2, e3, e4, rfl, e6⟩
      · refine ⟨_, rfl, .inl ⟨rfl, _, SqL.of hf⟩, _, rfl, .inl ⟨rfl, _, SqL.of hl⟩, _, rfl, _, rfl, l, zs, rfl, .inl (SqL.of hl), p, c, _, rfl, D.z, by omega, by omega, fun j H2 r1 D2 => ?_⟩
        have hj : j < zs.length := by omega
        have nlp := Z.free nl
        have nfp := Z.free nf0
        have hl2 := D2.get hl nlp.1
        have hf2 := D2.get hf nfp.1
        have hx : zs[j]? = some zs[j] := List.getElem?_eq_getElem hj
        have sI := (ixN_seq (ixN_nat hj)).1
        refine ⟨l, zs, _, j, zs[j], rfl, rfl, hl2, by omega, by omega, sI, hx, ?_⟩
        have D3 : Drew K p c H (upd H2 l (.lst (zs.eraseIdx j))) := (D.trans D2).set Z nl hl2
        have hf3 : (upd H2 l (.lst (zs.eraseIdx j))) f = some (.lst ws) := by rw [upd_ne nlf.symm]; exact hf2
        refine ⟨f, _, _, rfl, rfl, hf3, big1 (by omega), zs.eraseIdx j, ws ++ [zs[j]], rfl, by rw [upd_ne nlf]; exact upd_same, upd_same, ?_, ?_, D3.set Z nf0 hf3⟩
        · refine List.Perm.trans ?_ pm
          rw [List.append_assoc]
          refine List.Perm.append_left ws ?_
          exact take_out hj
        · rw [List.length_eraseIdx_of_lt hj]
          omega
    · have h0 : zs = [] := by
        cases zs with
        | nil => rfl
        | cons a r =>
          refine absurd (decide_eq_true (show (0 : Int) < (((a :: r).length : Nat) : Int) by rw [List.length_cons]; omega)) hc
      subst h0
      rw [List.append_nil] at pm
      exact ⟨_, rfl, kk f ws H1 pm nf0 hf D⟩
end
end Y

namespace Y
open PySem PySem.Spec PyProof.Rows L2
theorem _root_.L2.Same.tupP {H H' : Hp} (e : Same H H') : ∀ t xs, H t = some (.tup xs) → H' t = some (.tup xs) := fun t xs h => e t _ h
theorem strs_get {ns : List Str} {i : Nat} {v : V} (h : (ns.map V.str)[i]? = some v) : ∃ x, x ∈ ns ∧ v = .str x := by
  obtain ⟨x, hx, e⟩ := map_at h
  exact ⟨x, at_mem hx, e⟩
theorem kp_lst {K : PySem.W.Frag} {H : Hp} {a : Addr} {xs : List V} {o : HO} (h : H a = some (.lst xs)) : Kp K H (upd H a o) := fun b ys k => by
  rcases k with (k | ⟨w, k⟩) | k
  · exact .inl (.inl (by rw [upd_ne (fun e => by rw [e, h] at k; cases k)]; exact k))
  · exact .inl (.inr ⟨w, by rw [upd_ne (fun e => by rw [e, h] at k; cases k)]; exact k⟩)
  · exact .inr k
def NM14 : List Str := ["a", "b", "c", "d", "e", "x", "y", "zz", "given", "told", "round", "end", "zero", "zzzzzzzz"]
theorem nm14_ok : ∀ x ∈ NM14, nmB x = true := by decide +kernel
theorem nm14_nd : NM14.Nodup := by decide +kernel
/-- names in a list or a tuple -/
def Own (K : PySem.W.Frag) (H : Hp) (p a : Addr) (ns : List Str) : Prop := SqL K H a (ns.map V.str) ∧ a ≠ p ∨ SqT K H a (ns.map V.str)
theorem Own.drew {K : PySem.W.Frag} {H H' : Hp} {p c a : Addr} {ns : List Str} (h : Own K H p a ns) (D : Drew K p c H H') : Own K H' p a ns := by
  rcases h with ⟨h, n⟩ | h
  · exact .inl ⟨D.seqL n h, n⟩
  · exact .inr (D.k _ _ h)
def ptD (g t : List Str) (ss : List Sm) : PyData := .tuple [nmD g, nmD t, blD ss]
structure Right (g t : List Str) (ss : List Sm) : Prop where
  gd : g.Nodup
  td : t.Nodup
  g2 : g.length ≤ 2
  t1 : 1 ≤ t.length
  t4 : t.length ≤ 4
  gn : ∀ x ∈ g, x ∈ NM14
  tn : ∀ x ∈ t, x ∈ NM14
  sn : ∀ s ∈ ss, ∀ x ∈ s.ns, x ∈ NM14
section
variable {P : Program} {w : World} {K : PySem.W.Frag} {mg : Str → Option Value} {base : Heap}
abbrev s_l_own : Stmt := topS 36
theorem sc_l_own : FnScope ["_law_hand_here", "_law_many", "_law_menu"] ["_law_hand_here", "_law_many"] (defScope s_l_own) := ⟨rfl, rfl, rfl, by decide +kernel, rfl, by decide +kernel, by decide +kernel⟩
def spOwn (K : PySem.W.Frag) : Sp := fun vs H Q _ => ∃ (p c : Addr) (n : Nat), vs = [.ref p, .int (n : Nat)] ∧ HandAt H p c ∧
  ∀ (l : Addr) (ns : List Str) H', ns.Nodup → (∀ x ∈ ns, x ∈ NM14) → ns.length = Nat.min n 14 → H l = none → H' l = some (.lst (ns.map V.str)) → Drew K p c H H' → Q (.ref l) H'
theorem ok_own {f : Addr} {fd : FuncData} (F : Fun K "_law_own" "_law_own" s_l_own f fd) (T : Bi mg) (D_l_shuffled : Has P w K mg base "_law_shuffled" 2 ["_law_hand_here", "_law_things"] (spShuf K)) : FnOk P w K mg base CX0 3 f fd ["_law_hand_here", "_law_many"] (spOwn K) := by
  refine F.ok sc_l_own (fun vs H Q E h => ?_) (fun cdv A outer s₀ H vs Q E hr h => ?_)
  · obtain ⟨p, c, n, rfl, _⟩ := h
    rfl
  · obtain ⟨p, c, n, rfl, Z, kk⟩ := h
    refine ⟨_, (pss_cons (ps_set (i := 2) sc_l_own.nd rfl (.inl rfl) (pe_lst (pa_cons pe_str (pa_cons pe_str (pa_cons pe_str (pa_cons pe_str (pa_cons pe_str (pa_cons pe_str (pa_cons pe_str (pa_cons pe_str (pa_cons pe_str (pa_cons pe_str (pa_cons pe_str (pa_cons pe_str (pa_cons pe_str (pa_cons pe_str pa_nil))))))))))))))))
 (pss_one (ps_ret (pe_slice sl_list (D_l_shuffled.call (hr.mono (by decide)) (by rfl) (pa_cons (pv 0) (pa_cons (pv 2) pa_nil))) po_none (po_some (pv 1)))))), ?_⟩
    refine ⟨(by show 14 ≤ sizeLine; decide), fun a na => ?_⟩
    have D0 : Drew K p c H (upd H a (.lst (NM14.map V.str))) := (Drew.refl Z).put na
    refine ⟨_, rfl, _, rfl, p, c, a, NM14.map V.str, rfl, D0.z, .inl (SqL.of upd_same), by decide, fun l ys H1 pm nl hl D1 => ?_⟩
    obtain ⟨ns, pn, rfl⟩ := perm_map pm rfl
    refine ⟨_, rfl, _, rfl, l, _, rfl, SqL.of hl, fun t nt => ?_⟩
    have ec : cutV (ns.map V.str) none (some (n : Int)) = (ns.take n).map V.str := by rw [cut_take, List.map_take]
    rw [ec]
    have len : ns.length = 14 := pn.length_eq
    have D2 := D0.trans D1
    refine kk t (ns.take n) _ ((List.take_sublist _ _).nodup (pn.nodup_iff.mpr nm14_nd)) (fun x hx => pn.mem_iff.mp (List.mem_of_mem_take hx)) (by rw [List.length_take, len]) (D2.free nt) upd_same (D2.put nt)
abbrev s_l_deed : Stmt := topS 37
theorem sc_l_deed : FnScope ["_law_hand_here", "_law_own_here", "_law_kind"] ["_law_hand_here", "_law_own_here"] (defScope s_l_deed) := ⟨rfl, rfl, rfl, by decide +kernel, rfl, by decide +kernel, by decide +kernel⟩
def spDeed (K : PySem.W.Frag) : Sp := fun vs H Q _ => ∃ (p c a : Addr) (ns : List Str), vs = [.ref p, .ref a] ∧ HandAt H p c ∧ Own K H p a ns ∧ 0 < ns.length ∧ ns.length ≤ 1000 ∧
  ∀ (t : Addr) (d : De) H', (∀ x ∈ d.ns, x ∈ ns) → H t = none → H' t = some (.tup (deV d)) → Drew K p c H H' → Q (.ref t) H'
theorem own_some {H : Hp} {p a : Addr} {ns : List Str} (h : Own K H p a ns) : SqL K H a (ns.map V.str) ∧ a ≠ p ∨ SqT K H a (ns.map V.str) := h
theorem ok_ldeed {f : Addr} {fd : FuncData} (F : Fun K "_law_deed" "_law_deed" s_l_deed f fd) (T : Bi mg) (D_l_draw : Has P w K mg base "_law_draw" 1 ["_law_hand_here", "_law_many"] (spDraw K))
    (D_l_some : Has P w K mg base "_law_some" 2 ["_law_hand_here", "_law_things"] (spSome K)) : FnOk P w K mg base CX0 3 f fd ["_law_hand_here", "_law_own_here"] (spDeed K) := by
  refine F.ok sc_l_deed (fun vs H Q E h => ?_) (fun cdv A outer s₀ H vs Q E hr h => ?_)
  · obtain ⟨p, c, a, ns, rfl, _⟩ := h
    rfl
  · obtain ⟨p, c, a, ns, rfl, Z, hS, l0, l1, kk⟩ := h
    refine ⟨_, (pss_cons (ps_set (i := 2) sc_l_deed.nd rfl (.inl rfl) (D_l_draw.call (hr.mono (by decide)) (by rfl) (pa_cons (pv 0) (pa_cons pe_int pa_nil))))
 (pss_cons (ps_if (pt_cmpR op_eq (pv 2) pe_int (nomark _))
  (pss_one (ps_ret (pe_tup (pa_cons pe_str (pa_cons (D_l_some.call (hr.mono (by decide)) (by rfl) (pa_cons (pv 0) (pa_cons (pv 1) pa_nil))) pa_nil)))))
  pss_nil)
 (pss_cons (ps_if (pt_cmpR op_lt (pv 2) pe_int (nomark _))
  (pss_one (ps_ret (pe_tup (pa_cons pe_str (pa_cons (D_l_some.call (hr.mono (by decide)) (by rfl) (pa_cons (pv 0) (pa_cons (pv 1) pa_nil))) (pa_cons (D_l_some.call (hr.mono (by decide)) (by rfl) (pa_cons (pv 0) (pa_cons (pv 1) pa_nil))) pa_nil))))))
  pss_nil)
 (pss_one (ps_ret (pe_tup (pa_cons pe_str (pa_cons (D_l_some.call (hr.mono (by decide)) (by rfl) (pa_cons (pv 0) (pa_cons (pv 1) pa_nil))) pa_nil)))))))), ?_⟩
    have l0' : 0 < (ns.map V.str).length := by rw [List.length_map]; exact l0
    have l1' : (ns.map V.str).length ≤ 1000000 := by rw [List.length_map]; omega
    refine ⟨_, rfl, p, c, 5, rfl, Z, by decide, by decide, fun kind H1 _ D1 => ?_⟩
    have hS1 := hS.drew D1
    have fin : ∀ (H3 : Hp) (t : Addr) (d : De), Drew K p c H H3 → (∀ y ∈ d.ns, y ∈ ns) → H3 t = none → Q (.ref t) (upd H3 t (.tup (deV d))) := fun H3 t d D3 hd nt =>
      kk t d _ hd (D3.free nt) upd_same (D3.put nt)
    refine ⟨_, rfl, rfl, _, rfl, ite2 (fun _ => ?_) (fun _ => ?_)⟩
    · refine ⟨_, rfl, _, rfl, p, c, a, _, rfl, D1.z, hS1, l0', l1', fun j v H2 hv D2 => ?_⟩
      obtain ⟨x, hx, rfl⟩ := strs_get hv
      exact ⟨(by show 2 ≤ sizeLine; decide), fun t nt => fin H2 t (.zero x) (D1.trans D2) (fun y hy => by rw [List.mem_singleton.mp hy]; exact hx) nt⟩
    · refine ⟨_, rfl, _, _, rfl, rfl, _, rfl, ite2 (fun _ => ?_) (fun _ => ?_)⟩
      · refine ⟨_, rfl, _, rfl, p, c, a, _, rfl, D1.z, hS1, l0', l1', fun j v H2 hv D2 => ?_⟩
        obtain ⟨x, hx, rfl⟩ := strs_get hv
        refine ⟨_, rfl, _, rfl, p, c, a, _, rfl, D2.z, hS1.drew D2, l0', l1', fun j v H3 hv D3 => ?_⟩
        obtain ⟨y, hy, rfl⟩ := strs_get hv
        refine ⟨(by show 3 ≤ sizeLine; decide), fun t nt => fin H3 t (.copy x y) ((D1.trans D2).trans D3) (fun z hz => ?_) nt⟩
        rcases List.mem_cons.mp hz with e | e
        · rw [e]; exact hx
        · rw [List.mem_singleton.mp e]; exact hy
      · refine ⟨_, rfl, _, rfl, p, c, a, _, rfl, D1.z, hS1, l0', l1', fun j v H2 hv D2 => ?_⟩
        obtain ⟨x, hx, rfl⟩ := strs_get hv
        exact ⟨(by show 2 ≤ sizeLine; decide), fun t nt => fin H2 t (.more x) (D1.trans D2) (fun y hy => by rw [List.mem_singleton.mp hy]; exact hx) nt⟩
abbrev s_l_statement : Stmt := topS 38
theorem sc_l_statement : FnScope ["_law_hand_here", "_law_own_here", "_law_most", "_law_k"] ["_law_hand_here", "_law_own_here", "_law_most"] (defScope s_l_statement) := ⟨rfl, rfl, rfl, by decide +kernel, rfl, by decide +kernel, by decide +kernel⟩
def spStm (K : PySem.W.Frag) : Sp := fun vs H Q _ => ∃ (p c a : Addr) (ns : List Str) (n : Nat), vs = [.ref p, .ref a, .int (n : Nat)] ∧ HandAt H p c ∧ Own K H p a ns ∧ 0 < ns.length ∧ ns.length ≤ 1000 ∧ n ≤ 1000 ∧
  ∀ (v : V) (s : Sm) H', Tp K H' v (smD s) → (∀ x ∈ s.ns, x ∈ ns) → s.deeds.length ≤ n → Drew K p c H H' → Q v H'
theorem ok_stm {f : Addr} {fd : FuncData} (F : Fun K "_law_statement" "_law_statement" s_l_statement f fd) (T : Bi mg) (D_l_draw : Has P w K mg base "_law_draw" 1 ["_law_hand_here", "_law_many"] (spDraw K))
    (D_l_some : Has P w K mg base "_law_some" 2 ["_law_hand_here", "_law_things"] (spSome K)) (D_l_deed : Has P w K mg base "_law_deed" 3 ["_law_hand_here", "_law_own_here"] (spDeed K)) : FnOk P w K mg base CX0 4 f fd ["_law_hand_here", "_law_own_here", "_law_most"] (spStm K) := by
  refine F.ok sc_l_statement (fun vs H Q E h => ?_) (fun cdv A outer s₀ H vs Q E hr h => ?_)
  · obtain ⟨p, c, a, ns, n, rfl, _⟩ := h
    rfl
  · obtain ⟨p, c, a, ns, n, rfl, Z, hS, l0, l1, nn, kk⟩ := h
    refine ⟨_, (pss_cons (ps_if (pt_cmpR op_eq (D_l_draw.call (hr.mono (by decide)) (by rfl) (pa_cons (pv 0) (pa_cons pe_int pa_nil))) pe_int (nomark _))
  (pss_one (ps_ret (D_l_deed.call (hr.mono (by decide)) (by rfl) (pa_cons (pv 0) (pa_cons (pv 1) pa_nil)))))
  pss_nil)
 (pss_one (ps_ret (pe_tup (pa_cons pe_str (pa_cons (D_l_some.call (hr.mono (by decide)) (by rfl) (pa_cons (pv 0) (pa_cons (pv 1) pa_nil))) (pa_cons (pe_callTy (T := "tuple") (call_tuple_of) (by rfl) T.tuple_ (by decide +kernel) (pa_cons (pe_lc (own := [("_law_k", 3)]) (g := gName 3) (tt := tYes) (by rfl) sc_l_statement.nd (pi_range1 (by rfl) T.range (pa_cons (D_l_draw.call (hr.mono (by decide)) (by rfl) (pa_cons (pv 0) (pa_cons (pe_op op_add (pv 2) pe_int) pa_nil))) pa_nil)) (blkOk_by (N := ["_law_hand_here", "_law_own_here", "_law_most", "_law_k"]) (sc := defScope s_l_statement) (by decide +kernel)) (fun _ _ _ _ _ => pg_name (i := 3) sc_l_statement.nd rfl (.inl rfl)) (fun _ _ _ _ _ => pts_nil) (fun _ _ _ _ _ => (D_l_deed.call (hr.mono (by decide)) (by rfl) (pa_cons (pv 0) (pa_cons (pv 1) pa_nil))))) pa_nil)) pa_nil))))))), ?_⟩
    have l0' : 0 < (ns.map V.str).length := by rw [List.length_map]; exact l0
    have l1' : (ns.map V.str).length ≤ 1000000 := by rw [List.length_map]; omega
    refine ⟨_, rfl, p, c, 2, rfl, Z, by decide, by decide, fun kind H1 _ D1 => ⟨rfl, _, rfl, ite2 (fun _ => ?_) (fun _ => ?_)⟩⟩
    · refine ⟨_, rfl, _, rfl, p, c, a, ns, rfl, D1.z, hS.drew D1, l0, l1, fun t d H2 hd nt ht D2 => ?_⟩
      exact kk _ (.deed d) _ (Tp.deed (SqT.of ht)) hd (Nat.zero_le _) (D1.trans D2)
    · refine ⟨_, rfl, _, rfl, p, c, a, _, rfl, D1.z, hS.drew D1, l0', l1', fun j v H2 hv D2 => ?_⟩
      obtain ⟨x, hx, rfl⟩ := strs_get hv
      have D12 := D1.trans D2
      refine ⟨_, rfl, _, rfl, _, _, rfl, rfl, p, c, _, rfl, D2.z, by omega, by omega, fun many H3 hm D3 => ?_⟩
      refine ⟨_, rfl, by omega, by omega, fun q nq => ?_⟩
      have D13 := D12.trans D3
      have Z3 := D3.z
      refine lc_range (lo := 0) (n := ((many : Nat) : Int).toNat) (fun i H6 => ∃ ts ds, H6 q = some (.lst ts) ∧ TpAll K H6 ts (ds.map deD) ∧ (∀ d ∈ ds, ∀ x ∈ d.ns, x ∈ ns) ∧ ds.length = i ∧ Drew K p c H3 H6) ⟨[], [], upd_same, .nil, fun d m => (nomatch m), rfl, (Drew.refl Z3).put nq⟩ (fun i H6 hi w => ?_) fun H6 w => ?_
      · obtain ⟨ts, ds, hq6, dt6, nm6, l6, D6⟩ := w
        refine ⟨rfl, _, rfl, _, rfl, p, c, a, ns, rfl, D6.z, hS.drew (D13.trans D6), l0, l1, fun u d H7 hd nu hu7 D7 => ?_⟩
        have hq7 := D7.new Z3 nq hq6
        have lts : ts.length = ds.length := by rw [dt6.len, List.length_map]
        refine ⟨ts, hq7, big1 (by omega), ts ++ [.ref u], ds ++ [d], upd_same, ?_, fun e he x hx => ?_, by rw [List.length_append, l6]; rfl, (D6.trans D7).set Z3 nq hq7⟩
        · rw [List.map_append]
          exact (TpAll.keep (kp_lst hq7) _ _ (D7.tps dt6)).snoc (Tp.keep (kp_lst hq7) _ _ (Tp.deed (SqT.of hu7)))
        · rcases List.mem_append.mp he with k | k
          · exact nm6 e k x hx
          · rw [List.mem_singleton.mp k] at hx
            exact hd x hx
      · obtain ⟨ts, ds, hq6, dt6, nm6, l6, D6⟩ := w
        refine ⟨q, _, rfl, .inl ⟨SqL.of hq6, fun b nb => ⟨(by show 3 ≤ sizeLine; decide), fun t nt => ?_⟩⟩⟩
        have k1 : Kp K H6 (upd (upd H6 b (.tup ts)) t (.tup [.str "round", .str x, .ref b])) := ((same_upd nb).trans (same_upd nt)).kp
        refine kk _ (.rnd x ds) _ (Tp.rnd (SqT.of upd_same) (SqT.of (by rw [upd_ne (ne_of_none upd_same nt)]; exact upd_same)) (TpAll.keep k1 _ _ dt6)) (fun y hy => ?_) ?_ (((D13.trans D6).put nb).put nt)
        · rcases List.mem_cons.mp hy with e | e
          · rw [e]; exact hx
          · obtain ⟨l, hl, yl⟩ := List.mem_flatten.mp e
            obtain ⟨d, hd, rfl⟩ := List.mem_map.mp hl
            exact nm6 d hd y yl
        · show ds.length ≤ n
          omega
abbrev s_l_parts : Stmt := topS 39
theorem sc_l_parts : FnScope ["_law_hand_here", "_law_most_names", "_law_most_statements", "_law_most_deeds", "_law_most_given", "_law_own_here", "_law_given", "_law_told", "_law_many", "_law_k"] ["_law_hand_here", "_law_most_names", "_law_most_statements", "_law_most_deeds", "_law_most_given"] (defScope s_l_parts) := ⟨rfl, rfl, rfl, by decide +kernel, rfl, by decide +kernel, by decide +kernel⟩
def spParts (K : PySem.W.Frag) : Sp := fun vs H Q _ => ∃ (p c : Addr) (mn ms md : Nat), vs = [.ref p, .int (mn : Nat), .int (ms : Nat), .int (md : Nat), .int 2] ∧ HandAt H p c ∧ 1 ≤ mn ∧ mn ≤ 1000 ∧ ms ≤ 1000 ∧ md ≤ 1000 ∧
  ∀ (v : V) (g t : List Str) (ss : List Sm) H', Tp K H' v (ptD g t ss) → Right g t ss → ss.length ≤ ms → (∀ s ∈ ss, s.deeds.length ≤ md) → Drew K p c H H' → Q v H'
theorem ok_parts {f : Addr} {fd : FuncData} (F : Fun K "_law_parts" "_law_parts" s_l_parts f fd) (T : Bi mg) (D_l_draw : Has P w K mg base "_law_draw" 1 ["_law_hand_here", "_law_many"] (spDraw K)) (D_l_shuffled : Has P w K mg base "_law_shuffled" 2 ["_law_hand_here", "_law_things"] (spShuf K))
    (D_l_own : Has P w K mg base "_law_own" 3 ["_law_hand_here", "_law_many"] (spOwn K)) (D_l_statement : Has P w K mg base "_law_statement" 4 ["_law_hand_here", "_law_own_here", "_law_most"] (spStm K)) :
    FnOk P w K mg base CX0 5 f fd ["_law_hand_here", "_law_most_names", "_law_most_statements", "_law_most_deeds", "_law_most_given"] (spParts K) := by
  refine F.ok sc_l_parts (fun vs H Q E h => ?_) (fun cdv A outer s₀ H vs Q E hr h => ?_)
  · obtain ⟨p, c, mn, ms, md, rfl, _⟩ := h
    rfl
  · obtain ⟨p, c, mn, ms, md, rfl, Z, m1, m2, m3, m4, kk⟩ := h
    refine ⟨_, (pss_cons (ps_set (i := 5) sc_l_parts.nd rfl (.inr rfl) (D_l_own.call (hr.mono (by decide)) (by rfl) (pa_cons (pv 0) (pa_cons (pe_op op_add pe_int (D_l_draw.call (hr.mono (by decide)) (by rfl) (pa_cons (pv 0) (pa_cons (pv 1) pa_nil)))) pa_nil))))
 (pss_cons (ps_set (i := 6) sc_l_parts.nd rfl (.inl rfl) (pe_callTy (T := "tuple") (call_tuple_of) (by rfl) T.tuple_ (by decide +kernel) (pa_cons (pe_slice sl_list (pv 5) po_none (po_some (D_l_draw.call (hr.mono (by decide)) (by rfl) (pa_cons (pv 0) (pa_cons (pe_op op_add (pe_callB (id := "min") (call_min2 rfl) (by rfl) T.min (by decide +kernel) (pa_cons (pv 4) (pa_cons (pe_callB call_len_seq (by rfl) T.len PySem.boot_len (pa_cons (pv 5) pa_nil)) pa_nil))) pe_int) pa_nil))))) pa_nil)))
 (pss_cons (ps_set (i := 7) sc_l_parts.nd rfl (.inl rfl) (pe_callTy (T := "tuple") (call_tuple_of) (by rfl) T.tuple_ (by decide +kernel) (pa_cons (pe_slice sl_list (D_l_shuffled.call (hr.mono (by decide)) (by rfl) (pa_cons (pv 0) (pa_cons (pv 5) pa_nil))) po_none (po_some (pe_op op_add pe_int (D_l_draw.call (hr.mono (by decide)) (by rfl) (pa_cons (pv 0) (pa_cons (pe_callB (id := "min") (call_min2 rfl) (by rfl) T.min (by decide +kernel) (pa_cons pe_int (pa_cons (pe_callB call_len_seq (by rfl) T.len PySem.boot_len (pa_cons (pv 5) pa_nil)) pa_nil))) pa_nil)))))) pa_nil)))
 (pss_cons (ps_set (i := 8) sc_l_parts.nd rfl (.inl rfl) (D_l_draw.call (hr.mono (by decide)) (by rfl) (pa_cons (pv 0) (pa_cons (pe_op op_add (pv 2) pe_int) pa_nil))))
 (pss_one (ps_ret (pe_tup (pa_cons (pv 6) (pa_cons (pv 7) (pa_cons (pe_callTy (T := "tuple") (call_tuple_of) (by rfl) T.tuple_ (by decide +kernel) (pa_cons (pe_lc (own := [("_law_k", 9)]) (g := gName 9) (tt := tYes) (by rfl) sc_l_parts.nd (pi_range1 (by rfl) T.range (pa_cons (pv 8) pa_nil)) (blkOk_by (N := ["_law_hand_here", "_law_most_names", "_law_most_statements", "_law_most_deeds", "_law_most_given", "_law_own_here", "_law_given", "_law_told", "_law_many", "_law_k"]) (sc := defScope s_l_parts) (by decide +kernel)) (fun _ _ _ _ _ => pg_name (i := 9) sc_l_parts.nd rfl (.inl rfl)) (fun _ _ _ _ _ => pts_nil) (fun _ _ _ _ _ => (D_l_statement.call (hr.mono (by decide)) (by rfl) (pa_cons (pv 0) (pa_cons (pv 5) (pa_cons (pv 3) pa_nil)))))) pa_nil)) pa_nil)))))))))), ?_⟩
    -- own
    refine ⟨_, rfl, _, rfl, _, rfl, p, c, _, rfl, Z, by omega, by omega, fun r H1 hr1 D1 => ?_⟩
    refine ⟨_, _, rfl, rfl, p, c, r + 1, congrArg (fun z => [V.ref p, V.int z]) (show (1 : Int) + ((r : Nat) : Int) = ((r + 1 : Nat) : Int) by omega), D1.z, fun l ns H2 nd nn ln nl hl D2 => ?_⟩
    have D12 := D1.trans D2
    have l1 : 1 ≤ ns.length := by rw [ln]; exact Nat.le_min.mpr ⟨by omega, by decide⟩
    have l14 : ns.length ≤ 14 := by rw [ln]; exact Nat.min_le_right _ _
    have lv : (ns.map V.str).length = ns.length := List.length_map ..
    have nl0 := D1.free nl
    have nlp := Z.free nl0
    -- given
    refine ⟨_, rfl, _, rfl, _, rfl, _, rfl, l, _, rfl, .inl (SqL.of hl), _, _, rfl, _, _, rfl, rfl, p, c, _, rfl, D2.z, by split <;> omega, by split <;> omega, fun r2 H3 hr2 D3 => ?_⟩
    have r22 : r2 ≤ 2 := by split at hr2 <;> omega
    have hl3 := D3.get hl nlp.1
    refine ⟨_, rfl, l, _, rfl, SqL.of hl3, fun u nu => ⟨u, _, rfl, .inl ⟨SqL.of upd_same, fun gv ngv => ?_⟩⟩⟩
    have ec : cutV (ns.map V.str) none (some ((r2 : Nat) : Int)) = (ns.take r2).map V.str := by rw [cut_take, List.map_take]
    rw [ec] at ngv ⊢
    have D4 : Drew K p c H (upd (upd H3 u (.lst ((ns.take r2).map V.str))) gv (.tup ((ns.take r2).map V.str))) := ((D12.trans D3).put nu).put ngv
    have hl4 : (upd (upd H3 u (.lst ((ns.take r2).map V.str))) gv (.tup ((ns.take r2).map V.str))) l = some (.lst (ns.map V.str)) := ((same_upd nu).trans (same_upd ngv)) _ _ hl3
    have hg4 : (upd (upd H3 u (.lst ((ns.take r2).map V.str))) gv (.tup ((ns.take r2).map V.str))) gv = some (.tup ((ns.take r2).map V.str)) := upd_same
    generalize upd (upd H3 u (.lst ((ns.take r2).map V.str))) gv (.tup ((ns.take r2).map V.str)) = H4 at D4 hl4 hg4
    clear ec hl3 nu ngv
    -- told
    refine ⟨_, rfl, _, rfl, p, c, l, _, rfl, D4.z, .inl (SqL.of hl4), by omega, fun l2 ys H5 pm nl2 hl2 D5 => ?_⟩
    obtain ⟨ms2, pn, rfl⟩ := perm_map pm rfl
    have len2 : ms2.length = ns.length := pn.length_eq
    have D45 := D4.trans D5
    have hl5 := D5.get hl4 nlp.1
    have nl2p := Z.free (D4.free nl2)
    refine ⟨_, rfl, _, rfl, l, _, rfl, .inl (SqL.of hl5), _, _, rfl, p, c, _, rfl, D5.z, by split <;> omega, by split <;> omega, fun r3 H6 hr3 D6 => ⟨_, _, rfl, rfl, ?_⟩⟩
    have r34 : r3 < 4 ∧ r3 < ns.length := by split at hr3 <;> omega
    have hl26 := D6.get hl2 nl2p.1
    have hl6 := D6.get hl5 nlp.1
    have hg6 := D6.k _ _ (D5.k _ _ (SqT.of hg4))
    refine ⟨_, rfl, l2, _, rfl, SqL.of hl26, fun u nu => ⟨u, _, rfl, .inl ⟨SqL.of upd_same, fun tv ntv => ?_⟩⟩⟩
    have ec : cutV (ms2.map V.str) none (some ((1 : Int) + ((r3 : Nat) : Int))) = (ms2.take (r3 + 1)).map V.str := by rw [show (1 : Int) + ((r3 : Nat) : Int) = ((r3 + 1 : Nat) : Int) by omega, cut_take, List.map_take]
    rw [ec] at ntv ⊢
    have s7 := (same_upd (o := .lst ((ms2.take (r3 + 1)).map V.str)) nu).trans (same_upd (o := .tup ((ms2.take (r3 + 1)).map V.str)) ntv)
    have D7 : Drew K p c H (upd (upd H6 u (.lst ((ms2.take (r3 + 1)).map V.str))) tv (.tup ((ms2.take (r3 + 1)).map V.str))) := ((D45.trans D6).put nu).put ntv
    have ht7 : (upd (upd H6 u (.lst ((ms2.take (r3 + 1)).map V.str))) tv (.tup ((ms2.take (r3 + 1)).map V.str))) tv = some (.tup ((ms2.take (r3 + 1)).map V.str)) := upd_same
    have hl7 := s7 _ _ hl6
    have hg7 := s7.tup hg6
    generalize upd (upd H6 u (.lst ((ms2.take (r3 + 1)).map V.str))) tv (.tup ((ms2.take (r3 + 1)).map V.str)) = H7 at D7 ht7 hl7 hg7 s7
    clear ec s7
    -- many
    refine ⟨_, rfl, _, rfl, _, _, rfl, rfl, p, c, _, rfl, D7.z, by omega, by omega, fun many H8 hm D8 => ?_⟩
    have hl8 := D8.get hl7 nlp.1
    have D18 := D7.trans D8
    have Z8 := D8.z
    refine ⟨_, rfl, _, rfl, _, rfl, _, rfl, by omega, by omega, fun q nq => ?_⟩
    refine lc_range (lo := 0) (n := ((many : Nat) : Int).toNat) (fun i H9 => ∃ ts ss, H9 q = some (.lst ts) ∧ TpAll K H9 ts (ss.map smD) ∧ (∀ s ∈ ss, (∀ x ∈ s.ns, x ∈ ns) ∧ s.deeds.length ≤ md) ∧ ss.length = i ∧ Drew K p c H8 H9) ⟨[], [], upd_same, .nil, fun d m => (nomatch m), rfl, (Drew.refl Z8).put nq⟩ (fun i H9 hi w => ?_) fun H9 w => ?_
    · obtain ⟨ts, ss, hq9, dt9, nm9, l9, D9⟩ := w
      refine ⟨rfl, _, rfl, _, rfl, _, rfl, p, c, l, ns, md, rfl, D9.z, .inl ⟨SqL.of (D9.get hl8 nlp.1), nlp.1⟩, l1, by omega, m4, fun v s H10 tv hs hd D10 => ?_⟩
      have hq10 := D10.new Z8 nq hq9
      have lts : ts.length = ss.length := by rw [dt9.len, List.length_map]
      refine ⟨ts, hq10, big1 (by omega), ts ++ [v], ss ++ [s], upd_same, ?_, fun e he => ?_, by rw [List.length_append, l9]; rfl, (D9.trans D10).set Z8 nq hq10⟩
      · rw [List.map_append]
        exact (TpAll.keep (kp_lst hq10) _ _ (D10.tps dt9)).snoc (Tp.keep (kp_lst hq10) _ _ tv)
      · rcases List.mem_append.mp he with k | k
        · exact nm9 e k
        · rw [List.mem_singleton.mp k]
          exact ⟨hs, hd⟩
    · obtain ⟨ts, ss, hq9, dt9, nm9, l9, D9⟩ := w
      refine ⟨q, _, rfl, .inl ⟨SqL.of hq9, fun b nb => ⟨(by show 3 ≤ sizeLine; decide), fun t nt => ?_⟩⟩⟩
      have sb := same_upd (o := .tup ts) nb
      have st := same_upd (o := .tup [.ref gv, .ref tv, .ref b]) nt
      have hg := (sb.trans st).tup (D9.k _ _ (D8.k _ _ hg7))
      have ht := (sb.trans st).tup (D9.k _ _ (D8.k _ _ (SqT.of ht7)))
      have hb : SqT K (upd (upd H9 b (.tup ts)) t (.tup [.ref gv, .ref tv, .ref b])) b ts := st.tup (SqT.of upd_same)
      have dt := TpAll.keep (sb.trans st).kp _ _ dt9
      refine kk _ (ns.take r2) (ms2.take (r3 + 1)) ss _ (.tup (SqT.of upd_same) (.cons (Tp.strs hg) (.cons (Tp.strs ht) (.cons (.tup hb dt) .nil)))) ⟨(List.take_sublist _ _).nodup nd, (List.take_sublist _ _).nodup (pn.nodup_iff.mpr nd), ?_, ?_, ?_, fun x hx => nn x (List.mem_of_mem_take hx), fun x hx => nn x (pn.mem_iff.mp (List.mem_of_mem_take hx)), fun s hs x hx => nn x ((nm9 s hs).1 x hx)⟩ ?_ (fun s hs => (nm9 s hs).2) (((D18.trans D9).put nb).put nt)
      · rw [List.length_take]; omega
      · rw [List.length_take]; omega
      · rw [List.length_take]; omega
      · omega
end
end Y

namespace Y
open PySem PySem.Spec PyProof.Rows L2
theorem yesI {c : Bool} {A B : Prop} (hc : c = true) (h : A) : if c = true then A else B := by
  rw [if_pos hc]
  exact h
theorem noI {c : Bool} {A B : Prop} (hc : c = false) (h : B) : if c = true then A else B := by
  rw [hc]
  exact h
theorem cpa : ("a" : Str).cps.toList = [97] := by decide +kernel
theorem cpz : ("z" : Str).cps.toList = [122] := by decide +kernel
theorem lt_one {a b : Nat} : (([a] : List Nat) < [b]) ↔ a < b := by
  rw [List.cons_lt_cons_iff]
  constructor
  · rintro (k | ⟨_, k⟩)
    · exact k
    · exact (List.not_lt_nil _ k).elim
  · exact .inl
theorem bls_next {α : Type} {f : α → Bool} {ts : List α} {i : Nat} {t : α} (h : ts[i]? = some t) : ((ts.take i).map f).map V.bl ++ [V.bl (f t)] = ((ts.take (i + 1)).map f).map V.bl := by
  rw [take_next h, List.map_append, List.map_append]
  rfl
theorem all_map_id {α : Type} {f : α → Bool} {ts : List α} : (ts.map f).all id = ts.all f := by
  rw [List.all_map]
  rfl
def Th.integer : Th → Bool
  | .int _ => true
  | _ => false
def Th.number : Th → Bool
  | .int i => decide (0 ≤ i)
  | _ => false
section
variable {P : Program} {w : World} {K : PySem.W.Frag} {mg : Str → Option Value} {base : Heap}
abbrev s_is_integer : Stmt := topS 7
theorem sc_is_integer : FnScope ["thing"] ["thing"] (defScope s_is_integer) := ⟨rfl, rfl, rfl, by decide +kernel, rfl, by decide +kernel, by decide +kernel⟩
def spIntT (K : PySem.W.Frag) : Sp := fun vs H Q _ => ∃ (v : V) (t : Th), vs = [v] ∧ Is K H v t ∧ Q (.bl t.integer) H
theorem ok_integer {f : Addr} {fd : FuncData} (F : Fun K "is_integer" "is_integer" s_is_integer f fd) (T : Bi mg) : FnOk P w K mg base CX0 1 f fd ["thing"] (spIntT K) := by
  refine F.ok sc_is_integer (fun vs H Q E h => ?_) (fun cdv A outer s₀ H vs Q E hr h => ?_)
  · obtain ⟨v, t, rfl, _⟩ := h
    rfl
  · obtain ⟨v, t, rfl, hv, kk⟩ := h
    refine ⟨_, (pss_one (ps_ret (pe_and (pe_callB (id := "isinstance") (r := rIsi K) call_isi (by rfl) T.isinstance (by decide +kernel) (pa_cons (pv 0) (pa_cons (pe_bltn (v := .ty "int") (by rfl) T.int_ (by decide +kernel) rfl) pa_nil))) (pe_one (pe_not (pe_callB (id := "isinstance") (r := rIsi K) call_isi (by rfl) T.isinstance (by decide +kernel) (pa_cons (pv 0) (pa_cons (pe_bltn (v := .ty "bool") (by rfl) T.bool_ (by decide +kernel) rfl) pa_nil)))))))), ?_⟩
    obtain ⟨T1, ty, kt⟩ := hv.intgr
    by_cases e : t.isInt = true
    · rw [e] at kt
      refine ⟨_, rfl, _, _, _, _, true, rfl, .ty "int", ty, kt, true, rfl, ?_⟩
      cases hv with
      | bl b => exact ⟨_, rfl, _, _, _, _, true, rfl, .ty "bool", .base (.bl b), kit_ty (by decide +kernel), true, rfl, kk⟩
      | int i => exact ⟨_, rfl, _, _, _, _, false, rfl, .ty "bool", .base (.int i), kit_ty (by decide +kernel), false, rfl, kk⟩
      | non => cases e
      | str x _ => cases e
      | tup _ _ => cases e
      | opq _ _ => cases e
    · have e : t.isInt = false := by cases h : t.isInt <;> simp_all
      rw [e] at kt
      refine ⟨_, rfl, _, _, _, _, false, rfl, .ty "int", ty, kt, false, rfl, ?_⟩
      have e2 : t.integer = false := by cases t <;> first | rfl | cases e
      rw [e2] at kk
      exact kk
abbrev s_is_number : Stmt := topS 8
theorem sc_is_number : FnScope ["thing"] ["thing"] (defScope s_is_number) := ⟨rfl, rfl, rfl, by decide +kernel, rfl, by decide +kernel, by decide +kernel⟩
def spNumT (K : PySem.W.Frag) : Sp := fun vs H Q _ => ∃ (v : V) (t : Th), vs = [v] ∧ Is K H v t ∧ Q (.bl t.number) H
theorem ok_number {f : Addr} {fd : FuncData} (F : Fun K "is_number" "is_number" s_is_number f fd) (D_is_integer : Has P w K mg base "is_integer" 1 ["thing"] (spIntT K)) : FnOk P w K mg base CX0 2 f fd ["thing"] (spNumT K) := by
  refine F.ok sc_is_number (fun vs H Q E h => ?_) (fun cdv A outer s₀ H vs Q E hr h => ?_)
  · obtain ⟨v, t, rfl, _⟩ := h
    rfl
  · obtain ⟨v, t, rfl, hv, kk⟩ := h
    refine ⟨_, (pss_one (ps_ret (pe_and (D_is_integer.call (hr.mono (by decide)) (by rfl) (pa_cons (pv 0) pa_nil)) (pe_one (pe_cmpR op_ge (pv 0) pe_int (nomark _)))))), ?_⟩
    refine ⟨_, rfl, v, t, rfl, hv, t.integer, rfl, ?_⟩
    cases hv with
    | int i => exact ⟨_, rfl, _, _, rfl, rfl, kk⟩
    | bl b => exact kk
    | non => exact kk
    | str x _ => exact kk
    | tup _ _ => exact kk
    | opq _ _ => exact kk
abbrev s_is_name : Stmt := topS 9
theorem sc_is_name : FnScope ["thing", "letter"] ["thing"] (defScope s_is_name) := ⟨rfl, rfl, rfl, by decide +kernel, rfl, by decide +kernel, by decide +kernel⟩
def spNameT (K : PySem.W.Frag) : Sp := fun vs H Q _ => ∃ (v : V) (t : Th), vs = [v] ∧ Is K H v t ∧ ∀ H', Same H H' → Q (.bl t.name) H'
theorem ok_name {f : Addr} {fd : FuncData} (F : Fun K "is_name" "is_name" s_is_name f fd) (T : Bi mg) {tML : Tok} (c_MOST_LETTERS : mg "MOST_LETTERS" = some (.int 8 tML)) : FnOk P w K mg base CX0 1 f fd ["thing"] (spNameT K) := by
  refine F.ok sc_is_name (fun vs H Q E h => ?_) (fun cdv A outer s₀ H vs Q E hr h => ?_)
  · obtain ⟨v, t, rfl, _⟩ := h
    rfl
  · obtain ⟨v, t, rfl, hv, kk⟩ := h
    refine ⟨_, (pss_cons (ps_if ((pw_or (pt_not (pt_val (pe_callB (id := "isinstance") (r := rIsi K) call_isi (by rfl) T.isinstance (by decide +kernel) (pa_cons (pv 0) (pa_cons (pe_bltn (v := .ty "str") (by rfl) T.str_ (by decide +kernel) rfl) pa_nil))))) (pw_or1 (pt_not (pt_chain op_le op_le pe_int (pe_callB call_len_str (by rfl) T.len PySem.boot_len (pa_cons (pv 0) pa_nil)) (pe_glob (v := .int 8) (by rfl) c_MOST_LETTERS ⟨_, rfl⟩)))))).pt
  (pss_one (ps_ret pe_bl))
  pss_nil)
 (pss_one (ps_ret (pe_callB (id := "all") (r := rAll K) (cr_all (by rfl)) (by rfl) T.all (by decide +kernel) (pa_cons (pe_lc (own := [("letter", 1)]) (g := gName 1) (tt := tYes) (by rfl) sc_is_name.nd (pi_str (pv 0)) (blkOk_by (N := ["thing", "letter"]) (sc := defScope s_is_name) (by decide +kernel)) (fun _ _ _ _ _ => pg_name (i := 1) sc_is_name.nd rfl (.inl rfl)) (fun _ _ _ _ _ => pts_nil) (fun _ _ _ _ _ => (pe_chain op_le_str op_le_str pe_str (pv 1) pe_str))) pa_nil))))), ?_⟩
    obtain ⟨T1, ty, kt⟩ := hv.strng
    cases hv with
    | str x hx =>
      refine ⟨_, rfl, _, _, _, _, true, rfl, .ty "str", ty, kt, true, rfl, ?_⟩
      refine ⟨_, rfl, _, rfl, Nat.le_of_lt (big1 (show x.cps.size ≤ 1000000 by omega)), _, _, rfl, rfl, _, rfl, ?_⟩
      have kf : nmB x = false → Q (.bl false) H := fun e => by
        have q := kk H (Same.refl H)
        rw [show Th.name (.str x) = nmB x from rfl, e] at q
        exact q
      by_cases h1 : (1 : Int) ≤ (x.cps.size : Nat)
      · refine yesI (decide_eq_true h1) ?_
        refine ⟨_, _, rfl, rfl, _, rfl, ?_⟩
        by_cases h8 : x.cps.size ≤ 8
        · refine noI (by rw [decide_eq_true (show ((x.length : Nat) : Int) ≤ 8 by show ((x.cps.size : Nat) : Int) ≤ 8; omega)]; rfl) ?_
          refine ⟨_, rfl, x, rfl, fun D nD => lc_it (walk_str (z := x)) (fun i H1 => Same H H1 ∧ H1 D = some (.lst (((x.cps.toList.take i).map fun c => decide (97 ≤ c) && decide (c ≤ 122)).map V.bl))) ⟨same_upd nD, upd_same⟩ (fun _ _ _ _ => trivial) (fun i v H1 H1' hi q y => ?_) fun H1 q => ?_⟩
          · obtain ⟨rfl, c, hc, rfl⟩ := y
            obtain ⟨q1, q2⟩ := q
            have hc' : x.cps.toList[i]? = some c := by rw [Array.getElem?_toList]; exact hc
            refine ⟨rfl, _, rfl, _, _, rfl, rfl, _, rfl, ?_⟩
            have fin : ∀ b : Bool, b = (decide (97 ≤ c) && decide (c ≤ 122)) → ∃ acc, H1' D = some (.lst acc) ∧ acc.length < sizeLine ∧ Same H (upd H1' D (.lst (acc ++ [V.bl b]))) ∧ (upd H1' D (.lst (acc ++ [V.bl b]))) D = some (.lst (((x.cps.toList.take (i + 1)).map fun c => decide (97 ≤ c) && decide (c ≤ 122)).map V.bl)) := fun b e => by
              refine ⟨_, q2, ?_, q1.put nD, ?_⟩
              · rw [List.length_map, List.length_map, List.length_take, Array.length_toList]
                exact big1 (by omega)
              · rw [upd_same, e, bls_next (f := fun c => decide (97 ≤ c) && decide (c ≤ 122)) hc']
            by_cases c1 : 97 ≤ c
            · refine yesI (by rw [decide_eq_false (by rw [cpa, lt_one]; omega)]; rfl) ?_
              refine ⟨_, _, rfl, rfl, fin _ ?_⟩
              rw [cpz, decide_eq_true c1, Bool.true_and]
              by_cases c2 : c ≤ 122
              · rw [decide_eq_true c2, decide_eq_false (show ¬ ([122] : List Nat) < [c] by rw [lt_one]; omega)]; rfl
              · rw [decide_eq_false c2, decide_eq_true (show ([122] : List Nat) < [c] by rw [lt_one]; omega)]; rfl
            · refine noI (by rw [decide_eq_true (show ([c] : List Nat) < ("a" : Str).cps.toList by rw [cpa, lt_one]; omega)]; rfl) ?_
              exact fin _ (by rw [decide_eq_false c1]; rfl)
          · obtain ⟨q1, q2⟩ := q
            refine ⟨D, _, rfl, SqL.of q2, ?_⟩
            have q := kk H1 q1
            have e : x.cps.toList.take x.cps.size = x.cps.toList := by
              rw [← Array.length_toList, List.take_length]
            rw [e, all_map_id]
            have e2 : Th.name (.str x) = x.cps.toList.all fun c => decide (97 ≤ c) && decide (c ≤ 122) := by
              show nmB x = _
              unfold nmB
              rw [decide_eq_true (show 1 ≤ x.cps.size by omega), decide_eq_true h8]
              rfl
            rw [e2] at q
            exact q
        · refine yesI (by rw [decide_eq_false (show ¬ ((x.length : Nat) : Int) ≤ 8 by show ¬ ((x.cps.size : Nat) : Int) ≤ 8; omega)]; rfl) ?_
          exact kf (by unfold nmB; rw [decide_eq_false h8]; simp)
      · refine noI (decide_eq_false h1) ?_
        exact ⟨false, rfl, kf (by unfold nmB; rw [decide_eq_false (show ¬ 1 ≤ x.cps.size by omega)]; simp)⟩
    | non => exact ⟨_, rfl, _, _, _, _, false, rfl, .ty "str", ty, kt, false, rfl, kk H (Same.refl H)⟩
    | bl b => exact ⟨_, rfl, _, _, _, _, false, rfl, .ty "str", ty, kt, false, rfl, kk H (Same.refl H)⟩
    | int i => exact ⟨_, rfl, _, _, _, _, false, rfl, .ty "str", ty, kt, false, rfl, kk H (Same.refl H)⟩
    | tup _ _ => exact ⟨_, rfl, _, _, _, _, false, rfl, .ty "str", ty, kt, false, rfl, kk H (Same.refl H)⟩
    | opq _ _ => exact ⟨_, rfl, _, _, _, _, false, rfl, .ty "str", ty, kt, false, rfl, kk H (Same.refl H)⟩
end
end Y

namespace Y
open PySem PySem.Spec PyProof.Rows L2
theorem strs_keys' (ns : List Str) : ns.map V.str = (ns.map (Sum.inr : Str → Key)).map kV := by
  rw [List.map_map]
  rfl
theorem names_strs {K : PySem.W.Frag} {H : Hp} : ∀ {xs : List V} {ts : List Th}, IsAll K H xs ts → ts.all Th.name = true → xs = (Th.strs ts).map V.str ∧ ts = (Th.strs ts).map Th.str
  | _, _, .nil, _ => ⟨rfl, rfl⟩
  | _, _, .cons (t := t) h r, e => by
    rw [List.all_cons, Bool.and_eq_true] at e
    obtain ⟨q1, q2⟩ := names_strs r e.2
    cases h with
    | str x hx =>
      refine ⟨?_, ?_⟩
      · show _ :: _ = V.str x :: (Th.strs _).map V.str
        rw [← q1]
      · show _ :: _ = Th.str x :: (Th.strs _).map Th.str
        rw [← q2]
    | non => cases e.1
    | bl b => cases e.1
    | int i => cases e.1
    | tup _ _ => cases e.1
    | opq _ _ => cases e.1
theorem nodup_uq {ns : List Str} : decide (((uq (ns.map (Sum.inr : Str → Key))).length : Int) = (ns.length : Int)) = decide ns.Nodup := by
  by_cases h : ns.Nodup
  · rw [decide_eq_true h, uq_nd (inr_nd h), List.length_map, decide_eq_true rfl]
  · rw [decide_eq_false h]
    refine decide_eq_false fun e => h ?_
    have e : (uq (ns.map (Sum.inr : Str → Key))).length = ns.length := by omega
    have go : ∀ (l acc : List Key), (uqF acc l).length = acc.length + l.length → acc.Nodup → (acc ++ l).Nodup := by
      intro l
      induction l with
      | nil => intro acc _ nd; rw [List.append_nil]; exact nd
      | cons x r ih =>
        intro acc e nd
        have le : (uqF (stp acc x) r).length ≤ (stp acc x).length + r.length := by
          have gen : ∀ (l acc : List Key), (uqF acc l).length ≤ acc.length + l.length := by
            intro l
            induction l with
            | nil => intro acc; exact Nat.le_refl _
            | cons x r ih =>
              intro acc
              have k := ih (stp acc x)
              have j : (stp acc x).length ≤ acc.length + 1 := by
                unfold stp
                split
                · exact Nat.le_succ _
                · rw [List.length_append]; exact Nat.le_refl _
              show (uqF (stp acc x) r).length ≤ acc.length + (r.length + 1)
              omega
          exact gen r (stp acc x)
        have e' : (uqF (stp acc x) r).length = acc.length + (r.length + 1) := e
        by_cases m : isIn acc x = true
        · have es : stp acc x = acc := by unfold stp; rw [if_pos m]
          rw [es] at le e'
          omega
        · have es : stp acc x = acc ++ [x] := by unfold stp; rw [if_neg m]
          rw [es] at e'
          have nd' : (acc ++ [x]).Nodup := by
            rw [List.nodup_append]
            refine ⟨nd, by simp, fun a ha b hb z => ?_⟩
            rw [List.mem_singleton.mp hb] at z
            subst z
            exact m (isIn_iff.mpr ha)
          have q := ih (acc ++ [x]) (by rw [e', List.length_append]; show _ = acc.length + 1 + r.length; omega) nd'
          rw [List.append_assoc] at q
          exact q
    have nk : (ns.map (Sum.inr : Str → Key)).Nodup := by
      have q := go (ns.map Sum.inr) [] (by rw [List.length_map, List.length_nil, Nat.zero_add]; exact e) List.nodup_nil
      exact q
    exact (List.Pairwise.of_map (S := fun a b : Key => a ≠ b) (Sum.inr : Str → Key) (fun a b hab z => hab (by rw [z])) nk : ns.Pairwise (· ≠ ·))
section
variable {P : Program} {w : World} {K : PySem.W.Frag} {mg : Str → Option Value} {base : Heap}
abbrev s_is_name_tuple : Stmt := topS 10
theorem sc_is_name_tuple : FnScope ["thing", "part"] ["thing"] (defScope s_is_name_tuple) := ⟨rfl, rfl, rfl, by decide +kernel, rfl, by decide +kernel, by decide +kernel⟩
def spNamesT (K : PySem.W.Frag) : Sp := fun vs H Q _ => ∃ (v : V) (t : Th), vs = [v] ∧ Is K H v t ∧ (∀ ts, t = .tup ts → ts.length ≤ 1000) ∧ ∀ H', Same H H' → Q (.bl t.names) H'
theorem ok_names {f : Addr} {fd : FuncData} (F : Fun K "is_name_tuple" "is_name_tuple" s_is_name_tuple f fd) (T : Bi mg) (D_is_name : Has P w K mg base "is_name" 1 ["thing"] (spNameT K)) : FnOk P w K mg base CX0 2 f fd ["thing"] (spNamesT K) := by
  refine F.ok sc_is_name_tuple (fun vs H Q E h => ?_) (fun cdv A outer s₀ H vs Q E hr h => ?_)
  · obtain ⟨v, t, rfl, _⟩ := h
    rfl
  · obtain ⟨v, t, rfl, hv, hl, kk⟩ := h
    refine ⟨_, (pss_cons (ps_if ((pw_or (pt_not (pt_val (pe_callB (id := "isinstance") (r := rIsi K) call_isi (by rfl) T.isinstance (by decide +kernel) (pa_cons (pv 0) (pa_cons (pe_bltn (v := .ty "tuple") (by rfl) T.tuple_ (by decide +kernel) rfl) pa_nil))))) (pw_or1 (pt_not (pt_val (pe_callB (id := "all") (r := rAll K) (cr_all (by rfl)) (by rfl) T.all (by decide +kernel) (pa_cons (pe_lc (own := [("part", 1)]) (g := gName 1) (tt := tYes) (by rfl) sc_is_name_tuple.nd (pi_tup (pv 0)) (blkOk_by (N := ["thing", "part"]) (sc := defScope s_is_name_tuple) (by decide +kernel)) (fun _ _ _ _ _ => pg_name (i := 1) sc_is_name_tuple.nd rfl (.inl rfl)) (fun _ _ _ _ _ => pts_nil) (fun _ _ _ _ _ => (D_is_name.call (hr.mono (by decide)) (by rfl) (pa_cons (pv 1) pa_nil)))) pa_nil))))))).pt
  (pss_one (ps_ret pe_bl))
  pss_nil)
 (pss_one (ps_ret (pe_cmpR op_eq (pe_callB call_lenK (by rfl) T.len PySem.boot_len (pa_cons (pe_callTy (cr_setK (by rfl)) (by rfl) T.set_ (by decide +kernel) (pa_cons (pv 0) pa_nil)) pa_nil)) (pe_callB call_len_seq (by rfl) T.len PySem.boot_len (pa_cons (pv 0) pa_nil)) (nomark _))))), ?_⟩
    obtain ⟨T1, ty, kt⟩ := hv.tuple
    cases hv with
    | @tup a xs ts hs ha =>
      have l1 := hl ts rfl
      have lx := ha.len
      refine ⟨_, rfl, _, _, _, _, true, rfl, .ty "tuple", ty, kt, true, rfl, ?_⟩
      refine ⟨_, rfl, a, rfl, ⟨_, hs⟩, fun D nD => lc_tup (K := K) (a := a) (xs := xs) (fun i H1 => Same H H1 ∧ H1 D = some (.lst (((ts.take i).map Th.name).map V.bl))) ⟨same_upd nD, upd_same⟩ (fun i H1 _ q => q.1.tup hs) (fun i v H1 hv q => ?_) fun H1 q => ?_⟩
      · obtain ⟨t, ht, hi⟩ := ha.get hv
        obtain ⟨q1, q2⟩ := q
        have li : i < xs.length := (List.getElem?_eq_some_iff.mp hv).1
        refine ⟨rfl, _, rfl, v, t, rfl, hi.same q1, fun H2 s2 => ⟨_, s2 _ _ q2, ?_, (q1.trans s2).put nD, ?_⟩⟩
        · rw [List.length_map, List.length_map, List.length_take]
          exact big1 (by omega)
        · rw [upd_same, bls_next ht]
      · obtain ⟨q1, q2⟩ := q
        rw [lx, List.take_length] at q2
        refine ⟨D, _, rfl, SqL.of q2, ?_⟩
        rw [all_map_id]
        by_cases e : ts.all Th.name = true
        · rw [e]
          obtain ⟨ex, et⟩ := names_strs ha e
          generalize hn : Th.strs ts = ns at ex et
          have ln : ns.length = ts.length := by rw [et, List.length_map]
          refine ⟨true, rfl, ?_⟩
          have h1 : SqT K H1 a ((ns.map (Sum.inr : Str → Key)).map kV) := by rw [← strs_keys', ← ex]; exact q1.tup hs
          have ul : (uq (ns.map (Sum.inr : Str → Key))).length ≤ ns.length := by
            have q := uq_le (ns.map (Sum.inr : Str → Key))
            rw [List.length_map] at q
            exact q
          refine ⟨_, rfl, a, ns.map Sum.inr, rfl, .inr h1, by omega, fun p np => ?_⟩
          have q3 := q1.put (o := SetK P w p (isIn (ns.map Sum.inr)) (uq (ns.map (Sum.inr : Str → Key))).length) (q1.freeOf np)
          refine ⟨p, _, _, rfl, upd_same, by omega, _, rfl, a, _, rfl, .inr (q3.tup hs), rfl, ?_⟩
          have e3 : decide (V.int ((uq (ns.map (Sum.inr : Str → Key))).length : Nat) = V.int (xs.length : Nat)) = Th.names (.tup ts) := by
            show _ = (ts.all Th.name && decide (Th.strs ts).Nodup)
            rw [e, hn, ← nodup_uq, Bool.true_and, ex, List.length_map]
            by_cases z : ((uq (ns.map (Sum.inr : Str → Key))).length : Int) = (ns.length : Int)
            · rw [decide_eq_true z, z, decide_eq_true rfl]
            · rw [decide_eq_false z]
              exact decide_eq_false fun k => z (V.int.inj k)
          rw [e3]
          exact kk _ q3
        · have e : ts.all Th.name = false := by cases h : ts.all Th.name <;> simp_all
          rw [e]
          refine ⟨false, rfl, ?_⟩
          have q := kk H1 q1
          rw [show Th.names (.tup ts) = false by show (ts.all Th.name && _) = false; rw [e]; rfl] at q
          exact q
    | non => exact ⟨_, rfl, _, _, _, _, false, rfl, .ty "tuple", ty, kt, false, rfl, kk H (Same.refl H)⟩
    | bl b => exact ⟨_, rfl, _, _, _, _, false, rfl, .ty "tuple", ty, kt, false, rfl, kk H (Same.refl H)⟩
    | int i => exact ⟨_, rfl, _, _, _, _, false, rfl, .ty "tuple", ty, kt, false, rfl, kk H (Same.refl H)⟩
    | str _ _ => exact ⟨_, rfl, _, _, _, _, false, rfl, .ty "tuple", ty, kt, false, rfl, kk H (Same.refl H)⟩
    | opq _ _ => exact ⟨_, rfl, _, _, _, _, false, rfl, .ty "tuple", ty, kt, false, rfl, kk H (Same.refl H)⟩
/-- what the module says of the lengths of deeds -/
structure Dln (K : PySem.W.Frag) (w : World) (mg : Str → Option Value) (d : Addr) (es : Array DictEntry) (n : Nat) : Prop where
  at_ : mg "DEED_LENGTHS" = some (.ref d)
  kd : KDict K w d es n
  z : ∃ t, PySem.W.nsIn K d "zero" = some (some (.int 2 t))
  c : ∃ t, PySem.W.nsIn K d "copy" = some (some (.int 3 t))
  m : ∃ t, PySem.W.nsIn K d "more" = some (some (.int 2 t))
  no : ∀ x : Str, x ≠ "zero" → x ≠ "copy" → x ≠ "more" → PySem.W.nsIn K d x = some none
theorem Dln.get {d : Addr} {es : Array DictEntry} {n : Nat} (L : Dln K w mg d es n) (x : Str) : ∃ r : Option Value, PySem.W.nsIn K d x = some r ∧ RelV (match wordLen x with | some k => V.int (k : Nat) | none => V.non) (r.getD .none) := by
  unfold wordLen
  by_cases h1 : x = "zero"
  · subst h1
    obtain ⟨t, e⟩ := L.z
    exact ⟨_, e, by rw [if_pos rfl]; exact ⟨t, rfl⟩⟩
  · by_cases h2 : x = "copy"
    · subst h2
      obtain ⟨t, e⟩ := L.c
      exact ⟨_, e, by rw [if_neg h1, if_pos rfl]; exact ⟨t, rfl⟩⟩
    · by_cases h3 : x = "more"
      · subst h3
        obtain ⟨t, e⟩ := L.m
        exact ⟨_, e, by rw [if_neg h1, if_neg h2, if_pos rfl]; exact ⟨t, rfl⟩⟩
      · exact ⟨_, L.no x h1 h2 h3, by rw [if_neg h1, if_neg h2, if_neg h3]; exact rfl⟩
theorem len_eq {x : Str} {n : Nat} : decide ((match wordLen x with | some k => V.int (k : Nat) | none => V.non) = V.int (n : Nat)) = decide (wordLen x = some n) := by
  cases e : wordLen x with
  | none => rfl
  | some k =>
    show decide (V.int (k : Nat) = V.int (n : Nat)) = decide (some k = some n)
    by_cases h : k = n
    · subst h; simp
    · rw [decide_eq_false (show ¬ V.int (k : Nat) = V.int (n : Nat) from fun z => h (by have := V.int.inj z; omega)), decide_eq_false (show ¬ some k = some n from fun z => h (Option.some.inj z))]
theorem len_scal {x : Str} {n : Nat} : scal (match wordLen x with | some k => V.int (k : Nat) | none => V.non) (V.int (n : Nat)) = true := by cases wordLen x <;> rfl
abbrev s_is_deed : Stmt := topS 11
theorem sc_is_deed : FnScope ["thing", "part"] ["thing"] (defScope s_is_deed) := ⟨rfl, rfl, rfl, by decide +kernel, rfl, by decide +kernel, by decide +kernel⟩
def spDeedT (K : PySem.W.Frag) : Sp := fun vs H Q _ => ∃ (v : V) (t : Th), vs = [v] ∧ Is K H v t ∧ (∀ ts, t = .tup ts → ts.length ≤ 100000) ∧ ∀ H', Same H H' → Q (.bl t.deed) H'
theorem ok_deedT {f : Addr} {fd : FuncData} (F : Fun K "is_deed" "is_deed" s_is_deed f fd) (T : Bi mg) {a_DEED_LENGTHS : Addr} {es : Array DictEntry} {n : Nat} (L : Dln K w mg a_DEED_LENGTHS es n) (D_is_name : Has P w K mg base "is_name" 1 ["thing"] (spNameT K)) :
    FnOk P w K mg base CX0 2 f fd ["thing"] (spDeedT K) := by
  have c_DEED_LENGTHS := L.at_
  have d_DEED_LENGTHS := L.kd
  refine F.ok sc_is_deed (fun vs H Q E h => ?_) (fun cdv A outer s₀ H vs Q E hr h => ?_)
  · obtain ⟨v, t, rfl, _⟩ := h
    rfl
  · obtain ⟨v, t, rfl, hv, hl, kk⟩ := h
    refine ⟨_, (pss_cons (ps_if ((pw_or (pt_not (pt_val (pe_callB (id := "isinstance") (r := rIsi K) call_isi (by rfl) T.isinstance (by decide +kernel) (pa_cons (pv 0) (pa_cons (pe_bltn (v := .ty "tuple") (by rfl) T.tuple_ (by decide +kernel) rfl) pa_nil))))) (pw_or (pt_cmpR op_eq (pe_callB call_len_seq (by rfl) T.len PySem.boot_len (pa_cons (pv 0) pa_nil)) pe_int (nomark _)) (pw_or1 (pt_not (pt_val (pe_callB (id := "isinstance") (r := rIsi K) call_isi (by rfl) T.isinstance (by decide +kernel) (pa_cons (pe_ix ix_tup (pv 0) pe_int (fun _ _ => rfl)) (pa_cons (pe_bltn (v := .ty "str") (by rfl) T.str_ (by decide +kernel) rfl) pa_nil))))))))).pt
  (pss_one (ps_ret pe_bl))
  pss_nil)
 (pss_cons (ps_if (pt_cmpR op_ne (pe_kget1 d_DEED_LENGTHS (pe_glob (v := .ref a_DEED_LENGTHS) (by rfl) c_DEED_LENGTHS rfl) (pe_ix ix_tup (pv 0) pe_int (fun _ _ => rfl)) ⟨rfl, rfl, rfl, rfl⟩) (pe_callB call_len_seq (by rfl) T.len PySem.boot_len (pa_cons (pv 0) pa_nil)) (nomark _))
  (pss_one (ps_ret pe_bl))
  pss_nil)
 (pss_one (ps_ret (pe_callB (id := "all") (r := rAll K) (cr_all (by rfl)) (by rfl) T.all (by decide +kernel) (pa_cons (pe_lc (own := [("part", 1)]) (g := gName 1) (tt := tYes) (by rfl) sc_is_deed.nd (pi_tup (pe_slice sl_tupA (pv 0) (po_some pe_int) po_none)) (blkOk_by (N := ["thing", "part"]) (sc := defScope s_is_deed) (by decide +kernel)) (fun _ _ _ _ _ => pg_name (i := 1) sc_is_deed.nd rfl (.inl rfl)) (fun _ _ _ _ _ => pts_nil) (fun _ _ _ _ _ => (D_is_name.call (hr.mono (by decide)) (by rfl) (pa_cons (pv 1) pa_nil)))) pa_nil)))))), ?_⟩
    obtain ⟨T1, ty, kt⟩ := hv.tuple
    cases hv with
    | @tup a xs ts hs ha =>
      have l1 := hl ts rfl
      have lx := ha.len
      refine ⟨_, rfl, _, _, _, _, true, rfl, .ty "tuple", ty, kt, true, rfl, ?_⟩
      refine ⟨_, rfl, a, _, rfl, .inr hs, rfl, _, rfl, ?_⟩
      cases ha with
      | nil => exact kk H (Same.refl H)
      | @cons x0 xr t0 tr h0 hrest =>
        refine noI (decide_eq_false fun z => ?_) ?_
        · have z := V.int.inj z
          rw [List.length_cons] at z
          omega
        obtain ⟨T2, ty2, kt2⟩ := h0.strng
        cases h0 with
        | str x hx =>
          refine ⟨_, rfl, a, _, _, _, rfl, rfl, hs, atI_nat (j := 0) rfl, _, _, _, _, true, rfl, .ty "str", ty2, kt2, true, rfl, ?_⟩
          obtain ⟨r, er, rr⟩ := L.get x
          refine ⟨rfl, _, rfl, a, _, _, _, rfl, rfl, hs, atI_nat (j := 0) rfl, x, r, _, rfl, er, rr, _, rfl, a, _, rfl, .inr hs, len_scal, _, rfl, ?_⟩
          have el : (V.str x :: xr).length = tr.length + 1 := by rw [List.length_cons, hrest.len]
          by_cases e : wordLen x = some (tr.length + 1)
          · refine noI (by rw [el, len_eq, decide_eq_true e]; rfl) ?_
            refine ⟨_, rfl, 1, rfl, a, _, rfl, hs, fun z => ?_, fun _ c nc => ⟨c, rfl, ⟨_, SqT.of upd_same⟩, fun D nD => ?_⟩⟩
            · exact absurd z.1 (by rw [el]; show ¬ HT.sIx (tr.length + 1) 0 (some ((1 : Nat) : Int)) = 0; rw [HT.sIx_nat]; omega)
            · have ec : cutV (V.str x :: xr) (some 1) none = xr := cut_drop (n := 1)
              rw [ec] at nD ⊢
              have sc := same_upd (o := .tup xr) nc
              refine lc_tup (K := K) (a := c) (xs := xr) (fun i H1 => Same (upd H c (.tup xr)) H1 ∧ H1 D = some (.lst (((tr.take i).map Th.name).map V.bl))) ⟨same_upd nD, upd_same⟩ (fun i H1 _ q => q.1.tup (SqT.of upd_same)) (fun i v H1 hv q => ?_) fun H1 q => ?_
              · obtain ⟨t, ht, hi⟩ := hrest.get hv
                obtain ⟨q1, q2⟩ := q
                have li : i < xr.length := (List.getElem?_eq_some_iff.mp hv).1
                refine ⟨rfl, _, rfl, v, t, rfl, hi.same (sc.trans q1), fun H2 s2 => ⟨_, s2 _ _ q2, ?_, (q1.trans s2).put nD, ?_⟩⟩
                · rw [List.length_map, List.length_map, List.length_take]
                  rw [List.length_cons] at l1
                  exact big1 (by omega)
                · rw [upd_same, bls_next ht]
              · obtain ⟨q1, q2⟩ := q
                rw [hrest.len, List.take_length] at q2
                refine ⟨D, _, rfl, SqL.of q2, ?_⟩
                have q := kk H1 (sc.trans q1)
                rw [all_map_id]
                rw [show Th.deed (.tup (.str x :: tr)) = tr.all Th.name by show (decide _ && _) = _; rw [decide_eq_true e]; rfl] at q
                exact q
          · refine yesI (by rw [el, len_eq, decide_eq_false e]; rfl) ?_
            have q := kk H (Same.refl H)
            rw [show Th.deed (.tup (.str x :: tr)) = false by show (decide _ && _) = _; rw [decide_eq_false e]; rfl] at q
            exact q
        | non => exact ⟨_, rfl, a, _, _, _, rfl, rfl, hs, atI_nat (j := 0) rfl, _, _, _, _, false, rfl, .ty "str", ty2, kt2, false, rfl, kk H (Same.refl H)⟩
        | bl b => exact ⟨_, rfl, a, _, _, _, rfl, rfl, hs, atI_nat (j := 0) rfl, _, _, _, _, false, rfl, .ty "str", ty2, kt2, false, rfl, kk H (Same.refl H)⟩
        | int i => exact ⟨_, rfl, a, _, _, _, rfl, rfl, hs, atI_nat (j := 0) rfl, _, _, _, _, false, rfl, .ty "str", ty2, kt2, false, rfl, kk H (Same.refl H)⟩
        | tup _ _ => exact ⟨_, rfl, a, _, _, _, rfl, rfl, hs, atI_nat (j := 0) rfl, _, _, _, _, false, rfl, .ty "str", ty2, kt2, false, rfl, kk H (Same.refl H)⟩
        | opq _ _ => exact ⟨_, rfl, a, _, _, _, rfl, rfl, hs, atI_nat (j := 0) rfl, _, _, _, _, false, rfl, .ty "str", ty2, kt2, false, rfl, kk H (Same.refl H)⟩
    | non => exact ⟨_, rfl, _, _, _, _, false, rfl, .ty "tuple", ty, kt, false, rfl, kk H (Same.refl H)⟩
    | bl b => exact ⟨_, rfl, _, _, _, _, false, rfl, .ty "tuple", ty, kt, false, rfl, kk H (Same.refl H)⟩
    | int i => exact ⟨_, rfl, _, _, _, _, false, rfl, .ty "tuple", ty, kt, false, rfl, kk H (Same.refl H)⟩
    | str _ _ => exact ⟨_, rfl, _, _, _, _, false, rfl, .ty "tuple", ty, kt, false, rfl, kk H (Same.refl H)⟩
    | opq _ _ => exact ⟨_, rfl, _, _, _, _, false, rfl, .ty "tuple", ty, kt, false, rfl, kk H (Same.refl H)⟩
end
end Y

namespace Y
open PySem PySem.Spec PyProof.Rows L2
def natV : Option Nat → V
  | none => .non
  | some j => .int (j : Nat)
theorem firstNo_lt {f : Th → Bool} : ∀ {ts : List Th} {j : Nat}, firstNo f ts = some j → j < ts.length
  | [], _, h => by cases h
  | t :: r, j, h => by
    unfold firstNo at h
    by_cases e : f t = true
    · rw [if_pos e] at h
      cases q : firstNo f r with
      | none => rw [q] at h; cases h
      | some i =>
        rw [q] at h
        have := firstNo_lt q
        have e : i + 1 = j := Option.some.inj h
        rw [List.length_cons]
        omega
    · rw [if_neg e] at h
      have e : 0 = j := Option.some.inj h
      rw [List.length_cons]
      omega
theorem IsAll.three {K : PySem.W.Frag} {H : Hp} {xs : List V} {ts : List Th} (h : IsAll K H xs ts) (l : ts.length = 3) : ∃ x0 x1 x2 t0 t1 t2, xs = [x0, x1, x2] ∧ ts = [t0, t1, t2] ∧ Is K H x0 t0 ∧ Is K H x1 t1 ∧ Is K H x2 t2 := by
  match ts, xs, h, l with
  | [t0, t1, t2], [x0, x1, x2], .cons h0 (.cons h1 (.cons h2 .nil)), _ => exact ⟨_, _, _, _, _, _, rfl, rfl, h0, h1, h2⟩
section
variable {P : Program} {w : World} {K : PySem.W.Frag} {mg : Str → Option Value} {base : Heap}
abbrev s_first_wrong_deed : Stmt := topS 12
theorem sc_first_wrong_deed : FnScope ["things", "j", "thing"] ["things"] (defScope s_first_wrong_deed) := ⟨rfl, rfl, rfl, by decide +kernel, rfl, by decide +kernel, by decide +kernel⟩
def spFirstT (K : PySem.W.Frag) : Sp := fun vs H Q _ => ∃ (a : Addr) (xs : List V) (ts : List Th), vs = [.ref a] ∧ SqT K H a xs ∧ IsAll K H xs ts ∧ (∀ t ∈ ts, ∀ rs, t = .tup rs → rs.length ≤ 100000) ∧ ∀ H', Same H H' → Q (natV (firstNo Th.deed ts)) H'
theorem ok_firstT {f : Addr} {fd : FuncData} (F : Fun K "first_wrong_deed" "first_wrong_deed" s_first_wrong_deed f fd) (T : Bi mg) (D_is_deed : Has P w K mg base "is_deed" 2 ["thing"] (spDeedT K)) : FnOk P w K mg base CX0 3 f fd ["things"] (spFirstT K) := by
  refine F.ok sc_first_wrong_deed (fun vs H Q E h => ?_) (fun cdv A outer s₀ H vs Q E hr h => ?_)
  · obtain ⟨a, xs, ts, rfl, _⟩ := h
    rfl
  · obtain ⟨a, xs, ts, rfl, hs, ha, hl, kk⟩ := h
    refine ⟨_, (pss_cons (ps_for PassesOwn.never rfl (pi_enumT (by rfl) T.enumerate (pa_cons (pv 0) pa_nil)) (pg_tup (by rfl) (pgs_cons (pg_name (i := 1) sc_first_wrong_deed.nd rfl (.inl rfl)) (pgs_cons (pg_name (i := 2) sc_first_wrong_deed.nd rfl (.inl rfl)) pgs_nil)))
  (pss_one (ps_if (pt_not (pt_val (D_is_deed.call (hr.mono (by decide)) (by rfl) (pa_cons (pv 2) pa_nil))))
  (pss_one (ps_ret (pv 1)))
  pss_nil)))
 (pss_one (ps_ret pe_non))), ?_⟩
    refine ⟨_, rfl, a, xs, rfl, hs, for_it walk_enumT (fun i σ H1 => ∃ y1 y2, σ = [some (.ref a), y1, y2] ∧ Same H H1 ∧ ∀ j t, j < i → ts[j]? = some t → t.deed = true) ⟨none, none, rfl, Same.refl H, fun j _ h => absurd h (Nat.not_lt_zero j)⟩ (fun i σ H1 _ q => by obtain ⟨_, _, _, s, _⟩ := q; exact s.tup hs) (fun i v σ H1 H1' hi q y => ?_) fun σ H1 q => ?_⟩
    · obtain ⟨y1, y2, rfl, s1, ok⟩ := q
      obtain ⟨t, n, x, rfl, nt, rfl, en, ex⟩ := y
      cases en
      obtain ⟨th, hth, hi2⟩ := ha.get ex
      have s2 : Same H (upd H1 t (.tup [V.int (i : Nat), x])) := s1.trans (same_upd nt)
      refine ⟨t, _, rfl, SqT.of upd_same, rfl, _, _, rfl, _, _, rfl, rfl, ?_⟩
      refine ⟨_, rfl, x, th, rfl, hi2.same s2, fun rs e => hl th (at_mem hth) rs e, fun H2 s3 => ⟨th.deed, rfl, ?_⟩⟩
      have s4 := s2.trans s3
      cases e : th.deed with
      | true =>
        refine noI rfl ⟨_, _, rfl, s4, fun j u hj hu => ?_⟩
        rcases Nat.lt_succ_iff_lt_or_eq.mp hj with h | h
        · exact ok j u h hu
        · subst h
          rw [hth] at hu
          cases hu
          exact e
      | false =>
        refine yesI rfl ⟨_, rfl, ?_⟩
        have q := kk H2 s4
        rw [firstNo_at hth e ok] at q
        exact q
    · obtain ⟨y1, y2, rfl, s1, ok⟩ := q
      have q := kk H1 s1
      rw [firstNo_none fun t m => by
        obtain ⟨j, hj⟩ := List.mem_iff_getElem?.mp m
        exact ok j t (by rw [ha.len]; exact (List.getElem?_eq_some_iff.mp hj).1) hj] at q
      exact q
abbrev s_is_round_frame : Stmt := topS 13
theorem sc_is_round_frame : FnScope ["thing"] ["thing"] (defScope s_is_round_frame) := ⟨rfl, rfl, rfl, by decide +kernel, rfl, by decide +kernel, by decide +kernel⟩
def spFrameT (K : PySem.W.Frag) : Sp := fun vs H Q _ => ∃ (v : V) (t : Th), vs = [v] ∧ Is K H v t ∧ ∀ H', Same H H' → Q (.bl t.frame) H'
theorem frame3 {ts : List Th} (h : ts.length ≠ 3) : Th.frame (.tup ts) = false := by
  show frameL ts = false
  unfold frameL
  split
  · exact (h rfl).elim
  · rfl
theorem ok_frameT {f : Addr} {fd : FuncData} (F : Fun K "is_round_frame" "is_round_frame" s_is_round_frame f fd) (T : Bi mg) (D_is_name : Has P w K mg base "is_name" 1 ["thing"] (spNameT K)) : FnOk P w K mg base CX0 2 f fd ["thing"] (spFrameT K) := by
  refine F.ok sc_is_round_frame (fun vs H Q E h => ?_) (fun cdv A outer s₀ H vs Q E hr h => ?_)
  · obtain ⟨v, t, rfl, _⟩ := h
    rfl
  · obtain ⟨v, t, rfl, hv, kk⟩ := h
    refine ⟨_, (pss_cons (ps_if ((pw_or (pt_not (pt_val (pe_callB (id := "isinstance") (r := rIsi K) call_isi (by rfl) T.isinstance (by decide +kernel) (pa_cons (pv 0) (pa_cons (pe_bltn (v := .ty "tuple") (by rfl) T.tuple_ (by decide +kernel) rfl) pa_nil))))) (pw_or (pt_cmpR op_ne (pe_callB call_len_seq (by rfl) T.len PySem.boot_len (pa_cons (pv 0) pa_nil)) pe_int (nomark _)) (pw_or1 (pt_not (pt_val (pe_callB (id := "isinstance") (r := rIsi K) call_isi (by rfl) T.isinstance (by decide +kernel) (pa_cons (pe_ix ix_tup (pv 0) pe_int (fun _ _ => rfl)) (pa_cons (pe_bltn (v := .ty "str") (by rfl) T.str_ (by decide +kernel) rfl) pa_nil))))))))).pt
  (pss_one (ps_ret pe_bl))
  pss_nil)
 (pss_one (ps_ret (pe_and (pe_cmpR op_eq (pe_ix ix_tup (pv 0) pe_int (fun _ _ => rfl)) pe_str (nomark _)) (pe_and (D_is_name.call (hr.mono (by decide)) (by rfl) (pa_cons (pe_ix ix_tup (pv 0) pe_int (fun _ _ => rfl)) pa_nil)) (pe_one (pe_callB (id := "isinstance") (r := rIsi K) call_isi (by rfl) T.isinstance (by decide +kernel) (pa_cons (pe_ix ix_tup (pv 0) pe_int (fun _ _ => rfl)) (pa_cons (pe_bltn (v := .ty "tuple") (by rfl) T.tuple_ (by decide +kernel) rfl) pa_nil))))))))), ?_⟩
    obtain ⟨T1, ty, kt⟩ := hv.tuple
    cases hv with
    | @tup a xs ts hs ha =>
      have lx := ha.len
      refine ⟨_, rfl, _, _, _, _, true, rfl, .ty "tuple", ty, kt, true, rfl, ?_⟩
      refine ⟨_, rfl, a, _, rfl, .inr hs, rfl, _, rfl, ?_⟩
      by_cases l3 : ts.length = 3
      · refine noI (by rw [lx, l3]; decide) ?_
        obtain ⟨x0, x1, x2, t0, t1, t2, rfl, rfl, h0, h1, h2⟩ := ha.three l3
        obtain ⟨T2, ty2, kt2⟩ := h0.strng
        cases h0 with
        | str z hz =>
          refine ⟨_, rfl, a, _, _, _, rfl, rfl, hs, atI_nat (j := 0) rfl, _, _, _, _, true, rfl, .ty "str", ty2, kt2, true, rfl, ?_⟩
          refine ⟨_, rfl, a, _, _, _, rfl, rfl, hs, atI_nat (j := 0) rfl, rfl, _, rfl, ?_⟩
          obtain ⟨T3, ty3, kt3⟩ := h2.tuple
          have key : Th.frame (.tup [.str z, t1, t2]) = (decide (z = "round") && t1.name && t2.isTup) := by
            show frameL _ = _
            cases t2 <;> simp [frameL, Th.isTup]
          by_cases e : z = "round"
          · refine yesI (by rw [e]; exact decide_eq_true rfl) ?_
            refine ⟨_, rfl, a, _, _, _, rfl, rfl, hs, atI_nat (j := 1) rfl, x1, t1, rfl, h1, fun H2 s2 => ?_⟩
            have q := kk H2 s2
            rw [key, decide_eq_true e, Bool.true_and] at q
            refine ⟨_, rfl, ?_⟩
            cases en : t1.name with
            | false =>
              rw [en] at q
              exact q
            | true =>
              rw [en, Bool.true_and] at q
              obtain ⟨T4, ty4, kt4⟩ := (h2.same s2).tuple
              exact ⟨_, rfl, a, _, _, _, rfl, rfl, s2.tup hs, atI_nat (j := 2) rfl, _, _, _, _, _, rfl, .ty "tuple", ty4, kt4, q⟩
          · refine noI (decide_eq_false fun k => e (V.str.inj k)) ?_
            have q := kk H (Same.refl H)
            rw [key, decide_eq_false e] at q
            exact q
        | non => exact ⟨_, rfl, a, _, _, _, rfl, rfl, hs, atI_nat (j := 0) rfl, _, _, _, _, false, rfl, .ty "str", ty2, kt2, false, rfl, kk H (Same.refl H)⟩
        | bl b => exact ⟨_, rfl, a, _, _, _, rfl, rfl, hs, atI_nat (j := 0) rfl, _, _, _, _, false, rfl, .ty "str", ty2, kt2, false, rfl, kk H (Same.refl H)⟩
        | int i => exact ⟨_, rfl, a, _, _, _, rfl, rfl, hs, atI_nat (j := 0) rfl, _, _, _, _, false, rfl, .ty "str", ty2, kt2, false, rfl, kk H (Same.refl H)⟩
        | tup _ _ => exact ⟨_, rfl, a, _, _, _, rfl, rfl, hs, atI_nat (j := 0) rfl, _, _, _, _, false, rfl, .ty "str", ty2, kt2, false, rfl, kk H (Same.refl H)⟩
        | opq _ _ => exact ⟨_, rfl, a, _, _, _, rfl, rfl, hs, atI_nat (j := 0) rfl, _, _, _, _, false, rfl, .ty "str", ty2, kt2, false, rfl, kk H (Same.refl H)⟩
      · refine yesI (by rw [decide_eq_false (fun z => l3 (by have := V.int.inj z; omega))]; rfl) ?_
        have q := kk H (Same.refl H)
        rw [frame3 l3] at q
        exact q
    | non => exact ⟨_, rfl, _, _, _, _, false, rfl, .ty "tuple", ty, kt, false, rfl, kk H (Same.refl H)⟩
    | bl b => exact ⟨_, rfl, _, _, _, _, false, rfl, .ty "tuple", ty, kt, false, rfl, kk H (Same.refl H)⟩
    | int i => exact ⟨_, rfl, _, _, _, _, false, rfl, .ty "tuple", ty, kt, false, rfl, kk H (Same.refl H)⟩
    | str _ _ => exact ⟨_, rfl, _, _, _, _, false, rfl, .ty "tuple", ty, kt, false, rfl, kk H (Same.refl H)⟩
    | opq _ _ => exact ⟨_, rfl, _, _, _, _, false, rfl, .ty "tuple", ty, kt, false, rfl, kk H (Same.refl H)⟩
abbrev s_has_round : Stmt := topS 24
theorem sc_has_round : FnScope ["statement"] ["statement"] (defScope s_has_round) := ⟨rfl, rfl, rfl, by decide +kernel, rfl, by decide +kernel, by decide +kernel⟩
def spHasRound (K : PySem.W.Frag) : Sp := fun vs H Q _ => ∃ (a : Addr) (z : Str) (xs : List V), vs = [.ref a] ∧ SqT K H a (.str z :: xs) ∧ Q (.bl (decide (z = "round"))) H
theorem dec_str {x y : Str} : decide (V.str x = V.str y) = decide (x = y) := by
  by_cases h : x = y
  · rw [h, decide_eq_true rfl, decide_eq_true rfl]
  · rw [decide_eq_false h, decide_eq_false fun k => h (V.str.inj k)]
theorem ok_has_round {f : Addr} {fd : FuncData} (F : Fun K "has_round" "has_round" s_has_round f fd) : FnOk P w K mg base CX0 1 f fd ["statement"] (spHasRound K) := by
  refine F.ok sc_has_round (fun vs H Q E h => ?_) (fun cdv A outer s₀ H vs Q E hr h => ?_)
  · obtain ⟨a, z, xs, rfl, _⟩ := h
    rfl
  · obtain ⟨a, z, xs, rfl, hs, kk⟩ := h
    refine ⟨_, (pss_one (ps_ret (pe_cmpR op_eq (pe_ix ix_tup (pv 0) pe_int (fun _ _ => rfl)) pe_str (nomark _)))), ?_⟩
    refine ⟨_, rfl, a, _, _, _, rfl, rfl, hs, atI_nat (j := 0) rfl, rfl, ?_⟩
    show Q (.bl (decide (V.str z = V.str "round"))) H
    rw [dec_str]
    exact kk
abbrev s_deeds_in : Stmt := topS 25
theorem sc_deeds_in : FnScope ["statement"] ["statement"] (defScope s_deeds_in) := ⟨rfl, rfl, rfl, by decide +kernel, rfl, by decide +kernel, by decide +kernel⟩
def spDeedsIn (K : PySem.W.Frag) : Sp := fun vs H Q _ => ∃ (a : Addr) (z : Str) (xs : List V), vs = [.ref a] ∧ SqT K H a (.str z :: xs) ∧ (z = "round" → ∃ x b, xs = [x, b] ∧ Q b H) ∧ (z ≠ "round" → ∀ t, H t = none → Q (.ref t) (upd H t (.tup [])))
theorem ok_deeds_in {f : Addr} {fd : FuncData} (F : Fun K "deeds_in" "deeds_in" s_deeds_in f fd) (D_has_round : Has P w K mg base "has_round" 1 ["statement"] (spHasRound K)) : FnOk P w K mg base CX0 2 f fd ["statement"] (spDeedsIn K) := by
  refine F.ok sc_deeds_in (fun vs H Q E h => ?_) (fun cdv A outer s₀ H vs Q E hr h => ?_)
  · obtain ⟨a, z, xs, rfl, _⟩ := h
    rfl
  · obtain ⟨a, z, xs, rfl, hs, k1, k2⟩ := h
    refine ⟨_, (pss_cons (ps_if (pt_val (D_has_round.call (hr.mono (by decide)) (by rfl) (pa_cons (pv 0) pa_nil)))
  (pss_one (ps_ret (pe_ix ix_tup (pv 0) pe_int (fun _ _ => rfl))))
  pss_nil)
 (pss_one (ps_ret (pe_tup pa_nil)))), ?_⟩
    refine ⟨_, rfl, a, z, xs, rfl, hs, _, rfl, ?_⟩
    by_cases e : z = "round"
    · obtain ⟨x, b, rfl, q⟩ := k1 e
      exact yesI (decide_eq_true e) ⟨_, rfl, a, _, _, _, rfl, rfl, hs, atI_nat (j := 2) rfl, q⟩
    · refine noI (decide_eq_false e) ⟨(by show 0 ≤ sizeLine; decide), fun t nt => k2 e t nt⟩
end
end Y

namespace Y
open PySem PySem.Spec PyProof.Rows L2
def Th.third : Th → List Th
  | .tup [_, _, .tup r] => r
  | _ => []
def stT (t : Th) : Bool := t.deed || (t.frame && t.third.all Th.deed)
def sizeT (ts : List Th) : Nat := ts.length + (ts.map fun t => t.third.length).sum
def wrongAt (k : Nat) (t : Th) : Option PyData :=
  if t.deed = true then none else if t.frame = true then (match firstNo Th.deed t.third with | some j => some (.tuple [.int (k : Nat), .int (j : Nat)]) | none => none) else some (.tuple [.int (k : Nat)])
def wrongFrom (k : Nat) : List Th → Option PyData
  | [] => none
  | t :: r => match wrongAt k t with | some d => some d | none => wrongFrom (k + 1) r
def wrongD : Th → PyData
  | .tup ts => (wrongFrom 0 ts).getD (if sizeT ts > 5000 then .str "size" else .none)
  | _ => .str "block"
theorem wrong_at : ∀ {ts : List Th} {k i : Nat} {t : Th} {d : PyData}, ts[i]? = some t → wrongAt (k + i) t = some d → (∀ j s, j < i → ts[j]? = some s → wrongAt (k + j) s = none) → wrongFrom k ts = some d
  | [], _, _, _, _, h, _, _ => by simp at h
  | t :: r, k, 0, s, d, h, hw, _ => by
    have e := Option.some.inj h
    subst e
    unfold wrongFrom
    rw [show wrongAt k t = some d from hw]
  | t :: r, k, i + 1, s, d, h, hw, hb => by
    unfold wrongFrom
    rw [show wrongAt k t = none from hb 0 t (Nat.succ_pos i) rfl]
    refine wrong_at (ts := r) (k := k + 1) (i := i) h (by rw [show k + 1 + i = k + (i + 1) by omega]; exact hw) fun j u hj hu => ?_
    rw [show k + 1 + j = k + (j + 1) by omega]
    exact hb (j + 1) u (Nat.succ_lt_succ hj) hu
theorem wrong_none : ∀ {ts : List Th} {k : Nat}, (∀ (j : Nat) (s : Th), ts[j]? = some s → wrongAt (k + j) s = none) → wrongFrom k ts = none
  | [], _, _ => rfl
  | t :: r, k, h => by
    unfold wrongFrom
    rw [show wrongAt k t = none from h 0 t rfl]
    refine wrong_none (ts := r) (k := k + 1) fun j s hj => ?_
    rw [show k + 1 + j = k + (j + 1) by omega]
    exact h (j + 1) s hj
theorem wrongAt_st {k : Nat} {t : Th} (h : wrongAt k t = none) : stT t = true := by
  unfold wrongAt at h
  unfold stT
  cases e : t.deed with
  | true => rfl
  | false =>
    rw [if_neg (by rw [e]; decide)] at h
    cases f : t.frame with
    | false => rw [if_neg (by rw [f]; decide)] at h; cases h
    | true =>
      rw [if_pos f] at h
      cases q : firstNo Th.deed t.third with
      | some j => rw [q] at h; cases h
      | none => rw [firstNo_iff.mp q]; rfl
theorem st_wrongAt {k : Nat} {t : Th} (h : stT t = true) : wrongAt k t = none := by
  unfold wrongAt
  unfold stT at h
  cases e : t.deed with
  | true => rw [if_pos rfl]
  | false =>
    rw [e, Bool.false_or, Bool.and_eq_true] at h
    rw [if_neg (by decide), if_pos h.1, firstNo_iff.mpr h.2]
/-- a statement's first item is a word, and a round's last one a tuple -/
theorem st_shape {K : PySem.W.Frag} {H : Hp} {v : V} {t : Th} (h : Is K H v t) (s : stT t = true) : ∃ (a : Addr) (z : Str) (xs : List V), v = .ref a ∧ SqT K H a (.str z :: xs) ∧ (z ≠ "round" → t.third = []) ∧
    (z = "round" → ∃ x b ys, xs = [x, .ref b] ∧ SqT K H b ys ∧ IsAll K H ys t.third) := by
  unfold stT at s
  cases h with
  | @tup a xs ts hs ha =>
    cases e : Th.deed (.tup ts) with
    | true =>
      have e : deedL ts = true := e
      match ts, xs, ha, e, hs with
      | .str z :: tr, _ :: xr, .cons (.str _ _) hr, e, hs =>
        have e : (decide (wordLen z = some (tr.length + 1)) && tr.all Th.name) = true := e
        rw [Bool.and_eq_true] at e
        have ez : z ≠ "round" := fun k => by
          have q := of_decide_eq_true e.1
          rw [k, show wordLen "round" = none by decide +kernel] at q
          cases q
        refine ⟨a, z, xr, rfl, hs, fun _ => ?_, fun k => (ez k).elim⟩
        match tr, e.2 with
        | [], _ => rfl
        | [_], _ => rfl
        | [_, .tup r], e2 => simp [Th.name] at e2
        | [_, .str _], _ => rfl
        | [_, .non], _ => rfl
        | [_, .bl _], _ => rfl
        | [_, .int _], _ => rfl
        | [_, .opq _], _ => rfl
        | _ :: c :: _ :: _, _ => cases c <;> rfl
    | false =>
      rw [e, Bool.false_or, Bool.and_eq_true] at s
      have f : frameL ts = true := s.1
      unfold frameL at f
      split at f
      · rename_i z x r
        rw [Bool.and_eq_true] at f
        cases ha with
        | cons h0 h12 =>
          cases h0 with
          | str _ _ =>
            cases h12 with
            | cons h1 h2 =>
              cases h2 with
              | cons h2 hn =>
                cases hn
                cases h2 with
                | tup hb hy => exact ⟨a, z, _, rfl, hs, fun k => (k (of_decide_eq_true f.1)).elim, fun _ => ⟨_, _, _, rfl, hb, hy⟩⟩
      · cases f
  | non => cases s
  | bl b => cases s
  | int i => cases s
  | str _ _ => cases s
  | opq _ _ => cases s
section
variable {P : Program} {w : World} {K : PySem.W.Frag} {mg : Str → Option Value} {base : Heap}
abbrev s_size : Stmt := topS 22
theorem sc_size : FnScope ["block", "statement"] ["block"] (defScope s_size) := ⟨rfl, rfl, rfl, by decide +kernel, rfl, by decide +kernel, by decide +kernel⟩
def spSize (K : PySem.W.Frag) : Sp := fun vs H Q _ => ∃ (a : Addr) (xs : List V) (ts : List Th), vs = [.ref a] ∧ SqT K H a xs ∧ IsAll K H xs ts ∧ (∀ t ∈ ts, stT t = true) ∧ ts.length ≤ 100000 ∧ ∀ H', Same H H' → Q (.int (sizeT ts : Nat)) H'
theorem ok_size {f : Addr} {fd : FuncData} (F : Fun K "_size" "_size" s_size f fd) (T : Bi mg) (D_deeds_in : Has P w K mg base "deeds_in" 2 ["statement"] (spDeedsIn K)) : FnOk P w K mg base CX0 3 f fd ["block"] (spSize K) := by
  refine F.ok sc_size (fun vs H Q E h => ?_) (fun cdv A outer s₀ H vs Q E hr h => ?_)
  · obtain ⟨a, xs, ts, rfl, _⟩ := h
    rfl
  · obtain ⟨a, xs, ts, rfl, hs, ha, st, l1, kk⟩ := h
    refine ⟨_, (pss_one (ps_ret (pe_op op_add (pe_callB call_len_seq (by rfl) T.len PySem.boot_len (pa_cons (pv 0) pa_nil)) (pe_callB (id := "sum") (r := rSum K) (cr_sum (by rfl)) (by rfl) T.sum (by decide +kernel) (pa_cons (pe_lc (own := [("statement", 1)]) (g := gName 1) (tt := tYes) (by rfl) sc_size.nd (pi_tup (pv 0)) (blkOk_by (N := ["block", "statement"]) (sc := defScope s_size) (by decide +kernel)) (fun _ _ _ _ _ => pg_name (i := 1) sc_size.nd rfl (.inl rfl)) (fun _ _ _ _ _ => pts_nil) (fun _ _ _ _ _ => (pe_callB (r := fun xs H Q => ∃ p ys, xs = [.ref p] ∧ (SqL K H p ys ∨ SqT K H p ys) ∧ Q (.int ys.length) H) call_len_seq (by rfl) T.len PySem.boot_len (pa_cons (D_deeds_in.call (hr.mono (by decide)) (by rfl) (pa_cons (pv 1) pa_nil)) pa_nil)))) pa_nil))))), ?_⟩
    have lx := ha.len
    refine ⟨_, rfl, a, _, rfl, .inr hs, ?_⟩
    refine ⟨_, rfl, a, rfl, ⟨_, hs⟩, fun D nD => lc_tup (K := K) (a := a) (xs := xs) (fun i H1 => Same H H1 ∧ H1 D = some (.lst (((ts.take i).map fun t => ((t.third.length : Nat) : Int)).map V.int))) ⟨same_upd nD, upd_same⟩ (fun i H1 _ q => q.1.tup hs) (fun i v H1 hv q => ?_) fun H1 q => ?_⟩
    · obtain ⟨t, ht, hi⟩ := ha.get hv
      obtain ⟨q1, q2⟩ := q
      have li : i < xs.length := (List.getElem?_eq_some_iff.mp hv).1
      obtain ⟨b, z, ys, rfl, hb, k1, k2⟩ := st_shape (hi.same q1) (st t (at_mem ht))
      have fin : ∀ (H2 : Hp) (n : Nat), Same H1 H2 → n = t.third.length → ∃ acc, H2 D = some (.lst acc) ∧ acc.length < sizeLine ∧ Same H (upd H2 D (.lst (acc ++ [V.int (n : Nat)]))) ∧ (upd H2 D (.lst (acc ++ [V.int (n : Nat)]))) D = some (.lst (((ts.take (i + 1)).map fun t => ((t.third.length : Nat) : Int)).map V.int)) := fun H2 n s2 en => by
        refine ⟨_, s2 _ _ q2, ?_, (q1.trans s2).put nD, ?_⟩
        · rw [List.length_map, List.length_map, List.length_take]
          exact big1 (by omega)
        · rw [upd_same, take_next ht, List.map_append, List.map_append, en]
          rfl
      refine ⟨rfl, _, rfl, b, z, ys, rfl, hb, fun e => ?_, fun e u nu => ?_⟩
      · obtain ⟨x, b2, zs, rfl, hb2, hz⟩ := k2 e
        exact ⟨x, .ref b2, rfl, b2, _, rfl, .inr hb2, fin H1 _ (Same.refl H1) hz.len⟩
      · exact ⟨u, _, rfl, .inr (SqT.of upd_same), fin _ 0 (same_upd nu) (by rw [k1 e]; rfl)⟩
    · obtain ⟨q1, q2⟩ := q
      rw [lx, List.take_length] at q2
      refine ⟨D, _, rfl, SqL.of q2, _, _, rfl, rfl, ?_⟩
      have q := kk H1 q1
      have e : ((sizeT ts : Nat) : Int) = (xs.length : Nat) + (ts.map fun t => ((t.third.length : Nat) : Int)).sum := by
        unfold sizeT
        rw [lx]
        have go : ∀ (l : List Th), (((l.map fun t => t.third.length).sum : Nat) : Int) = (l.map fun t => ((t.third.length : Nat) : Int)).sum := by
          intro l
          induction l with
          | nil => rfl
          | cons t r ih => rw [List.map_cons, List.map_cons, List.sum_cons, List.sum_cons, ← ih]; omega
        rw [← go]
        omega
      rw [e] at q
      exact q
abbrev s_wrong_part : Stmt := topS 21
theorem sc_wrong_part : FnScope ["block", "k", "statement", "j"] ["block"] (defScope s_wrong_part) := ⟨rfl, rfl, rfl, by decide +kernel, rfl, by decide +kernel, by decide +kernel⟩
def spWrong (K : PySem.W.Frag) : Sp := fun vs H Q _ => ∃ (v : V) (t : Th), vs = [v] ∧ Is K H v t ∧ (∀ ts, t = .tup ts → ts.length ≤ 100000 ∧ ∀ s ∈ ts, (∀ rs, s = .tup rs → rs.length ≤ 100000) ∧ ∀ u ∈ s.third, ∀ rs, u = .tup rs → rs.length ≤ 100000) ∧
  ∀ (r : V) H', Same H H' → Tp K H' r (wrongD t) → Q r H'
theorem ok_wrong {f : Addr} {fd : FuncData} (F : Fun K "_wrong_part" "_wrong_part" s_wrong_part f fd) (T : Bi mg) {tMS : Tok} (c_MOST_STATEMENTS : mg "MOST_STATEMENTS" = some (.int 5000 tMS)) (D_is_deed : Has P w K mg base "is_deed" 2 ["thing"] (spDeedT K)) (D_is_round_frame : Has P w K mg base "is_round_frame" 2 ["thing"] (spFrameT K))
    (D_first_wrong_deed : Has P w K mg base "first_wrong_deed" 3 ["things"] (spFirstT K)) (D_size : Has P w K mg base "_size" 3 ["block"] (spSize K)) : FnOk P w K mg base CX0 4 f fd ["block"] (spWrong K) := by
  refine F.ok sc_wrong_part (fun vs H Q E h => ?_) (fun cdv A outer s₀ H vs Q E hr h => ?_)
  · obtain ⟨v, t, rfl, _⟩ := h
    rfl
  · obtain ⟨v, t, rfl, hv, hl, kk⟩ := h
    refine ⟨_, (pss_cons (ps_if (pt_not (pt_val (pe_callB (id := "isinstance") (r := rIsi K) call_isi (by rfl) T.isinstance (by decide +kernel) (pa_cons (pv 0) (pa_cons (pe_bltn (v := .ty "tuple") (by rfl) T.tuple_ (by decide +kernel) rfl) pa_nil)))))
  (pss_one (ps_ret pe_str))
  pss_nil)
 (pss_cons (ps_for PassesOwn.never rfl (pi_enumT (by rfl) T.enumerate (pa_cons (pv 0) pa_nil)) (pg_tup (by rfl) (pgs_cons (pg_name (i := 1) sc_wrong_part.nd rfl (.inl rfl)) (pgs_cons (pg_name (i := 2) sc_wrong_part.nd rfl (.inl rfl)) pgs_nil)))
  (pss_cons (ps_if (pt_val (D_is_deed.call (hr.mono (by decide)) (by rfl) (pa_cons (pv 2) pa_nil)))
  (pss_one ps_continue)
  pss_nil)
 (pss_cons (ps_if (pt_not (pt_val (D_is_round_frame.call (hr.mono (by decide)) (by rfl) (pa_cons (pv 2) pa_nil))))
  (pss_one (ps_ret (pe_tup (pa_cons (pv 1) pa_nil))))
  pss_nil)
 (pss_cons (ps_set (i := 3) sc_wrong_part.nd rfl (.inl rfl) (D_first_wrong_deed.call (hr.mono (by decide)) (by rfl) (pa_cons (pe_ix ix_tup (pv 2) pe_int (fun _ _ => rfl)) pa_nil)))
 (pss_one (ps_if (pt_cmp (pc_notN (pv 3)))
  (pss_one (ps_ret (pe_tup (pa_cons (pv 1) (pa_cons (pv 3) pa_nil)))))
  pss_nil))))))
 (pss_cons (ps_if (pt_cmpR op_gt (D_size.call (hr.mono (by decide)) (by rfl) (pa_cons (pv 0) pa_nil)) (pe_glob (v := .int 5000) (by rfl) c_MOST_STATEMENTS ⟨_, rfl⟩) (nomark _))
  (pss_one (ps_ret pe_str))
  pss_nil)
 (pss_one (ps_ret pe_non))))), ?_⟩
    obtain ⟨T1, ty, kt⟩ := hv.tuple
    cases hv with
    | @tup a xs ts hs ha =>
      have lx := ha.len
      obtain ⟨l1, l2⟩ := hl ts rfl
      refine ⟨_, rfl, _, _, _, _, true, rfl, .ty "tuple", ty, kt, true, rfl, ?_⟩
      refine ⟨_, rfl, a, xs, rfl, hs, for_it walk_enumT (fun i σ H1 => ∃ y1 y2 y3, σ = [some (.ref a), y1, y2, y3] ∧ Same H H1 ∧ ∀ j t, j < i → ts[j]? = some t → wrongAt (0 + j) t = none) ⟨none, none, none, rfl, Same.refl H, fun j _ h => absurd h (Nat.not_lt_zero j)⟩ (fun i σ H1 _ q => by obtain ⟨_, _, _, _, s, _⟩ := q; exact s.tup hs) (fun i v σ H1 H1' hi q y => ?_) fun σ H1 q => ?_⟩
      · obtain ⟨y1, y2, y3, rfl, s1, ok⟩ := q
        obtain ⟨t, n, x, rfl, nt, rfl, en, ex⟩ := y
        cases en
        obtain ⟨th, hth, hi2⟩ := ha.get ex
        have s2 : Same H (upd H1 t (.tup [V.int (i : Nat), x])) := s1.trans (same_upd nt)
        have next : wrongAt (0 + i) th = none → ∀ j t, j < i + 1 → ts[j]? = some t → wrongAt (0 + j) t = none := fun e j u hj hu => by
          rcases Nat.lt_succ_iff_lt_or_eq.mp hj with h | h
          · exact ok j u h hu
          · subst h
            rw [hth] at hu
            cases hu
            exact e
        obtain ⟨m1, m2⟩ := l2 th (at_mem hth)
        refine ⟨t, _, rfl, SqT.of upd_same, rfl, _, _, rfl, _, _, rfl, rfl, ?_⟩
        refine ⟨_, rfl, x, th, rfl, hi2.same s2, m1, fun H2 s3 => ⟨th.deed, rfl, ?_⟩⟩
        have s4 := s2.trans s3
        cases e : th.deed with
        | true => exact yesI rfl ⟨_, _, _, rfl, s4, next (by unfold wrongAt; rw [if_pos e])⟩
        | false =>
          refine noI rfl ⟨_, rfl, x, th, rfl, hi2.same s4, fun H3 s5 => ⟨th.frame, rfl, ?_⟩⟩
          have s6 := s4.trans s5
          cases e2 : th.frame with
          | false =>
            refine yesI rfl ⟨_, rfl, (by show 1 ≤ sizeLine; decide), fun u nu => ?_⟩
            have s7 := s6.trans (same_upd (o := .tup [V.int (i : Nat)]) nu)
            refine kk _ _ s7 ?_
            have ew : wrongAt (0 + i) th = some (.tuple [.int (i : Nat)]) := by
              unfold wrongAt
              rw [if_neg (by rw [e]; decide), if_neg (by rw [e2]; decide), Nat.zero_add]
            show Tp K _ _ ((wrongFrom 0 ts).getD _)
            rw [wrong_at hth ew ok]
            exact .tup (SqT.of upd_same) (.cons (.int _) .nil)
          | true =>
            refine noI rfl ?_
            have hi3 := hi2.same s6
            obtain ⟨b, z, b2, ys, rfl, hb, hb2, hy⟩ : ∃ (b : Addr) (z : Str) (b2 : Addr) (ys : List V), x = .ref b ∧ (∃ x1, SqT K H3 b [.str z, x1, .ref b2]) ∧ SqT K H3 b2 ys ∧ IsAll K H3 ys th.third := by
              cases hi3 with
              | @tup b zs rs hb hr =>
                have f : frameL rs = true := e2
                unfold frameL at f
                split at f
                · cases hr with
                  | cons h0 h12 =>
                    cases h0 with
                    | str _ _ =>
                      cases h12 with
                      | cons h1 h2 =>
                        cases h2 with
                        | cons h2 hn =>
                          cases hn
                          cases h2 with
                          | tup hb3 hy3 => exact ⟨b, _, _, _, rfl, ⟨_, hb⟩, hb3, hy3⟩
                · cases f
              | non => cases e2
              | bl b => cases e2
              | int i => cases e2
              | str _ _ => cases e2
              | opq _ _ => cases e2
            obtain ⟨x1, hb⟩ := hb
            refine ⟨_, rfl, b, _, _, _, rfl, rfl, hb, atI_nat (j := 2) rfl, b2, ys, th.third, rfl, hb2, hy, m2, fun H4 s7 => ?_⟩
            have s8 := s6.trans s7
            cases e3 : firstNo Th.deed th.third with
            | none => exact ⟨_, rfl, _, rfl, _, _, _, rfl, s8, next (by unfold wrongAt; rw [if_neg (by rw [e]; decide), if_pos e2, e3])⟩
            | some j =>
              refine ⟨_, rfl, _, rfl, _, rfl, _, rfl, (by show 2 ≤ sizeLine; decide), fun u nu => ?_⟩
              have s9 := s8.trans (same_upd (o := .tup [V.int (i : Nat), V.int (j : Nat)]) nu)
              refine kk _ _ s9 ?_
              have ew : wrongAt (0 + i) th = some (.tuple [.int (i : Nat), .int (j : Nat)]) := by
                unfold wrongAt
                rw [if_neg (by rw [e]; decide), if_pos e2, e3, Nat.zero_add]
              show Tp K _ _ ((wrongFrom 0 ts).getD _)
              rw [wrong_at hth ew ok]
              exact .tup (SqT.of upd_same) (.cons (.int _) (.cons (.int _) .nil))
      · obtain ⟨y1, y2, y3, rfl, s1, ok⟩ := q
        have okA : ∀ (j : Nat) (s : Th), ts[j]? = some s → wrongAt (0 + j) s = none := fun j s hj => ok j s (by rw [lx]; exact (List.getElem?_eq_some_iff.mp hj).1) hj
        refine ⟨_, rfl, a, xs, ts, rfl, s1.tup hs, ha.same s1, fun t m => ?_, l1, fun H2 s2 => ⟨_, _, rfl, rfl, _, rfl, ?_⟩⟩
        · obtain ⟨j, hj⟩ := List.mem_iff_getElem?.mp m
          exact wrongAt_st (okA j t hj)
        have s3 := s1.trans s2
        have ew : wrongD (.tup ts) = if sizeT ts > 5000 then .str "size" else .none := by
          show (wrongFrom 0 ts).getD _ = _
          rw [wrong_none okA]
          rfl
        by_cases h5 : sizeT ts > 5000
        · refine yesI (decide_eq_true (show (5000 : Int) < ((sizeT ts : Nat) : Int) by omega)) ?_
          refine kk _ _ s3 ?_
          rw [ew, if_pos h5]
          exact .str _
        · refine noI (decide_eq_false (show ¬ (5000 : Int) < ((sizeT ts : Nat) : Int) by omega)) ?_
          refine kk _ _ s3 ?_
          rw [ew, if_neg h5]
          exact .non
    | non => exact ⟨_, rfl, _, _, _, _, false, rfl, .ty "tuple", ty, kt, false, rfl, kk _ H (Same.refl H) (.str _)⟩
    | bl b => exact ⟨_, rfl, _, _, _, _, false, rfl, .ty "tuple", ty, kt, false, rfl, kk _ H (Same.refl H) (.str _)⟩
    | int i => exact ⟨_, rfl, _, _, _, _, false, rfl, .ty "tuple", ty, kt, false, rfl, kk _ H (Same.refl H) (.str _)⟩
    | str _ _ => exact ⟨_, rfl, _, _, _, _, false, rfl, .ty "tuple", ty, kt, false, rfl, kk _ H (Same.refl H) (.str _)⟩
    | opq _ _ => exact ⟨_, rfl, _, _, _, _, false, rfl, .ty "tuple", ty, kt, false, rfl, kk _ H (Same.refl H) (.str _)⟩
end
end Y

namespace Y
open PySem PySem.Spec PyProof.Rows L2
/-! ### programs -/
theorem n_gt : ¬ (("given" : Str) = "told") := by decide +kernel
theorem n_gb : ¬ (("given" : Str) = "block") := by decide +kernel
theorem n_tb : ¬ (("told" : Str) = "block") := by decide +kernel
def flds (g t b : V) : List (Str × V) := [("given", g), ("told", t), ("block", b)]
theorem flds_eq (g t b : V) : putF "block" b (putF "told" t (putF "given" g [])) = flds g t b := by
  show putF "block" b (putF "told" t [(("given" : Str), g)]) = _
  show putF "block" b (if ("given" : Str) = "told" then [(("given" : Str), t)] else (("given" : Str), g) :: putF "told" t []) = _
  rw [if_neg n_gt]
  show (if ("given" : Str) = "block" then _ else (("given" : Str), g) :: putF "block" b (putF "told" t [])) = _
  rw [if_neg n_gb]
  show (("given" : Str), g) :: putF "block" b [(("told" : Str), t)] = _
  show (("given" : Str), g) :: (if ("told" : Str) = "block" then _ else (("told" : Str), t) :: putF "block" b []) = _
  rw [if_neg n_tb]
  rfl
theorem flds_g (g t b : V) : (flds g t b).lookup ("given" : Str) = some g := by
  rw [← flds_eq, lookup_putF, if_neg n_gb, lookup_putF, if_neg n_gt, lookup_putF, if_pos rfl]
theorem flds_t (g t b : V) : (flds g t b).lookup ("told" : Str) = some t := by
  rw [← flds_eq, lookup_putF, if_neg n_tb, lookup_putF, if_pos rfl]
theorem flds_b (g t b : V) : (flds g t b).lookup ("block" : Str) = some b := by
  rw [← flds_eq, lookup_putF, if_pos rfl]
/-- what the class Program is -/
structure Prg (K : PySem.W.Frag) (mg : Str → Option Value) (C : Addr) : Prop where
  cl : Cls K C
  nG : NoAttr K C "given"
  nT : NoAttr K C "told"
  nB : NoAttr K C "block"
  mgC : mg "Program" = some (.ref C)
/-- a program stands at o -/
def ProgAt (C : Addr) (H : Hp) (o : Addr) (g t b : V) : Prop := ∃ dx, H o = some (.ins C dx (flds g t b))
def thNames (ns : List Str) : Th := .tup (ns.map .str)
section
variable {P : Program} {w : World} {K : PySem.W.Frag} {mg : Str → Option Value} {base : Heap}
def Th.lenT : Th → Nat
  | .tup ts => ts.length
  | _ => 0
def Th.given (t : Th) : Bool := t.names && decide (t.lenT ≤ 2)
def Th.told (t : Th) : Bool := t.names && (decide (1 ≤ t.lenT) && decide (t.lenT ≤ 4))
abbrev s_is_given : Stmt := topS 19
theorem sc_is_given : FnScope ["thing"] ["thing"] (defScope s_is_given) := ⟨rfl, rfl, rfl, by decide +kernel, rfl, by decide +kernel, by decide +kernel⟩
def spGivenT (K : PySem.W.Frag) : Sp := fun vs H Q _ => ∃ (v : V) (t : Th), vs = [v] ∧ Is K H v t ∧ (∀ ts, t = .tup ts → ts.length ≤ 1000) ∧ ∀ H', Same H H' → Q (.bl t.given) H'
theorem ok_given {f : Addr} {fd : FuncData} (F : Fun K "is_given" "is_given" s_is_given f fd) (T : Bi mg) {t1 : Tok} (c_MOST_GIVEN : mg "MOST_GIVEN" = some (.int 2 t1)) (D_is_name_tuple : Has P w K mg base "is_name_tuple" 2 ["thing"] (spNamesT K)) : FnOk P w K mg base CX0 3 f fd ["thing"] (spGivenT K) := by
  refine F.ok sc_is_given (fun vs H Q E h => ?_) (fun cdv A outer s₀ H vs Q E hr h => ?_)
  · obtain ⟨v, t, rfl, _⟩ := h
    rfl
  · obtain ⟨v, t, rfl, hv, hl, kk⟩ := h
    refine ⟨_, (pss_one (ps_ret (pe_and (D_is_name_tuple.call (hr.mono (by decide)) (by rfl) (pa_cons (pv 0) pa_nil)) (pe_one (pe_cmpR op_le (pe_callB call_len_seq (by rfl) T.len PySem.boot_len (pa_cons (pv 0) pa_nil)) (pe_glob (v := .int 2) (by rfl) c_MOST_GIVEN ⟨_, rfl⟩) (nomark _)))))), ?_⟩
    refine ⟨_, rfl, v, t, rfl, hv, hl, fun H1 s1 => ⟨_, rfl, ?_⟩⟩
    have q := kk H1 s1
    unfold Th.given at q
    cases e : t.names with
    | false =>
      rw [e] at q
      exact noI rfl q
    | true =>
      rw [e, Bool.true_and] at q
      refine yesI rfl ?_
      cases t with
      | tup ts =>
        cases hv with
        | tup h1 h2 =>
          refine ⟨_, rfl, _, _, rfl, .inr (s1.tup h1), _, _, rfl, rfl, ?_⟩
          have e2 : decide (((_ : List V).length : Int) ≤ 2) = decide ((Th.tup ts).lenT ≤ 2) := decide_eq_decide.mpr (by rw [h2.len]; show ((ts.length : Nat) : Int) ≤ 2 ↔ ts.length ≤ 2; omega)
          rw [← e2] at q
          exact q
      | _ => exact nomatch e
abbrev s_is_told : Stmt := topS 20
theorem sc_is_told : FnScope ["thing"] ["thing"] (defScope s_is_told) := ⟨rfl, rfl, rfl, by decide +kernel, rfl, by decide +kernel, by decide +kernel⟩
def spToldT (K : PySem.W.Frag) : Sp := fun vs H Q _ => ∃ (v : V) (t : Th), vs = [v] ∧ Is K H v t ∧ (∀ ts, t = .tup ts → ts.length ≤ 1000) ∧ ∀ H', Same H H' → Q (.bl t.told) H'
theorem ok_told {f : Addr} {fd : FuncData} (F : Fun K "is_told" "is_told" s_is_told f fd) (T : Bi mg) {t2 : Tok} (c_MOST_TOLD : mg "MOST_TOLD" = some (.int 4 t2)) (D_is_name_tuple : Has P w K mg base "is_name_tuple" 2 ["thing"] (spNamesT K)) : FnOk P w K mg base CX0 3 f fd ["thing"] (spToldT K) := by
  refine F.ok sc_is_told (fun vs H Q E h => ?_) (fun cdv A outer s₀ H vs Q E hr h => ?_)
  · obtain ⟨v, t, rfl, _⟩ := h
    rfl
  · obtain ⟨v, t, rfl, hv, hl, kk⟩ := h
    refine ⟨_, (pss_one (ps_ret (pe_and (D_is_name_tuple.call (hr.mono (by decide)) (by rfl) (pa_cons (pv 0) pa_nil)) (pe_one (pe_chain op_le op_le pe_int (pe_callB call_len_seq (by rfl) T.len PySem.boot_len (pa_cons (pv 0) pa_nil)) (pe_glob (v := .int 4) (by rfl) c_MOST_TOLD ⟨_, rfl⟩)))))), ?_⟩
    refine ⟨_, rfl, v, t, rfl, hv, hl, fun H1 s1 => ⟨_, rfl, ?_⟩⟩
    have q := kk H1 s1
    unfold Th.told at q
    cases e : t.names with
    | false =>
      rw [e] at q
      exact noI rfl q
    | true =>
      rw [e, Bool.true_and] at q
      refine yesI rfl ?_
      cases t with
      | tup ts =>
        cases hv with
        | tup h1 h2 =>
          have e1 : decide ((1 : Int) ≤ ((_ : List V).length : Int)) = decide (1 ≤ (Th.tup ts).lenT) := decide_eq_decide.mpr (by rw [h2.len]; show (1 : Int) ≤ ((ts.length : Nat) : Int) ↔ 1 ≤ ts.length; omega)
          have e2 : decide (((_ : List V).length : Int) ≤ 4) = decide ((Th.tup ts).lenT ≤ 4) := decide_eq_decide.mpr (by rw [h2.len]; show ((ts.length : Nat) : Int) ≤ 4 ↔ ts.length ≤ 4; omega)
          refine ⟨_, rfl, _, _, rfl, .inr (s1.tup h1), _, _, rfl, rfl, _, rfl, ?_⟩
          rw [e1]
          cases g : decide (1 ≤ (Th.tup ts).lenT) with
          | false =>
            rw [g, Bool.false_and] at q
            exact noI rfl q
          | true =>
            rw [g, Bool.true_and] at q
            refine yesI rfl ⟨_, _, rfl, rfl, ?_⟩
            rw [← e2] at q
            exact q
      | _ => exact nomatch e
abbrev s_Program___init : Stmt := inClass (topS 18) 0
theorem sc_Program___init : FnScope ["self", "given", "told", "block", "wrong"] ["self", "given", "told", "block"] (defScope s_Program___init) := ⟨rfl, rfl, rfl, by decide +kernel, rfl, by decide +kernel, by decide +kernel⟩
def spInitR (K : PySem.W.Frag) (C : Addr) : Sp := fun vs H Q _ => ∃ (o dx : Addr) (vg vt vb : V) (g t b : List Th), vs = [.ref o, vg, vt, vb] ∧ H o = some (.ins C dx []) ∧ Is K H vg (.tup g) ∧ Is K H vt (.tup t) ∧ Is K H vb (.tup b) ∧
  namesL g = true ∧ g.length ≤ 2 ∧ namesL t = true ∧ 1 ≤ t.length ∧ t.length ≤ 4 ∧ wrongD (.tup b) = .none ∧ b.length ≤ 100000 ∧ (∀ s ∈ b, (∀ rs, s = .tup rs → rs.length ≤ 100000) ∧ ∀ u ∈ s.third, ∀ rs, u = .tup rs → rs.length ≤ 100000) ∧
  ∀ H' H2, Same H H2 → H' = upd H2 o (.ins C dx (flds vg vt vb)) → Q .non H'
theorem ok_initR {f C : Addr} {fd : FuncData} (F : Fun K "__init__" "Program.__init__" s_Program___init f fd) (G : Prg K mg C) (D_is_given : Has P w K mg base "is_given" 3 ["thing"] (spGivenT K)) (D_is_told : Has P w K mg base "is_told" 3 ["thing"] (spToldT K))
    (D_wrong_part : Has P w K mg base "_wrong_part" 4 ["block"] (spWrong K)) : FnOk P w K mg base CX0 5 f fd ["self", "given", "told", "block"] (spInitR K C) := by
  refine F.ok sc_Program___init (fun vs H Q E h => ?_) (fun cdv A outer s₀ H vs Q E hr h => ?_)
  · obtain ⟨o, dx, vg, vt, vb, g, t, b, rfl, _⟩ := h
    rfl
  · obtain ⟨o, dx, vg, vt, vb, g, t, b, rfl, ho, ig, it, ib, ng, g2, nt, t1, t4, wb, l1, l2, kk⟩ := h
    refine ⟨_, (pss_cons (ps_if (pt_not (pt_val (D_is_given.call (hr.mono (by decide)) (by rfl) (pa_cons (pv 1) pa_nil))))
  (pss_one ps_never)
  pss_nil)
 (pss_cons (ps_if (pt_not (pt_val (D_is_told.call (hr.mono (by decide)) (by rfl) (pa_cons (pv 2) pa_nil))))
  (pss_one ps_never)
  pss_nil)
 (pss_cons (ps_set (i := 4) sc_Program___init.nd rfl (.inl rfl) (D_wrong_part.call (hr.mono (by decide)) (by rfl) (pa_cons (pv 3) pa_nil)))
 (pss_cons (ps_if (pt_cmp (pc_notN (pv 4)))
  (pss_one ps_never)
  pss_nil)
 (pss_cons (ps_fld (pv 0) (pv 1) rfl)
 (pss_cons (ps_fld (pv 0) (pv 2) rfl)
 (pss_one (ps_fld (pv 0) (pv 3) rfl)))))))), ?_⟩
    have eg : (Th.tup g).given = true := by
      show (namesL g && decide (g.length ≤ 2)) = true
      rw [ng, decide_eq_true g2]; rfl
    have et : (Th.tup t).told = true := by
      show (namesL t && (decide (1 ≤ t.length) && decide (t.length ≤ 4))) = true
      rw [nt, decide_eq_true t1, decide_eq_true t4]; rfl
    refine ⟨_, rfl, vg, .tup g, rfl, ig, fun ts e => by cases e; omega, fun H1 s1 => ⟨_, rfl, ?_⟩⟩
    refine noI (by rw [eg]; rfl) ?_
    refine ⟨_, rfl, vt, .tup t, rfl, it.same s1, fun ts e => by cases e; omega, fun H2 s2 => ⟨_, rfl, ?_⟩⟩
    refine noI (by rw [et]; rfl) ?_
    have s12 := s1.trans s2
    refine ⟨_, rfl, vb, .tup b, rfl, ib.same s12, fun ts e => by cases e; exact ⟨l1, l2⟩, fun r H3 s3 tr => ?_⟩
    rw [wb] at tr
    cases tr
    have s13 := s12.trans s3
    have ho3 := s13 _ _ ho
    refine ⟨_, rfl, _, rfl, ?_⟩
    refine ⟨_, rfl, _, rfl, o, C, dx, _, rfl, ho3, G.cl, G.nG, (by show 0 < 1000; decide), ?_⟩
    refine ⟨_, rfl, _, rfl, o, C, dx, _, rfl, upd_same, G.cl, G.nT, (by show 1 < 1000; decide), ?_⟩
    refine ⟨_, rfl, _, rfl, o, C, dx, _, rfl, upd_same, G.cl, G.nB, (by show 2 < 1000; decide), ?_⟩
    refine kk _ H3 s13 ?_
    rw [flds_eq]
    funext c
    by_cases e : c = o
    · subst e
      rw [upd_same, upd_same]
    · rw [upd_ne e, upd_ne e, upd_ne e, upd_ne e]
end
end Y

/-! sets of keys (ints, texts) whose table rises, so that they can be walked: made of a list or tuple, sorted -/
namespace Y
open PySem PySem.Spec PyProof.Rows L2
def keyK (e : Int × Value) : Key := match e.2 with
  | .int k _ => .inl k
  | .str x _ => .inr x
  | _ => .inl 0
theorem keyK_of {k : Key} {e : Int × Value} (h : keyIs k e.2 = true) : keyK e = k := by
  obtain ⟨i, v⟩ := e
  rcases keyIs_shape h with ⟨_, _, rfl, rfl⟩ | ⟨_, _, rfl, rfl⟩ <;> rfl
theorem scan_of {k : Key} {v : Value} (h : keyIs k v = true) : v.scannable = true := by
  rcases keyIs_shape h with ⟨_, _, _, rfl⟩ | ⟨_, _, _, rfl⟩ <;> rfl
def GoodK (P : Program) (w : World) (e : Int × Value) : Prop := ∃ k, keyIs k e.2 = true ∧ e.1 = (mixKind P w).hash k
def SetM (P : Program) (w : World) (h : Heap) (a : Addr) (S : Key → Bool) (n : Nat) : Prop :=
  ∃ o es ep t, h.get? a = some o ∧ o.ExactSet ∧ o.data = .set es ep t ∧ (∀ e ∈ es.toList, GoodK P w e) ∧ (es.toList.map keyK).Nodup ∧ (∀ k, S k = true ↔ k ∈ es.toList.map keyK) ∧
    es.size < scanBound ∧ t.fits es.size = true ∧ es.size = n ∧ Ris t.place.toList ∧ (w.params.followText "set-order" = true ∨ t.led = true)
section
variable {P : Program} {w : World} {h h' : Heap} {a : Addr} {S : Key → Bool} {n : Nat}
theorem SetM.at_ (R : SetM P w h a S n) (k : ∀ o, h.get? a = some o → h'.get? a = some o) : SetM P w h' a S n := by
  obtain ⟨o, es, ep, t, ho, r⟩ := R
  exact ⟨o, es, ep, t, k o ho, r⟩
theorem goodK_elems {l : List (Int × Value)} (g : ∀ e ∈ l, GoodK P w e) : ElemsOf (mixKind P w) l := fun e he => by
  obtain ⟨k, h1, h2⟩ := g e he
  exact ⟨⟨k, h1, h2⟩, scan_of h1⟩
theorem goodK_is {e : Int × Value} (g : GoodK P w e) (k : Key) : (mixKind P w).is k e.2 = true ↔ keyK e = k := by
  obtain ⟨j, h1, _⟩ := g
  have e1 := keyK_of h1
  rw [e1]
  exact ⟨fun z => (mixKind P w).inj e.2 j k h1 z, fun z => z ▸ h1⟩
theorem goodK_mem {l : List (Int × Value)} (g : ∀ e ∈ l, GoodK P w e) (k : Key) : k ∈ l.map keyK ↔ ∃ e ∈ l, (mixKind P w).is k e.2 = true := by
  rw [List.mem_map]
  exact ⟨fun ⟨e, he, q⟩ => ⟨e, he, (goodK_is (g e he) k).mpr q⟩, fun ⟨e, he, q⟩ => ⟨e, he, (goodK_is (g e he) k).mp q⟩⟩
theorem SetM.setOf (R : SetM P w h a S n) : h.SetOf (mixKind P w) a S n := by
  obtain ⟨o, es, ep, t, ho, hex, hd, g, _, hm, hb, hf, hn, _⟩ := R
  exact ⟨o, es, ep, t, ho, hex, hd, goodK_elems g, fun k => (hm k).trans (goodK_mem g k), hb, hf, hn⟩
end
section
variable {P : Program} {w : World} {A : Around} {E : Value → Shared → Prop} {s : Shared} {a : Addr} {S : Key → Bool} {n : Nat}
theorem setM_add_tail {g : Bool → Sem Unit} (hg : ∀ (b : Bool) (s₁ : Shared) (Q' : Unit → Shared → Prop), Q' () s₁ → wpAny (model P w) A (g b) Q' E s₁)
    {o : Obj} {es : Array (Int × Value)} {ep : Nat} {t : SetTable} (ho : s.heap.get? a = some o) (hex : o.ExactSet) (hd : o.data = .set es ep t)
    {es1 : Array (Int × Value)} {t2 : SetTable} {S' : Key → Bool} (g1 : ∀ e ∈ es1.toList, GoodK P w e) (nd1 : (es1.toList.map keyK).Nodup) (m1 : ∀ k, S' k = true ↔ k ∈ es1.toList.map keyK)
    (hb1 : es1.size < scanBound) (hf2 : t2.fits es1.size = true) (hr : Ris t2.place.toList) (hl : w.params.followText "set-order" = true ∨ t2.led = true) {wasDummy : Bool} {R : Option Bool → Shared → Prop}
    (hR : ∀ h', Heap.SameBut a s.heap h' → SetM P w h' a S' es1.size → R (some true) { s with heap := h' }) :
    wpAny (model P w) A (do
        storeSet a es1 t2
        if (!wasDummy && t2.tooFull) = true then do
            g (relayAll t2 es1 (SetTable.grown es1.size)).2.2
            storeSet a (relayAll t2 es1 (SetTable.grown es1.size)).1 (relayAll t2 es1 (SetTable.grown es1.size)).2.1
            pure (some true)
          else pure (some true)) R E s := by
  refine wpAny_bind (wpAny_storeSet_of ho hd ?_ (fits_of_scanBound hb1))
  have ho1 := store_at (es' := es1) (t' := t2) ho hd
  have sb1 := Heap.SameBut.update s.heap a (Obj.putSet es1 t2)
  split
  · have pm := relayAll_perm t2 es1 (SetTable.grown es1.size)
    have hf3 := relayAll_fits t2 es1 (SetTable.grown es1.size)
    have hr3 := relayAll_ris t2 es1 (SetTable.grown es1.size)
    have hl3 := relayAll_led t2 es1 (SetTable.grown es1.size)
    generalize relayAll t2 es1 (SetTable.grown es1.size) = Z at pm hf3 hr3 hl3 ⊢
    obtain ⟨es2, t3, gave⟩ := Z
    dsimp only at pm hf3 hr3 hl3 ⊢
    have hsz : es2.size = es1.size := by rw [← Array.length_toList, pm.length_eq, Array.length_toList]
    have hb2 : es2.size < scanBound := by rw [hsz]; exact hb1
    refine wpAny_bind (hg _ _ _ ?_)
    refine wpAny_bind (wpAny_storeSet_of ho1 rfl ?_ (fits_of_scanBound hb2))
    have ho2 := store_at (es' := es2) (t' := t3) ho1 rfl
    refine wpAny_pure (hR _ (sb1.trans (Heap.SameBut.update _ a _)) ?_)
    exact ⟨_, es2, _, t3, ho2, hex, rfl, fun e he => g1 e (pm.mem_iff.mp he), (pm.map keyK).nodup_iff.mpr nd1, fun k => (m1 k).trans (pm.map keyK).mem_iff.symm, hb2, hf3, hsz, hr3,
      hl.imp id fun z => by rw [hl3]; exact z⟩
  · exact wpAny_pure (hR _ sb1 ⟨_, es1, _, t2, ho1, hex, rfl, g1, nd1, m1, hb1, hf2, rfl, hr, hl⟩)
theorem setM_add_hashed {k : Key} {v : Value} {Q : Bool → Shared → Prop} (hkey : (mixKind P w).is k v = true) (R : SetM P w s.heap a S n) (room : n + 1 < scanBound)
    (hQ : ∀ h', Heap.SameBut a s.heap h' → SetM P w h' a (fun j => S j || decide (j = k)) (if S k = true then n else n + 1) → Q (!S k) { s with heap := h' }) :
    wpAny (model P w) A (setAddHashed a v ((mixKind P w).hash k)) Q E s := by
  obtain ⟨o, es, ep, t, ho, hex, hd, g, nd, hm, hb, hf, hn, hr, hl⟩ := R
  have hsc : v.scannable = true := scan_of hkey
  have hel : ElemsOf (mixKind P w) es.toList := goodK_elems g
  unfold setAddHashed setAddHashedIn
  refine wpAny_holding (wpAny_bind (wpAny_setState_of ho hd hf ?_))
  dsimp only
  rw [byScan_of hsc hb hel]
  simp only [↓reduceIte]
  unfold setAddByScan
  refine wpAny_bind ?_
  refine wpAny_bind (wpAny_rule ?_)
  refine wpAny_bind (wpAny_setScan_of hkey ho hd hf hel ?_)
  cases hfi : List.findIdx? (fun e => (mixKind P w).is k e.2) es.toList with
  | some j =>
    dsimp only
    obtain ⟨hj, pj, _⟩ := List.findIdx?_eq_some_iff_getElem.mp hfi
    have hSk : S k = true := (hm k).2 ((goodK_mem (P := P) (w := w) g k).2 ⟨es.toList[j], List.getElem_mem hj, pj⟩)
    refine wpAny_pure (wpAny_pure ?_)
    have q := hQ s.heap (Heap.SameBut.refl a s.heap) ⟨o, es, ep, t, ho, hex, hd, g, nd, fun i => by
      rw [Bool.or_eq_true, decide_eq_true_eq, ← hm i]
      exact ⟨fun z => z.elim id (fun e => e ▸ hSk), .inl⟩, hb, hf, by rw [if_pos hSk]; exact hn, hr, hl⟩
    rw [hSk] at q
    exact q
  | none =>
    dsimp only
    have hnk : k ∉ es.toList.map keyK := fun z => by
      obtain ⟨e, he, q⟩ := (goodK_mem (P := P) (w := w) g k).1 z
      have c := List.findIdx?_eq_none_iff.mp hfi e he
      rw [q] at c
      cases c
    have hSk : S k = false := by
      cases q : S k with
      | false => rfl
      | true => exact absurd ((hm k).1 q) hnk
    have hgw : ∀ (b : Bool) {s₁ : Shared} {Q' : Unit → Shared → Prop}, Q' () s₁ → wpAny (model P w) A (match b with | true => rule "set.scan.the-table-gave-way" | false => pure ()) Q' E s₁ :=
      fun b s₁ Q' q => by cases b <;> first | exact wpAny_pure q | exact wpAny_rule q
    have pm := layNew_perm t es ((mixKind P w).hash k) v
    have hf1 := layNew_fits t es ((mixKind P w).hash k) v
    have hr1 := layNew_ris t es ((mixKind P w).hash k) v hr
    have hl1 := layNew_led t es ((mixKind P w).hash k) v
    generalize layNew t es ((mixKind P w).hash k) v = Z at pm hf1 hr1 hl1 ⊢
    obtain ⟨es1, t1, wasDummy, gave⟩ := Z
    dsimp only at pm hf1 hr1 hl1 ⊢
    rw [Array.toList_push] at pm
    have pc : es1.toList.Perm (((mixKind P w).hash k, v) :: es.toList) := pm.trans (List.perm_append_singleton _ _)
    have pk : (es1.toList.map keyK).Perm (k :: es.toList.map keyK) := by
      have q := pc.map keyK
      rw [List.map_cons, keyK_of (e := ((mixKind P w).hash k, v)) hkey] at q
      exact q
    have g1 : ∀ e ∈ es1.toList, GoodK P w e := fun e he => by
      rcases List.mem_cons.mp (pc.mem_iff.mp he) with z | z
      · rw [z]; exact ⟨k, hkey, rfl⟩
      · exact g e z
    have nd1 : (es1.toList.map keyK).Nodup := pk.nodup_iff.mpr (List.nodup_cons.mpr ⟨hnk, nd⟩)
    have m1 : ∀ i, (S i || decide (i = k)) = true ↔ i ∈ es1.toList.map keyK := fun i => by
      rw [Bool.or_eq_true, decide_eq_true_eq, hm i, pk.mem_iff, List.mem_cons]
      exact Or.comm
    have hsz : es1.size = n + 1 := by rw [← Array.length_toList, pc.length_eq, List.length_cons, Array.length_toList, hn]
    have hb1 : es1.size < scanBound := by rw [hsz]; exact room
    have hled : w.params.followText "set-order" = true ∨ t1.led = true := hl.imp id fun z => by rw [hl1]; exact z
    have fin : ∀ h', Heap.SameBut a s.heap h' → SetM P w h' a (fun j => S j || decide (j = k)) es1.size → Q true { s with heap := h' } := fun h' sb r => by
      have q := hQ h' sb
      rw [hSk] at q
      rw [hsz] at r
      exact q r
    refine wpAny_bind (hgw _ ?_)
    split
    · refine wpAny_bind ?_
      rw [hashByValue_scannable 8 hsc]
      refine wpAny_pure ?_
      refine setM_add_tail ?_ ho hex hd g1 nd1 m1 hb1 ?_ ?_ ?_ ?_
      · intro b s₁ Q' q; cases b <;> first | exact wpAny_pure q | exact wpAny_rule q
      · first | (split <;> first | exact hf1 | exact SetTable.fits_plain_off hf1) | exact hf1
      · first | (split <;> exact hr1) | exact hr1
      · first | (split <;> exact hled) | exact hled
      · intro h' sb r; dsimp only; exact wpAny_pure (fin h' sb r)
    · refine wpAny_bind (wpAny_pure ?_)
      simp only [↓reduceIte]
      refine setM_add_tail ?_ ho hex hd g1 nd1 m1 hb1 hf1 hr1 hled ?_
      · intro b s₁ Q' q; cases b <;> first | exact wpAny_pure q | exact wpAny_rule q
      · intro h' sb r; dsimp only; exact wpAny_pure (fin h' sb r)
theorem setM_fresh {h : Heap} (P : Program) (w : World) : SetM P w (h.push { cls := .type "set", dict := none, data := .set #[] 0 (.fresh 0 0 (!w.params.followText "set-order")) }) h.objs.size (fun _ => false) 0 :=
  ⟨_, #[], 0, _, Heap.get?_push_size _ rfl, ⟨rfl, rfl, rfl⟩, rfl, (fun e he => by simp at he), (by simp), (fun k => by simp), (by decide), (by rfl), rfl, List.Pairwise.nil, by
    show _ ∨ (!w.params.followText "set-order") = true
    cases w.params.followText "set-order"
    · exact .inr rfl
    · exact .inl rfl⟩
theorem keys_intoM {I : Addr} {fp wr : List Addr} {G : Array GenState → Array GenState → Prop} {n : Nat} {Pv : Nat → Value → Prop} {St : Nat → Shared → Prop} {R : Result → Shared → Prop}
    (W : WalksS P w A.in1 I fp wr G n Pv St) (S : Addr) (apart : S ∉ fp) (ks : List Key) (hn : n = ks.length) (few : (uq ks).length + 1 < scanBound) (vals : ∀ i v, Pv i v → ∃ k, ks[i]? = some k ∧ keyIs k v = true) :
    ∀ (left i : Nat) (st : Shared), n - i = left → i ≤ n → St i st → SetM P w st.heap S (isIn (ks.take i)) (uq (ks.take i)).length →
      (∀ st', Moved (S :: wr) G st st' → SetM P w st'.heap S (isIn ks) (uq ks).length → R (.ok (.ret .none)) st') → codeAny (model P w) A (.builtin "set.update.loop" ⟨[.ref S, .ref I], []⟩) R st := by
  have notw : S ∉ wr := fun m => apart (W.sub _ m)
  have more : ∀ b ∈ wr, b ∈ S :: wr := fun b m => List.mem_cons_of_mem _ m
  have stays : ∀ {st st' : Shared} {T : Key → Bool} {c : Nat}, Moved wr G st st' → SetM P w st.heap S T c → SetM P w st'.heap S T c := fun mv hS => hS.at_ fun o ho => mv.heap S _ notw ho
  intro left
  induction left with
  | zero =>
    intro i st hl hi hst hS hR
    obtain rfl : i = n := by omega
    refine codeAny_builtin F.entry_set_update_loop ?_
    rw [Around.under_plainId F.plain_set_update_loop _]
    refine wpAny_bind (m := pyNext (.ref I)) (W.done st _ _ hst fun st' mv => ?_)
    have all : ks.take i = ks := List.take_of_length_le (by omega)
    rw [all] at hS
    exact wpAny_pure (hR st' (mv.mono more) (stays mv hS))
  | succ left ih =>
    intro i st hl hi hst hS hR
    have lt : i < n := by omega
    refine codeAny_builtin F.entry_set_update_loop ?_
    rw [Around.under_plainId F.plain_set_update_loop _]
    refine wpAny_bind (m := pyNext (.ref I)) (W.item i st _ _ lt hst fun v st' hP hst' mv => ?_)
    obtain ⟨k, hk, kis⟩ := vals i v hP
    have hS' := stays mv hS
    refine wpAny_bind (m := holding [v] (setAdd S v)) (wpAny_holding ?_)
    unfold setAdd
    refine wpAny_holding ?_
    refine wpAny_bind ((mixKind P w).pyHash (k := k) kis ?_)
    have room : (uq (ks.take i)).length + 1 < scanBound := Nat.lt_of_le_of_lt (Nat.succ_le_succ (uq_take_len ks i)) few
    refine setM_add_hashed (s := { st' with toks := st'.toks + 1 }) kis hS' room fun h' sb hS2 => ?_
    have hS3 : SetM P w h' S (isIn (ks.take (i + 1))) (uq (ks.take (i + 1))).length := by
      rw [take_next hk, uq_snoc]
      have e1 : (fun j => isIn (ks.take i) j || decide (j = k)) = isIn (ks.take i ++ [k]) := by
        funext j
        unfold isIn
        rw [List.any_append]
        congr 1
        simp [eq_comm]
      have e2 : (if isIn (ks.take i) k = true then (uq (ks.take i)).length else (uq (ks.take i)).length + 1) = (if isIn (ks.take i) k = true then uq (ks.take i) else uq (ks.take i) ++ [k]).length := by
        by_cases h1 : isIn (ks.take i) k = true
        · rw [if_pos h1, if_pos h1]
        · rw [if_neg h1, if_neg h1, List.length_append]; rfl
      rw [← e1, ← e2]
      exact hS2
    refine wpAny_pure ⟨plainId_quiet F.plain_set_update_loop _, ih (i + 1) _ (by omega) lt (W.frame _ st' _ _ hst' (Nat.le_succ _) fun b m o e => ?_) hS3 fun st2 mv2 hS4 => ?_⟩
    · exact (sb.2 b fun z => apart (z ▸ m)).trans e
    · refine hR st2 (Moved.trans W.gtrans ((mv.mono more).then_heap (Nat.le_succ _) fun b o m e => ?_) mv2) hS4
      exact (sb.2 b fun z => m (z ▸ List.mem_cons_self)).trans e
theorem code_set_led1 (v : Value) {Q₁ : Value → Shared → Prop}
    (h : Q₁ (.ref s.heap.objs.size) { s with heap := s.heap.push { cls := .type "set", dict := none, data := .set #[] 0 (.fresh 0 0 (!w.params.followText "set-order")) } }) :
    codeAny (model P w) A (.call (.builtin "set.__new__") ⟨[.type "set", v], []⟩) (wants Q₁ E) s := by
  refine codeAny_of_tree ?_
  show wpAny _ A.in1 (do checkBuiltinCall "set.__new__" ⟨[.type "set", v], []⟩; again (.builtin "set.__new__" ⟨[.type "set", v], []⟩)) _ _ s
  refine wpAny_bind (wpAny_of_eq (F.newCall_set_1 v) (wpAny_pure ⟨plainId_quiet F.plain_set_new _, codeAny_builtin F.entry_set_new ?_⟩))
  rw [Around.under_plainId F.plain_set_new _]
  unfold Builtin.«set.__new__» Builtin.Frozenset.newClass
  have hsub := sub_set_self
  obtain ⟨hp, g, d, tk, os⟩ := s
  dsimp only
  wp_walk
  refine wpAny_askSetting (wpAny_pure ?_)
  dsimp only
  simp only [newObj]
  refine wpAny_bind (wpAny_alloc (wpAny_pure ?_))
  exact wpAny_pure h
end
end Y

namespace Y
open PySem PySem.Spec PyProof.Rows L2
section
variable {P : Program} {w : World} {A : Around} {E : Value → Shared → Prop} {s : Shared}
theorem set_of_listM {l : Addr} {items : Array Value} (ks : List Key) {Q : Value → Shared → Prop} (free : A.handled = none) (hl : s.heap.IsList l items) (hk : Paired (fun k v => keyIs k v = true) ks items.toList) (few : (uq ks).length + 1 < scanBound)
    (fin : ∀ (h2 : Heap) (tk : Nat), SetM P w h2 s.heap.objs.size (isIn ks) (uq ks).length → (∀ b o, s.heap.get? b = some o → h2.get? b = some o) → Q (.ref s.heap.objs.size) { s with heap := h2, toks := tk }) :
    wpAny (model P w) A (call (.type "set") [.ref l]) Q E s := by
  have size : items.size = ks.length := by
    have q := Paired.length hk
    rw [Array.length_toList] at q
    exact q.symm
  obtain ⟨cc, tl, hmro⟩ := PySem.F.called_set.mro
  have mk1 := PySem.F.called_set.made
  have mk2 := PySem.F.called_set.sub
  have mk3 := PySem.F.called_set.notType
  have mk4 := PySem.F.called_set.canCreate
  have mk5 := PySem.F.typeCall_set_1 (.ref l)
  refine wpAny_call (codeAny_of_tree ?_)
  refine wpAny_pure ⟨Code.quiet_builtin _ (by decide +kernel), codeAny_builtin PySem.F.entry_type_call ?_⟩
  rw [Around.under_plain (weight_type_call_type "set" [.ref l] []) rfl]
  repeat (any_goals (first | assumption | wp_step))
  refine codeAny_mono (code_set_led1 (.ref l) (E := E) (Q₁ := fun self st1 => self = .ref s.heap.objs.size ∧ st1 = { s with heap := s.heap.push { cls := .type "set", dict := none, data := .set #[] 0 (.fresh 0 0 (!w.params.followText "set-order")) } }) ⟨rfl, rfl⟩) fun r st1 hr => ?_
  cases r with
  | error e => exact hr
  | ok fl =>
    cases fl with
    | ret self =>
      obtain ⟨rfl, rfl⟩ := hr
      have fr0 := setM_fresh (h := s.heap) P w
      generalize fresh : (Obj.mk (.type "set") none (.set #[] 0 (.fresh 0 0 (!w.params.followText "set-order"))) #[]) = ob at fr0
      have atS : (s.heap.push ob).get? s.heap.objs.size = some ob := Heap.get?_push_size _ (by rw [← fresh]; rfl)
      have isS : Shared.TypeIs { s with heap := s.heap.push ob } (.ref s.heap.objs.size) "set" := ⟨_, atS, by rw [← fresh]⟩
      have in1 := PySem.F.called_set.init.lookup
      have in2 := PySem.F.called_set.init.bind (.ref s.heap.objs.size)
      repeat (any_goals (first | assumption | wp_step))
      refine codeAny_mono (codeAny_call_builtin (R := wants (fun r st2 => r = .none ∧ ∃ h2 tk, st2 = { s with heap := h2, toks := tk } ∧ SetM P w h2 s.heap.objs.size (isIn ks) (uq ks).length ∧
          (∀ b o, s.heap.get? b = some o → h2.get? b = some o)) E) PySem.F.called_set.init.plain PySem.F.entry_set_init (check_set_init_1 isS ?_)) fun r2 st2 hr2 => ?_
      · obtain ⟨lo, hlo, hcl, nl, hdl⟩ := hl
        obtain ⟨lcls, ldict, ldata, lslots⟩ := lo
        simp only at hcl hdl
        subst hcl; subst hdl
        have hlo' : (s.heap.push ob).get? l = some { cls := .type "list", dict := ldict, data := .seq items nl, slots := lslots } := Heap.get?_push_of_some _ hlo
        have no1 := PySem.F.sub_list_set
        have no2 := PySem.F.sub_list_frozenset
        have no3 : (Value.type "list" == Value.type "dict") = false := by decide
        have hl1 : (s.heap.push ob).IsList l items := ⟨_, hlo', rfl, nl, rfl⟩
        have hS0 : (s.heap.push ob).get? s.heap.objs.size = some { cls := .type "set", dict := none, data := .set #[] 0 (.fresh 0 0 (!w.params.followText "set-order")) } := by rw [atS, ← fresh]
        unfold Builtin.«set.__init__» noKeywords Builtin.Frozenset.updateFrom
        generalize hPI : pyIter = PI
        wp_walk
        subst hPI
        refine wpAny_pyIter_list hl1 ?_
        refine wpAny_bind (wpAny_runValue ?_)
        have ltl : l < s.heap.objs.size := Heap.lt_size hlo
        have free3 : A.in1.in1.in1.handled = none := by simp [free]
        have szp : (s.heap.push ob).objs.size = s.heap.objs.size + 1 := Heap.size_push ..
        have ne1 : l ≠ (s.heap.push ob).objs.size := by rw [szp]; exact Nat.ne_of_lt (Nat.lt_succ_of_lt ltl)
        have ne2 : s.heap.objs.size ∉ [(s.heap.push ob).objs.size, l] := by
          rw [szp]
          simp only [List.mem_cons, List.not_mem_nil, or_false, not_or]
          exact ⟨Nat.ne_of_lt (Nat.lt_succ_self _), Nat.ne_of_gt ltl⟩
        have vals : ∀ (i : Nat) (v : Value), items[i]? = some v → ∃ k, ks[i]? = some k ∧ keyIs k v = true := fun i v hv => by
          rw [← Array.getElem?_toList] at hv
          exact paired_at (F := fun k v => keyIs k v = true) hk hv
        refine keys_intoM ((Walks.list free3 _ l ne1 items).toS) s.heap.objs.size ne2 ks size few vals (items.size - 0) 0 _ (by omega) (Nat.zero_le _) ⟨⟨_, Heap.get?_push_size _ rfl, rfl, rfl⟩, (hl1.push _)⟩ ?hS0 ?hR
        case hS0 =>
          exact fr0.at_ fun o ho => Heap.get?_push_of_some _ ho
        case hR =>
          intro st' mv hS'
          obtain ⟨h2, g2, d2, tk2, os2⟩ := st'
          obtain rfl : g2 = s.gens := mv.gens
          obtain rfl : d2 = s.drawn := mv.drawn
          obtain rfl : os2 = s.os := mv.os
          refine wpAny_pure ?_
          refine wpAny_pure ⟨rfl, h2, tk2, rfl, hS', fun b o e => ?_⟩
          have ltb : b < s.heap.objs.size := Heap.lt_size e
          refine mv.heap b o ?_ (Heap.get?_push_of_some _ (Heap.get?_push_of_some _ e))
          simp only [List.mem_cons, List.not_mem_nil, or_false, not_or, szp]
          exact ⟨Nat.ne_of_lt ltb, Nat.ne_of_lt (Nat.lt_succ_of_lt ltb)⟩
      · cases r2 with
        | error e => exact hr2
        | ok fl2 =>
          cases fl2 with
          | ret r =>
            obtain ⟨rfl, h2, tk, rfl, hS', keep⟩ := hr2
            repeat (any_goals (first | assumption | wp_step))
            exact fin _ _ hS' keep
          | _ => exact hr2.elim
    | _ => exact hr.elim
theorem set_of_tupleM {l : Addr} {items : Array Value} (ks : List Key) {Q : Value → Shared → Prop} (free : A.handled = none) (hl : s.heap.IsTuple l items) (hk : Paired (fun k v => keyIs k v = true) ks items.toList) (few : (uq ks).length + 1 < scanBound)
    (fin : ∀ (h2 : Heap) (tk : Nat), SetM P w h2 s.heap.objs.size (isIn ks) (uq ks).length → (∀ b o, s.heap.get? b = some o → h2.get? b = some o) → Q (.ref s.heap.objs.size) { s with heap := h2, toks := tk }) :
    wpAny (model P w) A (call (.type "set") [.ref l]) Q E s := by
  have size : items.size = ks.length := by
    have q := Paired.length hk
    rw [Array.length_toList] at q
    exact q.symm
  obtain ⟨cc, tl, hmro⟩ := PySem.F.called_set.mro
  have mk1 := PySem.F.called_set.made
  have mk2 := PySem.F.called_set.sub
  have mk3 := PySem.F.called_set.notType
  have mk4 := PySem.F.called_set.canCreate
  have mk5 := PySem.F.typeCall_set_1 (.ref l)
  refine wpAny_call (codeAny_of_tree ?_)
  refine wpAny_pure ⟨Code.quiet_builtin _ (by decide +kernel), codeAny_builtin PySem.F.entry_type_call ?_⟩
  rw [Around.under_plain (weight_type_call_type "set" [.ref l] []) rfl]
  repeat (any_goals (first | assumption | wp_step))
  refine codeAny_mono (code_set_led1 (.ref l) (E := E) (Q₁ := fun self st1 => self = .ref s.heap.objs.size ∧ st1 = { s with heap := s.heap.push { cls := .type "set", dict := none, data := .set #[] 0 (.fresh 0 0 (!w.params.followText "set-order")) } }) ⟨rfl, rfl⟩) fun r st1 hr => ?_
  cases r with
  | error e => exact hr
  | ok fl =>
    cases fl with
    | ret self =>
      obtain ⟨rfl, rfl⟩ := hr
      have fr0 := setM_fresh (h := s.heap) P w
      generalize fresh : (Obj.mk (.type "set") none (.set #[] 0 (.fresh 0 0 (!w.params.followText "set-order"))) #[]) = ob at fr0
      have atS : (s.heap.push ob).get? s.heap.objs.size = some ob := Heap.get?_push_size _ (by rw [← fresh]; rfl)
      have isS : Shared.TypeIs { s with heap := s.heap.push ob } (.ref s.heap.objs.size) "set" := ⟨_, atS, by rw [← fresh]⟩
      have in1 := PySem.F.called_set.init.lookup
      have in2 := PySem.F.called_set.init.bind (.ref s.heap.objs.size)
      repeat (any_goals (first | assumption | wp_step))
      refine codeAny_mono (codeAny_call_builtin (R := wants (fun r st2 => r = .none ∧ ∃ h2 tk, st2 = { s with heap := h2, toks := tk } ∧ SetM P w h2 s.heap.objs.size (isIn ks) (uq ks).length ∧
          (∀ b o, s.heap.get? b = some o → h2.get? b = some o)) E) PySem.F.called_set.init.plain PySem.F.entry_set_init (check_set_init_1 isS ?_)) fun r2 st2 hr2 => ?_
      · obtain ⟨lo, hlo, hcl, nl, hdl⟩ := hl
        obtain ⟨lcls, ldict, ldata, lslots⟩ := lo
        simp only at hcl hdl
        subst hcl; subst hdl
        have hlo' : (s.heap.push ob).get? l = some { cls := .type "tuple", dict := ldict, data := .seq items nl, slots := lslots } := Heap.get?_push_of_some _ hlo
        have no1 := PySem.F.sub_tuple_set
        have no2 := PySem.F.sub_tuple_frozenset
        have no3 : (Value.type "tuple" == Value.type "dict") = false := by decide
        have hl1 : (s.heap.push ob).IsTuple l items := ⟨_, hlo', rfl, nl, rfl⟩
        have hS0 : (s.heap.push ob).get? s.heap.objs.size = some { cls := .type "set", dict := none, data := .set #[] 0 (.fresh 0 0 (!w.params.followText "set-order")) } := by rw [atS, ← fresh]
        unfold Builtin.«set.__init__» noKeywords Builtin.Frozenset.updateFrom
        generalize hPI : pyIter = PI
        wp_walk
        subst hPI
        refine wpAny_pyIter_tuple hl1 ?_
        refine wpAny_bind (wpAny_runValue ?_)
        have ltl : l < s.heap.objs.size := Heap.lt_size hlo
        have free3 : A.in1.in1.in1.handled = none := by simp [free]
        have szp : (s.heap.push ob).objs.size = s.heap.objs.size + 1 := Heap.size_push ..
        have ne1 : l ≠ (s.heap.push ob).objs.size := by rw [szp]; exact Nat.ne_of_lt (Nat.lt_succ_of_lt ltl)
        have ne2 : s.heap.objs.size ∉ [(s.heap.push ob).objs.size, l] := by
          rw [szp]
          simp only [List.mem_cons, List.not_mem_nil, or_false, not_or]
          exact ⟨Nat.ne_of_lt (Nat.lt_succ_self _), Nat.ne_of_gt ltl⟩
        have vals : ∀ (i : Nat) (v : Value), items[i]? = some v → ∃ k, ks[i]? = some k ∧ keyIs k v = true := fun i v hv => by
          rw [← Array.getElem?_toList] at hv
          exact paired_at (F := fun k v => keyIs k v = true) hk hv
        refine keys_intoM ((Walks.tuple free3 _ l ne1 items).toS) s.heap.objs.size ne2 ks size few vals (items.size - 0) 0 _ (by omega) (Nat.zero_le _) ⟨⟨_, Heap.get?_push_size _ rfl, rfl, rfl⟩, (hl1.push _)⟩ ?hS0 ?hR
        case hS0 =>
          exact fr0.at_ fun o ho => Heap.get?_push_of_some _ ho
        case hR =>
          intro st' mv hS'
          obtain ⟨h2, g2, d2, tk2, os2⟩ := st'
          obtain rfl : g2 = s.gens := mv.gens
          obtain rfl : d2 = s.drawn := mv.drawn
          obtain rfl : os2 = s.os := mv.os
          refine wpAny_pure ?_
          refine wpAny_pure ⟨rfl, h2, tk2, rfl, hS', fun b o e => ?_⟩
          have ltb : b < s.heap.objs.size := Heap.lt_size e
          refine mv.heap b o ?_ (Heap.get?_push_of_some _ (Heap.get?_push_of_some _ e))
          simp only [List.mem_cons, List.not_mem_nil, or_false, not_or, szp]
          exact ⟨Nat.ne_of_lt ltb, Nat.ne_of_lt (Nat.lt_succ_of_lt ltb)⟩
      · cases r2 with
        | error e => exact hr2
        | ok fl2 =>
          cases fl2 with
          | ret r =>
            obtain ⟨rfl, h2, tk, rfl, hS', keep⟩ := hr2
            repeat (any_goals (first | assumption | wp_step))
            exact fin _ _ hS' keep
          | _ => exact hr2.elim
    | _ => exact hr.elim
/-- sorted(s), a set of texts -/
theorem strs_of_keys : ∀ (l : List Value), (∀ v ∈ l, ∃ x, keyIs (.inr x) v = true) → ∃ ss : List Str, StrsAre l ss ∧ l.map (fun v => keyK (0, v)) = ss.map Sum.inr
  | [], _ => ⟨[], .nil, rfl⟩
  | v :: l, h => by
    obtain ⟨ss, h1, h2⟩ := strs_of_keys l fun u m => h u (List.mem_cons_of_mem _ m)
    obtain ⟨x, hx⟩ := h v List.mem_cons_self
    have ek := keyK_of (e := (0, v)) hx
    rcases keyIs_shape hx with ⟨_, _, e, _⟩ | ⟨y, t, e, rfl⟩
    · cases e
    · cases e
      refine ⟨x :: ss, .cons x t h1, ?_⟩
      rw [List.map_cons, List.map_cons, h2, ek]
theorem sorted_setM {a : Addr} {ks : List Str} {n : Nat} {Q : Value → Shared → Prop} (R : SetM P w s.heap a (isIn (ks.map Sum.inr)) n) (hh : A.handled = none) (h64 : n < 64)
    (hQ : ∀ s' p (out : Array Value) (c : Nat) (ss : List Str), (∀ b o, s.heap.get? b = some o → s'.heap.get? b = some o) → s'.gens = s.gens → s'.os = s.os → s.heap.objs.size ≤ p →
      s'.heap.get? p = some (seqObj "list" out c) → StrsAre out.toList ss → sortedS ss = true → ss.Nodup → (∀ x, x ∈ ss ↔ x ∈ ks) → ss.length = n → Q (.ref p) s') :
    wpAny (model P w) A (call (.builtin "sorted") [.ref a]) Q E s := by
  obtain ⟨o, es, ep, t, ho, hex, hd, g, nd, hm, hb, hf, hn, hr, hl⟩ := R
  refine Calls.call_function_entry kind_sorted plain_sorted entry_sorted (args_sorted1 _) ?_
  unfold Builtin.«sorted»
  refine wpAny_bind (m := checkCount "sorted" 1 1 _) (wpAny_pure ?_)
  refine wpAny_bind (collect_set (A := A.in1) hh ⟨o, ho, hex.1, hd⟩ hf hb hr hl fun s1 vs k1 hz g1 o1 pm => ?_)
  have hvl : vs.length = n := by rw [pm.length_eq, List.length_map, Array.length_toList]; exact hn
  have hK : ∀ v ∈ vs, ∃ x, keyIs (.inr x) v = true := fun v hv => by
    obtain ⟨e, he, q⟩ := List.mem_map.mp (pm.mem_iff.mp hv)
    obtain ⟨k, h1, _⟩ := g e he
    have mk : keyK e ∈ es.toList.map keyK := List.mem_map.mpr ⟨e, he, rfl⟩
    have q2 := isIn_iff.mp ((hm (keyK e)).mpr mk)
    obtain ⟨x, _, ex⟩ := List.mem_map.mp q2
    rw [keyK_of h1] at ex
    rw [← ex] at h1
    exact ⟨x, by rw [← q]; exact h1⟩
  obtain ⟨s0, hI, hI2⟩ := strs_of_keys vs hK
  have pk : (s0.map (Sum.inr : Str → Key)).Perm (es.toList.map keyK) := by
    rw [← hI2]
    have q := pm.map (fun v => keyK (0, v))
    rw [List.map_map] at q
    exact q
  refine wpAny_bind (wpAny_newList ?_ (by rw [hvl, sizeLine_eq]; omega))
  have hoL : (s1.heap.push (seqObj "list" vs.toArray 0)).get? s1.heap.objs.size = some (seqObj "list" vs.toArray 0) := Heap.get?_push_size _ rfl
  refine wpAny_bind (wpAny_holding (wpAny_call_entry slot_list_sort ⟨_, hoL, rfl⟩ entry_list_sort (list_sort_treeK strKind_oneLt hoL hI.keysOf (fun v₁ v₂ rest e => keyKind_strs (by rw [← e]; exact hI)) (by rw [hvl]; exact h64) fun st' hp hs => ⟨_, rfl, ?_⟩) (args_list_sort _)))
  obtain ⟨ss, a1, a2, a3⟩ := sorted_out_str hI hp hs
  generalize (arrOf st').map (·.2) = out at a1 ⊢
  obtain ⟨c, hc⟩ := sortedHeap_at (vs := vs) (out := out) hoL
  have pn : (ss.map (Sum.inr : Str → Key)).Perm (es.toList.map keyK) := (a2.map _).trans pk
  have ndS : ss.Nodup := List.Pairwise.of_map (S := fun a b : Key => a ≠ b) (Sum.inr : Str → Key) (fun a b hab z => hab (by rw [z])) (pn.nodup_iff.mpr nd)
  refine wpAny_pure ⟨_, rfl, hQ _ s1.heap.objs.size out c ss (fun b u e => ?_) g1 o1 hz hc a1 a3 ndS (fun x => ?_) ?_⟩
  · have q := k1 b u e
    have hlt := Heap.lt_size q
    show (sortedHeap (s1.heap.push (seqObj "list" vs.toArray 0)) s1.heap.objs.size vs out).get? b = some u
    rw [sortedHeap_old (Nat.ne_of_lt hlt) (by rw [size_push']; exact Nat.lt_succ_of_lt hlt)]
    exact Heap.get?_push_of_some _ q
  · have e1 : x ∈ ss ↔ (Sum.inr x : Key) ∈ ss.map Sum.inr := ⟨fun m => List.mem_map.mpr ⟨x, m, rfl⟩, fun m => by obtain ⟨y, ym, e⟩ := List.mem_map.mp m; cases e; exact ym⟩
    have e2 : x ∈ ks ↔ (Sum.inr x : Key) ∈ ks.map Sum.inr := ⟨fun m => List.mem_map.mpr ⟨x, m, rfl⟩, fun m => by obtain ⟨y, ym, e⟩ := List.mem_map.mp m; cases e; exact ym⟩
    rw [e1, pn.mem_iff, ← hm, isIn_iff, ← e2]
  · have q := pn.length_eq
    rw [List.length_map, List.length_map] at q
    have e : es.toList.length = n := by rw [Array.length_toList]; exact hn
    omega
end
end Y

namespace Y
open PySem PySem.Spec PyProof.Rows L2
/-- a set of texts that can be walked -/
def SetMO (P : Program) (w : World) (a : Addr) (S : Key → Bool) (n : Nat) : HO := .ext fun h => SetM P w h a S n
section
variable {X : Cx}
theorem setM_new {w : World} {P : Program} {H : Hp} {h : Heap} {a : Addr} {S : Key → Bool} {n : Nat} (R : SetM P w h a S n) : ObjOk P w H h a (SetMO P w a S n) := by
  have ⟨o, _, _, _, ho, _⟩ := R
  exact ⟨R, ⟨o, ho⟩, fun h1 h2 p k => SetM.at_ p k⟩
theorem setM_get {pins : List (Addr × Obj)} {σ : L2.St} {H : Hp} {s : Shared} {a : Addr} {S : Key → Bool} {n : Nat} (I : Inv X pins σ H s) (ha : H a = some (SetMO X.prog X.w a S n)) : SetM X.prog X.w s.heap a S n := (I.hok a _ ha).1
def rSetM (K : PySem.W.Frag) (P : Program) (w : World) : List V → Hp → VK → Prop := fun xs H Q => ∃ (a : Addr) (ks : List Str), xs = [.ref a] ∧ (SqL K H a (ks.map V.str) ∨ SqT K H a (ks.map V.str)) ∧ (uq (ks.map (Sum.inr : Str → Key))).length ≤ 4000 ∧
  ∀ p, H p = none → Q (.ref p) (upd H p (SetMO P w p (isIn (ks.map Sum.inr)) (uq (ks.map (Sum.inr : Str → Key))).length))
theorem strs_kV (ns : List Str) : ns.map V.str = (ns.map (Sum.inr : Str → Key)).map kV := by
  rw [List.map_map]
  rfl
theorem cr_setM (hc : X.calm = true) : CallR X (.type "set") (rSetM X.K X.prog X.w) := by
  intro pins s σ H xs us Q I r h
  obtain ⟨a, ks, rfl, hq, few, q⟩ := h
  obtain ⟨u, rfl, ru⟩ := vals1 r
  cases ru
  have room : (uq (ks.map (Sum.inr : Str → Key))).length + 1 < scanBound := by show _ + 1 < 4096; omega
  have done : ∀ (h2 : Heap) (tk : Nat), SetM X.prog X.w h2 s.heap.objs.size (isIn (ks.map Sum.inr)) (uq (ks.map (Sum.inr : Str → Key))).length → (∀ b o, s.heap.get? b = some o → h2.get? b = some o) → EP X pins σ Q (.ref s.heap.objs.size) { s with heap := h2, toks := tk } := fun h2 tk hS keep =>
    ⟨.ref _, _, I.laid (t' := tk) keep (Nat.le_refl _) (setM_new hS), rfl, q _ (I.hok.fresh (Nat.le_refl _))⟩
  rcases hq with hq | hq
  · obtain ⟨its, rv, pl, _⟩ := I.list hq
    exact set_of_listM (ks.map Sum.inr) (I.ok.hd hc) pl.isList (by rw [strs_kV] at rv; simpa using keys_of_vals rv) room done
  · obtain ⟨its, rv, tp, _⟩ := I.tuple hq
    exact set_of_tupleM (ks.map Sum.inr) (I.ok.hd hc) tp (by rw [strs_kV] at rv; simpa using keys_of_vals rv) room done
def rSortedM (P : Program) (w : World) : List V → Hp → VK → Prop := fun vs H Q => ∃ (a : Addr) (ks : List Str) (n : Nat), vs = [V.ref a] ∧ H a = some (SetMO P w a (isIn (ks.map Sum.inr)) n) ∧ n < 64 ∧
  ∀ (ss : List Str) (p : Addr), sortedS ss = true → ss.Nodup → (∀ x, x ∈ ss ↔ x ∈ ks) → H p = none → Q (.ref p) (upd H p (.lst (ss.map V.str)))
theorem cr_sortedM (hc : X.calm = true) : CallR X (.builtin "sorted") (rSortedM X.prog X.w) := by
  intro pins s σ H vs us Q I r h
  obtain ⟨a, ks, n, rfl, ha, h64, q⟩ := h
  have R := setM_get I ha
  rw [Vals.ref1 r]
  refine sorted_setM R (I.ok.hd hc) h64 fun s' p out c ss k g o hp hg hi hs nd hm hl => ?_
  have hlen : (ss.map V.str).length ≤ sizeLine := by rw [List.length_map, hl, sizeLine_eq]; omega
  have hn : H p = none := I.hok.fresh hp
  have J : Inv X pins σ (upd H p (.lst (ss.map V.str))) { s with heap := s'.heap, gens := s'.gens, drawn := s'.drawn, toks := s'.toks } :=
    I.call (ch := []) (Un.laid k hp hn) (I.hok.laid k hp ⟨hlen, out.toList, c, vals_of_strs hi, hg⟩) (by rw [g]; exact I.bare) (fun _ z => nomatch z)
  have e : s' = { s with heap := s'.heap, gens := s'.gens, drawn := s'.drawn, toks := s'.toks } := by
    cases s'
    cases s
    cases o
    rfl
  rw [e]
  exact ⟨.ref p, _, J, rfl, q ss p hs nd hm hn⟩
end
/-! the sorted list of some texts, each once, is one -/
abbrev leS (x y : Str) : Prop := x.cps.toList ≤ y.cps.toList
theorem leS_of {x y : Str} (h : (!ltCps y.cps.toList x.cps.toList) = true) : leS x y := by
  rw [ltCps_eq] at h
  intro k
  rw [decide_eq_true k] at h
  cases h
theorem leS_anti {x y : Str} (h : leS x y) (k : leS y x) : x = y := by
  have e : x.cps.toList = y.cps.toList := List.le_antisymm h k
  obtain ⟨a⟩ := x
  obtain ⟨b⟩ := y
  have e2 : a = b := Array.toList_inj.mp e
  rw [e2]
theorem rising_all : ∀ {l : List Str} {p : Str}, risingS p l = true → ∀ x ∈ l, leS p x
  | [], _, _, x, m => nomatch m
  | y :: r, p, h, x, m => by
    have h : (!ltCps y.cps.toList p.cps.toList && risingS y r) = true := h
    rw [Bool.and_eq_true] at h
    have h1 := leS_of h.1
    rcases List.mem_cons.mp m with e | e
    · rw [e]; exact h1
    · exact List.le_trans h1 (rising_all h.2 x e)
theorem rising_tail : ∀ {l : List Str} {p : Str}, risingS p l = true → sortedS l = true
  | [], _, _ => rfl
  | y :: r, p, h => by
    have h : (!ltCps y.cps.toList p.cps.toList && risingS y r) = true := h
    rw [Bool.and_eq_true] at h
    exact h.2
theorem sorted_unique : ∀ {l m : List Str}, sortedS l = true → sortedS m = true → l.Nodup → m.Nodup → (∀ x, x ∈ l ↔ x ∈ m) → l = m
  | [], [], _, _, _, _, _ => rfl
  | [], y :: r, _, _, _, _, h => by have := (h y).mpr List.mem_cons_self; cases this
  | x :: l, [], _, _, _, _, h => by have := (h x).mp List.mem_cons_self; cases this
  | x :: l, y :: m, sl, sm, nl, nm, h => by
    obtain ⟨nx, nl2⟩ := List.nodup_cons.mp nl
    obtain ⟨ny, nm2⟩ := List.nodup_cons.mp nm
    have e : x = y := by
      rcases List.mem_cons.mp ((h x).mp List.mem_cons_self) with e | e
      · exact e
      · rcases List.mem_cons.mp ((h y).mpr List.mem_cons_self) with k | k
        · exact k.symm
        · exact leS_anti (rising_all (l := l) sl y k) (rising_all (l := m) sm x e)
    subst e
    rw [sorted_unique (rising_tail sl) (rising_tail sm) nl2 nm2 fun z => ?_]
    have q := h z
    rw [List.mem_cons, List.mem_cons] at q
    by_cases z = x
    · rename_i e
      rw [e]
      exact ⟨fun k => (nx k).elim, fun k => (ny k).elim⟩
    · rename_i e
      exact ⟨fun k => (q.mp (.inr k)).resolve_left e, fun k => (q.mpr (.inr k)).resolve_left e⟩
end Y

namespace Y
open PySem PySem.Spec PyProof.Rows L2
/-! ### xs.extend(t), t a tuple -/
section
open AutoSeq1
set_option maxRecDepth 8000 in
theorem extend_tup (l : Addr) (items : Array Value) (n : Nat) (b : Addr) (dd : Option Addr) (sl : Array (Option Value)) (items2 : Array Value) (n2 : Nat) (hs0 : ¬(!items.isEmpty && Builtin.List.listTooLong (items.size + items2.size)) = true) (hs1 : items.size ≤ sizeLine) (hs2 : items.size + items2.size ≤ sizeLine + 1) :
    Meets (Builtin.«list.extend» ⟨[.ref l, .ref b], []⟩) (fun _ R s => s.heap.get? l = some { cls := .type "list", dict := none, data := .seq items n, slots := #[] } ∧ s.heap.get? b = some { cls := .type "tuple", dict := dd, data := .seq items2 n2, slots := sl } ∧ R (.ok (.ret Value.none)) { s with heap := s.heap.update l (Obj.mapSeq fun x => x ++ items2), toks := s.toks }) :=
  .of_wp fun prog w A R s h => by
    obtain ⟨hp, g, d, tk, os⟩ := s; obtain ⟨hl, hb, h⟩ := h; have f1 := AutoSeq1.idx_int; have f2 := AutoSeq1.sub_tuple_tuple; have f3 := AutoSeq1.sub_list_list; have f4 := AutoSeq1.sub_tuple_list; have f5 := AutoSeq1.sub_list_tuple;
    have hz' : (items ++ items2).size ≤ sizeLine + 1 := by rw [Array.size_append]; exact hs2
    wp_walk using (wpAny_updateSeq hl rfl (hz := hs1) (_hz' := hz')), wpAny_loadPart' hl, wpAny_loadPart' hb; exact ⟨_, rfl, h⟩
end
section
variable {X : Cx}
def rExtendT (K : PySem.W.Frag) : V → List V → Hp → VK → Prop := fun x vs H Q => ∃ l b xs zs, x = .ref l ∧ vs = [.ref b] ∧ H l = some (.lst xs) ∧ SqT K H b zs ∧ xs.length + zs.length ≤ sizeLine ∧ Q .non (upd H l (.lst (xs ++ zs)))
theorem mt_extendT : MtM X "list.extend" (rExtendT X.K) := by
  intro pins s σ H x vs v us Q I rx rv h
  obtain ⟨l, b, xs, zs, rfl, rfl, hH, hB, hz, q⟩ := h
  cases rx
  obtain ⟨u, rfl, ru⟩ := rv.one
  cases ru
  obtain ⟨z, its, n, r, hl, e⟩ := I.lstM hH
  obtain ⟨its2, r2, ⟨⟨cl, dd, dt, sl⟩, e2, c2, n2, d2⟩, z2⟩ := I.tuple hB
  simp only at c2 d2
  subst c2 d2
  have hl2 := r2.length
  have hsz : its.toArray.size + its2.toArray.size ≤ sizeLine := by rw [List.size_toArray, List.size_toArray]; omega
  have hlong : ¬ (!its.toArray.isEmpty && Builtin.List.listTooLong (its.toArray.size + its2.toArray.size)) = true := by
    rw [notLongL hsz, Bool.and_false]
    exact Bool.false_ne_true
  refine call_meets F.slot_list_extend ⟨_, e, rfl⟩ F.entry_list_extend (F.args_list_extend_2 _ _)
    (extend_tup l its.toArray n b dd sl its2.toArray n2 hlong (by rw [List.size_toArray]; omega) (by omega)) ⟨e, e2, ?_⟩
  refine ⟨.non, _, I.lset (its' := its ++ its2) hH e (by simp) (r.append r2) ?_, rfl, q⟩
  rw [List.length_append]
  omega
end
section
variable {X : Cx}
/-- t + u, wherever it stands -/
def rCatU (K : PySem.W.Frag) : R2 := fun x y H Q => ∃ a b xs ys, x = .ref a ∧ y = .ref b ∧ SqT K H a xs ∧ SqT K H b ys ∧ xs.length + ys.length ≤ sizeLine ∧ ∀ q H', Same H H' → SqT K H' q (xs ++ ys) → Q (.ref q) H'
theorem op_catU : OpR X (binaryOp .Add) (rCatU X.K) := by
  intro pins s σ H x y v u Q I rx ry h
  obtain ⟨a, b, xs, ys, ex, ey, ha, hb, hz, k⟩ := h
  refine op_catA pins s σ H x y v u Q I rx ry ⟨a, b, xs, ys, ex, ey, ha, hb, hz, fun e => ?_, fun _ e => ?_, fun _ _ p np => k p _ (same_upd np) (SqT.of upd_same)⟩
  · subst e
    exact k b H (Same.refl H) hb
  · subst e
    rw [List.append_nil] at k
    exact k a H (Same.refl H) ha
/-- t[lo:hi], wherever it stands -/
def rSlU (K : PySem.W.Frag) : V → Option Int → Option Int → Hp → VK → Prop := fun x lo hi H Q => ∃ a xs, x = .ref a ∧ SqT K H a xs ∧ ∀ q H', Same H H' → SqT K H' q (cutV xs lo hi) → Q (.ref q) H'
theorem sl_tupU : SlR X (rSlU X.K) := by
  intro pins s σ H x v vl vu lo hi sl Q I rx hs pl pu h
  obtain ⟨a, xs, ex, hx, k⟩ := h
  refine sl_tupA pins s σ H x v vl vu lo hi sl Q I rx hs pl pu ⟨a, xs, ex, hx, fun z => ?_, fun _ p np => k p _ (same_upd np) (SqT.of upd_same)⟩
  have e : cutV xs lo hi = xs := by
    unfold cutV
    rw [z.1, z.2, Nat.sub_zero, List.drop_zero, List.take_length]
  exact k a H (Same.refl H) (by rw [e]; exact hx)
end
end Y

namespace Y
open PySem PySem.Spec PyProof.Rows L2
def allNames (g t : List Str) (ss : List Sm) : List Str := g ++ t ++ (ss.map Sm.ns).flatten
/-- a program of these parts stands at o -/
def PgAt (K : PySem.W.Frag) (C : Addr) (H : Hp) (o : Addr) (g t : List Str) (ss : List Sm) : Prop := ∃ dx vg vt vb, H o = some (.ins C dx (flds vg vt vb)) ∧ Tp K H vg (nmD g) ∧ Tp K H vt (nmD t) ∧ Tp K H vb (blD ss)
theorem PgAt.same {K : PySem.W.Frag} {C o : Addr} {H H' : Hp} {g t : List Str} {ss : List Sm} (h : PgAt K C H o g t ss) (s : Same H H') : PgAt K C H' o g t ss := by
  obtain ⟨dx, vg, vt, vb, ho, h1, h2, h3⟩ := h
  exact ⟨dx, vg, vt, vb, s _ _ ho, Tp.keep s.kp _ _ h1, Tp.keep s.kp _ _ h2, Tp.keep s.kp _ _ h3⟩
theorem HandAt.p_neI {p c o C dx : Addr} {H : Hp} {fs : List (Str × V)} (Z : HandAt H p c) (h : H o = some (.ins C dx fs)) : o ≠ p := by
  obtain ⟨⟨_, _, _, _, _, hp, _⟩, _⟩ := Z
  exact fun e => (by rw [e, hp] at h; cases h)
theorem PgAt.drew {K : PySem.W.Frag} {C o p c : Addr} {H H' : Hp} {g t : List Str} {ss : List Sm} (h : PgAt K C H o g t ss) (Z : HandAt H p c) (D : Drew K p c H H') : PgAt K C H' o g t ss := by
  obtain ⟨dx, vg, vt, vb, ho, h1, h2, h3⟩ := h
  exact ⟨dx, vg, vt, vb, D.get ho (Z.p_neI ho), D.tp h1, D.tp h2, D.tp h3⟩
theorem Tp.bl_inv {K : PySem.W.Frag} {H : Hp} {v : V} {ss : List Sm} (h : Tp K H v (blD ss)) : ∃ a ts, v = .ref a ∧ SqT K H a ts ∧ TpAll K H ts (ss.map smD) := h.tup_inv
theorem deV_head (d : De) : ∃ z, deV d = .str z :: d.ns.map V.str ∧ z ≠ "round" := by
  cases d with
  | zero x => exact ⟨"zero", rfl, by decide +kernel⟩
  | copy x y => exact ⟨"copy", rfl, by decide +kernel⟩
  | more x => exact ⟨"more", rfl, by decide +kernel⟩
theorem flat_take {ss : List Sm} {i : Nat} {s : Sm} (h : ss[i]? = some s) : ((ss.take (i + 1)).map Sm.ns).flatten = ((ss.take i).map Sm.ns).flatten ++ s.ns := by
  rw [take_next h, List.map_append, List.flatten_append]
  simp
theorem flat_takeD {ds : List De} {i : Nat} {d : De} (h : ds[i]? = some d) : ((ds.take (i + 1)).map De.ns).flatten = ((ds.take i).map De.ns).flatten ++ d.ns := by
  rw [take_next h, List.map_append, List.flatten_append]
  simp
theorem flat_len {α : Type} {f : α → List Str} {l : List α} (i : Nat) : ((l.take i).map f).flatten.length ≤ (l.map f).flatten.length := by
  have e : (l.map f).flatten = ((l.take i).map f).flatten ++ ((l.drop i).map f).flatten := by
    rw [← List.flatten_append, ← List.map_append, List.take_append_drop]
  rw [e, List.length_append]
  omega
section
variable {P : Program} {w : World} {K : PySem.W.Frag} {mg : Str → Option Value} {base : Heap}
end
end Y

namespace Y
open PySem PySem.Spec PyProof.Rows L2
/-! ### places -/
def iD (is : List Int) : PyData := .tuple (is.map .int)
def plOf (k : Nat) (s : Sm) : List (List Int) := [(k : Int)] :: (List.range s.deeds.length).map fun (j : Nat) => [(k : Int), (j : Int)]
def plF (k : Nat) : List Sm → List (List Int)
  | [] => []
  | s :: r => plOf k s ++ plF (k + 1) r
theorem plF_snoc : ∀ (l : List Sm) (k : Nat) (s : Sm), plF k (l ++ [s]) = plF k l ++ plOf (k + l.length) s
  | [], k, s => by show plOf k s ++ [] = [] ++ plOf (k + 0) s; simp
  | a :: l, k, s => by
    show plOf k a ++ plF (k + 1) (l ++ [s]) = (plOf k a ++ plF (k + 1) l) ++ plOf (k + (l.length + 1)) s
    rw [plF_snoc l (k + 1) s, List.append_assoc, show k + 1 + l.length = k + (l.length + 1) by omega]
theorem plF_take {ss : List Sm} {i : Nat} {s : Sm} (h : ss[i]? = some s) : plF 0 (ss.take (i + 1)) = plF 0 (ss.take i) ++ plOf i s := by
  have hi : i < ss.length := (List.getElem?_eq_some_iff.mp h).1
  rw [take_next h, plF_snoc, List.length_take, Nat.zero_add, Nat.min_eq_left (Nat.le_of_lt hi)]
theorem plF_len : ∀ (l : List Sm) (k : Nat), (plF k l).length = l.length + (l.map fun s => s.deeds.length).sum
  | [], _ => rfl
  | a :: l, k => by
    show (plOf k a ++ plF (k + 1) l).length = (l.length + 1) + (a.deeds.length + (l.map fun s => s.deeds.length).sum)
    rw [List.length_append, plF_len l (k + 1)]
    show ((List.range a.deeds.length).map _).length + 1 + _ = _
    rw [List.length_map, List.length_range]
    omega
theorem plF_take_len (ss : List Sm) (i : Nat) : (plF 0 (ss.take i)).length ≤ (plF 0 ss).length := by
  rw [plF_len, plF_len, List.length_take]
  have go : ∀ (l : List Sm) (i : Nat), ((l.take i).map fun s => s.deeds.length).sum ≤ (l.map fun s => s.deeds.length).sum := by
    intro l
    induction l with
    | nil => intro i; simp
    | cons a r ih =>
      intro i
      cases i with
      | zero => simp
      | succ i =>
        rw [List.take_succ_cons, List.map_cons, List.map_cons, List.sum_cons, List.sum_cons]
        have := ih i
        omega
  have := go ss i
  omega
/-- what stands at a place -/
def atD (ss : List Sm) : List Int → Option PyData
  | [k] => (ss[k.toNat]?).map smD
  | [k, j] => match ss[k.toNat]? with
    | some (.rnd _ ds) => (ds[j.toNat]?).map deD
    | _ => none
  | _ => none
/-- whether it is a place, or lies less than so much further behind a last one -/
def placeL (ss : List Sm) (f : Nat) : List Th → Bool
  | [.int k] => decide (0 ≤ k) && decide (k < (ss.length : Int) + f)
  | [.int k, .int j] => decide (0 ≤ k) && decide (0 ≤ j) && (match ss[k.toNat]? with | some (.rnd _ ds) => decide (j < (ds.length : Int) + f) | _ => false)
  | _ => false
def Th.place (ss : List Sm) (f : Nat) : Th → Bool
  | .tup ts => placeL ss f ts
  | _ => false
theorem place_num {ss : List Sm} {f : Nat} {ts : List Th} (h : ts.all Th.number = false) : placeL ss f ts = false := by
  unfold placeL
  split
  · rename_i k
    have h : (decide (0 ≤ k) && true) = false := h
    rw [Bool.and_true] at h
    rw [h]; rfl
  · rename_i k j
    have h : (decide (0 ≤ k) && (decide (0 ≤ j) && true)) = false := h
    rw [Bool.and_true] at h
    rw [h]; rfl
  · rfl
theorem IsAll.two {K : PySem.W.Frag} {H : Hp} {xs : List V} {ts : List Th} (h : IsAll K H xs ts) (n : ts.all Th.number = true) : (∃ k : Nat, ts.length = 1 → xs = [.int (k : Nat)] ∧ ts = [.int (k : Nat)]) ∧ (∃ k j : Nat, ts.length = 2 → xs = [.int (k : Nat), .int (j : Nat)] ∧ ts = [.int (k : Nat), .int (j : Nat)]) := by
  have one : ∀ {v : V} {t : Th}, Is K H v t → t.number = true → ∃ k : Nat, v = .int (k : Nat) ∧ t = .int (k : Nat) := fun {v t} h n => by
    cases h with
    | int i =>
      obtain ⟨k, rfl⟩ := nat_of (of_decide_eq_true n)
      exact ⟨k, rfl, rfl⟩
    | non => cases n
    | bl b => cases n
    | str _ _ => cases n
    | tup _ _ => cases n
    | opq _ _ => cases n
  match ts, xs, h, n with
  | [], _, _, _ => exact ⟨⟨0, fun h => by cases h⟩, 0, 0, fun h => by cases h⟩
  | [t], [x], .cons h0 .nil, n =>
    rw [List.all_cons, List.all_nil, Bool.and_true] at n
    obtain ⟨k, rfl, rfl⟩ := one h0 n
    exact ⟨⟨k, fun _ => ⟨rfl, rfl⟩⟩, 0, 0, fun h => by cases h⟩
  | [t, u], [x, y], .cons h0 (.cons h1 .nil), n =>
    rw [List.all_cons, List.all_cons, List.all_nil, Bool.and_true, Bool.and_eq_true] at n
    obtain ⟨k, rfl, rfl⟩ := one h0 n.1
    obtain ⟨j, rfl, rfl⟩ := one h1 n.2
    exact ⟨⟨0, fun h => by cases h⟩, k, j, fun _ => ⟨rfl, rfl⟩⟩
  | _ :: _ :: _ :: r, _, _, _ => exact ⟨⟨0, fun h => by simp at h⟩, 0, 0, fun h => by simp at h⟩
theorem Tp.iD_is {K : PySem.W.Frag} {H : Hp} {v : V} {is : List Int} (h : Tp K H v (iD is)) : Is K H v (.tup (is.map .int)) := by
  have q := Tp.is (iD is) v (by
    show shPs _ = true
    rw [shPs_all]
    intro d m
    obtain ⟨x, _, rfl⟩ := List.mem_map.mp m
    rfl) h
  rw [show thP (iD is) = .tup (is.map .int) by show Th.tup (thPs (is.map PyData.int)) = _; rw [thPs_map]; rfl] at q
  exact q
theorem Tp.iD_inv {K : PySem.W.Frag} {H : Hp} {v : V} {is : List Int} (h : Tp K H v (iD is)) : ∃ a, v = .ref a ∧ SqT K H a (is.map V.int) := by
  obtain ⟨a, xs, e, hs, ha⟩ := h.tup_inv
  have go : ∀ {is : List Int} {xs : List V}, TpAll K H xs (is.map PyData.int) → xs = is.map V.int := by
    intro is
    induction is with
    | nil => intro xs h; cases h; rfl
    | cons a r ih =>
      intro xs h
      cases h with
      | cons h1 h2 =>
        cases h1
        rw [ih h2]
        rfl
  rw [go ha] at hs
  exact ⟨a, e, hs⟩
section
variable {P : Program} {w : World} {K : PySem.W.Frag} {mg : Str → Option Value} {base : Heap}
abbrev s_is_place_before : Stmt := topS 27
theorem sc_is_place_before : FnScope ["program", "further", "thing", "block", "part"] ["program", "further", "thing"] (defScope s_is_place_before) := ⟨rfl, rfl, rfl, by decide +kernel, rfl, by decide +kernel, by decide +kernel⟩
def spPlaceB (K : PySem.W.Frag) (C : Addr) : Sp := fun vs H Q _ => ∃ (o : Addr) (g t : List Str) (ss : List Sm) (f : Nat) (v : V) (th : Th), vs = [.ref o, .int (f : Nat), v] ∧ PgAt K C H o g t ss ∧ Is K H v th ∧ ∀ H', Same H H' → Q (.bl (th.place ss f)) H'
theorem ok_placeB {f C : Addr} {fd : FuncData} (F : Fun K "_is_place_before" "_is_place_before" s_is_place_before f fd) (T : Bi mg) (G : Prg K mg C) (D_is_number : Has P w K mg base "is_number" 2 ["thing"] (spNumT K)) (D_has_round : Has P w K mg base "has_round" 1 ["statement"] (spHasRound K)) :
    FnOk P w K mg base CX0 3 f fd ["program", "further", "thing"] (spPlaceB K C) := by
  refine F.ok sc_is_place_before (fun vs H Q E h => ?_) (fun cdv A outer s₀ H vs Q E hr h => ?_)
  · obtain ⟨o, g, t, ss, f, v, th, rfl, _⟩ := h
    rfl
  · obtain ⟨o, g, t, ss, fu, v, th, rfl, ⟨dx, vg, vt, vb, ho, tg, tt, tb⟩, hv, kk⟩ := h
    refine ⟨_, (pss_cons (ps_if ((pw_or (pt_not (pt_val (pe_callB (id := "isinstance") (r := rIsi K) call_isi (by rfl) T.isinstance (by decide +kernel) (pa_cons (pv 2) (pa_cons (pe_bltn (v := .ty "tuple") (by rfl) T.tuple_ (by decide +kernel) rfl) pa_nil))))) (pw_or1 (pt_not (pt_chain op_le op_le pe_int (pe_callB call_len_seq (by rfl) T.len PySem.boot_len (pa_cons (pv 2) pa_nil)) pe_int))))).pt
  (pss_one (ps_ret pe_bl))
  pss_nil)
 (pss_cons (ps_if (pt_not (pt_val (pe_callB (id := "all") (r := rAll K) (cr_all (by rfl)) (by rfl) T.all (by decide +kernel) (pa_cons (pe_lc (own := [("part", 4)]) (g := gName 4) (tt := tYes) (by rfl) sc_is_place_before.nd (pi_tup (pv 2)) (blkOk_by (N := ["program", "further", "thing", "block", "part"]) (sc := defScope s_is_place_before) (by decide +kernel)) (fun _ _ _ _ _ => pg_name (i := 4) sc_is_place_before.nd rfl (.inl rfl)) (fun _ _ _ _ _ => pts_nil) (fun _ _ _ _ _ => (D_is_number.call (hr.mono (by decide)) (by rfl) (pa_cons (pv 4) pa_nil)))) pa_nil))))
  (pss_one (ps_ret pe_bl))
  pss_nil)
 (pss_cons (ps_set (i := 3) sc_is_place_before.nd rfl (.inl rfl) (pe_fld (pv 0) rfl))
 (pss_cons (ps_if (pt_cmpR op_eq (pe_callB call_len_seq (by rfl) T.len PySem.boot_len (pa_cons (pv 2) pa_nil)) pe_int (nomark _))
  (pss_one (ps_ret (pe_cmpR op_lt (pe_ix ix_tup (pv 2) pe_int (fun _ _ => rfl)) (pe_op op_add (pe_callB call_len_seq (by rfl) T.len PySem.boot_len (pa_cons (pv 3) pa_nil)) (pv 1)) (nomark _))))
  pss_nil)
 (pss_cons (ps_if ((pw_or (pt_cmpR op_ge (pe_ix ix_tup (pv 2) pe_int (fun _ _ => rfl)) (pe_callB call_len_seq (by rfl) T.len PySem.boot_len (pa_cons (pv 3) pa_nil)) (nomark _)) (pw_or1 (pt_not (pt_val (D_has_round.call (hr.mono (by decide)) (by rfl) (pa_cons (pe_ix ix_tup (pv 3) (pe_ix ix_tup (pv 2) pe_int (fun _ _ => rfl)) (fun _ _ => rfl)) pa_nil))))))).pt
  (pss_one (ps_ret pe_bl))
  pss_nil)
 (pss_one (ps_ret (pe_cmpR op_lt (pe_ix ix_tup (pv 2) pe_int (fun _ _ => rfl)) (pe_op op_add (pe_callB call_len_seq (by rfl) T.len PySem.boot_len (pa_cons (pe_ix ix_tup (pe_ix ix_tup (pv 3) (pe_ix ix_tup (pv 2) pe_int (fun _ _ => rfl)) (fun _ _ => rfl)) pe_int (fun _ _ => rfl)) pa_nil)) (pv 1)) (nomark _))))))))), ?_⟩
    obtain ⟨ab, ts, rfl, hb, hts⟩ := tb.bl_inv
    obtain ⟨T1, ty, kt⟩ := hv.tuple
    have lts : ts.length = ss.length := by rw [hts.len, List.length_map]
    cases hv with
    | @tup a xs ths hs ha =>
      have lx := ha.len
      refine ⟨_, rfl, _, _, _, _, true, rfl, .ty "tuple", ty, kt, true, rfl, ?_⟩
      refine ⟨_, rfl, a, _, rfl, .inr hs, _, _, rfl, rfl, _, rfl, ?_⟩
      have bad : ¬ (1 ≤ ths.length ∧ ths.length ≤ 2) → Q (.bl false) H := fun n => by
        have q := kk H (Same.refl H)
        rw [show Th.place ss fu (.tup ths) = false by
          show placeL ss fu ths = false
          unfold placeL
          split
          · exact (n ⟨by simp, by simp⟩).elim
          · exact (n ⟨by simp, by simp⟩).elim
          · rfl] at q
        exact q
      by_cases h1 : 1 ≤ ths.length
      · refine yesI (decide_eq_true (show (1 : Int) ≤ (xs.length : Nat) by omega)) ?_
        refine ⟨_, _, rfl, rfl, _, rfl, ?_⟩
        by_cases h2 : ths.length ≤ 2
        · refine noI (by rw [decide_eq_true (show ((xs.length : Nat) : Int) ≤ 2 by omega)]; rfl) ?_
          refine ⟨_, rfl, a, rfl, ⟨_, hs⟩, fun D nD => lc_tup (K := K) (a := a) (xs := xs) (fun i H1 => Same H H1 ∧ H1 D = some (.lst (((ths.take i).map Th.number).map V.bl))) ⟨same_upd nD, upd_same⟩ (fun i H1 _ q => q.1.tup hs) (fun i v H1 hv q => ?_) fun H1 q => ?_⟩
          · obtain ⟨t, ht, hi⟩ := ha.get hv
            obtain ⟨q1, q2⟩ := q
            have li : i < xs.length := (List.getElem?_eq_some_iff.mp hv).1
            refine ⟨rfl, _, rfl, v, t, rfl, hi.same q1, _, q2, ?_, q1.put nD, ?_⟩
            · rw [List.length_map, List.length_map, List.length_take]
              exact big1 (by omega)
            · rw [upd_same, bls_next ht]
          · obtain ⟨q1, q2⟩ := q
            rw [lx, List.take_length] at q2
            refine ⟨D, _, rfl, SqL.of q2, ⟨_, rfl, ?_⟩⟩
            rw [all_map_id]
            cases e : ths.all Th.number with
            | false =>
              refine yesI rfl ?_
              have q := kk H1 q1
              rw [show Th.place ss fu (.tup ths) = false from place_num e] at q
              exact q
            | true =>
              refine noI rfl ?_
              obtain ⟨⟨k1, c1⟩, k2, j2, c2⟩ := ha.two e
              have hb1 := q1.tup hb
              refine ⟨_, rfl, o, C, dx, _, _, rfl, q1 _ _ ho, G.cl, G.nB, flds_b _ _ _, ?_⟩
              refine ⟨_, rfl, a, _, rfl, .inr (q1.tup hs), rfl, _, rfl, ?_⟩
              by_cases l1 : ths.length = 1
              · obtain ⟨rfl, rfl⟩ := c1 l1
                refine yesI (decide_eq_true rfl) ?_
                refine ⟨_, rfl, a, _, _, _, rfl, rfl, q1.tup hs, atI_nat (j := 0) rfl, _, rfl, ab, _, rfl, .inr hb1, _, rfl, _, _, rfl, rfl, _, _, rfl, rfl, ?_⟩
                have q := kk H1 q1
                rw [show Th.place ss fu (.tup [.int (k1 : Nat)]) = decide (((k1 : Nat) : Int) < (ts.length : Int) + (fu : Nat)) by
                  show (decide (0 ≤ ((k1 : Nat) : Int)) && decide (((k1 : Nat) : Int) < (ss.length : Int) + (fu : Nat))) = _
                  rw [decide_eq_true (Int.natCast_nonneg k1), Bool.true_and, lts]] at q
                exact q
              · have l2 : ths.length = 2 := by omega
                obtain ⟨rfl, rfl⟩ := c2 l2
                refine noI (decide_eq_false (by show ¬ (V.int 2 = V.int 1); decide)) ?_
                have q := kk H1 q1
                have e0 : Th.place ss fu (.tup [.int (k2 : Nat), .int (j2 : Nat)]) = (match ss[k2]? with | some (.rnd _ ds) => decide (((j2 : Nat) : Int) < (ds.length : Int) + (fu : Nat)) | _ => false) := by
                  show (decide (0 ≤ ((k2 : Nat) : Int)) && decide (0 ≤ ((j2 : Nat) : Int)) && _) = _
                  rw [decide_eq_true (Int.natCast_nonneg k2), decide_eq_true (Int.natCast_nonneg j2)]
                  rfl
                rw [e0] at q
                refine ⟨_, rfl, a, _, _, _, rfl, rfl, q1.tup hs, atI_nat (j := 0) rfl, _, rfl, ab, _, rfl, .inr hb1, _, _, rfl, rfl, _, rfl, ?_⟩
                by_cases hk : k2 < ss.length
                · refine noI (decide_eq_false (show ¬ ((ts.length : Nat) : Int) ≤ (k2 : Nat) by omega)) ?_
                  have hx : ts[k2]? = some ts[k2] := List.getElem?_eq_getElem (by omega)
                  obtain ⟨s, hsk, t3⟩ := (TpAll.keep q1.kp _ _ hts).sms hx
                  rw [hsk] at q
                  cases s with
                  | deed d =>
                    obtain ⟨b, eb, hbd⟩ := Tp.deed_inv (d := d) t3
                    obtain ⟨z, ed, ez⟩ := deV_head d
                    refine ⟨_, rfl, _, rfl, a, _, _, _, rfl, rfl, q1.tup hs, atI_nat (j := 0) rfl, ab, _, _, _, rfl, rfl, hb1, atI_nat hx, ?_⟩
                    rw [eb]
                    refine ⟨b, z, _, rfl, by rw [← ed]; exact hbd, _, rfl, ?_⟩
                    exact yesI (by rw [decide_eq_false ez]; rfl) q
                  | rnd x1 ds =>
                    obtain ⟨b, b2, ys, eb, hbd, hb2, hys⟩ := t3.rnd_inv
                    refine ⟨_, rfl, _, rfl, a, _, _, _, rfl, rfl, q1.tup hs, atI_nat (j := 0) rfl, ab, _, _, _, rfl, rfl, hb1, atI_nat hx, ?_⟩
                    rw [eb]
                    refine ⟨b, "round", _, rfl, hbd, _, rfl, ?_⟩
                    refine noI (by rw [decide_eq_true rfl]; rfl) ?_
                    refine ⟨_, rfl, a, _, _, _, rfl, rfl, q1.tup hs, atI_nat (j := 1) rfl, _, rfl, _, rfl, a, _, _, _, rfl, rfl, q1.tup hs, atI_nat (j := 0) rfl, ab, _, _, _, rfl, rfl, hb1, atI_nat hx, ?_⟩
                    rw [eb]
                    refine ⟨b, _, _, _, rfl, rfl, hbd, atI_nat (j := 2) rfl, b2, _, rfl, .inr hb2, _, rfl, _, _, rfl, rfl, _, _, rfl, rfl, ?_⟩
                    have ly : ys.length = ds.length := by rw [hys.len, List.length_map]
                    have q : Q (.bl (decide (((j2 : Nat) : Int) < (ds.length : Int) + (fu : Nat)))) H1 := q
                    rw [← ly] at q
                    exact q
                · refine yesI (decide_eq_true (show ((ts.length : Nat) : Int) ≤ (k2 : Nat) by omega)) ?_
                  rw [List.getElem?_eq_none (by omega)] at q
                  exact q
        · refine yesI (by rw [decide_eq_false (show ¬ ((xs.length : Nat) : Int) ≤ 2 by omega)]; rfl) (bad fun z => h2 z.2)
      · refine noI (decide_eq_false (show ¬ (1 : Int) ≤ (xs.length : Nat) by omega)) ?_
        exact ⟨false, rfl, bad fun z => h1 z.1⟩
    | non => exact ⟨_, rfl, _, _, _, _, false, rfl, .ty "tuple", ty, kt, false, rfl, kk H (Same.refl H)⟩
    | bl b => exact ⟨_, rfl, _, _, _, _, false, rfl, .ty "tuple", ty, kt, false, rfl, kk H (Same.refl H)⟩
    | int i => exact ⟨_, rfl, _, _, _, _, false, rfl, .ty "tuple", ty, kt, false, rfl, kk H (Same.refl H)⟩
    | str _ _ => exact ⟨_, rfl, _, _, _, _, false, rfl, .ty "tuple", ty, kt, false, rfl, kk H (Same.refl H)⟩
    | opq _ _ => exact ⟨_, rfl, _, _, _, _, false, rfl, .ty "tuple", ty, kt, false, rfl, kk H (Same.refl H)⟩
abbrev s_is_place : Stmt := topS 26
theorem sc_is_place : FnScope ["program", "thing"] ["program", "thing"] (defScope s_is_place) := ⟨rfl, rfl, rfl, by decide +kernel, rfl, by decide +kernel, by decide +kernel⟩
def spIsPlace (K : PySem.W.Frag) (C : Addr) : Sp := fun vs H Q _ => ∃ (o : Addr) (g t : List Str) (ss : List Sm) (v : V) (th : Th), vs = [.ref o, v] ∧ PgAt K C H o g t ss ∧ Is K H v th ∧ ∀ H', Same H H' → Q (.bl (th.place ss 0)) H'
theorem ok_is_place {f C : Addr} {fd : FuncData} (F : Fun K "is_place" "is_place" s_is_place f fd) (D_is_place_before : Has P w K mg base "_is_place_before" 3 ["program", "further", "thing"] (spPlaceB K C)) : FnOk P w K mg base CX0 4 f fd ["program", "thing"] (spIsPlace K C) := by
  refine F.ok sc_is_place (fun vs H Q E h => ?_) (fun cdv A outer s₀ H vs Q E hr h => ?_)
  · obtain ⟨o, g, t, ss, v, th, rfl, _⟩ := h
    rfl
  · obtain ⟨o, g, t, ss, v, th, rfl, hp, hv, kk⟩ := h
    refine ⟨_, (pss_one (ps_ret (D_is_place_before.call (hr.mono (by decide)) (by rfl) (pa_cons (pv 0) (pa_cons pe_int (pa_cons (pv 1) pa_nil)))))), ?_⟩
    exact ⟨_, rfl, _, rfl, o, g, t, ss, 0, v, th, rfl, hp, hv, fun H' s => kk H' s⟩
end
end Y

namespace Y
open PySem PySem.Spec PyProof.Rows L2
/-- data of at most this depth, texts, numbers, flags and None in it -/
def dpt : Nat → PyData → Bool
  | _, .none => true
  | _, .bool _ => true
  | _, .int _ => true
  | _, .str _ => true
  | n + 1, .tuple ds => decide (ds.length ≤ 100000) && ds.all (dpt n)
  | n + 1, .list ds => decide (ds.length ≤ 100000) && ds.all (dpt n)
  | _, _ => false
theorem _root_.L2.Same.kpL {K : PySem.W.Frag} {H H' : Hp} (s : Same H H') : ∀ a xs, SqL K H a xs → SqL K H' a xs := fun a xs h => by
  rcases h with (h | ⟨o, h⟩) | h
  · exact .inl (.inl (s _ _ h))
  · exact .inl (.inr ⟨o, s _ _ h⟩)
  · exact .inr h
section
variable {K : PySem.W.Frag} {H H' : Hp}
mutual
theorem Dp.same (s : Same H H') : ∀ (d : PyData) (v : V), Dp K H v d → Dp K H' v d
  | .none, _, h => by cases h; exact .non
  | .bool b, _, h => by cases h; exact .bl b
  | .int i, _, h => by cases h; exact .int i
  | .str x, _, h => by cases h; exact .str x
  | .dict _, _, h => by cases h
  | .list ds, _, h => by
    cases h with
    | lst hs ha => exact .lst (s.kpL _ _ hs) (DpAll.same s ds _ ha)
  | .tuple ds, _, h => by
    cases h with
    | tup hs ha => exact .tup (s.kp _ _ hs) (DpAll.same s ds _ ha)
theorem DpAll.same (s : Same H H') : ∀ (ds : List PyData) (vs : List V), DpAll K H vs ds → DpAll K H' vs ds
  | [], _, h => by cases h; exact .nil
  | d :: ds, _, h => by
    cases h with
    | cons h1 h2 => exact .cons (Dp.same s d _ h1) (DpAll.same s ds _ h2)
end
theorem DpAll.len : ∀ {vs : List V} {ds : List PyData}, DpAll K H vs ds → vs.length = ds.length
  | _, _, .nil => rfl
  | _, _, .cons _ t => by rw [List.length_cons, List.length_cons, DpAll.len t]
theorem DpAll.at_ : ∀ {vs : List V} {ds : List PyData} {i : Nat} {d : PyData}, DpAll K H vs ds → ds[i]? = some d → ∃ v, vs[i]? = some v ∧ Dp K H v d
  | _, _, _, _, .nil, h => by simp at h
  | _, _, 0, _, .cons f _, h => by
    have e := Option.some.inj h
    subst e
    exact ⟨_, rfl, f⟩
  | _, _, i + 1, _, .cons _ t, h => DpAll.at_ (i := i) t h
theorem listTy {a : Addr} {xs : List V} (h : SqL K H a xs) : TyX K H (.ref a) (.type "list") := by
  rcases h with (h | ⟨o, h⟩) | h
  · exact .base (.lst h)
  · exact .base (.frz h)
  · obtain ⟨o, e, c⟩ : ∃ o, K.lookup a = some o ∧ o.cls = .type "list" := by
      obtain ⟨o, _, _, h1, h2, _⟩ := h
      exact ⟨o, h1, h2⟩
    exact .kList e c
theorem kit_tl {t : String} {b1 b2 r : Bool} (h1 : kitB t "tuple" = some b1) (h2 : kitB t "list" = some b2) (e : r = (b1 || b2)) : PySem.W.kitAny K (.type t) [.type "tuple", .type "list"] = some r := by
  subst e
  refine kitAny_cons (kit_ty h1) (fun z => ?_) (fun z => by rw [z]; rfl)
  subst z
  refine kitAny_cons (kit_ty h2) (fun z => ?_) (fun z => by rw [z]; rfl)
  subst z
  exact kitAny_nil
theorem tl_pair : Paired ClsV [V.ty "tuple", V.ty "list"] [Value.type "tuple", Value.type "list"] := .cons (.ty _) (.cons (.ty _) .nil)
end
def tru (n : Nat) : List Bool := List.replicate n true
theorem tru_all (n : Nat) : (tru n).all id = true := by
  unfold tru
  rw [List.all_eq_true]
  intro b hb
  rw [List.eq_of_mem_replicate hb]
  rfl
theorem tru_next (n : Nat) : (tru n).map V.bl ++ [V.bl true] = (tru (n + 1)).map V.bl := by
  unfold tru
  rw [List.replicate_succ', List.map_append]
  rfl
theorem tru_len (n : Nat) : ((tru n).map V.bl).length = n := by
  unfold tru
  rw [List.length_map, List.length_replicate]
section
variable {P : Program} {w : World} {K : PySem.W.Frag} {mg : Str → Option Value} {base : Heap}
abbrev s_l_is : Stmt := topS 35
theorem sc_l_is : FnScope ["_law_told", "_law_due", "_law_k", "_law_key"] ["_law_told", "_law_due"] (defScope s_l_is) := ⟨rfl, rfl, rfl, by decide +kernel, rfl, by decide +kernel, by decide +kernel⟩
def spIs (K : PySem.W.Frag) (n : Nat) : Sp := fun vs H Q _ => ∃ (v u : V) (d : PyData), vs = [v, u] ∧ Dp K H v d ∧ Dp K H u d ∧ dpt n d = true ∧ ∀ H', Same H H' → Q (.bl true) H'
theorem lawis0 {f : Addr} {fd : FuncData} (F : Fun K "_law_is" "_law_is" s_l_is f fd) : FnOk P w K mg base CX0 1 f fd ["_law_told", "_law_due"] (fun _ _ _ _ => False) := by
  refine F.ok sc_l_is (fun vs H Q E h => h.elim) (fun cdv A outer s₀ H vs Q E hr h => h.elim)
theorem lawis_step {f : Addr} {fd : FuncData} (F : Fun K "_law_is" "_law_is" s_l_is f fd) (T : Bi mg) {k m : Nat} {sp : Sp} (D_l_is : Has P w K mg base "_law_is" k ["_law_told", "_law_due"] sp)
    (hsp : (m = 0) ∨ ∃ n, m = n + 1 ∧ sp = spIs K n) : FnOk P w K mg base CX0 (k + 1) f fd ["_law_told", "_law_due"] (spIs K m) := by
  refine F.ok sc_l_is (fun vs H Q E h => ?_) (fun cdv A outer s₀ H vs Q E hr h => ?_)
  · obtain ⟨v, u, d, rfl, _⟩ := h
    rfl
  · obtain ⟨v, u, d, rfl, hv, hu, hd, kk⟩ := h
    refine ⟨_, (pss_cons (ps_if (pt_val (pe_callB (id := "isinstance") (r := rIsiT K) call_isiT (by rfl) T.isinstance (by decide +kernel) (pa_cons (pv 1) (pa_cons (pe_tup (pa_cons (pe_bltn (v := .ty "tuple") (by rfl) T.tuple_ (by decide +kernel) rfl) (pa_cons (pe_bltn (v := .ty "list") (by rfl) T.list_ (by decide +kernel) rfl) pa_nil))) pa_nil))))
  (pss_cons (ps_if ((pw_or (pt_cmpR op_ne (pe_callB (id := "isinstance") (r := rIsi K) call_isi (by rfl) T.isinstance (by decide +kernel) (pa_cons (pv 0) (pa_cons (pe_bltn (v := .ty "tuple") (by rfl) T.tuple_ (by decide +kernel) rfl) pa_nil))) (pe_callB (id := "isinstance") (r := rIsi K) call_isi (by rfl) T.isinstance (by decide +kernel) (pa_cons (pv 1) (pa_cons (pe_bltn (v := .ty "tuple") (by rfl) T.tuple_ (by decide +kernel) rfl) pa_nil))) (nomark _)) (pw_or1 (pt_cmpR op_ne (pe_callB (id := "isinstance") (r := rIsi K) call_isi (by rfl) T.isinstance (by decide +kernel) (pa_cons (pv 0) (pa_cons (pe_bltn (v := .ty "list") (by rfl) T.list_ (by decide +kernel) rfl) pa_nil))) (pe_callB (id := "isinstance") (r := rIsi K) call_isi (by rfl) T.isinstance (by decide +kernel) (pa_cons (pv 1) (pa_cons (pe_bltn (v := .ty "list") (by rfl) T.list_ (by decide +kernel) rfl) pa_nil))) (nomark _))))).pt
  (pss_one (ps_ret pe_bl))
  pss_nil)
 (pss_one (ps_ret (pe_and (pe_cmpR op_eq (pe_callB call_len_seq (by rfl) T.len PySem.boot_len (pa_cons (pv 0) pa_nil)) (pe_callB call_len_seq (by rfl) T.len PySem.boot_len (pa_cons (pv 1) pa_nil)) (nomark _)) (pe_one (pe_callB (id := "all") (r := rAll K) (cr_all (by rfl)) (by rfl) T.all (by decide +kernel) (pa_cons (pe_lc (own := [("_law_k", 2)]) (g := gName 2) (tt := tYes) (by rfl) sc_l_is.nd (pi_range1 (by rfl) T.range (pa_cons (pe_callB call_len_seq (by rfl) T.len PySem.boot_len (pa_cons (pv 1) pa_nil)) pa_nil)) (blkOk_by (N := ["_law_told", "_law_due", "_law_k", "_law_key"]) (sc := defScope s_l_is) (by decide +kernel)) (fun _ _ _ _ _ => pg_name (i := 2) sc_l_is.nd rfl (.inl rfl)) (fun _ _ _ _ _ => pts_nil) (fun _ _ _ _ _ => (D_l_is.call (hr.mono (Nat.le_refl _)) (by rfl) (pa_cons (pe_ix (show IxR _ (rIx K) from ix_seq) (pv 0) (pv 2) (fun _ _ => rfl)) (pa_cons (pe_ix (show IxR _ (rIx K) from ix_seq) (pv 1) (pv 2) (fun _ _ => rfl)) pa_nil))))) pa_nil)))))))
  pss_nil)
 (pss_cons (ps_if (pt_val (pe_callB (id := "isinstance") (r := rIsi K) call_isi (by rfl) T.isinstance (by decide +kernel) (pa_cons (pv 1) (pa_cons (pe_bltn (v := .ty "dict") (by rfl) T.dict_ (by decide +kernel) rfl) pa_nil))))
  (pss_one (ps_ret (pe_and (pe_callB (id := "isinstance") (r := rIsi K) call_isi (by rfl) T.isinstance (by decide +kernel) (pa_cons (pv 0) (pa_cons (pe_bltn (v := .ty "dict") (by rfl) T.dict_ (by decide +kernel) rfl) pa_nil))) (pe_and (pe_cmpR op_eq (pv 0) (pv 1) (nomark _)) (pe_one (pe_callB (id := "all") (r := rAll K) (cr_all (by rfl)) (by rfl) T.all (by decide +kernel) (pa_cons (pe_lc (own := [("_law_key", 3)]) (g := gName 3) (tt := tYes) (by rfl) sc_l_is.nd (pi_tup (pv 1)) (blkOk_by (N := ["_law_told", "_law_due", "_law_k", "_law_key"]) (sc := defScope s_l_is) (by decide +kernel)) (fun _ _ _ _ _ => pg_name (i := 3) sc_l_is.nd rfl (.inl rfl)) (fun _ _ _ _ _ => pts_nil) (fun _ _ _ _ _ => (D_l_is.call (hr.mono (Nat.le_refl _)) (by rfl) (pa_cons (pe_ix (show IxR _ (rIx K) from ix_seq) (pv 0) (pv 3) (fun _ _ => rfl)) (pa_cons (pe_ix (show IxR _ (rIx K) from ix_seq) (pv 1) (pv 3) (fun _ _ => rfl)) pa_nil))))) pa_nil)))))))
  pss_nil)
 (pss_one (ps_ret (pe_and (pe_cmpR op_eq (pe_callB (id := "isinstance") (r := rIsi K) call_isi (by rfl) T.isinstance (by decide +kernel) (pa_cons (pv 0) (pa_cons (pe_bltn (v := .ty "bool") (by rfl) T.bool_ (by decide +kernel) rfl) pa_nil))) (pe_callB (id := "isinstance") (r := rIsi K) call_isi (by rfl) T.isinstance (by decide +kernel) (pa_cons (pv 1) (pa_cons (pe_bltn (v := .ty "bool") (by rfl) T.bool_ (by decide +kernel) rfl) pa_nil))) (nomark _)) (pe_one (pe_cmpR op_eq (pv 0) (pv 1) (nomark _)))))))), ?_⟩
    cases hd2 : d with
    | none =>
      subst hd2
      cases hv
      cases hu
      refine ⟨_, rfl, (by show 2 ≤ sizeLine; decide), fun tp ntp => ⟨_, _, _, _, _, false, rfl, upd_same, tl_pair, .base .non, kit_tl (b1 := false) (b2 := false) (by decide +kernel) (by decide +kernel) rfl, false, rfl, ?_⟩⟩
      refine ⟨_, rfl, _, _, _, _, false, rfl, .ty "dict", .base .non, kit_ty (by decide +kernel), false, rfl, ?_⟩
      refine ⟨_, rfl, _, _, _, _, false, rfl, .ty "bool", .base .non, kit_ty (by decide +kernel), _, rfl, _, _, _, _, false, rfl, .ty "bool", .base .non, kit_ty (by decide +kernel), rfl, true, rfl, ?_⟩
      refine ⟨_, rfl, _, rfl, rfl, ?_⟩
      rw [decide_eq_true rfl]
      exact kk _ (same_upd ntp)
    | bool b =>
      subst hd2
      cases hv
      cases hu
      refine ⟨_, rfl, (by show 2 ≤ sizeLine; decide), fun tp ntp => ⟨_, _, _, _, _, false, rfl, upd_same, tl_pair, .base (.bl b), kit_tl (b1 := false) (b2 := false) (by decide +kernel) (by decide +kernel) rfl, false, rfl, ?_⟩⟩
      refine ⟨_, rfl, _, _, _, _, false, rfl, .ty "dict", .base (.bl b), kit_ty (by decide +kernel), false, rfl, ?_⟩
      refine ⟨_, rfl, _, _, _, _, true, rfl, .ty "bool", .base (.bl b), kit_ty (by decide +kernel), _, rfl, _, _, _, _, true, rfl, .ty "bool", .base (.bl b), kit_ty (by decide +kernel), rfl, true, rfl, ?_⟩
      refine ⟨_, rfl, _, rfl, rfl, ?_⟩
      rw [decide_eq_true rfl]
      exact kk _ (same_upd ntp)
    | int i =>
      subst hd2
      cases hv
      cases hu
      refine ⟨_, rfl, (by show 2 ≤ sizeLine; decide), fun tp ntp => ⟨_, _, _, _, _, false, rfl, upd_same, tl_pair, .base (.int i), kit_tl (b1 := false) (b2 := false) (by decide +kernel) (by decide +kernel) rfl, false, rfl, ?_⟩⟩
      refine ⟨_, rfl, _, _, _, _, false, rfl, .ty "dict", .base (.int i), kit_ty (by decide +kernel), false, rfl, ?_⟩
      refine ⟨_, rfl, _, _, _, _, false, rfl, .ty "bool", .base (.int i), kit_ty (by decide +kernel), _, rfl, _, _, _, _, false, rfl, .ty "bool", .base (.int i), kit_ty (by decide +kernel), rfl, true, rfl, ?_⟩
      refine ⟨_, rfl, _, rfl, rfl, ?_⟩
      rw [decide_eq_true rfl]
      exact kk _ (same_upd ntp)
    | str x =>
      subst hd2
      cases hv
      cases hu
      refine ⟨_, rfl, (by show 2 ≤ sizeLine; decide), fun tp ntp => ⟨_, _, _, _, _, false, rfl, upd_same, tl_pair, .base (.str x), kit_tl (b1 := false) (b2 := false) (by decide +kernel) (by decide +kernel) rfl, false, rfl, ?_⟩⟩
      refine ⟨_, rfl, _, _, _, _, false, rfl, .ty "dict", .base (.str x), kit_ty (by decide +kernel), false, rfl, ?_⟩
      refine ⟨_, rfl, _, _, _, _, false, rfl, .ty "bool", .base (.str x), kit_ty (by decide +kernel), _, rfl, _, _, _, _, false, rfl, .ty "bool", .base (.str x), kit_ty (by decide +kernel), rfl, true, rfl, ?_⟩
      refine ⟨_, rfl, _, rfl, rfl, ?_⟩
      rw [decide_eq_true rfl]
      exact kk _ (same_upd ntp)
    | list ds =>
      subst hd2
      cases hv with
      | lst hs ha =>
        rename_i a xs
        cases hu with
        | lst hs2 ha2 =>
          rename_i b ys
          cases m with
          | zero => cases hd
          | succ n =>
            have hd : (decide (ds.length ≤ 100000) && ds.all (dpt n)) = true := hd
            rw [Bool.and_eq_true, List.all_eq_true] at hd
            have ld := of_decide_eq_true hd.1
            rcases hsp with z | ⟨n', en, rfl⟩
            · cases z
            have en : n = n' := by omega
            subst en
            refine ⟨_, rfl, (by show 2 ≤ sizeLine; decide), fun tp ntp => ?_⟩
            have s1 := same_upd (o := .tup [V.ty "tuple", V.ty "list"]) ntp
            have g1 := s1.kpL _ _ hs
            have g2 := s1.kpL _ _ hs2
            have a1 := DpAll.same s1 _ _ ha
            have a2 := DpAll.same s1 _ _ ha2
            refine ⟨_, _, _, _, _, true, rfl, upd_same, tl_pair, listTy g2, kit_tl (b1 := false) (b2 := true) (by decide +kernel) (by decide +kernel) rfl, true, rfl, ?_⟩
            generalize upd H tp (.tup [V.ty "tuple", V.ty "list"]) = H1 at s1 g1 g2 a1 a2
            refine ⟨_, rfl, _, _, _, _, false, rfl, .ty "tuple", listTy g1, kit_ty (by decide +kernel), _, rfl, _, _, _, _, false, rfl, .ty "tuple", listTy g2, kit_ty (by decide +kernel), rfl, _, rfl, ?_⟩
            refine noI (by rw [decide_eq_true rfl]; rfl) ?_
            refine ⟨_, rfl, _, _, _, _, true, rfl, .ty "list", listTy g1, kit_ty (by decide +kernel), _, rfl, _, _, _, _, true, rfl, .ty "list", listTy g2, kit_ty (by decide +kernel), rfl, _, rfl, ?_⟩
            refine noI (by rw [decide_eq_true rfl]; rfl) ?_
            have l1 := DpAll.len a1
            have l2 := DpAll.len a2
            refine ⟨_, rfl, a, _, rfl, .inl g1, _, rfl, b, _, rfl, .inl g2, rfl, _, rfl, ?_⟩
            refine yesI (by rw [l1, l2]; exact decide_eq_true rfl) ?_
            refine ⟨_, rfl, b, _, rfl, .inl g2, _, rfl, by omega, by omega, fun D nD => ?_⟩
            refine lc_range (lo := 0) (n := ((ys.length : Nat) : Int).toNat) (fun i H2 => Same H1 H2 ∧ H2 D = some (.lst ((tru i).map V.bl))) ⟨same_upd nD, upd_same⟩ (fun i H2 hi q => ?_) fun H2 q => ?_
            · obtain ⟨q1, q2⟩ := q
              have hi' : i < ds.length := by omega
              have hdi : ds[i]? = some ds[i] := List.getElem?_eq_getElem hi'
              obtain ⟨v, hv, dv⟩ := DpAll.at_ (DpAll.same q1 _ _ a1) hdi
              obtain ⟨u, hu, du⟩ := DpAll.at_ (DpAll.same q1 _ _ a2) hdi
              refine ⟨rfl, _, rfl, _, rfl, .inl ⟨a, xs, _, _, rfl, rfl, q1.kpL _ _ g1, at_of (Int.zero_add _) hv, _, rfl, _, rfl, .inl ⟨b, ys, _, _, rfl, rfl, q1.kpL _ _ g2, at_of (Int.zero_add _) hu, v, u, ds[i], rfl, dv, du, hd.2 _ (List.getElem_mem hi'), fun H3 s3 => ?_⟩⟩⟩
              refine ⟨_, s3 _ _ q2, by rw [tru_len]; exact big1 (by omega), (q1.trans s3).put nD, ?_⟩
              rw [upd_same, tru_next]
            · obtain ⟨q1, q2⟩ := q
              refine ⟨D, _, rfl, SqL.of q2, ?_⟩
              rw [tru_all]
              exact kk H2 (s1.trans q1)
    | tuple ds =>
      subst hd2
      cases hv with
      | tup hs ha =>
        rename_i a xs
        cases hu with
        | tup hs2 ha2 =>
          rename_i b ys
          cases m with
          | zero => cases hd
          | succ n =>
            have hd : (decide (ds.length ≤ 100000) && ds.all (dpt n)) = true := hd
            rw [Bool.and_eq_true, List.all_eq_true] at hd
            have ld := of_decide_eq_true hd.1
            rcases hsp with z | ⟨n', en, rfl⟩
            · cases z
            have en : n = n' := by omega
            subst en
            refine ⟨_, rfl, (by show 2 ≤ sizeLine; decide), fun tp ntp => ?_⟩
            have s1 := same_upd (o := .tup [V.ty "tuple", V.ty "list"]) ntp
            have g1 := s1.kp _ _ hs
            have g2 := s1.kp _ _ hs2
            have a1 := DpAll.same s1 _ _ ha
            have a2 := DpAll.same s1 _ _ ha2
            refine ⟨_, _, _, _, _, true, rfl, upd_same, tl_pair, tupTy g2, kit_tl (b1 := true) (b2 := false) (by decide +kernel) (by decide +kernel) rfl, true, rfl, ?_⟩
            generalize upd H tp (.tup [V.ty "tuple", V.ty "list"]) = H1 at s1 g1 g2 a1 a2
            refine ⟨_, rfl, _, _, _, _, true, rfl, .ty "tuple", tupTy g1, kit_ty (by decide +kernel), _, rfl, _, _, _, _, true, rfl, .ty "tuple", tupTy g2, kit_ty (by decide +kernel), rfl, _, rfl, ?_⟩
            refine noI (by rw [decide_eq_true rfl]; rfl) ?_
            refine ⟨_, rfl, _, _, _, _, false, rfl, .ty "list", tupTy g1, kit_ty (by decide +kernel), _, rfl, _, _, _, _, false, rfl, .ty "list", tupTy g2, kit_ty (by decide +kernel), rfl, _, rfl, ?_⟩
            refine noI (by rw [decide_eq_true rfl]; rfl) ?_
            have l1 := DpAll.len a1
            have l2 := DpAll.len a2
            refine ⟨_, rfl, a, _, rfl, .inr g1, _, rfl, b, _, rfl, .inr g2, rfl, _, rfl, ?_⟩
            refine yesI (by rw [l1, l2]; exact decide_eq_true rfl) ?_
            refine ⟨_, rfl, b, _, rfl, .inr g2, _, rfl, by omega, by omega, fun D nD => ?_⟩
            refine lc_range (lo := 0) (n := ((ys.length : Nat) : Int).toNat) (fun i H2 => Same H1 H2 ∧ H2 D = some (.lst ((tru i).map V.bl))) ⟨same_upd nD, upd_same⟩ (fun i H2 hi q => ?_) fun H2 q => ?_
            · obtain ⟨q1, q2⟩ := q
              have hi' : i < ds.length := by omega
              have hdi : ds[i]? = some ds[i] := List.getElem?_eq_getElem hi'
              obtain ⟨v, hv, dv⟩ := DpAll.at_ (DpAll.same q1 _ _ a1) hdi
              obtain ⟨u, hu, du⟩ := DpAll.at_ (DpAll.same q1 _ _ a2) hdi
              refine ⟨rfl, _, rfl, _, rfl, .inr (.inl ⟨a, xs, _, _, rfl, rfl, q1.kp _ _ g1, at_of (Int.zero_add _) hv, _, rfl, _, rfl, .inr (.inl ⟨b, ys, _, _, rfl, rfl, q1.kp _ _ g2, at_of (Int.zero_add _) hu, v, u, ds[i], rfl, dv, du, hd.2 _ (List.getElem_mem hi'), fun H3 s3 => ?_⟩)⟩)⟩
              refine ⟨_, s3 _ _ q2, by rw [tru_len]; exact big1 (by omega), (q1.trans s3).put nD, ?_⟩
              rw [upd_same, tru_next]
            · obtain ⟨q1, q2⟩ := q
              refine ⟨D, _, rfl, SqL.of q2, ?_⟩
              rw [tru_all]
              exact kk H2 (s1.trans q1)
    | dict _ =>
      subst hd2
      cases hv
theorem ok_lawis {f : Addr} {fd : FuncData} (F : Fun K "_law_is" "_law_is" s_l_is f fd) (T : Bi mg) (hm : mg "_law_is" = some (.ref f)) (hb : Binds K fd ["_law_told", "_law_due"] []) (hk : PySem.W.keepIn K (.ref f) = true) :
    ∀ n, FnOk P w K mg base CX0 (n + 2) f fd ["_law_told", "_law_due"] (spIs K n)
  | 0 => by
    have F0 : FnOk P w K mg base CX0 1 f fd ["_law_told", "_law_due"] (fun _ _ _ _ => False) := lawis0 F
    exact lawis_step F T (.mk' hm F0 hb hk) (.inl rfl)
  | n + 1 => lawis_step F T (.mk' hm (ok_lawis F T hm hb hk n) hb hk) (.inr ⟨n, rfl, rfl⟩)
end
end Y

/-! == and != by the own __eq__ of a class, whatever stands on the right -/
namespace Y
open PySem PySem.Spec PyProof.Rows L2
/-- a type behind which the class at C is not -/
structure NotSub (K : PySem.W.Frag) (C : Addr) (T : Value) : Prop where
  nf : PySem.W.notFirst K C T = true
theorem notFirst_own {K : PySem.W.Frag} {C : Addr} : PySem.W.notFirst K C (.ref C) = true := by
  unfold PySem.W.notFirst
  rw [Bool.or_eq_true]
  exact .inl (beq_self_eq_true _)
theorem notFirst_ty {K : PySem.W.Frag} {C : Addr} {t : String} {l : List Value} (e : fastBuiltinMro t = some l) (n : l.contains (.ref C) = false) : PySem.W.notFirst K C (.type t) = true := by
  unfold PySem.W.notFirst
  rw [Bool.or_eq_true]
  refine .inr ?_
  have q : PySem.W.subIn K (.type t) (.ref C) = some false := by
    show (fastBuiltinMro t).map (·.contains (.ref C)) = some false
    rw [e]
    show some (l.contains (.ref C)) = some false
    rw [n]
  rw [q]
  rfl
section
variable {X : Cx} {C f : Addr} {fd : FuncData} {ps : List Str} {sp : Sp} {n : Nat}
theorem own_call (F : FnOk X.prog X.w X.K X.mg X.base CX0 n f fd ps sp) (hb : Binds X.K fd ps []) {A : Around} (sb : Sub X n A) {pins : List (Addr × Obj)} {σ : L2.St} {H : Hp} {s : Shared} (I : Inv X pins σ H s) {a : Addr} {y : V} {u : Value} (ry : RelV y u) {G : Bool → Hp → Prop} {Q : Value → Shared → Prop}
    (h : sp [.ref a, y] H (fun v H' => ∃ b, v = .bl b ∧ G b H') E0) (k : ∀ b s' H', Inv X pins σ H' s' → G b H' → Q (.bool b) s') : wpAny (model X.prog X.w) A (call (.ref f) [.ref a, u]) Q X.xe s := by
  have e0 : Env0 X.prog X.w X.K X.mg X.base A X.stack s H := by
    have e := I.env0
    exact ⟨by rw [sb.fr]; exact e.frames, e.mod, e.bs, e.bsz, e.funs, e.frf, e.hok, e.bare⟩
  have hl := F.len _ _ _ _ h
  have r2 : Vals [V.ref a, y] [Value.ref a, u] := .cons rfl (.cons ry .nil)
  refine wpAny_call (codeAny_mono (F.run A X.stack s H ⟨[.ref a, u], []⟩ [.ref a, u] [.ref a, y] _ E0 sb.room e0 (by
    have := hb s [.ref a, u] I.kIn (by simpa using hl)
    simpa using this) r2 h) fun r s' hq => ?_)
  cases r with
  | error e => exact pass0 pins σ H s e s' I hq
  | ok fl =>
    cases fl with
    | ret w =>
      obtain ⟨z, H', I', rz, b, ez, g⟩ := I.after hq
      subst ez
      cases rz
      exact k b s' H' I' g
    | next => exact False.elim hq
    | brk => exact False.elim hq
    | cont => exact False.elim hq
/-- what is asked of the two: an instance, and anything of a type that is not behind its class -/
def rOwn2 (K : PySem.W.Frag) (C : Addr) (sp : Sp) (neg : Bool) : R2 := fun x y H Q => ∃ (a dx : Addr) (fs : List (Str × V)) (T : Value), x = .ref a ∧ H a = some (.ins C dx fs) ∧ TyX K H y T ∧ PySem.W.notFirst K C T = true ∧
  sp [.ref a, y] H (fun v H' => ∃ b, v = .bl b ∧ Q (.bl (if neg then !b else b)) H') E0
theorem op_eqOwn (F : FnOk X.prog X.w X.K X.mg X.base CX0 n f fd ps sp) (hr : Room n X.A) (hb : Binds X.K fd ps []) (hs : PySem.W.findIn X.K (.ref C) "__eq__" = some (some (.ref f))) (hf : PySem.W.isFn X.K (.ref f) = true) : OpR X (compareOp .Eq) (rOwn2 X.K C sp false) := by
  intro pins s σ H x y v u Q I rx ry h
  obtain ⟨a, dx, fs, T, rfl, ha, ty, nf, q⟩ := h
  cases rx
  obtain ⟨mA, J, _⟩ := ins_get I.hok ha
  obtain ⟨od, J, _⟩ := J.look
  obtain ⟨m, hF⟩ := I.fr
  obtain ⟨P, Z, p, hx⟩ := kit_of I ry ty
  show wpAny (model X.prog X.w) X.A (richCompare .Eq (.ref a) u) (EP X pins σ Q) X.xe s
  have sb : Sub X n X.A := ⟨hr, rfl⟩
  refine PySem.W.cmp_K (op := .Eq) (tb := T) sb.room.units0 hF I.ok.mod.kin J (Z.ty _ _ I.kIn p) nf hs hf ?_
  refine own_call F hb sb I ry (G := fun b H' => Q (.bl b) H') q fun b s' H' I' g => ?_
  exact ⟨.bl b, H', I', rfl, g⟩
/-- the look-up of object.__ne__ at an instance -/
theorem ifBound_objNe {M : Model} {A : Around} {E : Value → Shared → Prop} {s : Shared} {K : PySem.W.Frag} {x C : Addr} {ox : Obj} {od : Option Obj} {args : List Value} {Q : Option Value → Shared → Prop} (X : K.In s.heap) (I : PySem.W.InstAt s.heap x ox C od) (hs : PySem.W.findIn K (.ref C) "__ne__" = some (some (.builtin "object.__ne__")))
    (h : wpAny M A (call (.builtin "object.__ne__") (.ref x :: args)) (fun v => Q (some v)) E s) : wpAny M A (callSpecialIfBound? (.ref x) "__ne__" args) Q E s := by
  simp only [callSpecialIfBound?, bindSpecialIfBound?]
  refine wpAny_holding (wpAny_bind (wpAny_bind (wpAny_bind (I.type.here ((PySem.W.looks_findIn X hs).here ?_)))))
  refine wpAny_bind (wpAny_askSetting (wpAny_ite ?_))
  have fin : wpAny M A (call (.builtin "object.__ne__") ([.ref x] ++ args) >>= fun v => pure (some v)) Q E s := wpAny_bind (wpAny_mono h (fun v s' h' => wpAny_pure h') fun _ _ h' => h')
  split
  · exact wpAny_bind (wpAny_of_eq (F.cmp_object.ne.bind _) (wpAny_pure (by exact fin)))
  · exact wpAny_tryCatch (wpAny_bind (wpAny_of_eq (F.cmp_object.ne.bind _) (wpAny_pure (by exact fin))))
theorem objNe_entry {A : Around} {E : Value → Shared → Prop} {s : Shared} {K : PySem.W.Frag} {x C f : Addr} {u : Value} {ox : Obj} {od : Option Obj} {prog : Program} {w : World} (X : K.In s.heap) (I : PySem.W.InstAt s.heap x ox C od) (hs : PySem.W.findIn K (.ref C) "__eq__" = some (some (.ref f))) (hf : PySem.W.isFn K (.ref f) = true) (hu : A.units < cLine) {Q : Fin → Shared → Prop}
    (hcall : wpAny (model prog w) A (call (.ref f) [.ref x, u]) (fun v s' => ∃ b, v = .bool b ∧ Q (.done (.ret (.bool (!b)))) s') E s) :
    wpAny (model prog w) A (Builtin.«object.__ne__» ⟨[.ref x, u], []⟩) Q E s := by
  unfold Builtin.«object.__ne__»
  repeat (first
    | with_reducible refine wpAny_cRoomFor hu ?_
    | (refine wpAny_bind (m := callSpecialIfBound? (.ref x) (Str.ofString "__eq__") [u])
        (PySem.W.ifBound_K X I hs hf (wpAny_mono hcall (fun r s' hr => by
          obtain ⟨b, rfl, hq⟩ := hr
          repeat (first | exact hq | exact wpAny_pure hq | exact wpAny_truthy_bool hq | (refine wpAny_bind (m := truthy (.bool _)) (wpAny_truthy_bool ?_)) | wp_step)) fun _ _ e => e)))
    | wp_step)
theorem cmp_ne {A : Around} {E : Value → Shared → Prop} {s : Shared} {K : PySem.W.Frag} {x C f L : Addr} {u tb : Value} {ox : Obj} {od : Option Obj} {prog : Program} {w : World} {h₀ : Heap} {m : Str → Option Value} {Q : Value → Shared → Prop} (hu : A.in1.units < cLine) (hu0 : A.units < cLine) (F0 : Fr h₀ L s.heap m) (X₀ : K.In h₀) (I : PySem.W.InstAt s.heap x ox C od)
    (hb : PySem.W.Looks (model prog w) s.heap (typeOf u) tb) (hn : PySem.W.notFirst K C tb = true) (hne : PySem.W.findIn K (.ref C) "__ne__" = some (some (.builtin "object.__ne__"))) (hm : PySem.W.mroIn K C (.type "object") = some true) (hs : PySem.W.findIn K (.ref C) "__eq__" = some (some (.ref f))) (hf : PySem.W.isFn K (.ref f) = true)
    (h : wpAny (model prog w) A.in1 (call (.ref f) [.ref x, u]) (fun v s' => ∃ b, v = .bool b ∧ Q (.bool (!b)) s') E s) : wpAny (model prog w) A (richCompare .NotEq (.ref x) u) Q E s := by
  have X := X₀.keeps F0.keep
  have one : wpAny (model prog w) A (tryCompare (.ref x) "__ne__" u) (fun r s' => ∃ v, r = some v ∧ Q v s') E s := by
    unfold tryCompare
    refine wpAny_bind (ifBound_objNe X I hne (wpAny_call (codeAny_call_builtin F.cmp_object.ne.plain F.cmpEntry_ne (PySem.W.check_slot F.cmpKind_ne F.cmpSplit_ne (I.type.andThen (PySem.W.looks_mroIn X hm)) (F.cmpArgs_ne _ _) (objNe_entry (A := A.in1) X I hs hf hu (wpAny_mono h (fun v s' hv => ?_) fun _ _ e => e))))))
    obtain ⟨b, rfl, hq⟩ := hv
    first | exact ⟨b, rfl, wpAny_pure ⟨_, rfl, hq⟩⟩ | exact ⟨b, rfl, ⟨_, rfl, hq⟩⟩ | exact ⟨b, rfl, wpAny_pure (wpAny_pure ⟨_, rfl, hq⟩)⟩
  unfold richCompare
  simp only [oneThing_ref]
  refine wpAny_holding (wpAny_bind (wpAny_cRoomFor hu0 ?_))
  rw [cmpInfo_NotEq]
  dsimp only
  refine wpAny_bind (I.type.here (wpAny_bind (hb.here ?_)))
  split
  · rename_i q
    have e : PySem.W.subIn K tb (.ref C) = some false := by
      rcases Bool.or_eq_true_iff.mp hn with e | e
      · rw [beq_iff_eq.mp e] at q; simp at q
      · exact beq_iff_eq.mp e
    refine wpAny_bind ((PySem.W.looks_subIn X e).here ?_)
    simp only [Bool.false_eq_true, if_false]
    refine wpAny_bind (wpAny_mono one (fun r s' z => ?_) fun _ _ e => e)
    obtain ⟨v, rfl, hq⟩ := z
    exact wpAny_pure hq
  · refine wpAny_bind (wpAny_pure ?_)
    simp only [Bool.false_eq_true, if_false]
    refine wpAny_bind (wpAny_mono one (fun r s' z => ?_) fun _ _ e => e)
    obtain ⟨v, rfl, hq⟩ := z
    exact wpAny_pure hq
theorem op_neOwn (F : FnOk X.prog X.w X.K X.mg X.base CX0 n f fd ps sp) (hr : Room (n + 1) X.A) (hb : Binds X.K fd ps []) (hs : PySem.W.findIn X.K (.ref C) "__eq__" = some (some (.ref f))) (hf : PySem.W.isFn X.K (.ref f) = true)
    (hne : PySem.W.findIn X.K (.ref C) "__ne__" = some (some (.builtin "object.__ne__"))) (hm : PySem.W.mroIn X.K C (.type "object") = some true) : OpR X (compareOp .NotEq) (rOwn2 X.K C sp true) := by
  intro pins s σ H x y v u Q I rx ry h
  obtain ⟨a, dx, fs, T, rfl, ha, ty, nf, q⟩ := h
  cases rx
  obtain ⟨mA, J, _⟩ := ins_get I.hok ha
  obtain ⟨od, J, _⟩ := J.look
  obtain ⟨m, hF⟩ := I.fr
  obtain ⟨P, Z, p, hx⟩ := kit_of I ry ty
  show wpAny (model X.prog X.w) X.A (richCompare .NotEq (.ref a) u) (EP X pins σ Q) X.xe s
  have sb : Sub X (n + 1) X.A := ⟨hr, rfl⟩
  refine cmp_ne sb.in1.room.units0 sb.room.units0 hF I.ok.mod.kin J (Z.ty _ _ I.kIn p) nf hne hm hs hf ?_
  refine own_call F hb sb.in1 I ry (G := fun b H' => Q (.bl (!b)) H') q fun b s' H' I' g => ?_
  exact ⟨b, rfl, .bl (!b), H', I', rfl, g⟩
end
end Y

/-! t[::-1] of a tuple -/
namespace Y
open PySem PySem.Spec PyProof.Rows L2
section
variable {prog : Program} {w : World} {A : Around} {E : Value → Shared → Prop} {s : Shared}
theorem sliceApplied_rev {sl : Addr} {n : Nat} {t : Tok} {Q : Int × Int × Nat → Shared → Prop} (hs : s.heap.IsSliceOf sl .none .none (.int (-1) t))
    (h : Q ((n : Int) - 1, -1, n) s) : wpAny (model prog w) A (Builtin.Slice.sliceApplied (.ref sl) (pure (n : Int))) Q E s := by
  obtain ⟨os, hos, hcs, hds⟩ := id hs
  unfold Builtin.Slice.sliceApplied Builtin.Slice.sliceFields
  refine wpAny_bind (wpAny_bind (wpAny_field hos hds (x := .none) rfl (wpAny_bind (wpAny_field hos hds (x := .none) rfl (wpAny_bind (wpAny_field hos hds (x := .int (-1) t) rfl (wpAny_pure ?_)))))))
  refine wpAny_bind (slicePart_int ?_)
  show wpAny _ _ (if ((-1 : Int) == 0) = true then _ else _) _ _ s
  rw [if_neg (by decide)]
  refine wpAny_bind (slicePart_none (wpAny_bind (slicePart_none (wpAny_bind (wpAny_pure ?_)))))
  show wpAny _ _ (pure ((n : Int) - 1, (-1 : Int), Builtin.Slice.slicePlaces ((n : Int) - 1) (-1) (-1))) _ _ s
  have e : Builtin.Slice.slicePlaces ((n : Int) - 1) (-1) (-1) = n := by
    unfold Builtin.Slice.slicePlaces
    rw [if_neg (by decide)]
    by_cases h0 : n = 0
    · subst h0
      rfl
    · rw [if_pos (show ((n : Int) - 1) > -1 by omega)]
      show (((n : Int) - 1 - -1 - 1) / (- -1) + 1).toNat = n
      rw [show (- -1 : Int) = 1 by decide, Int.ediv_one]
      omega
  rw [e]
  exact wpAny_pure h
theorem fm_congr {α β : Type} {f g : α → Option β} : ∀ {l : List α}, (∀ m ∈ l, f m = g m) → l.filterMap f = l.filterMap g
  | [], _ => rfl
  | a :: l, h => by
    rw [List.filterMap_cons, List.filterMap_cons, h a List.mem_cons_self, fm_congr fun m hm => h m (List.mem_cons_of_mem _ hm)]
theorem fm_range : ∀ (n : Nat) (l : List Value), l.length = n → (List.range n).filterMap (fun m => l[m]?) = l
  | 0, l, h => by
    rw [List.length_eq_zero_iff.mp h]
    rfl
  | n + 1, l, h => by
    match l, h with
    | a :: l, h =>
      rw [List.range_succ_eq_map, List.filterMap_cons, List.filterMap_map]
      show a :: (List.range n).filterMap (fun m => l[m]?) = a :: l
      rw [fm_range n l (by simpa using h)]
theorem pick_rev (xs : Array Value) : ((List.range xs.size).filterMap fun (m : Nat) => xs[(((xs.size : Nat) : Int) - 1 + (m : Int) * -1).toNat]?).toArray = xs.toList.reverse.toArray := by
  congr 1
  have e : ∀ m ∈ List.range xs.size, xs[(((xs.size : Nat) : Int) - 1 + (m : Int) * -1).toNat]? = xs.toList.reverse[m]? := fun m hm => by
    have hm := List.mem_range.mp hm
    have e1 : (((xs.size : Nat) : Int) - 1 + (m : Int) * -1).toNat = xs.size - 1 - m := by omega
    rw [e1, List.getElem?_reverse (by rw [Array.length_toList]; exact hm), Array.length_toList, Array.getElem?_toList]
  rw [fm_congr e]
  have q := fm_range xs.size xs.toList.reverse (by rw [List.length_reverse, Array.length_toList])
  exact q
theorem getItem_tuple_rev {t sl : Addr} {items : Array Value} {tk : Tok} {Q : Value → Shared → Prop} (ht : IsTup s.heap t items) (hs : s.heap.IsSliceOf sl .none .none (.int (-1) tk))
    (h : Q (.ref s.heap.objs.size) { s with heap := s.heap.push { cls := .type "tuple", data := .seq items.toList.reverse.toArray } })
    (hsz : items.size ≤ sizeLine) : wpAny (model prog w) A (getItem (.ref t) (.ref sl)) Q E s := by
  have htake : sizeOk (.seq items.toList.reverse.toArray) := by
    show items.toList.reverse.toArray.size ≤ sizeLine
    rw [List.size_toArray, List.length_reverse, Array.length_toList]
    exact hsz
  obtain ⟨os, hos, hcs, hds⟩ := id hs
  have hTs : s.TypeIs (.ref sl) "slice" := ⟨os, hos, hcs⟩
  unfold getItem
  try with_reducible refine wpAny_holding ?_
  first | refine wpAny_bind (wpAny_pure ?_) | skip
  refine wpAny_bind (wpAny_sequenceKey ht.typeIs (by decide) ?_)
  refine wpAny_bind (wpAny_callSpecial?_slot (name := Str.ofString "__getitem__") ht.typeIs PyProof.Rows.slot_tuple_getitem
    (wpAny_call_entry PyProof.Rows.slot_tuple_getitem ht.typeIs entry_tuple_getitem ?_ (args_tuple_getitem _ _)))
  show wpAny _ _ (Builtin.Tuple.tupleItemsOf (.ref t) >>= _) _ _ s
  refine wpAny_bind (tupleItemsOf_ ht ?_)
  refine wpAny_bind (wpAny_typeOf hTs ?_)
  rw [if_pos (by decide)]
  refine wpAny_bind (sliceApplied_rev hs ?_)
  have hno : ¬ ((((items.size : Nat) : Int) - 1 == 0 && (-1 : Int) == 1 && items.size == items.size) = true) := by
    intro q
    rw [Bool.and_eq_true, Bool.and_eq_true] at q
    exact absurd q.1.2 (by decide)
  show wpAny _ _ (if (((items.size : Nat) : Int) - 1 == 0 && (-1 : Int) == 1 && items.size == items.size) = true then _ else _) _ _ s
  rw [if_neg hno, pick_rev]
  first
    | exact wpAny_bind (m := Builtin.Tuple.tupleExact _) (wpAny_newObj_type (wpAny_pure ⟨_, rfl, wpAny_pure h⟩) htake)
    | exact wpAny_bind (m := Builtin.Tuple.tupleExact _) (wpAny_newObj_type (wpAny_bind (wpAny_pure (wpAny_pure ⟨_, rfl, wpAny_pure h⟩))) htake)
    | exact wpAny_bind (wpAny_bind (m := Builtin.Tuple.tupleExact _) (wpAny_newObj_type (wpAny_pure (wpAny_pure ⟨_, rfl, wpAny_pure h⟩)) htake))
    | exact wpAny_bind (wpAny_bind (m := Builtin.Tuple.tupleExact _) (wpAny_newObj_type (wpAny_pure ⟨_, rfl, wpAny_pure h⟩) htake))
end
section
variable {X : Cx}
def tRevT (K : PySem.W.Frag) (te : TE) : TE := fun σ H Q => te σ H fun x H1 => ∃ a xs, x = .ref a ∧ SqT K H1 a xs ∧ ∀ p, H1 p = none → Q (.ref p) (upd H1 p (.tup xs.reverse))
theorem pe_revT {e : Expr} {te : TE} {k : Nat} {p1 p2 p3 pos : Pos} (he : PE X e te) : PE X (.Subscript e (.Slice none none (some (.UnaryOp .USub (.Constant (.int 1) k p1) p2)) p3) pos) (tRevT X.K te) := by
  refine ⟨fun pins s σ H Q I h => ?_⟩
  refine Subscript_ (thn (he.run pins s σ H _ I h) fun v s1 ⟨x, H1, I1, r1, q1⟩ => ?_)
  obtain ⟨a, xs, ex, hx, q⟩ := q1
  subst ex
  cases r1
  have hst : PO X (some (.UnaryOp .USub (.Constant (.int 1) k p1) p2)) (tPart (tUn (rU fun i => .int (-i)) (tC (.int 1)))) := po_some (pe_un un_neg pe_int)
  refine wpAny_Slice (thn (po_none.run pins s1 σ H1 (fun o H2 => o = none ∧ H2 = H1) I1 ⟨rfl, rfl⟩) fun vl s2 ⟨l, H2, I2, pl, el, e2⟩ => ?_)
  subst el e2
  refine thn (po_none.run pins s2 σ H2 (fun o H3 => o = none ∧ H3 = H2) I2 ⟨rfl, rfl⟩) fun vu s3 ⟨u, H3, I3, pu, eu, e3⟩ => ?_
  subst eu e3
  refine thn (hst.run pins s3 σ H3 (fun o H4 => o = some (-1) ∧ H4 = H3) I3 ⟨1, rfl, -1, rfl, rfl, rfl⟩) fun vs s4 ⟨o, H4, I4, ps, eo, e4⟩ => ?_
  subst eo e4
  cases pl
  cases pu
  cases ps with
  | int i tk =>
  have I5 : Inv X pins σ H4 { s4 with heap := s4.heap.push { cls := .type "slice", data := .fields #[.none, .none, .int (-1) tk] } } := I4.kept (t' := s4.toks) fun b ob q => Heap.get?_push_of_some _ q
  obtain ⟨its, r, ht, hz⟩ := I5.tuple hx
  have hlen := r.length
  show wpAny (model X.prog X.w) X.A (subscriptTail e (.Slice none none (some (.UnaryOp .USub (.Constant (.int 1) k p1) p2)) p3) (.ref a) (.ref s4.heap.objs.size)) (EP X pins σ Q) X.xe { s4 with heap := s4.heap.push { cls := .type "slice", data := .fields #[.none, .none, .int (-1) tk] } }
  refine tail_any (ops := [.ref a, .ref s4.heap.objs.size]) ht.typeIs (PyProof.Rows.slot_tuple_getitem.lookup) ?_ (by with_unfolding_all rfl)
  refine getItem_tuple_rev ht (Heap.IsSliceOf.new _ .none .none (.int (-1) tk)) ?_ (by rw [List.size_toArray]; omega)
  refine ⟨.ref _, _, I5.laid (t' := s4.toks) (o := .tup xs.reverse) (fun b ob q => Heap.get?_push_of_some _ q) (Nat.le_refl _) ?_, rfl, q _ (I5.hok.fresh (Nat.le_refl _))⟩
  refine ⟨by rw [List.length_reverse]; exact hz, its.reverse, r.reverse, ?_⟩
  exact IsTup.new _ _
end
end Y

namespace Y
open PySem PySem.Spec PyProof.Rows L2
def keyTx : Value → Option Str
  | .str x _ => some x
  | _ => none
theorem no_of {K : PySem.W.Frag} {d : Addr} {es : Array DictEntry} {n : Nat} (l : K.lookup d = some ⟨.type "dict", none, .dict es n, #[]⟩) (x : es.toList.map (fun e => keyTx e.key) = [some ("zero" : Str), some ("copy" : Str), some ("more" : Str)]) :
    ∀ z : Str, z ≠ "zero" → z ≠ "copy" → z ≠ "more" → PySem.W.nsIn K d z = some none := by
  intro z h1 h2 h3
  have key : ∀ e ∈ es.toList, ∃ y t, e.key = .str y t ∧ y ≠ z := fun e m => by
    have q : keyTx e.key ∈ [some ("zero" : Str), some ("copy" : Str), some ("more" : Str)] := by
      rw [← x]
      exact List.mem_map.mpr ⟨e, m, rfl⟩
    cases ek : e.key with
    | str y t =>
      rw [ek] at q
      refine ⟨y, t, rfl, fun ez => ?_⟩
      subst ez
      have q : (some y : Option Str) ∈ [some ("zero" : Str), some ("copy" : Str), some ("more" : Str)] := q
      simp only [List.mem_cons, Option.some.injEq, List.not_mem_nil, or_false] at q
      rcases q with q | q | q
      · exact h1 q
      · exact h2 q
      · exact h3 q
    | _ => rw [ek] at q; simp [keyTx] at q
  have f0 : es.toList.find? (fun e => e.key.isStr z) = none := by
    rw [List.find?_eq_none]
    intro e m k
    obtain ⟨y, t, ek, ne⟩ := key e m
    rw [ek] at k
    exact ne (by simpa [Value.isStr] using k)
  have g0 : es.toList.any (fun e => e.refKey) = false := by
    rw [List.any_eq_false]
    intro e m k
    obtain ⟨y, t, ek, ne⟩ := key e m
    unfold DictEntry.refKey at k
    rw [ek] at k
    simp at k
  unfold PySem.W.nsIn
  rw [l]
  dsimp only
  rw [f0]
  show (if es.toList.any (fun e => e.refKey) = true then none else some none) = _
  rw [g0]
  rfl
end Y

namespace Y
open PySem PySem.Spec PyProof.Rows L2
theorem parts_inv {K : PySem.W.Frag} {H : Hp} {xs : List V} {a b c : PyData} (h : TpAll K H xs [a, b, c]) : ∃ x y z, xs = [x, y, z] ∧ Tp K H x a ∧ Tp K H y b ∧ Tp K H z c := by
  match xs, h with
  | [x, y, z], .cons h1 (.cons h2 (.cons h3 .nil)) => exact ⟨x, y, z, rfl, h1, h2, h3⟩
/-! places in a list, each a new tuple -/
theorem sm_shape {K : PySem.W.Frag} {H : Hp} {v : V} {s : Sm} (h : Tp K H v (smD s)) : ∃ (b : Addr) (z : Str) (ys : List V), v = .ref b ∧ SqT K H b (.str z :: ys) ∧ (z ≠ "round" → s.deeds = []) ∧ (z = "round" → ∃ x1 b2 zs, ys = [x1, .ref b2] ∧ SqT K H b2 zs ∧ TpAll K H zs (s.deeds.map deD)) := by
  cases s with
  | deed d =>
    obtain ⟨b, rfl, hb⟩ := Tp.deed_inv (d := d) h
    obtain ⟨z, ed, ez⟩ := deV_head d
    exact ⟨b, z, _, rfl, by rw [← ed]; exact hb, fun _ => rfl, fun k => (ez k).elim⟩
  | rnd x1 ds =>
    obtain ⟨b, b2, zs, rfl, hb, hb2, hz⟩ := h.rnd_inv
    exact ⟨b, _, _, rfl, hb, fun k => (k rfl).elim, fun _ => ⟨_, b2, zs, rfl, hb2, hz⟩⟩
theorem third_sm {s : Sm} : (thP (smD s)).third = s.deeds.map fun d => thP (deD d) := by
  cases s with
  | deed d =>
    cases d with
    | zero x => rfl
    | copy x y => rfl
    | more x => rfl
  | rnd x ds =>
    show (Th.tup [.str "round", .str x, thP (.tuple (ds.map deD))]).third = _
    show thPs (ds.map deD) = _
    rw [thPs_map]
    rfl
theorem st_sm {s : Sm} (h : ∀ x ∈ s.ns, nmB x = true) : stT (thP (smD s)) = true := by
  cases s with
  | deed d =>
    unfold stT
    rw [show (thP (smD (.deed d))).deed = true from deed_thP h]
    rfl
  | rnd x ds =>
    unfold stT
    rw [round_no_deed, Bool.false_or, round_frame (h x List.mem_cons_self), Bool.true_and, third_sm, List.all_map, List.all_eq_true]
    intro d m
    exact deed_thP fun y hy => h y (List.mem_cons_of_mem _ (List.mem_flatten.mpr ⟨d.ns, List.mem_map.mpr ⟨d, m, rfl⟩, hy⟩))
theorem size_sm (ss : List Sm) : sizeT (ss.map fun s => thP (smD s)) = (plF 0 ss).length := by
  unfold sizeT
  rw [plF_len, List.length_map, List.map_map]
  congr 2
  apply List.map_congr_left
  intro s _
  show (thP (smD s)).third.length = s.deeds.length
  rw [third_sm, List.length_map]
theorem wrong_sm {ss : List Sm} (h : ∀ s ∈ ss, ∀ x ∈ s.ns, nmB x = true) (l : (plF 0 ss).length ≤ 5000) : wrongD (.tup (ss.map fun s => thP (smD s))) = .none := by
  show (wrongFrom 0 (ss.map fun s => thP (smD s))).getD _ = _
  rw [wrong_none fun j s hj => ?_]
  · show (if sizeT _ > 5000 then PyData.str "size" else .none) = _
    rw [size_sm, if_neg (by omega)]
  · rw [List.getElem?_map] at hj
    cases e : ss[j]? with
    | none => rw [e] at hj; cases hj
    | some s0 =>
      rw [e] at hj
      rw [← Option.some.inj hj]
      exact st_wrongAt (st_sm (h s0 (at_mem e)))
theorem le_sum : ∀ {l : List Nat} {x : Nat}, x ∈ l → x ≤ l.sum
  | [], _, m => nomatch m
  | a :: r, x, m => by
    rw [List.sum_cons]
    rcases List.mem_cons.mp m with e | e
    · omega
    · have := le_sum e
      omega
theorem deed_len (d : De) : (deP d).length ≤ 3 := by
  cases d with
  | zero x => show 2 ≤ 3; decide
  | copy x y => show 3 ≤ 3; decide
  | more x => show 2 ≤ 3; decide
theorem th_deed (d : De) : thP (deD d) = .tup (thPs (deP d)) := rfl
theorem thPs_len : ∀ (l : List PyData), (thPs l).length = l.length
  | [] => rfl
  | a :: r => by show (thPs r).length + 1 = _; rw [thPs_len r]; rfl
section
variable {P : Program} {w : World} {K : PySem.W.Frag} {mg : Str → Option Value} {base : Heap}
abbrev s_l_made : Stmt := topS 40
theorem sc_l_made : FnScope ["_law_parts_here"] ["_law_parts_here"] (defScope s_l_made) := ⟨rfl, rfl, rfl, by decide +kernel, rfl, by decide +kernel, by decide +kernel⟩
def spMade (K : PySem.W.Frag) (C : Addr) : Sp := fun vs H Q _ => ∃ (v : V) (g t : List Str) (ss : List Sm), vs = [v] ∧ Tp K H v (ptD g t ss) ∧ Right g t ss ∧ (plF 0 ss).length ≤ 5000 ∧ ∀ (o : Addr) H', Same H H' → H o = none → PgAt K C H' o g t ss → Q (.ref o) H'
theorem ok_made {f C fI : Addr} {fd fdI : FuncData} (F : Fun K "_law_made" "_law_made" s_l_made f fd) (G : Prg K mg C) (M : Mk K C fI) (FI : FnOk P w K mg base CX0 5 fI fdI ["self", "given", "told", "block"] (spInitR K C)) (bI : Binds K fdI ["self", "given", "told", "block"] []) : FnOk P w K mg base CX0 7 f fd ["_law_parts_here"] (spMade K C) := by
  refine F.ok sc_l_made (fun vs H Q E h => ?_) (fun cdv A outer s₀ H vs Q E hr h => ?_)
  · obtain ⟨v, g, t, ss, rfl, _⟩ := h
    rfl
  · obtain ⟨v0, g, t, ss, rfl, tv, R, l5, kk⟩ := h
    obtain ⟨o, xs0, rfl, hpt, hall⟩ := tv.tup_inv
    obtain ⟨vg, vt, vb, rfl, tg, tt, tb⟩ := parts_inv hall
    refine ⟨_, (pss_one (ps_ret (pe_make M FI (hr.mono (by decide)) (by rfl) G.mgC bI .nil pass0 (pa_cons (pe_ix ix_tup (pv 0) pe_int (fun _ _ => rfl)) (pa_cons (pe_ix ix_tup (pv 0) pe_int (fun _ _ => rfl)) (pa_cons (pe_ix ix_tup (pv 0) pe_int (fun _ _ => rfl)) pa_nil)))))), ?_⟩
    refine ⟨_, rfl, o, _, _, _, rfl, rfl, hpt, atI_nat (j := 0) rfl, _, rfl, o, _, _, _, rfl, rfl, hpt, atI_nat (j := 1) rfl, _, rfl, o, _, _, _, rfl, rfl, hpt, atI_nat (j := 2) rfl, fun x dx nx ndx nex => ?_⟩
    have s1 : Same H (upd (upd H dx (.own x)) x (.ins C dx [])) := (same_upd ndx).trans (same_upd (by rw [upd_ne nex.symm]; exact nx))
    have sg := Tp.is _ _ (sh_strs fun x m => nm14_ok x (R.gn x m)) tg
    have st := Tp.is _ _ (sh_strs fun x m => nm14_ok x (R.tn x m)) tt
    have hok : ∀ s ∈ ss, ∀ x ∈ s.ns, nmB x = true := fun s m x hx => nm14_ok x (R.sn s m x hx)
    have sb : Is K H vb (.tup (ss.map fun s => thP (smD s))) := by
      have q := Tp.is (blD ss) vb (by
        show shPs _ = true
        rw [shPs_all]
        intro d m
        obtain ⟨s, sm, rfl⟩ := List.mem_map.mp m
        exact sh_sm (hok s sm)) tb
      rw [show thP (blD ss) = .tup (ss.map fun s => thP (smD s)) by show Th.tup (thPs (ss.map smD)) = _; rw [thPs_map]] at q
      exact q
    have eg : thP (nmD g) = .tup (g.map .str) := by show Th.tup (thPs (g.map PyData.str)) = _; rw [thPs_map]; rfl
    have et : thP (nmD t) = .tup (t.map .str) := by show Th.tup (thPs (t.map PyData.str)) = _; rw [thPs_map]; rfl
    rw [eg] at sg
    rw [et] at st
    refine ⟨x, dx, vg, vt, vb, g.map .str, t.map .str, ss.map fun s => thP (smD s), rfl, upd_same, sg.same s1, st.same s1, sb.same s1, namesL_map R.gd fun x m => nm14_ok x (R.gn x m), by rw [List.length_map]; exact R.g2,
      namesL_map R.td fun x m => nm14_ok x (R.tn x m), by rw [List.length_map]; exact R.t1, by rw [List.length_map]; exact R.t4, wrong_sm hok l5, ?_, fun s m => ?_, fun H' H2 s2 e => ⟨rfl, ?_⟩⟩
    · rw [List.length_map]
      rw [plF_len] at l5
      omega
    · obtain ⟨s0, m0, rfl⟩ := List.mem_map.mp m
      have lds : s0.deeds.length ≤ 5000 := by
        rw [plF_len] at l5
        have := le_sum (List.mem_map.mpr ⟨s0, m0, rfl⟩ : s0.deeds.length ∈ ss.map fun s => s.deeds.length)
        omega
      refine ⟨fun rs e => ?_, fun u mu rs e => ?_⟩
      · cases s0 with
        | deed d =>
          rw [show thP (smD (.deed d)) = .tup (thPs (deP d)) from rfl] at e
          cases e
          rw [thPs_len]
          have := deed_len d
          omega
        | rnd x1 ds =>
          rw [show thP (smD (.rnd x1 ds)) = .tup [.str "round", .str x1, thP (.tuple (ds.map deD))] from rfl] at e
          cases e
          show 3 ≤ 100000
          decide
      · rw [third_sm] at mu
        obtain ⟨d, _, rfl⟩ := List.mem_map.mp mu
        rw [th_deed] at e
        cases e
        rw [thPs_len]
        have := deed_len d
        omega
    · have nx2 : H x = none := nx
      have s3 : Same H (upd H2 x (.ins C dx (flds vg vt vb))) := fun c oo ec => by
        rw [upd_ne (ne_of_none ec nx)]
        exact s2 _ _ (s1 _ _ ec)
      rw [e]
      exact kk x _ s3 nx ⟨dx, vg, vt, vb, upd_same, Tp.keep s3.kp _ _ tg, Tp.keep s3.kp _ _ tt, Tp.keep s3.kp _ _ tb⟩
end
def Lay (n : Nat) (d : PyData) : Prop := d.canLay0 = true ∧ d.depth ≤ n
theorem lay_all {n : Nat} : ∀ {ds : List PyData}, (∀ d ∈ ds, Lay n d) → PyData.canLayAll0 ds = true ∧ PyData.depthAll ds ≤ n
  | [], _ => ⟨rfl, Nat.zero_le _⟩
  | d :: r, h => by
    obtain ⟨h1, h2⟩ := h d List.mem_cons_self
    obtain ⟨h3, h4⟩ := lay_all (ds := r) fun e m => h e (List.mem_cons_of_mem _ m)
    refine ⟨?_, ?_⟩
    · show (PyData.canLay0 d && PyData.canLayAll0 r) = true
      rw [h1, h3]
      rfl
    · have e : PyData.depthAll (d :: r) = max (PyData.depth d) (PyData.depthAll r) := by
        first | rfl | rw [PyData.depthAll]
      rw [e]
      exact Nat.max_le.mpr ⟨h2, h4⟩
theorem lay_tuple {n : Nat} {ds : List PyData} (h : ∀ d ∈ ds, Lay n d) : Lay (n + 1) (.tuple ds) := by
  obtain ⟨h1, h2⟩ := lay_all h
  refine ⟨h1, ?_⟩
  have e : PyData.depth (.tuple ds) = PyData.depthAll ds + 1 := by first | rfl | rw [PyData.depth]
  rw [e]
  omega
theorem lay_list {n : Nat} {ds : List PyData} (h : ∀ d ∈ ds, Lay n d) : Lay (n + 1) (.list ds) := by
  obtain ⟨h1, h2⟩ := lay_all h
  refine ⟨h1, ?_⟩
  have e : PyData.depth (.list ds) = PyData.depthAll ds + 1 := by first | rfl | rw [PyData.depth]
  rw [e]
  omega
theorem lay_int {n : Nat} (i : Int) : Lay n (.int i) := ⟨rfl, by first | exact Nat.zero_le _ | (show PyData.depth (.int i) ≤ n; rw [PyData.depth]; exact Nat.zero_le _)⟩
theorem lay_str {n : Nat} {x : Str} (h : PyData.strOk x = true) : Lay n (.str x) := ⟨h, by first | exact Nat.zero_le _ | (show PyData.depth (.str x) ≤ n; rw [PyData.depth]; exact Nat.zero_le _)⟩
theorem Lay.shp {n : Nat} {d : PyData} (h : Lay n d) (k : n ≤ 64) : SeqAt.shaped d = true := by
  unfold SeqAt.shaped
  rw [h.1, decide_eq_true (Nat.le_trans h.2 k)]
  rfl
theorem Lay.eqv {n : Nat} {d : PyData} (h : Lay n d) (k : n ≤ 64) : (!PyData.eqv d d) = false := by
  rw [SeqAt.eqv_refl _ (SeqAt.canLay_of_shaped (h.shp k))]
  rfl
theorem nm14_str : ∀ x ∈ NM14, PyData.strOk x = true := by decide +kernel
theorem lay_iD (is : List Int) : Lay 1 (iD is) := lay_tuple fun d m => by
  obtain ⟨i, _, rfl⟩ := List.mem_map.mp m
  exact lay_int i
theorem lay_names {ns : List Str} (h : ∀ x ∈ ns, x ∈ NM14) : Lay 1 (nmD ns) := lay_tuple fun d m => by
  obtain ⟨x, xm, rfl⟩ := List.mem_map.mp m
  exact lay_str (nm14_str x (h x xm))
theorem dpt_names (n : Nat) {ns : List Str} (h : ns.length ≤ 100000) : dpt (n + 1) (nmD ns) = true := by
  show (decide ((ns.map PyData.str).length ≤ 100000) && (ns.map PyData.str).all (dpt n)) = true
  rw [decide_eq_true (by rw [List.length_map]; exact h), Bool.true_and, List.all_eq_true]
  intro d m
  obtain ⟨x, _, rfl⟩ := List.mem_map.mp m
  cases n <;> rfl
end Y

namespace Y
open PySem PySem.Spec PyProof.Rows L2
/-- what the class Program is to those who compare -/
structure PrgE (K : PySem.W.Frag) (C : Addr) : Prop where
  c1 : PySem.W.findIn K (.ref C) (Str.ofString "__class__") = some (some (.builtin "object.__class__"))
  c2 : PySem.W.specialIn K (.builtin "object.__class__") (Str.ofString "__get__") = some (some (.builtin "getset_descriptor.__get__"))
  c3 : PySem.W.takesIn K (.builtin "object.__class__") = some true
  mo : PySem.W.mroIn K C (.type "object") = some true
  ne : PySem.W.findIn K (.ref C) "__ne__" = some (some (.builtin "object.__ne__"))
  ct : ((PySem.W.clsIn K C).isSome && PySem.W.typeIn K (.ref C) == some (.type "type")) = true
theorem flds_put (g t b b' : V) : putF "block" b' (flds g t b) = flds g t b' := by
  show (if ("given" : Str) = "block" then _ else (("given" : Str), g) :: putF "block" b' [(("told" : Str), t), ("block", b)]) = _
  rw [if_neg n_gb]
  show (("given" : Str), g) :: (if ("told" : Str) = "block" then _ else (("told" : Str), t) :: putF "block" b' [(("block" : Str), b)]) = _
  rw [if_neg n_tb]
  show (("given" : Str), g) :: (("told" : Str), t) :: (if ("block" : Str) = "block" then _ else _) = _
  rw [if_pos rfl]
  rfl
section
variable {K : PySem.W.Frag} {mg : Str → Option Value} {C : Addr}
theorem PrgE.ty (e : PrgE K C) (G : Prg K mg C) {H : Hp} {a dx : Addr} {fs : List (Str × V)} (h : H a = some (.ins C dx fs)) : TyX K H (.ref a) (.ref C) := .base (.ins h G.cl e.c1 e.c2 e.c3 e.mo)
theorem kit_own : PySem.W.kitOne K (.ref C) (.ref C) = some true := by
  unfold PySem.W.kitOne
  rw [if_pos (by simp)]
theorem PrgE.kit_no (e : PrgE K C) {t : String} {l : List Value} (f : fastBuiltinMro t = some l) (n : l.contains (.ref C) = false) : PySem.W.kitOne K (.type t) (.ref C) = some false := by
  unfold PySem.W.kitOne
  rw [if_neg (by simp)]
  show (if ((PySem.W.clsIn K C).isSome && PySem.W.typeIn K (.ref C) == some (.type "type")) = true then PySem.W.subIn K (.type t) (.ref C) else none) = _
  rw [if_pos e.ct]
  show (fastBuiltinMro t).map (·.contains (.ref C)) = some false
  rw [f]
  show some (l.contains (.ref C)) = some false
  rw [n]
/-- a type that is not the class, nor behind it -/
def Other (K : PySem.W.Frag) (C : Addr) (T : Value) : Prop := PySem.W.kitOne K T (.ref C) = some false ∧ PySem.W.notFirst K C T = true
theorem PrgE.other (e : PrgE K C) {t : String} {l : List Value} (f : fastBuiltinMro t = some l) (n : l.contains (.ref C) = false) : Other K C (.type t) := ⟨e.kit_no f n, notFirst_ty f n⟩
end
def eqP (g t : List Str) (ss : List Sm) (g2 t2 : List Str) (ss2 : List Sm) : Bool := PyData.eqv (nmD g) (nmD g2) && (PyData.eqv (nmD t) (nmD t2) && PyData.eqv (blD ss) (blD ss2))
/-- parts that can be compared -/
structure ShP (g t : List Str) (ss : List Sm) : Prop where
  g : SeqAt.shaped (nmD g) = true
  t : SeqAt.shaped (nmD t) = true
  b : SeqAt.shaped (blD ss) = true
section
variable {P : Program} {w : World} {K : PySem.W.Frag} {mg : Str → Option Value} {base : Heap}
abbrev s_Program___eq : Stmt := inClass (topS 18) 1
theorem sc_Program___eq : FnScope ["self", "other"] ["self", "other"] (defScope s_Program___eq) := ⟨rfl, rfl, rfl, by decide +kernel, rfl, by decide +kernel, by decide +kernel⟩
def spEq (K : PySem.W.Frag) (C : Addr) : Sp := fun vs H Q _ => ∃ (o : Addr) (y : V) (g t : List Str) (ss : List Sm), vs = [.ref o, y] ∧ PgAt K C H o g t ss ∧ ShP g t ss ∧
  ((∃ o2 g2 t2 ss2, y = .ref o2 ∧ PgAt K C H o2 g2 t2 ss2 ∧ ShP g2 t2 ss2 ∧ ∀ H', Same H H' → Q (.bl (eqP g t ss g2 t2 ss2)) H') ∨ ∃ T, TyX K H y T ∧ PySem.W.kitOne K T (.ref C) = some false ∧ ∀ H', Same H H' → Q (.bl false) H')
theorem ok_eq {f C : Addr} {fd : FuncData} (F : Fun K "__eq__" "Program.__eq__" s_Program___eq f fd) (T : Bi mg) (G : Prg K mg C) (GE : PrgE K C) : FnOk P w K mg base CX0 1 f fd ["self", "other"] (spEq K C) := by
  refine F.ok sc_Program___eq (fun vs H Q E h => ?_) (fun cdv A outer s₀ H vs Q E hr h => ?_)
  · obtain ⟨o, y, g, t, ss, rfl, _⟩ := h
    rfl
  · obtain ⟨o, y, g, t, ss, rfl, ⟨dx, vg, vt, vb, ho, tg, tt, tb⟩, S, kk⟩ := h
    refine ⟨_, (pss_one (ps_ret (pe_and (pe_callB (id := "isinstance") (r := rIsi K) call_isi (by rfl) T.isinstance (by decide +kernel) (pa_cons (pv 1) (pa_cons (pe_glob (v := .ref C) (by rfl) G.mgC rfl) pa_nil))) (pe_and (pe_cmpR (op_eqD (Nat.lt_of_le_of_lt (Nat.add_le_add_left (by decide) _) (hu66 hr))) (pe_fld (pv 0) rfl) (pe_fld (pv 1) rfl) (nomark _)) (pe_and (pe_cmpR (op_eqD (Nat.lt_of_le_of_lt (Nat.add_le_add_left (by decide) _) (hu66 hr))) (pe_fld (pv 0) rfl) (pe_fld (pv 1) rfl) (nomark _)) (pe_one (pe_cmpR (op_eqD (Nat.lt_of_le_of_lt (Nat.add_le_add_left (by decide) _) (hu66 hr))) (pe_fld (pv 0) rfl) (pe_fld (pv 1) rfl) (nomark _)))))))), ?_⟩
    rcases kk with ⟨o2, g2, t2, ss2, rfl, ⟨dx2, vg2, vt2, vb2, ho2, tg2, tt2, tb2⟩, S2, kk⟩ | ⟨T', ty, kn, kk⟩
    · refine ⟨_, rfl, _, _, _, _, _, rfl, .own C, GE.ty G ho2, kit_own, _, rfl, ?_⟩
      rw [if_pos rfl]
      refine ⟨_, rfl, o, C, dx, _, _, rfl, ho, G.cl, G.nG, flds_g _ _ _, _, rfl, o2, C, dx2, _, _, rfl, ho2, G.cl, G.nG, flds_g _ _ _, _, _, Tp.dp _ _ tg, Tp.dp _ _ tg2, S.g, S2.g, _, rfl, ?_⟩
      have k1 := kk _ (Same.refl H)
      unfold eqP at k1
      cases e1 : PyData.eqv (nmD g) (nmD g2) with
      | false =>
        rw [e1] at k1
        rw [if_neg (by decide)]
        exact k1
      | true =>
        rw [e1, Bool.true_and] at k1
        rw [if_pos rfl]
        refine ⟨_, rfl, o, C, dx, _, _, rfl, ho, G.cl, G.nT, flds_t _ _ _, _, rfl, o2, C, dx2, _, _, rfl, ho2, G.cl, G.nT, flds_t _ _ _, _, _, Tp.dp _ _ tt, Tp.dp _ _ tt2, S.t, S2.t, _, rfl, ?_⟩
        cases e2 : PyData.eqv (nmD t) (nmD t2) with
        | false =>
          rw [e2] at k1
          rw [if_neg (by decide)]
          exact k1
        | true =>
          rw [e2, Bool.true_and] at k1
          rw [if_pos rfl]
          exact ⟨_, rfl, o, C, dx, _, _, rfl, ho, G.cl, G.nB, flds_b _ _ _, _, rfl, o2, C, dx2, _, _, rfl, ho2, G.cl, G.nB, flds_b _ _ _, _, _, Tp.dp _ _ tb, Tp.dp _ _ tb2, S.b, S2.b, k1⟩
    · refine ⟨_, rfl, _, _, _, _, _, rfl, .own C, ty, kn, _, rfl, ?_⟩
      rw [if_neg (by decide)]
      exact kk _ (Same.refl H)
abbrev s_of_any_size : Stmt := topS 23
theorem sc_of_any_size : FnScope ["given", "told", "block", "made"] ["given", "told", "block"] (defScope s_of_any_size) := ⟨rfl, rfl, rfl, by decide +kernel, rfl, by decide +kernel, by decide +kernel⟩
theorem make_use {H : Hp} {vg vt vb : V} {g t : List Str} {ss : List Sm} {Z : VK} {E : XK} {x dx : Addr} (nx : H x = none) (ndx : H dx = none) (nex : dx ≠ x) (tg : Tp K H vg (nmD g)) (tt : Tp K H vt (nmD t)) (tb : Tp K H vb (blD ss)) (R : Right g t ss) (l5 : (plF 0 ss).length ≤ 5000)
    (kk : ∀ H', Same H H' → H' x = some (.ins C dx (flds vg vt vb)) → Z .non H') : spInitR K C [.ref x, vg, vt, vb] (upd (upd H dx (.own x)) x (.ins C dx [])) Z E := by
  have s1 : Same H (upd (upd H dx (.own x)) x (.ins C dx [])) := (same_upd ndx).trans (same_upd (by rw [upd_ne nex.symm]; exact nx))
  have sg := Tp.is _ _ (sh_strs fun x m => nm14_ok x (R.gn x m)) tg
  have st := Tp.is _ _ (sh_strs fun x m => nm14_ok x (R.tn x m)) tt
  have hok : ∀ s ∈ ss, ∀ x ∈ s.ns, nmB x = true := fun s m x hx => nm14_ok x (R.sn s m x hx)
  have sb : Is K H vb (.tup (ss.map fun s => thP (smD s))) := by
    have q := Tp.is (blD ss) vb (by
      show shPs _ = true
      rw [shPs_all]
      intro d m
      obtain ⟨s, sm, rfl⟩ := List.mem_map.mp m
      exact sh_sm (hok s sm)) tb
    rw [show thP (blD ss) = .tup (ss.map fun s => thP (smD s)) by show Th.tup (thPs (ss.map smD)) = _; rw [thPs_map]] at q
    exact q
  have eg : thP (nmD g) = .tup (g.map .str) := by show Th.tup (thPs (g.map PyData.str)) = _; rw [thPs_map]; rfl
  have et : thP (nmD t) = .tup (t.map .str) := by show Th.tup (thPs (t.map PyData.str)) = _; rw [thPs_map]; rfl
  rw [eg] at sg
  rw [et] at st
  refine ⟨x, dx, vg, vt, vb, g.map .str, t.map .str, ss.map fun s => thP (smD s), rfl, upd_same, sg.same s1, st.same s1, sb.same s1, namesL_map R.gd fun x m => nm14_ok x (R.gn x m), by rw [List.length_map]; exact R.g2,
    namesL_map R.td fun x m => nm14_ok x (R.tn x m), by rw [List.length_map]; exact R.t1, by rw [List.length_map]; exact R.t4, wrong_sm hok l5, ?_, fun s m => ?_, fun H' H2 s2 e => ?_⟩
  · rw [List.length_map]
    rw [plF_len] at l5
    omega
  · obtain ⟨s0, m0, rfl⟩ := List.mem_map.mp m
    have lds : s0.deeds.length ≤ 5000 := by
      rw [plF_len] at l5
      have := le_sum (List.mem_map.mpr ⟨s0, m0, rfl⟩ : s0.deeds.length ∈ ss.map fun s => s.deeds.length)
      omega
    refine ⟨fun rs e => ?_, fun u mu rs e => ?_⟩
    · cases s0 with
      | deed d =>
        rw [show thP (smD (.deed d)) = .tup (thPs (deP d)) from rfl] at e
        cases e
        rw [thPs_len]
        have := deed_len d
        omega
      | rnd x1 ds =>
        rw [show thP (smD (.rnd x1 ds)) = .tup [.str "round", .str x1, thP (.tuple (ds.map deD))] from rfl] at e
        cases e
        show 3 ≤ 100000
        decide
    · rw [third_sm] at mu
      obtain ⟨d, _, rfl⟩ := List.mem_map.mp mu
      rw [th_deed] at e
      cases e
      rw [thPs_len]
      have := deed_len d
      omega
  · have s3 : Same H (upd H2 x (.ins C dx (flds vg vt vb))) := fun c oo ec => by
      rw [upd_ne (ne_of_none ec nx)]
      exact s2 _ _ (s1 _ _ ec)
    rw [e]
    exact kk _ s3 upd_same
def spOfAny (K : PySem.W.Frag) (C : Addr) : Sp := fun vs H Q _ => ∃ (vg vt vb : V) (g t : List Str) (ss : List Sm), vs = [vg, vt, vb] ∧ Tp K H vg (nmD g) ∧ Tp K H vt (nmD t) ∧ Tp K H vb (blD ss) ∧ Right g t ss ∧ ∀ (o : Addr) H', Same H H' → H o = none → PgAt K C H' o g t ss → Q (.ref o) H'
theorem ok_ofAny {f C fI : Addr} {fd fdI : FuncData} (F : Fun K "of_any_size" "of_any_size" s_of_any_size f fd) (G : Prg K mg C) (M : Mk K C fI) (FI : FnOk P w K mg base CX0 5 fI fdI ["self", "given", "told", "block"] (spInitR K C)) (bI : Binds K fdI ["self", "given", "told", "block"] []) : FnOk P w K mg base CX0 7 f fd ["given", "told", "block"] (spOfAny K C) := by
  refine F.ok sc_of_any_size (fun vs H Q E h => ?_) (fun cdv A outer s₀ H vs Q E hr h => ?_)
  · obtain ⟨vg, vt, vb, g, t, ss, rfl, _⟩ := h
    rfl
  · obtain ⟨vg, vt, vb, g, t, ss, rfl, tg, tt, tb, R, kk⟩ := h
    refine ⟨_, (pss_cons (ps_set (i := 3) sc_of_any_size.nd rfl (.inl rfl) (pe_make M FI (hr.mono (by decide)) (by rfl) G.mgC bI .nil pass0 (pa_cons (pv 0) (pa_cons (pv 1) (pa_cons (pe_tup pa_nil) pa_nil)))))
 (pss_cons (ps_fld (pv 3) (pv 2) rfl)
 (pss_one (ps_ret (pv 3))))), ?_⟩
    have R0 : Right g t [] := ⟨R.gd, R.td, R.g2, R.t1, R.t4, R.gn, R.tn, fun _ m => nomatch m⟩
    refine ⟨_, rfl, _, rfl, (by show 0 ≤ sizeLine; decide), fun u nu => ?_⟩
    have s1 := same_upd (o := .tup []) nu
    refine fun o dx no ndx nex => make_use (ss := []) no ndx nex (Tp.keep s1.kp _ _ tg) (Tp.keep s1.kp _ _ tt) (.tup (SqT.of upd_same) .nil) R0 (by show 0 ≤ 5000; decide) fun H' s2 ho => ⟨rfl, ?_⟩
    have s12 := s1.trans s2
    have no0 : H o = none := s1.freeOf no
    refine ⟨_, rfl, _, rfl, o, C, dx, _, rfl, ho, G.cl, G.nB, (by show 3 < 1000; decide), ?_⟩
    rw [flds_put]
    have s3 := s12.put (o := .ins C dx (flds vg vt vb)) no0
    exact ⟨_, rfl, kk o _ s3 no0 ⟨dx, vg, vt, vb, upd_same, Tp.keep s3.kp _ _ tg, Tp.keep s3.kp _ _ tt, Tp.keep s3.kp _ _ tb⟩⟩
abbrev s_replaced : Stmt := topS 28
theorem sc_replaced : FnScope ["block", "place", "many", "new", "k", "word", "name", "deeds", "j", "changed"] ["block", "place", "many", "new"] (defScope s_replaced) := ⟨rfl, rfl, rfl, by decide +kernel, rfl, by decide +kernel, by decide +kernel⟩
def spRepl (K : PySem.W.Frag) : Sp := fun vs H Q _ => ∃ (vb vp vn : V) (ss : List Sm) (k : Nat), vs = [vb, vp, .int 1, vn] ∧ Tp K H vb (blD ss) ∧ Tp K H vp (iD [(k : Int)]) ∧ Tp K H vn (.tuple []) ∧ ss.length ≤ 100000 ∧
  ∀ v H', Same H H' → Tp K H' v (blD (ss.take k ++ ss.drop (k + 1))) → Q v H'
theorem ok_repl {f : Addr} {fd : FuncData} (F : Fun K "_replaced" "_replaced" s_replaced f fd) (T : Bi mg) : FnOk P w K mg base CX0 1 f fd ["block", "place", "many", "new"] (spRepl K) := by
  refine F.ok sc_replaced (fun vs H Q E h => ?_) (fun cdv A outer s₀ H vs Q E hr h => ?_)
  · obtain ⟨vb, vp, vn, ss, k, rfl, _⟩ := h
    rfl
  · obtain ⟨vb, vp, vn, ss, k, rfl, tb, tp, tn, l1, kk⟩ := h
    refine ⟨_, (pss_cons (ps_set (i := 4) sc_replaced.nd rfl (.inl rfl) (pe_ix ix_tup (pv 1) pe_int (fun _ _ => rfl)))
 (pss_cons (ps_if (pt_cmpR op_eq (pe_callB call_len_seq (by rfl) T.len PySem.boot_len (pa_cons (pv 1) pa_nil)) pe_int (nomark _))
  (pss_one (ps_ret (pe_op op_catU (pe_op op_catU (pe_slice sl_tupU (pv 0) po_none (po_some (pv 4))) (pv 3)) (pe_slice sl_tupU (pv 0) (po_some (pe_op op_add (pv 4) (pv 2))) po_none))))
  pss_nil)
 (pss_cons (ps_asg (pe_ix ix_tup (pv 0) (pv 4) (fun _ _ => rfl)) (pg_tup (by rfl) (pgs_cons (pg_name (i := 5) sc_replaced.nd rfl (.inl rfl)) (pgs_cons (pg_name (i := 6) sc_replaced.nd rfl (.inl rfl)) (pgs_cons (pg_name (i := 7) sc_replaced.nd rfl (.inl rfl)) pgs_nil)))))
 (pss_cons (ps_set (i := 8) sc_replaced.nd rfl (.inl rfl) (pe_ix ix_tup (pv 1) pe_int (fun _ _ => rfl)))
 (pss_cons (ps_set (i := 9) sc_replaced.nd rfl (.inl rfl) (pe_tup (pa_cons (pv 5) (pa_cons (pv 6) (pa_cons (pe_op op_catU (pe_op op_catU (pe_slice sl_tupU (pv 7) po_none (po_some (pv 8))) (pv 3)) (pe_slice sl_tupU (pv 7) (po_some (pe_op op_add (pv 8) (pv 2))) po_none)) pa_nil)))))
 (pss_one (ps_ret (pe_op op_catU (pe_op op_catU (pe_slice sl_tupU (pv 0) po_none (po_some (pv 4))) (pe_tup (pa_cons (pv 9) pa_nil))) (pe_slice sl_tupU (pv 0) (po_some (pe_op op_add (pv 4) pe_int)) po_none))))))))), ?_⟩
    obtain ⟨ab, xb, rfl, hb, hxb⟩ := tb.bl_inv
    obtain ⟨ap, rfl, hp⟩ := tp.iD_inv
    obtain ⟨an, xn, rfl, hn, hxn⟩ := tn.tup_inv
    cases hxn
    have lb : xb.length = ss.length := by rw [hxb.len, List.length_map]
    refine ⟨_, rfl, ap, _, _, _, rfl, rfl, hp, atI_nat (j := 0) rfl, ?_⟩
    refine ⟨_, rfl, ap, _, rfl, .inr hp, rfl, _, rfl, ?_⟩
    refine yesI (decide_eq_true rfl) ?_
    refine ⟨_, rfl, _, rfl, _, rfl, ab, _, rfl, hb, fun q1 H1 s1 h1 => ⟨_, rfl, ?_⟩⟩
    rw [cut_take] at h1
    refine ⟨q1, an, _, _, rfl, rfl, h1, s1.tup hn, ?_, fun q2 H2 s2 h2 => ?_⟩
    · rw [List.length_take]
      exact Nat.le_of_lt (big1 (by rw [List.length_nil]; omega))
    have s12 := s1.trans s2
    refine ⟨_, rfl, _, rfl, _, rfl, _, _, rfl, rfl, _, rfl, ab, _, rfl, s12.tup hb, fun q3 H3 s3 h3 => ?_⟩
    rw [show ((k : Int) + 1) = ((k + 1 : Nat) : Int) by omega, cut_drop] at h3
    refine ⟨q2, q3, _, _, rfl, rfl, s3.tup h2, h3, ?_, fun q4 H4 s4 h4 => ?_⟩
    · rw [List.length_append, List.length_take, List.length_drop]
      exact Nat.le_of_lt (big1 (by rw [List.length_nil]; omega))
    have s14 := s12.trans (s3.trans s4)
    rw [List.append_nil] at h4
    refine kk _ H4 s14 (.tup h4 ?_)
    have all4 := TpAll.keep s14.kp _ _ hxb
    rw [List.map_append, List.map_take, List.map_drop]
    exact (all4.takeP k).app (all4.dropP (k + 1))
abbrev s_left_out : Stmt := topS 29
theorem sc_left_out : FnScope ["program", "place"] ["program", "place"] (defScope s_left_out) := ⟨rfl, rfl, rfl, by decide +kernel, rfl, by decide +kernel, by decide +kernel⟩
def spLeft (K : PySem.W.Frag) (C : Addr) : Sp := fun vs H Q _ => ∃ (o : Addr) (v : V) (g t : List Str) (ss : List Sm) (k : Nat), vs = [.ref o, v] ∧ PgAt K C H o g t ss ∧ Tp K H v (iD [(k : Int)]) ∧ k < ss.length ∧ ss.length ≤ 100000 ∧ Right g t ss ∧
  ∀ (o2 : Addr) H', Same H H' → H o2 = none → PgAt K C H' o2 g t (ss.take k ++ ss.drop (k + 1)) → Q (.ref o2) H'
theorem Right.cut {g t : List Str} {ss : List Sm} (R : Right g t ss) (k j : Nat) : Right g t (ss.take k ++ ss.drop j) := ⟨R.gd, R.td, R.g2, R.t1, R.t4, R.gn, R.tn, fun s m => R.sn s ((List.mem_append.mp m).elim List.mem_of_mem_take List.mem_of_mem_drop)⟩
theorem ok_left {f C : Addr} {fd : FuncData} (F : Fun K "left_out" "left_out" s_left_out f fd) (G : Prg K mg C) (D_is_place : Has P w K mg base "is_place" 4 ["program", "thing"] (spIsPlace K C)) (D_of_any_size : Has P w K mg base "of_any_size" 7 ["given", "told", "block"] (spOfAny K C))
    (D_replaced : Has P w K mg base "_replaced" 1 ["block", "place", "many", "new"] (spRepl K)) : FnOk P w K mg base CX0 8 f fd ["program", "place"] (spLeft K C) := by
  refine F.ok sc_left_out (fun vs H Q E h => ?_) (fun cdv A outer s₀ H vs Q E hr h => ?_)
  · obtain ⟨o, v, g, t, ss, k, rfl, _⟩ := h
    rfl
  · obtain ⟨o, v, g, t, ss, k, rfl, hp, tv, hk, l1, R, kk⟩ := h
    refine ⟨_, (pss_cons (ps_if (pt_not (pt_val (D_is_place.call (hr.mono (by decide)) (by rfl) (pa_cons (pv 0) (pa_cons (pv 1) pa_nil)))))
  (pss_one ps_never)
  pss_nil)
 (pss_one (ps_ret (D_of_any_size.call (hr.mono (by decide)) (by rfl) (pa_cons (pe_fld (pv 0) rfl) (pa_cons (pe_fld (pv 0) rfl) (pa_cons (D_replaced.call (hr.mono (by decide)) (by rfl) (pa_cons (pe_fld (pv 0) rfl) (pa_cons (pv 1) (pa_cons pe_int (pa_cons (pe_tup pa_nil) pa_nil))))) pa_nil))))))), ?_⟩
    refine ⟨_, rfl, _, rfl, o, g, t, ss, v, _, rfl, hp, tv.iD_is, fun H1 s1 => ⟨_, rfl, ?_⟩⟩
    have e : Th.place ss 0 (.tup (([(k : Int)] : List Int).map Th.int)) = true := by
      show (decide (0 ≤ ((k : Nat) : Int)) && decide (((k : Nat) : Int) < (ss.length : Int) + (0 : Nat))) = true
      rw [decide_eq_true (Int.natCast_nonneg k), decide_eq_true (by omega)]
      rfl
    refine noI (by rw [e]; rfl) ?_
    obtain ⟨dx, vg, vt, vb, ho, tg, tt, tb⟩ := hp.same s1
    refine ⟨_, rfl, o, C, dx, _, _, rfl, ho, G.cl, G.nG, flds_g _ _ _, _, rfl, o, C, dx, _, _, rfl, ho, G.cl, G.nT, flds_t _ _ _, _, rfl, o, C, dx, _, _, rfl, ho, G.cl, G.nB, flds_b _ _ _, _, rfl, (by show 0 ≤ sizeLine; decide), fun u nu => ?_⟩
    have s2 := same_upd (o := .tup []) nu
    refine ⟨vb, v, .ref u, ss, k, rfl, Tp.keep s2.kp _ _ tb, Tp.keep (s1.trans s2).kp _ _ tv, .tup (SqT.of upd_same) .nil, l1, fun vn H3 s3 tn => ?_⟩
    have s23 := s2.trans s3
    refine ⟨vg, vt, vn, g, t, _, rfl, Tp.keep s23.kp _ _ tg, Tp.keep s23.kp _ _ tt, tn, R.cut k (k + 1), fun o2 H4 s4 no hp4 => ?_⟩
    have s13 := s1.trans s23
    exact kk o2 H4 (s13.trans s4) (s13.freeOf no) hp4
end
end Y

namespace Y
open PySem PySem.Spec PyProof.Rows L2
/-! data of texts: which way round they are compared does not matter -/
mutual
def tt : PyData → Bool
  | .str _ => true
  | .tuple ds => ttAll ds
  | _ => false
def ttAll : List PyData → Bool
  | [] => true
  | d :: ds => tt d && ttAll ds
end
theorem ttAll_of : ∀ {ds : List PyData}, (∀ d ∈ ds, tt d = true) → ttAll ds = true
  | [], _ => rfl
  | d :: ds, h => by
    show (tt d && ttAll ds) = true
    rw [h d List.mem_cons_self, ttAll_of fun e m => h e (List.mem_cons_of_mem _ m)]
    rfl
mutual
theorem eqv_sym : ∀ (d e : PyData), tt d = true → tt e = true → PyData.eqv d e = PyData.eqv e d
  | .str a, .str b, _, _ => by
    show (a == b) = (b == a)
    rw [Bool.eq_iff_iff, beq_iff_eq, beq_iff_eq]
    exact eq_comm
  | .str a, .tuple es, _, _ => rfl
  | .tuple ds, .str b, _, _ => rfl
  | .tuple ds, .tuple es, h1, h2 => by
    show PyData.eqvAll ds es = PyData.eqvAll es ds
    exact eqvAll_sym ds es h1 h2
  | .none, _, h, _ => by cases h
  | .bool _, _, h, _ => by cases h
  | .int _, _, h, _ => by cases h
  | .list _, _, h, _ => by cases h
  | .dict _, _, h, _ => by cases h
  | .str _, .none, _, h => by cases h
  | .str _, .bool _, _, h => by cases h
  | .str _, .int _, _, h => by cases h
  | .str _, .list _, _, h => by cases h
  | .str _, .dict _, _, h => by cases h
  | .tuple _, .none, _, h => by cases h
  | .tuple _, .bool _, _, h => by cases h
  | .tuple _, .int _, _, h => by cases h
  | .tuple _, .list _, _, h => by cases h
  | .tuple _, .dict _, _, h => by cases h
theorem eqvAll_sym : ∀ (ds es : List PyData), ttAll ds = true → ttAll es = true → PyData.eqvAll ds es = PyData.eqvAll es ds
  | [], [], _, _ => rfl
  | [], _ :: _, _, _ => rfl
  | _ :: _, [], _, _ => rfl
  | d :: ds, e :: es, h1, h2 => by
    have h1 : (tt d && ttAll ds) = true := h1
    have h2 : (tt e && ttAll es) = true := h2
    rw [Bool.and_eq_true] at h1 h2
    show (PyData.eqv d e && PyData.eqvAll ds es) = (PyData.eqv e d && PyData.eqvAll es ds)
    rw [eqv_sym d e h1.1 h2.1, eqvAll_sym ds es h1.2 h2.2]
end
theorem tt_names (ns : List Str) : tt (nmD ns) = true := ttAll_of fun d m => by
  obtain ⟨x, _, rfl⟩ := List.mem_map.mp m
  rfl
theorem tt_deed (d : De) : tt (deD d) = true := by cases d <;> rfl
theorem tt_sm (s : Sm) : tt (smD s) = true := by
  cases s with
  | deed d => exact tt_deed d
  | rnd x ds =>
    show (true && (true && (ttAll (ds.map deD) && true))) = true
    rw [ttAll_of fun d m => by
      obtain ⟨e, _, rfl⟩ := List.mem_map.mp m
      exact tt_deed e]
    rfl
theorem tt_bl (ss : List Sm) : tt (blD ss) = true := ttAll_of fun d m => by
  obtain ⟨x, _, rfl⟩ := List.mem_map.mp m
  exact tt_sm x
theorem eqP_sym (g t : List Str) (ss : List Sm) (g2 t2 : List Str) (ss2 : List Sm) : eqP g t ss g2 t2 ss2 = eqP g2 t2 ss2 g t ss := by
  unfold eqP
  rw [eqv_sym _ _ (tt_names g) (tt_names g2), eqv_sym _ _ (tt_names t) (tt_names t2), eqv_sym _ _ (tt_bl ss) (tt_bl ss2)]
theorem eqv_pt (g t : List Str) (ss : List Sm) (g2 t2 : List Str) (ss2 : List Sm) : PyData.eqv (ptD g t ss) (ptD g2 t2 ss2) = eqP g t ss g2 t2 ss2 := by
  show (PyData.eqv (nmD g) (nmD g2) && (PyData.eqv (nmD t) (nmD t2) && (PyData.eqv (blD ss) (blD ss2) && true))) = _
  rw [Bool.and_true]
  rfl
theorem Lay.mono {n m : Nat} {d : PyData} (h : Lay n d) (k : n ≤ m) : Lay m d := ⟨h.1, Nat.le_trans h.2 k⟩
theorem lay_deed {d : De} (h : ∀ x ∈ d.ns, x ∈ NM14) : Lay 1 (deD d) := lay_tuple fun e m => by
  cases d with
  | zero x =>
    rcases List.mem_cons.mp m with rfl | m
    · exact lay_str (by decide +kernel)
    · rw [List.mem_singleton.mp m]
      exact lay_str (nm14_str x (h x List.mem_cons_self))
  | copy x y =>
    rcases List.mem_cons.mp m with rfl | m
    · exact lay_str (by decide +kernel)
    rcases List.mem_cons.mp m with rfl | m
    · exact lay_str (nm14_str x (h x List.mem_cons_self))
    · rw [List.mem_singleton.mp m]
      exact lay_str (nm14_str y (h y (List.mem_cons_of_mem _ List.mem_cons_self)))
  | more x =>
    rcases List.mem_cons.mp m with rfl | m
    · exact lay_str (by decide +kernel)
    · rw [List.mem_singleton.mp m]
      exact lay_str (nm14_str x (h x List.mem_cons_self))
theorem lay_sm {s : Sm} (h : ∀ x ∈ s.ns, x ∈ NM14) : Lay 3 (smD s) := by
  cases s with
  | deed d => exact (lay_deed h).mono (by decide)
  | rnd x ds =>
    refine lay_tuple (n := 2) fun e m => ?_
    rcases List.mem_cons.mp m with rfl | m
    · exact lay_str (by decide +kernel)
    rcases List.mem_cons.mp m with rfl | m
    · exact lay_str (nm14_str x (h x List.mem_cons_self))
    · rw [List.mem_singleton.mp m]
      refine lay_tuple (n := 1) fun e m => ?_
      obtain ⟨d, md, rfl⟩ := List.mem_map.mp m
      exact lay_deed fun y hy => h y (List.mem_cons_of_mem _ (List.mem_flatten.mpr ⟨d.ns, List.mem_map.mpr ⟨d, md, rfl⟩, hy⟩))
theorem lay_bl {ss : List Sm} (h : ∀ s ∈ ss, ∀ x ∈ s.ns, x ∈ NM14) : Lay 4 (blD ss) := lay_tuple fun e m => by
  obtain ⟨s, ms, rfl⟩ := List.mem_map.mp m
  exact lay_sm (h s ms)
theorem Right.lay {g t : List Str} {ss : List Sm} (R : Right g t ss) : Lay 5 (ptD g t ss) := lay_tuple fun e m => by
  rcases List.mem_cons.mp m with rfl | m
  · exact (lay_names R.gn).mono (by decide)
  rcases List.mem_cons.mp m with rfl | m
  · exact (lay_names R.tn).mono (by decide)
  · rw [List.mem_singleton.mp m]
    exact lay_bl R.sn
theorem Right.shp {g t : List Str} {ss : List Sm} (R : Right g t ss) : ShP g t ss := ⟨(lay_names R.gn).shp (by decide), (lay_names R.tn).shp (by decide), (lay_bl R.sn).shp (by decide)⟩
theorem Right.self {g t : List Str} {ss : List Sm} (R : Right g t ss) : eqP g t ss g t ss = true := by
  unfold eqP
  rw [SeqAt.eqv_refl _ (SeqAt.canLay_of_shaped R.shp.g), SeqAt.eqv_refl _ (SeqAt.canLay_of_shaped R.shp.t), SeqAt.eqv_refl _ (SeqAt.canLay_of_shaped R.shp.b)]
  rfl
theorem dpt_all {n : Nat} {ds : List PyData} (l : ds.length ≤ 100000) (h : ∀ d ∈ ds, dpt n d = true) : dpt (n + 1) (.tuple ds) = true := by
  show (decide (ds.length ≤ 100000) && ds.all (dpt n)) = true
  rw [decide_eq_true l, Bool.true_and, List.all_eq_true]
  exact h
theorem dpt_deed (n : Nat) (d : De) : dpt (n + 1) (deD d) = true := dpt_all (by have := deed_len d; omega) fun e m => by
  cases d <;> simp [deP] at m <;> rcases m with rfl | rfl | rfl <;> cases n <;> rfl
theorem dpt_sm (n : Nat) {s : Sm} (h : s.deeds.length ≤ 100000) : dpt (n + 3) (smD s) = true := by
  cases s with
  | deed d => exact dpt_deed (n + 2) d
  | rnd x ds =>
    refine dpt_all (n := n + 2) (by show 3 ≤ 100000; decide) fun e m => ?_
    rcases List.mem_cons.mp m with rfl | m
    · rfl
    rcases List.mem_cons.mp m with rfl | m
    · rfl
    · rw [List.mem_singleton.mp m]
      refine dpt_all (n := n + 1) (by rw [List.length_map]; exact h) fun e m => ?_
      obtain ⟨d, md, rfl⟩ := List.mem_map.mp m
      exact dpt_deed n d
theorem dpt_bl (n : Nat) {ss : List Sm} (l : ss.length ≤ 100000) (h : ∀ s ∈ ss, s.deeds.length ≤ 100000) : dpt (n + 4) (blD ss) = true := dpt_all (by rw [List.length_map]; exact l) fun e m => by
  obtain ⟨s, ms, rfl⟩ := List.mem_map.mp m
  exact dpt_sm n (h s ms)
theorem dpt_kept {g t : List Str} {ss : List Sm} (R : Right g t ss) (l : ss.length ≤ 100000) (h : ∀ s ∈ ss, s.deeds.length ≤ 100000) : dpt 5 (.list [nmD g, nmD t, blD ss]) = true := by
  have a := dpt_names 3 (ns := g) (by have := R.g2; omega)
  have b := dpt_names 3 (ns := t) (by have := R.t4; omega)
  have c := dpt_bl 0 l h
  show (decide (3 ≤ 100000) && (dpt 4 (nmD g) && (dpt 4 (nmD t) && (dpt 4 (blD ss) && true)))) = true
  rw [a, b, c]
  rfl
theorem cut_init {xs : List V} : cutV xs none (some (-1)) = xs.take (xs.length - 1) := by
  unfold cutV
  have e : HT.sIx xs.length xs.length (some (-1)) = xs.length - 1 := by
    unfold HT.sIx
    show (if (-1 : Int) < 0 then ((-1 : Int) + (xs.length : Int)).toNat else min (-1 : Int).toNat xs.length) = _
    rw [if_pos (by decide)]
    omega
  rw [HT.sIx_none, e, Nat.sub_zero, List.drop_zero]
theorem bnd {ss : List Sm} {a b : Nat} (h1 : ss.length ≤ a) (h2 : ∀ s ∈ ss, s.deeds.length ≤ b) : (plF 0 ss).length ≤ a * (b + 1) := by
  rw [plF_len]
  have : ∀ (l : List Sm), (∀ s ∈ l, s.deeds.length ≤ b) → (l.map fun s => s.deeds.length).sum ≤ l.length * b := by
    intro l
    induction l with
    | nil => intro _; exact Nat.zero_le _
    | cons a l ih =>
      intro h
      rw [List.map_cons, List.sum_cons, List.length_cons, Nat.succ_mul]
      have := h a List.mem_cons_self
      have := ih fun s m => h s (List.mem_cons_of_mem _ m)
      omega
  have q := this ss h2
  rw [Nat.mul_succ]
  have := Nat.mul_le_mul_right b h1
  omega

theorem Right.gs {g t : List Str} {ss : List Sm} (R : Right g t ss) {g2 : List Str} (nd : g2.Nodup) (l : g2.length ≤ g.length) (m : ∀ x ∈ g2, x ∈ g) : Right g2 t ss := ⟨nd, R.td, Nat.le_trans l R.g2, R.t1, R.t4, fun x h => R.gn x (m x h), R.tn, R.sn⟩
theorem Right.ts {g t : List Str} {ss : List Sm} (R : Right g t ss) {t2 : List Str} (nd : t2.Nodup) (l1 : 1 ≤ t2.length) (l : t2.length ≤ t.length) (m : ∀ x ∈ t2, x ∈ t) : Right g t2 ss := ⟨R.gd, nd, R.g2, l1, Nat.le_trans l R.t4, R.gn, fun x h => R.tn x (m x h), R.sn⟩
theorem Right.ss_ {g t : List Str} {ss : List Sm} (R : Right g t ss) {ss2 : List Sm} (m : ∀ s ∈ ss2, s ∈ ss ∨ ∀ x ∈ s.ns, x ∈ t) : Right g t ss2 := ⟨R.gd, R.td, R.g2, R.t1, R.t4, R.gn, R.tn, fun s h => (m s h).elim (R.sn s) fun q x hx => R.tn x (q x hx)⟩
section
variable {P : Program} {w : World} {K : PySem.W.Frag} {mg : Str → Option Value} {base : Heap}
abbrev s_l_changed : Stmt := topS 41
theorem sc_l_changed : FnScope ["_law_hand_here", "_law_parts_here", "_law_given", "_law_told", "_law_block", "_law_kind", "_law_at"] ["_law_hand_here", "_law_parts_here"] (defScope s_l_changed) := ⟨rfl, rfl, rfl, by decide +kernel, rfl, by decide +kernel, by decide +kernel⟩
def spChg (K : PySem.W.Frag) : Sp := fun vs H Q _ => ∃ (p c : Addr) (v : V) (g t : List Str) (ss : List Sm), vs = [.ref p, v] ∧ HandAt H p c ∧ Tp K H v (ptD g t ss) ∧ Right g t ss ∧ ss.length ≤ 8 ∧ (∀ s ∈ ss, s.deeds.length ≤ 4) ∧
  ∀ (v2 : V) (g2 t2 : List Str) (ss2 : List Sm) H', Tp K H' v2 (ptD g2 t2 ss2) → Right g2 t2 ss2 → ss2.length ≤ 9 → (∀ s ∈ ss2, s.deeds.length ≤ 4) → Drew K p c H H' → Q v2 H'
theorem ok_chg {f : Addr} {fd : FuncData} (F : Fun K "_law_changed" "_law_changed" s_l_changed f fd) (T : Bi mg) (D_l_draw : Has P w K mg base "_law_draw" 1 ["_law_hand_here", "_law_many"] (spDraw K))
    (D_l_statement : Has P w K mg base "_law_statement" 4 ["_law_hand_here", "_law_own_here", "_law_most"] (spStm K)) : FnOk P w K mg base CX0 5 f fd ["_law_hand_here", "_law_parts_here"] (spChg K) := by
  refine F.ok sc_l_changed (fun vs H Q E h => ?_) (fun cdv A outer s₀ H vs Q E hr h => ?_)
  · obtain ⟨p, c, v, g, t, ss, rfl, _⟩ := h
    rfl
  · obtain ⟨p, c, v, g, t, ss, rfl, Z, tv, R, l8, l4, kk⟩ := h
    refine ⟨_, (pss_cons (ps_asg (pv 1) (pg_tup (by rfl) (pgs_cons (pg_name (i := 2) sc_l_changed.nd rfl (.inl rfl)) (pgs_cons (pg_name (i := 3) sc_l_changed.nd rfl (.inl rfl)) (pgs_cons (pg_name (i := 4) sc_l_changed.nd rfl (.inl rfl)) pgs_nil)))))
 (pss_cons (ps_set (i := 5) sc_l_changed.nd rfl (.inl rfl) (D_l_draw.call (hr.mono (by decide)) (by rfl) (pa_cons (pv 0) (pa_cons pe_int pa_nil))))
 (pss_cons (ps_if (pt_cmpR op_eq (pv 5) pe_int (nomark _))
  (pss_one (ps_ret (pe_tup (pa_cons (pe_revT (pv 2)) (pa_cons (pv 3) (pa_cons (pv 4) pa_nil))))))
  pss_nil)
 (pss_cons (ps_if (pt_cmpR op_eq (pv 5) pe_int (nomark _))
  (pss_one (ps_ret (pe_tup (pa_cons (pe_slice sl_tupU (pv 2) (po_some pe_int) po_none) (pa_cons (pv 3) (pa_cons (pv 4) pa_nil))))))
  pss_nil)
 (pss_cons (ps_if (pt_cmpR op_eq (pv 5) pe_int (nomark _))
  (pss_one (ps_ret (pe_tup (pa_cons (pv 2) (pa_cons (pe_revT (pv 3)) (pa_cons (pv 4) pa_nil))))))
  pss_nil)
 (C8.pss_cut (ps_if ((pw_and (pt_cmpR op_eq (pv 5) pe_int (nomark _)) (pw_and1 (pt_cmpR op_gt (pe_callB call_len_seq (by rfl) T.len PySem.boot_len (pa_cons (pv 3) pa_nil)) pe_int (nomark _))))).pt
  (pss_one (ps_ret (pe_tup (pa_cons (pv 2) (pa_cons (pe_slice sl_tupU (pv 3) po_none (po_some (pe_un un_neg pe_int))) (pa_cons (pv 4) pa_nil))))))
  pss_nil)
 (pss_cons (ps_set (i := 6) sc_l_changed.nd rfl (.inl rfl) (D_l_draw.call (hr.mono (by decide)) (by rfl) (pa_cons (pv 0) (pa_cons (pe_op op_add (pe_callB call_len_seq (by rfl) T.len PySem.boot_len (pa_cons (pv 4) pa_nil)) pe_int) pa_nil))))
 (pss_cons (ps_if (pt_cmpR op_eq (pv 5) pe_int (nomark _))
  (pss_one (ps_ret (pe_tup (pa_cons (pv 2) (pa_cons (pv 3) (pa_cons (pe_op op_catU (pe_slice sl_tupU (pv 4) po_none (po_some (pv 6))) (pe_slice sl_tupU (pv 4) (po_some (pe_op op_add (pv 6) pe_int)) po_none)) pa_nil))))))
  pss_nil)
 (pss_cons (ps_if (pt_cmpR op_eq (pv 5) pe_int (nomark _))
  (pss_one (ps_ret (pe_tup (pa_cons (pv 2) (pa_cons (pv 3) (pa_cons (pe_op op_catU (pe_op op_catU (pe_slice sl_tupU (pv 4) po_none (po_some (pv 6))) (pe_tup (pa_cons (D_l_statement.call (hr.mono (by decide)) (by rfl) (pa_cons (pv 0) (pa_cons (pv 3) (pa_cons pe_int pa_nil)))) pa_nil))) (pe_slice sl_tupU (pv 4) (po_some (pv 6)) po_none)) pa_nil))))))
  pss_nil)
 (pss_one (ps_ret (pe_tup (pa_cons (pv 2) (pa_cons (pv 3) (pa_cons (pe_op op_catU (pe_op op_catU (pe_slice sl_tupU (pv 4) po_none (po_some (pv 6))) (pe_tup (pa_cons (D_l_statement.call (hr.mono (by decide)) (by rfl) (pa_cons (pv 0) (pa_cons (pv 3) (pa_cons pe_int pa_nil)))) pa_nil))) (pe_slice sl_tupU (pv 4) (po_some (pe_op op_add (pv 6) pe_int)) po_none)) pa_nil))))))))))))))), ?_⟩
    obtain ⟨o, xs0, rfl, hpt, hall⟩ := tv.tup_inv
    obtain ⟨vg, vt, vb, rfl, tg, tt, tb⟩ := parts_inv hall
    refine ⟨_, rfl, o, _, rfl, hpt, rfl, vg, _, rfl, vt, _, rfl, vb, _, rfl, rfl, _, rfl, p, c, 7, rfl, Z, by decide, by decide, fun kind H1 _ D1 => ?_⟩
    obtain ⟨ag, rfl, hg⟩ := tg.strs_inv
    obtain ⟨at_, rfl, ht⟩ := tt.strs_inv
    obtain ⟨ab, xb, rfl, hb, hxb⟩ := tb.bl_inv
    have Z1 := D1.z
    have hg1 := D1.k _ _ hg
    have ht1 := D1.k _ _ ht
    have hb1 := D1.k _ _ hb
    have tg1 := D1.tp tg
    have tt1 := D1.tp tt
    have tb1 := D1.tp tb
    have hxb1 := D1.tps hxb
    have lb : xb.length = ss.length := by rw [hxb.len, List.length_map]
    -- a tuple of three parts, told
    have fin : ∀ (x y z : V) (g2 t2 : List Str) (ss2 : List Sm) (H2 : Hp), Tp K H2 x (nmD g2) → Tp K H2 y (nmD t2) → Tp K H2 z (blD ss2) → Right g2 t2 ss2 → ss2.length ≤ 9 → (∀ s ∈ ss2, s.deeds.length ≤ 4) → Drew K p c H H2 →
        ∀ u, H2 u = none → Q (.ref u) (upd H2 u (.tup [x, y, z])) := fun x y z g2 t2 ss2 H2 h1 h2 h3 R2 l9 l42 D2 u nu => by
      have s1 := same_upd (o := .tup [x, y, z]) nu
      exact kk _ g2 t2 ss2 _ (.tup (SqT.of upd_same) (.cons (Tp.keep s1.kp _ _ h1) (.cons (Tp.keep s1.kp _ _ h2) (.cons (Tp.keep s1.kp _ _ h3) .nil)))) R2 l9 l42 (D2.put nu)
    have l9 : ss.length ≤ 9 := by omega
    -- given the other way round
    refine ⟨_, rfl, rfl, _, rfl, ite2 (fun _ => ?_) (fun _ => ?_)⟩
    · refine ⟨_, rfl, ag, _, rfl, hg1, fun q nq => ⟨_, rfl, _, rfl, (by show 3 ≤ sizeLine; decide), fun u nu => ?_⟩⟩
      have s2 := same_upd (o := .tup (g.map V.str).reverse) nq
      rw [← List.map_reverse] at s2 nu ⊢
      refine fin _ _ _ g.reverse t ss _ (Tp.strs (SqT.of (by rw [List.map_reverse]; exact upd_same))) (Tp.keep s2.kp _ _ tt1) (Tp.keep s2.kp _ _ tb1) (R.gs ((List.reverse_perm g).nodup_iff.mpr R.gd) (by rw [List.length_reverse]; omega) fun x m => List.mem_reverse.mp m) l9 l4 (D1.same s2) u nu
    -- given without its first
    refine ⟨_, rfl, rfl, _, rfl, ite2 (fun _ => ?_) (fun _ => ?_)⟩
    · refine ⟨_, rfl, 1, rfl, ag, _, rfl, hg1, fun q H2 s2 hq => ⟨_, rfl, _, rfl, (by show 3 ≤ sizeLine; decide), fun u nu => ?_⟩⟩
      rw [show ((1 : Int)) = ((1 : Nat) : Int) from rfl, cut_drop, ← List.map_drop] at hq
      exact fin _ _ _ (g.drop 1) t ss _ (Tp.strs hq) (Tp.keep s2.kp _ _ tt1) (Tp.keep s2.kp _ _ tb1) (R.gs ((List.drop_sublist _ _).nodup R.gd) (by rw [List.length_drop]; omega) fun x m => List.mem_of_mem_drop m) l9 l4 (D1.same s2) u nu
    -- told the other way round
    refine ⟨_, rfl, rfl, _, rfl, ite2 (fun _ => ?_) (fun _ => ?_)⟩
    · refine ⟨_, rfl, _, rfl, at_, _, rfl, ht1, fun q nq => ⟨_, rfl, (by show 3 ≤ sizeLine; decide), fun u nu => ?_⟩⟩
      have s2 := same_upd (o := .tup (t.map V.str).reverse) nq
      rw [← List.map_reverse] at s2 nu ⊢
      refine fin _ _ _ g t.reverse ss _ (Tp.keep s2.kp _ _ tg1) (Tp.strs (SqT.of (by rw [List.map_reverse]; exact upd_same))) (Tp.keep s2.kp _ _ tb1) (R.ts ((List.reverse_perm t).nodup_iff.mpr R.td) (by rw [List.length_reverse]; exact R.t1) (by rw [List.length_reverse]; omega) fun x m => List.mem_reverse.mp m) l9 l4 (D1.same s2) u nu
    -- told without its last
    refine ⟨fun σ H2 => σ = [some (.ref p), some (.ref o), some (.ref ag), some (.ref at_), some (.ref ab), some (.int kind), none] ∧ H2 = H1, ?_, ?_⟩
    · refine ⟨_, rfl, rfl, _, rfl, ite2 (fun _ => ?_) (fun _ => ⟨rfl, rfl⟩)⟩
      refine ⟨_, rfl, at_, _, rfl, .inr ht1, _, _, rfl, rfl, _, rfl, ite2 (fun hl => ?_) (fun _ => ⟨rfl, rfl⟩)⟩
      have hl2 : (1 : Int) < ((t.map V.str).length : Int) := of_decide_eq_true hl
      rw [List.length_map] at hl2
      refine ⟨_, rfl, _, rfl, 1, rfl, -1, rfl, at_, _, rfl, ht1, fun q H2 s2 hq => ⟨_, rfl, (by show 3 ≤ sizeLine; decide), fun u nu => ?_⟩⟩
      rw [cut_init, List.length_map, ← List.map_take] at hq
      exact fin _ _ _ g (t.take (t.length - 1)) ss _ (Tp.keep s2.kp _ _ tg1) (Tp.strs hq) (Tp.keep s2.kp _ _ tb1) (R.ts ((List.take_sublist _ _).nodup R.td) (by rw [List.length_take]; omega) (by rw [List.length_take]; omega) fun x m => List.mem_of_mem_take m) l9 l4 (D1.same s2) u nu
    rintro σ H2 ⟨rfl, rfl⟩
    refine ⟨_, rfl, _, rfl, ab, _, rfl, .inr hb1, _, _, rfl, rfl, p, c, _, rfl, Z1, by omega, by omega, fun k H3 hk D2 => ?_⟩
    have D12 := D1.trans D2
    have hb2 := D2.k _ _ hb1
    have tg2 := D2.tp tg1
    have tt2 := D2.tp tt1
    have hxb2 := D2.tps hxb1
    have lx : ∀ j : Nat, (xb.take k).length + j ≤ 1000 → (xb.take k).length + j ≤ sizeLine := fun j h => Nat.le_of_lt (big1 (by omega))
    have lk : (xb.take k).length ≤ 8 := by rw [List.length_take]; omega
    -- one left out
    refine ⟨_, rfl, rfl, _, rfl, ite2 (fun _ => ?_) (fun _ => ?_)⟩
    · refine ⟨_, rfl, _, rfl, _, rfl, _, rfl, _, rfl, ab, _, rfl, hb2, fun q4 H4 s4 h4 => ?_⟩
      rw [cut_take] at h4
      refine ⟨_, rfl, _, rfl, _, _, rfl, rfl, _, rfl, ab, _, rfl, s4.tup hb2, fun q5 H5 s5 h5 => ?_⟩
      rw [show ((k : Int) + 1) = ((k + 1 : Nat) : Int) by omega, cut_drop] at h5
      refine ⟨q4, q5, _, _, rfl, rfl, s5.tup h4, h5, lx _ (by rw [List.length_drop]; omega), fun q6 H6 s6 h6 => ⟨(by show 3 ≤ sizeLine; decide), fun u nu => ?_⟩⟩
      have s36 := s4.trans (s5.trans s6)
      have all6 := TpAll.keep s36.kp _ _ hxb2
      refine fin _ _ _ g t (ss.take k ++ ss.drop (k + 1)) _ (Tp.keep s36.kp _ _ tg2) (Tp.keep s36.kp _ _ tt2) (.tup h6 ?_) (R.cut k (k + 1)) (by rw [List.length_append, List.length_take, List.length_drop]; omega) (fun s m => l4 s ((List.mem_append.mp m).elim List.mem_of_mem_take List.mem_of_mem_drop)) (D12.same s36) u nu
      rw [List.map_append, List.map_take, List.map_drop]
      exact (all6.takeP k).app (all6.dropP (k + 1))
    have lt1000 : t.length ≤ 1000 := by have := R.t4; omega
    -- one put in, from j on
    have put : ∀ (s : Sm) (j : Nat), (∀ x ∈ s.ns, x ∈ t) → s.deeds.length ≤ 3 → k ≤ j → Right g t (ss.take k ++ [s] ++ ss.drop j) ∧ (ss.take k ++ [s] ++ ss.drop j).length ≤ 9 ∧ ∀ s2 ∈ ss.take k ++ [s] ++ ss.drop j, s2.deeds.length ≤ 4 := fun s j h1 h2 h3 => by
      refine ⟨R.ss_ fun s2 m => ?_, ?_, fun s2 m => ?_⟩
      · rcases List.mem_append.mp m with m | m
        · rcases List.mem_append.mp m with m | m
          · exact .inl (List.mem_of_mem_take m)
          · rw [List.mem_singleton.mp m]
            exact .inr h1
        · exact .inl (List.mem_of_mem_drop m)
      · rw [List.length_append, List.length_append, List.length_take, List.length_drop, List.length_singleton]
        omega
      · rcases List.mem_append.mp m with m | m
        · rcases List.mem_append.mp m with m | m
          · exact l4 s2 (List.mem_of_mem_take m)
          · rw [List.mem_singleton.mp m]
            omega
        · exact l4 s2 (List.mem_of_mem_drop m)
    refine ⟨_, rfl, rfl, _, rfl, ite2 (fun _ => ?_) (fun _ => ?_)⟩
    · refine ⟨_, rfl, _, rfl, _, rfl, _, rfl, _, rfl, ab, _, rfl, hb2, fun q4 H4 s4 h4 => ?_⟩
      rw [cut_take] at h4
      have D14 := D12.same s4
      refine ⟨_, rfl, _, rfl, p, c, at_, t, 3, rfl, D14.z, .inr (D14.k _ _ ht), R.t1, lt1000, by decide, fun v s H5 tv5 hs1 hs2 D5 => ⟨(by show 1 ≤ sizeLine; decide), fun u1 nu1 => ?_⟩⟩
      have D15 := D14.trans D5
      have D16 := D15.put (o := .tup [v]) nu1
      have s6 := same_upd (o := .tup [v]) nu1
      refine ⟨q4, u1, _, _, rfl, rfl, s6.tup (D5.k _ _ h4), SqT.of upd_same, lx _ (by show _ + 1 ≤ 1000; omega), fun q7 H7 s7 h7 => ?_⟩
      have D17 := D16.same s7
      refine ⟨_, rfl, _, rfl, _, rfl, ab, _, rfl, D17.k _ _ hb, fun q8 H8 s8 h8 => ?_⟩
      rw [cut_drop] at h8
      refine ⟨q7, q8, _, _, rfl, rfl, s8.tup h7, h8, ?_, fun q9 H9 s9 h9 => ⟨(by show 3 ≤ sizeLine; decide), fun u nu => ?_⟩⟩
      · rw [List.length_append, List.length_drop]
        exact Nat.le_of_lt (big1 (by rw [List.length_singleton]; omega))
      have D19 := (D17.same s8).same s9
      obtain ⟨R9, l99, l49⟩ := put s k hs1 hs2 (Nat.le_refl _)
      refine fin _ _ _ g t _ _ (D19.tp tg) (D19.tp tt) (.tup h9 ?_) R9 l99 l49 D19 u nu
      have s59 := ((s6.trans s7).trans s8).trans s9
      rw [List.map_append, List.map_append, List.map_take, List.map_drop]
      exact (((D19.tps hxb).takeP k).app (.cons (Tp.keep s59.kp _ _ tv5) .nil)).app ((D19.tps hxb).dropP k)
    · refine ⟨_, rfl, _, rfl, _, rfl, _, rfl, _, rfl, ab, _, rfl, hb2, fun q4 H4 s4 h4 => ?_⟩
      rw [cut_take] at h4
      have D14 := D12.same s4
      refine ⟨_, rfl, _, rfl, p, c, at_, t, 3, rfl, D14.z, .inr (D14.k _ _ ht), R.t1, lt1000, by decide, fun v s H5 tv5 hs1 hs2 D5 => ⟨(by show 1 ≤ sizeLine; decide), fun u1 nu1 => ?_⟩⟩
      have D15 := D14.trans D5
      have D16 := D15.put (o := .tup [v]) nu1
      have s6 := same_upd (o := .tup [v]) nu1
      refine ⟨q4, u1, _, _, rfl, rfl, s6.tup (D5.k _ _ h4), SqT.of upd_same, lx _ (by show _ + 1 ≤ 1000; omega), fun q7 H7 s7 h7 => ?_⟩
      have D17 := D16.same s7
      refine ⟨_, rfl, _, rfl, _, _, rfl, rfl, _, rfl, ab, _, rfl, D17.k _ _ hb, fun q8 H8 s8 h8 => ?_⟩
      rw [show ((k : Int) + 1) = ((k + 1 : Nat) : Int) by omega, cut_drop] at h8
      refine ⟨q7, q8, _, _, rfl, rfl, s8.tup h7, h8, ?_, fun q9 H9 s9 h9 => ⟨(by show 3 ≤ sizeLine; decide), fun u nu => ?_⟩⟩
      · rw [List.length_append, List.length_drop]
        exact Nat.le_of_lt (big1 (by rw [List.length_singleton]; omega))
      have D19 := (D17.same s8).same s9
      obtain ⟨R9, l99, l49⟩ := put s (k + 1) hs1 hs2 (Nat.le_succ _)
      refine fin _ _ _ g t _ _ (D19.tp tg) (D19.tp tt) (.tup h9 ?_) R9 l99 l49 D19 u nu
      have s59 := ((s6.trans s7).trans s8).trans s9
      rw [List.map_append, List.map_append, List.map_take, List.map_drop]
      exact (((D19.tps hxb).takeP k).app (.cons (Tp.keep s59.kp _ _ tv5) .nil)).app ((D19.tps hxb).dropP (k + 1))
end
end Y

namespace Y
open PySem PySem.Spec PyProof.Rows L2
section
variable {P : Program} {w : World} {K : PySem.W.Frag} {mg : Str → Option Value} {base : Heap} {C : Addr}
theorem use_eq {H : Hp} {Q : VK} {neg : Bool} {o o2 : Addr} {g t g2 t2 : List Str} {ss ss2 : List Sm} (G : Prg K mg C) (GE : PrgE K C) (hp : PgAt K C H o g t ss) (hp2 : PgAt K C H o2 g2 t2 ss2) (R : Right g t ss) (R2 : Right g2 t2 ss2)
    (k : ∀ H', Same H H' → Q (.bl (if neg then !eqP g t ss g2 t2 ss2 else eqP g t ss g2 t2 ss2)) H') : rOwn2 K C (spEq K C) neg (.ref o) (.ref o2) H Q := by
  obtain ⟨dx, vg, vt, vb, ho, h1, h2, h3⟩ := id hp
  obtain ⟨dx2, vg2, vt2, vb2, ho2, h12, h22, h32⟩ := id hp2
  exact ⟨o, dx, _, .ref C, rfl, ho, GE.ty G ho2, notFirst_own, o, .ref o2, g, t, ss, rfl, hp, R.shp, .inl ⟨o2, g2, t2, ss2, rfl, hp2, R2.shp, fun H' s' => ⟨_, rfl, k H' s'⟩⟩⟩
theorem use_no {H : Hp} {Q : VK} {neg : Bool} {o : Addr} {y : V} {T : Value} {g t : List Str} {ss : List Sm} (hp : PgAt K C H o g t ss) (R : Right g t ss) (ty : TyX K H y T) (ot : Other K C T)
    (k : ∀ H', Same H H' → Q (.bl (if neg then !false else false)) H') : rOwn2 K C (spEq K C) neg (.ref o) y H Q := by
  obtain ⟨dx, vg, vt, vb, ho, h1, h2, h3⟩ := id hp
  exact ⟨o, dx, _, T, rfl, ho, ty, ot.2, o, y, g, t, ss, rfl, hp, R.shp, .inr ⟨T, ty, ot.1, fun H' s' => ⟨_, rfl, k H' s'⟩⟩⟩
theorem pt_inv {H : Hp} {v : V} {g t : List Str} {ss : List Sm} (h : Tp K H v (ptD g t ss)) : ∃ ov ag at_ ab xb, v = .ref ov ∧ SqT K H ov [.ref ag, .ref at_, .ref ab] ∧ SqT K H ag (g.map V.str) ∧ SqT K H at_ (t.map V.str) ∧ SqT K H ab xb ∧ TpAll K H xb (ss.map smD) := by
  obtain ⟨ov, xs0, rfl, hpt, hall⟩ := h.tup_inv
  obtain ⟨vg, vt, vb, rfl, tg, tt, tb⟩ := parts_inv hall
  obtain ⟨ag, rfl, hg⟩ := tg.strs_inv
  obtain ⟨at_, rfl, ht⟩ := tt.strs_inv
  obtain ⟨ab, xb, rfl, hb, hxb⟩ := tb.bl_inv
  exact ⟨ov, ag, at_, ab, xb, rfl, hpt, hg, ht, hb, hxb⟩
abbrev s_law : Stmt := topS 42
theorem sc_law : FnScope ["_law_script", "_law_hand_here", "_law_turn", "_law_parts_here", "_law_program", "_law_again", "_law_other", "_law_made_here", "_law_due", "_law_thing", "_law_at", "_law_shorter", "_law_told"] ["_law_script"] (defScope s_law) := ⟨rfl, rfl, rfl, by decide +kernel, rfl, by decide +kernel, by decide +kernel⟩
def spLaw (K : PySem.W.Frag) : Sp := fun vs H Q _ => ∃ (a : Addr) (ns : List Int), vs = [.ref a] ∧ SqL K H a (ns.map V.int) ∧ ns.length ≤ 63 ∧ ∀ H', Q (.bl true) H'
theorem ok_law {f fI fq : Addr} {fd fdI fdq : FuncData} (F : Fun K "law" "law" s_law f fd) (T : Bi mg) (G : Prg K mg C) (GE : PrgE K C) (M : Mk K C fI) (FI : FnOk P w K mg base CX0 5 fI fdI ["self", "given", "told", "block"] (spInitR K C)) (bI : Binds K fdI ["self", "given", "told", "block"] [])
    (FE : FnOk P w K mg base CX0 1 fq fdq ["self", "other"] (spEq K C)) (bE : Binds K fdq ["self", "other"] []) (hE : PySem.W.findIn K (.ref C) "__eq__" = some (some (.ref fq))) (fE : PySem.W.isFn K (.ref fq) = true)
    (D_l_hand : Has P w K mg base "_law_hand" 1 ["_law_script"] (spHand K)) (D_l_draw : Has P w K mg base "_law_draw" 1 ["_law_hand_here", "_law_many"] (spDraw K))
    (D_l_parts : Has P w K mg base "_law_parts" 5 ["_law_hand_here", "_law_most_names", "_law_most_statements", "_law_most_deeds", "_law_most_given"] (spParts K)) (D_l_made : Has P w K mg base "_law_made" 7 ["_law_parts_here"] (spMade K C))
    (D_l_is : Has P w K mg base "_law_is" 7 ["_law_told", "_law_due"] (spIs K 5)) (D_l_changed : Has P w K mg base "_law_changed" 5 ["_law_hand_here", "_law_parts_here"] (spChg K)) (D_left_out : Has P w K mg base "left_out" 8 ["program", "place"] (spLeft K C)) : FnOk P w K mg base CX0 9 f fd ["_law_script"] (spLaw K) := by
  refine F.ok sc_law (fun vs H Q E h => ?_) (fun cdv A outer s₀ H vs Q E hr h => ?_)
  · obtain ⟨a, ns, rfl, _⟩ := h
    rfl
  · obtain ⟨a, sc, rfl, hS, hlen, kk⟩ := h
    refine ⟨_, (pss_cons (ps_set (i := 1) sc_law.nd rfl (.inl rfl) (D_l_hand.call (hr.mono (by decide)) (by rfl) (pa_cons (pv 0) pa_nil)))
 (pss_cons (ps_for PassesOwn.never rfl (pi_range1 (by rfl) T.range (pa_cons pe_int pa_nil)) (pg_name (i := 2) sc_law.nd rfl (.inl rfl))
  (pss_cons (ps_set (i := 3) sc_law.nd rfl (.inl rfl) (D_l_parts.call (hr.mono (by decide)) (by rfl) (pa_cons (pv 1) (pa_cons pe_int (pa_cons pe_int (pa_cons pe_int (pa_cons pe_int pa_nil)))))))
 (pss_cons (ps_set (i := 4) sc_law.nd rfl (.inl rfl) (D_l_made.call (hr.mono (by decide)) (by rfl) (pa_cons (pv 3) pa_nil)))
 (pss_cons (ps_if (pt_not (pt_val (D_l_is.call (hr.mono (by decide)) (by rfl) (pa_cons (pe_lst (pa_cons (pe_fld (pv 4) rfl) (pa_cons (pe_fld (pv 4) rfl) (pa_cons (pe_fld (pv 4) rfl) pa_nil)))) (pa_cons (pe_callTy (T := "list") (call_list_of) (by rfl) T.list_ (by decide +kernel) (pa_cons (pv 3) pa_nil)) pa_nil)))))
  (pss_one (ps_ret pe_bl))
  pss_nil)
 (pss_cons (ps_set (i := 5) sc_law.nd rfl (.inl rfl) (pe_make M FI (hr.mono (by decide)) (by rfl) G.mgC bI .nil pass0 (pa_cons (pe_callTy (T := "tuple") (call_tuple_of) (by rfl) T.tuple_ (by decide +kernel) (pa_cons (pe_callTy (T := "list") (call_list_of) (by rfl) T.list_ (by decide +kernel) (pa_cons (pe_ix ix_tup (pv 3) pe_int (fun _ _ => rfl)) pa_nil)) pa_nil)) (pa_cons (pe_callTy (T := "tuple") (call_tuple_of) (by rfl) T.tuple_ (by decide +kernel) (pa_cons (pe_callTy (T := "list") (call_list_of) (by rfl) T.list_ (by decide +kernel) (pa_cons (pe_ix ix_tup (pv 3) pe_int (fun _ _ => rfl)) pa_nil)) pa_nil)) (pa_cons (pe_callTy (T := "tuple") (call_tuple_of) (by rfl) T.tuple_ (by decide +kernel) (pa_cons (pe_callTy (T := "list") (call_list_of) (by rfl) T.list_ (by decide +kernel) (pa_cons (pe_ix ix_tup (pv 3) pe_int (fun _ _ => rfl)) pa_nil)) pa_nil)) pa_nil)))))
 (pss_cons (ps_if ((pw_or (pt_not (pt_cmpR (op_eqOwn FE (hr.mono (by decide)) bE hE fE) (pv 4) (pv 5) (nomark _))) (pw_or1 (pt_cmpR (op_neOwn FE (hr.mono (by decide)) bE hE fE GE.ne GE.mo) (pv 4) (pv 5) (nomark _))))).pt
  (pss_one (ps_ret pe_bl))
  pss_nil)
 (pss_cons (ps_set (i := 6) sc_law.nd rfl (.inl rfl) (D_l_changed.call (hr.mono (by decide)) (by rfl) (pa_cons (pv 1) (pa_cons (pv 3) pa_nil))))
 (pss_cons (ps_set (i := 7) sc_law.nd rfl (.inl rfl) (D_l_made.call (hr.mono (by decide)) (by rfl) (pa_cons (pv 6) pa_nil)))
 (pss_cons (ps_set (i := 8) sc_law.nd rfl (.inl rfl) (pe_cmpR (op_eqD (Nat.lt_of_le_of_lt (Nat.add_le_add_left (by decide) _) (hu66 hr))) (pv 6) (pv 3) (nomark _)))
 (pss_cons (ps_if ((pw_or (pt_cmpR op_ne (pe_cmpR (op_eqOwn FE (hr.mono (by decide)) bE hE fE) (pv 4) (pv 7) (nomark _)) (pv 8) (nomark _)) (pw_or (pt_cmpR op_ne (pe_cmpR (op_eqOwn FE (hr.mono (by decide)) bE hE fE) (pv 7) (pv 4) (nomark _)) (pv 8) (nomark _)) (pw_or1 (pt_cmpR op_eq (pe_cmpR (op_neOwn FE (hr.mono (by decide)) bE hE fE GE.ne GE.mo) (pv 4) (pv 7) (nomark _)) (pv 8) (nomark _)))))).pt
  (pss_one (ps_ret pe_bl))
  pss_nil)
 (pss_cons (ps_for PassesOwn.never rfl (pi_list (pe_lst (pa_cons pe_non (pa_cons (pv 3) (pa_cons (pe_callTy (T := "list") (call_list_of) (by rfl) T.list_ (by decide +kernel) (pa_cons (pv 3) pa_nil)) (pa_cons (pe_ix ix_tup (pv 3) pe_int (fun _ _ => rfl)) (pa_cons pe_str (pa_cons pe_int (pa_cons pe_dnewK (pa_cons (pe_tup pa_nil) pa_nil)))))))))) (pg_name (i := 9) sc_law.nd rfl (.inl rfl))
  (pss_one (ps_if ((pw_or (pt_cmpR (op_eqOwn FE (hr.mono (by decide)) bE hE fE) (pv 4) (pv 9) (nomark _)) (pw_or1 (pt_not (pt_cmpR (op_neOwn FE (hr.mono (by decide)) bE hE fE GE.ne GE.mo) (pv 4) (pv 9) (nomark _)))))).pt
  (pss_one (ps_ret pe_bl))
  pss_nil)))
 (C8.pss_cut (ps_if (pt_cmpR op_gt (pe_callB call_len_seq (by rfl) T.len PySem.boot_len (pa_cons (pe_ix ix_tup (pv 3) pe_int (fun _ _ => rfl)) pa_nil)) pe_int (nomark _))
  (pss_cons (ps_set (i := 10) sc_law.nd rfl (.inl rfl) (D_l_draw.call (hr.mono (by decide)) (by rfl) (pa_cons (pv 1) (pa_cons (pe_callB call_len_seq (by rfl) T.len PySem.boot_len (pa_cons (pe_ix ix_tup (pv 3) pe_int (fun _ _ => rfl)) pa_nil)) pa_nil))))
 (pss_cons (ps_set (i := 11) sc_law.nd rfl (.inl rfl) (D_l_made.call (hr.mono (by decide)) (by rfl) (pa_cons (pe_tup (pa_cons (pe_ix ix_tup (pv 3) pe_int (fun _ _ => rfl)) (pa_cons (pe_ix ix_tup (pv 3) pe_int (fun _ _ => rfl)) (pa_cons (pe_op op_catU (pe_slice sl_tupU (pe_ix ix_tup (pv 3) pe_int (fun _ _ => rfl)) po_none (po_some (pv 10))) (pe_slice sl_tupU (pe_ix ix_tup (pv 3) pe_int (fun _ _ => rfl)) (po_some (pe_op op_add (pv 10) pe_int)) po_none)) pa_nil)))) pa_nil)))
 (pss_cons (ps_set (i := 12) sc_law.nd rfl (.inl rfl) (D_left_out.call (hr.mono (by decide)) (by rfl) (pa_cons (pv 4) (pa_cons (pe_tup (pa_cons (pv 10) pa_nil)) pa_nil))))
 (pss_one (ps_if ((pw_or (pt_not (pt_val (pe_callB (id := "isinstance") (r := rIsi K) call_isi (by rfl) T.isinstance (by decide +kernel) (pa_cons (pv 12) (pa_cons (pe_glob (v := .ref C) (by rfl) G.mgC rfl) pa_nil))))) (pw_or (pt_not (pt_cmpR (op_eqOwn FE (hr.mono (by decide)) bE hE fE) (pv 12) (pv 11) (nomark _))) (pw_or1 (pt_not (pt_cmpR (op_eqOwn FE (hr.mono (by decide)) bE hE fE) (pv 11) (pv 12) (nomark _))))))).pt
  (pss_one (ps_ret pe_bl))
  pss_nil)))))
  pss_nil)
 (pss_one (ps_if (pt_not (pt_val (D_l_is.call (hr.mono (by decide)) (by rfl) (pa_cons (pe_lst (pa_cons (pe_fld (pv 4) rfl) (pa_cons (pe_fld (pv 4) rfl) (pa_cons (pe_fld (pv 4) rfl) pa_nil)))) (pa_cons (pe_callTy (T := "list") (call_list_of) (by rfl) T.list_ (by decide +kernel) (pa_cons (pv 3) pa_nil)) pa_nil)))))
  (pss_one (ps_ret pe_bl))
  pss_nil))))))))))))))
 (pss_one (ps_ret pe_bl)))), ?_⟩
    refine ⟨_, rfl, a, sc, rfl, hS, hlen, fun p c H1 s1 np nc Z1 => ?_⟩
    refine ⟨8, rfl, by decide, by decide, for_range (lo := 0) (n := ((8 : Int)).toNat) (fun i σ H2 => ∃ y2 y3 y4 y5 y6 y7 y8 y9 y10 y11 y12, σ = [some (.ref a), some (.ref p), y2, y3, y4, y5, y6, y7, y8, y9, y10, y11, y12] ∧ HandAt H2 p c) ⟨_, _, _, _, _, _, _, _, _, _, _, rfl, Z1⟩ ?_ ?_⟩
    · rintro i σ H2 hi ⟨y2, y3, y4, y5, y6, y7, y8, y9, y10, y11, y12, rfl, Z2⟩
      -- parts, program
      refine ⟨_, rfl, p, c, 5, 8, 4, rfl, Z2, by decide, by decide, by decide, by decide, fun v g t ss H3 tv R l8 l4 D3 => ?_⟩
      have b5 := bnd l8 l4
      have kept := dpt_kept R (Nat.le_trans l8 (by decide)) fun s m => Nat.le_trans (l4 s m) (by decide)
      refine ⟨_, rfl, v, g, t, ss, rfl, tv, R, by omega, fun o H4 s4 no hp4 => ?_⟩
      have Z4 := D3.z.same s4
      have tv4 := Tp.keep s4.kp _ _ tv
      clear tv s4 no D3 Z2
      obtain ⟨dx, vg, vt, vb, ho, tg, tt, tb⟩ := id hp4
      obtain ⟨ov, xs0, rfl, hpt, hall⟩ := id tv4.tup_inv
      obtain ⟨vg0, vt0, vb0, rfl, tg0, tt0, tb0⟩ := parts_inv hall
      -- kept
      refine ⟨_, rfl, o, C, dx, _, _, rfl, ho, G.cl, G.nG, flds_g _ _ _, _, rfl, o, C, dx, _, _, rfl, ho, G.cl, G.nT, flds_t _ _ _, _, rfl, o, C, dx, _, _, rfl, ho, G.cl, G.nB, flds_b _ _ _, (by show 3 ≤ sizeLine; decide), fun l1 n1 => ?_⟩
      have s5 := same_upd (o := .lst [vg, vt, vb]) n1
      refine ⟨_, rfl, ov, _, rfl, .inr (s5.tup hpt), fun l2 n2 => ?_⟩
      have s6 := same_upd (o := .lst [vg0, vt0, vb0]) n2
      have s46 := s5.trans s6
      refine ⟨.ref l1, .ref l2, .list [nmD g, nmD t, blD ss], rfl, .lst (SqL.of (s6 _ _ upd_same)) (TpAll.dp _ _ (.cons (Tp.keep s46.kp _ _ tg) (.cons (Tp.keep s46.kp _ _ tt) (.cons (Tp.keep s46.kp _ _ tb) .nil)))), .lst (SqL.of upd_same) (TpAll.dp _ _ (TpAll.keep s46.kp _ _ hall)), kept, fun H7 s7 => ⟨_, rfl, noI rfl ?_⟩⟩
      have s47 := s46.trans s7
      have hp7 := hp4.same s47
      have tv7 := Tp.keep s47.kp _ _ tv4
      have Z7 := Z4.same s47
      clear s46 s7 s6 s5 n1 n2 s47 ho tg tt tb hp4 tv4 tg0 tt0 tb0 hpt hall Z4
      obtain ⟨ov', ag, at_, ab, xb, e0, hpt, hg, ht, hb, hxb⟩ := pt_inv tv7
      cases e0
      -- again
      refine ⟨_, rfl, ov, _, _, _, rfl, rfl, hpt, atI_nat (j := 0) rfl, ag, _, rfl, .inr hg, fun l1 n1 => ⟨l1, _, rfl, .inl ⟨SqL.of upd_same, fun u1 m1 => ?_⟩⟩⟩
      have s8 := (same_upd (o := .lst (g.map V.str)) n1).trans (same_upd (o := .tup (g.map V.str)) m1)
      have hu1 : (upd (upd H7 l1 (.lst (g.map V.str))) u1 (.tup (g.map V.str))) u1 = some (.tup (g.map V.str)) := upd_same
      generalize upd (upd H7 l1 (.lst (g.map V.str))) u1 (.tup (g.map V.str)) = H8 at s8 hu1
      refine ⟨_, rfl, ov, _, _, _, rfl, rfl, s8.tup hpt, atI_nat (j := 1) rfl, at_, _, rfl, .inr (s8.tup ht), fun l2 n2 => ⟨l2, _, rfl, .inl ⟨SqL.of upd_same, fun u2 m2 => ?_⟩⟩⟩
      have s9 := (same_upd (o := .lst (t.map V.str)) n2).trans (same_upd (o := .tup (t.map V.str)) m2)
      have hu2 : (upd (upd H8 l2 (.lst (t.map V.str))) u2 (.tup (t.map V.str))) u2 = some (.tup (t.map V.str)) := upd_same
      generalize upd (upd H8 l2 (.lst (t.map V.str))) u2 (.tup (t.map V.str)) = H9 at s9 hu2
      have s89 := s8.trans s9
      refine ⟨_, rfl, ov, _, _, _, rfl, rfl, s89.tup hpt, atI_nat (j := 2) rfl, ab, _, rfl, .inr (s89.tup hb), fun l3 n3 => ⟨l3, _, rfl, .inl ⟨SqL.of upd_same, fun u3 m3 => ?_⟩⟩⟩
      have s10 := (same_upd (o := .lst xb) n3).trans (same_upd (o := .tup xb) m3)
      have hu3 : (upd (upd H9 l3 (.lst xb)) u3 (.tup xb)) u3 = some (.tup xb) := upd_same
      generalize upd (upd H9 l3 (.lst xb)) u3 (.tup xb) = H10 at s10 hu3
      have s810 := s89.trans s10
      refine fun o2 dx2 no2 ndx2 nex2 => make_use no2 ndx2 nex2 (Tp.strs (SqT.of (s10 _ _ (s9 _ _ hu1)))) (Tp.strs (SqT.of (s10 _ _ hu2))) (.tup (SqT.of hu3) (TpAll.keep s810.kp _ _ hxb)) R (by omega) fun H11 s11 ho2 => ⟨rfl, ?_⟩
      have hp2 : PgAt K C H11 o2 g t ss := ⟨dx2, _, _, _, ho2, Tp.keep s11.kp _ _ (Tp.strs (SqT.of (s10 _ _ (s9 _ _ hu1)))), Tp.keep s11.kp _ _ (Tp.strs (SqT.of (s10 _ _ hu2))), Tp.keep s11.kp _ _ (.tup (SqT.of hu3) (TpAll.keep s810.kp _ _ hxb))⟩
      have s711 := s810.trans s11
      have hp11 := hp7.same s711
      have tv11 := Tp.keep s711.kp _ _ tv7
      have Z11 := Z7.same s711
      clear s8 s9 s89 s10 s810 s11 s711 hu1 hu2 hu3 hpt hg ht hb hxb hp7 tv7 Z7
      -- equal to itself made again
      have n0 : (!(if false = true then !eqP g t ss g t ss else eqP g t ss g t ss)) = false := by rw [R.self]; rfl
      have n1 : (if true = true then !eqP g t ss g t ss else eqP g t ss g t ss) = false := by rw [R.self]; rfl
      refine ⟨_, rfl, _, rfl, use_eq G GE hp11 hp2 R R fun H12 s12 => ⟨_, rfl, noI n0 ?_⟩⟩
      refine ⟨_, rfl, _, rfl, use_eq G GE (hp11.same s12) (hp2.same s12) R R fun H13 s13 => ⟨_, rfl, noI n1 ?_⟩⟩
      have s11 := s12.trans s13
      have Z13 := Z11.same s11
      -- changed
      refine ⟨_, rfl, _, rfl, p, c, .ref ov, g, t, ss, rfl, Z13, Tp.keep s11.kp _ _ tv11, R, l8, l4, fun v2 g2 t2 ss2 H14 tv2 R2 l9 l42 D14 => ?_⟩
      have b52 := bnd l9 l42
      have hp14 := (hp11.same s11).drew Z13 D14
      have tv14 := D14.tp (Tp.keep s11.kp _ _ tv11)
      refine ⟨_, rfl, v2, g2, t2, ss2, rfl, tv2, R2, by omega, fun o3 H15 s15 no3 hp3 => ?_⟩
      have Z15 := D14.z.same s15
      have hp15 := hp14.same s15
      have tv15 := Tp.keep s15.kp _ _ tv14
      have tv25 := Tp.keep s15.kp _ _ tv2
      clear s11 Z13 D14 hp14 tv14 s15 no3 tv2 s12 s13 Z11 hp11 tv11 hp2
      refine ⟨_, rfl, _, rfl, _, _, Tp.dp _ _ tv25, Tp.dp _ _ tv15, R2.lay.shp (by decide), R.lay.shp (by decide), ?_⟩
      rw [eqv_pt, eqP_sym]
      generalize hdue : eqP g t ss g2 t2 ss2 = due
      have hdue2 : eqP g2 t2 ss2 g t ss = due := by rw [eqP_sym]; exact hdue
      have d1 : (!decide (V.bl (if false = true then !eqP g t ss g2 t2 ss2 else eqP g t ss g2 t2 ss2) = V.bl due)) = false := by rw [hdue]; cases due <;> decide
      have d2 : (!decide (V.bl (if false = true then !eqP g2 t2 ss2 g t ss else eqP g2 t2 ss2 g t ss) = V.bl due)) = false := by rw [hdue2]; cases due <;> decide
      have d3 : decide (V.bl (if true = true then !eqP g t ss g2 t2 ss2 else eqP g t ss g2 t2 ss2) = V.bl due) = false := by rw [hdue]; cases due <;> decide
      refine ⟨_, rfl, _, rfl, use_eq G GE hp15 hp3 R R2 fun H16 s16 => ⟨_, rfl, rfl, _, rfl, noI d1 ?_⟩⟩
      refine ⟨_, rfl, _, rfl, use_eq G GE (hp3.same s16) (hp15.same s16) R2 R fun H17 s17 => ⟨_, rfl, rfl, _, rfl, noI d2 ?_⟩⟩
      have s67 := s16.trans s17
      refine ⟨_, rfl, _, rfl, use_eq G GE (hp15.same s67) (hp3.same s67) R R2 fun H18 s18 => ⟨_, rfl, rfl, _, rfl, noI d3 ?_⟩⟩
      have s68 := s67.trans s18
      have hp18 := hp15.same s68
      have tv18 := Tp.keep s68.kp _ _ tv15
      have Z18 := Z15.same s68
      clear d1 d2 d3 hdue hdue2 s16 s17 s18 s67 s68 hp15 hp3 tv15 tv25 Z15
      -- things of other kinds
      obtain ⟨ov', ag, at_, ab, xb, e0, hpt, hg, ht, hb, hxb⟩ := pt_inv tv18
      cases e0
      refine ⟨_, rfl, _, rfl, ov, _, rfl, .inr hpt, fun l1 n1 => ?_⟩
      have s19 := same_upd (o := .lst [V.ref ag, .ref at_, .ref ab]) n1
      have hl1 : (upd H18 l1 (.lst [V.ref ag, .ref at_, .ref ab])) l1 = some (.lst [V.ref ag, .ref at_, .ref ab]) := upd_same
      generalize upd H18 l1 (.lst [V.ref ag, .ref at_, .ref ab]) = H19 at s19 hl1
      refine ⟨_, rfl, ov, _, _, _, rfl, rfl, s19.tup hpt, atI_nat (j := 2) rfl, ?_⟩
      refine fun d nd => ⟨(by show 0 ≤ sizeLine; decide), fun u nu => ⟨(by show 8 ≤ sizeLine; decide), fun L nL => ?_⟩⟩
      have s20 := same_upd (o := .dK []) nd
      have s21 := same_upd (o := .tup []) nu
      have s22 := same_upd (o := .lst [V.non, .ref ov, .ref l1, .ref ab, .str "program", .int 0, .ref d, .ref u]) nL
      have hd : (upd (upd (upd H19 d (.dK [])) u (.tup [])) L (.lst [V.non, .ref ov, .ref l1, .ref ab, .str "program", .int 0, .ref d, .ref u])) d = some (.dK []) := s22 _ _ (s21 _ _ upd_same)
      have hu : (upd (upd (upd H19 d (.dK [])) u (.tup [])) L (.lst [V.non, .ref ov, .ref l1, .ref ab, .str "program", .int 0, .ref d, .ref u])) u = some (.tup []) := s22 _ _ upd_same
      have hL : (upd (upd (upd H19 d (.dK [])) u (.tup [])) L (.lst [V.non, .ref ov, .ref l1, .ref ab, .str "program", .int 0, .ref d, .ref u])) L = some (.lst [V.non, .ref ov, .ref l1, .ref ab, .str "program", .int 0, .ref d, .ref u]) := upd_same
      have s1922 := (s20.trans s21).trans s22
      generalize upd (upd (upd H19 d (.dK [])) u (.tup [])) L (.lst [V.non, .ref ov, .ref l1, .ref ab, .str "program", .int 0, .ref d, .ref u]) = H22 at hd hu hL s1922
      have s1822 := s19.trans s1922
      have tys : ∀ x ∈ [V.non, .ref ov, .ref l1, .ref ab, .str "program", .int 0, .ref d, .ref u], ∃ T, TyX K H22 x T ∧ Other K C T := by
        have oN : Other K C (.type "NoneType") := GE.other (l := _) rfl (by rfl)
        have oT : Other K C (.type "tuple") := GE.other (l := _) rfl (by rfl)
        have oL : Other K C (.type "list") := GE.other (l := _) rfl (by rfl)
        have oS : Other K C (.type "str") := GE.other (l := _) rfl (by rfl)
        have oI : Other K C (.type "int") := GE.other (l := _) rfl (by rfl)
        have oD : Other K C (.type "dict") := GE.other (l := _) rfl (by rfl)
        intro x m
        simp only [List.mem_cons, List.not_mem_nil, or_false] at m
        rcases m with rfl | rfl | rfl | rfl | rfl | rfl | rfl | rfl
        · exact ⟨_, .base .non, oN⟩
        · exact ⟨_, tupTy (s1822.tup hpt), oT⟩
        · exact ⟨_, listTy (SqL.of (s1922 _ _ hl1)), oL⟩
        · exact ⟨_, tupTy (s1822.tup hb), oT⟩
        · exact ⟨_, .base (.str _), oS⟩
        · exact ⟨_, .base (.int _), oI⟩
        · exact ⟨_, .base (.dK hd), oD⟩
        · exact ⟨_, .base (.tup hu), oT⟩
      have hp22 := hp18.same s1822
      have tv22 := Tp.keep s1822.kp _ _ tv18
      have Z22 := Z18.same s1822
      clear s19 hl1 n1 nd nu s20 s21 s22 nL hd hu s1922 s1822 hp18 tv18 Z18 hpt hg ht hb hxb
      refine ⟨_, rfl, ⟨_, SqL.of hL⟩, for_list (K := K) (a := L) (xs := [V.non, .ref ov, .ref l1, .ref ab, .str "program", .int 0, .ref d, .ref u]) (fun j σ H23 => ∃ y9, σ = [some (.ref a), some (.ref p), some (.int (0 + (i : Nat))), some (.ref ov), some (.ref o), some (.ref o2), some v2, some (.ref o3), some (.bl due), y9, y10, y11, y12] ∧ Same H22 H23) ⟨_, rfl, Same.refl _⟩ (fun j σ H15 _ q => by obtain ⟨_, _, s⟩ := q; exact SqL.of (s _ _ hL)) ?_ ?_⟩
      · rintro j x σ H23 hx ⟨y9, rfl, s23⟩
        obtain ⟨T', ty, ot⟩ := tys x (at_mem hx)
        have ty3 := s23.ky _ _ ty
        refine ⟨_, rfl, _, rfl, use_no (hp22.same s23) R ty3 ot fun H24 s24 => ⟨_, rfl, noI rfl ?_⟩⟩
        refine ⟨_, rfl, _, rfl, use_no ((hp22.same s23).same s24) R (s24.ky _ _ ty3) ot fun H25 s25 => ⟨_, rfl, noI rfl ?_⟩⟩
        exact ⟨_, rfl, (s23.trans s24).trans s25⟩
      · rintro σ H23 ⟨y9', rfl, s23⟩
        have hp23 := hp22.same s23
        have tv23 := Tp.keep s23.kp _ _ tv22
        have Z23 := Z22.same s23
        clear s23 hp22 tv22 Z22 tys hL
        refine ⟨fun σ H24 => ∃ y10 y11 y12, σ = [some (.ref a), some (.ref p), some (.int (0 + (i : Nat))), some (.ref ov), some (.ref o), some (.ref o2), some v2, some (.ref o3), some (.bl due), y9', y10, y11, y12] ∧ PgAt K C H24 o g t ss ∧ Tp K H24 (.ref ov) (ptD g t ss) ∧ HandAt H24 p c, ?_, ?_⟩
        · obtain ⟨ov', ag, at_, ab, xb, e0, hpt, hg, ht, hb, hxb⟩ := pt_inv tv23
          cases e0
          have lb : xb.length = ss.length := by rw [hxb.len, List.length_map]
          refine ⟨_, rfl, ov, _, _, _, rfl, rfl, hpt, atI_nat (j := 2) rfl, ab, _, rfl, .inr hb, _, _, rfl, rfl, _, rfl, ite2 (fun hl => ?_) (fun _ => ⟨_, _, _, rfl, hp23, tv23, Z23⟩)⟩
          have hl : (0 : Int) < (xb.length : Int) := of_decide_eq_true hl
          refine ⟨_, rfl, _, rfl, ov, _, _, _, rfl, rfl, hpt, atI_nat (j := 2) rfl, ab, _, rfl, .inr hb, p, c, _, rfl, Z23, by omega, by omega, fun k H24 hk D24 => ?_⟩
          have hp24 := hp23.drew Z23 D24
          have tv24 := D24.tp tv23
          have Z24 := D24.z
          clear hpt hg ht hb hxb ag at_ ab
          obtain ⟨ov', ag, at_, ab, xb2, e0, hpt, hg, ht, hb, hxb⟩ := pt_inv tv24
          cases e0
          have lb2 : xb2.length = ss.length := by rw [hxb.len, List.length_map]
          -- the same made without it
          refine ⟨_, rfl, ov, _, _, _, rfl, rfl, hpt, atI_nat (j := 0) rfl, _, rfl, ov, _, _, _, rfl, rfl, hpt, atI_nat (j := 1) rfl, _, rfl, ov, _, _, _, rfl, rfl, hpt, atI_nat (j := 2) rfl, _, rfl, _, rfl, ab, _, rfl, hb, fun q4 H25 s25 h4 => ?_⟩
          rw [cut_take] at h4
          refine ⟨_, rfl, ov, _, _, _, rfl, rfl, s25.tup hpt, atI_nat (j := 2) rfl, _, rfl, _, _, rfl, rfl, _, rfl, ab, _, rfl, s25.tup hb, fun q5 H26 s26 h5 => ?_⟩
          rw [show ((k : Int) + 1) = ((k + 1 : Nat) : Int) by omega, cut_drop] at h5
          refine ⟨q4, q5, _, _, rfl, rfl, s26.tup h4, h5, ?_, fun q6 H27 s27 h6 => ⟨(by show 3 ≤ sizeLine; decide), fun u nu => ?_⟩⟩
          · rw [List.length_take, List.length_drop]
            exact Nat.le_of_lt (big1 (by omega))
          have s247 := (s25.trans s26).trans s27
          have s28 := same_upd (o := .tup [.ref ag, .ref at_, .ref q6]) nu
          have s248 := s247.trans s28
          have all8 := TpAll.keep s248.kp _ _ hxb
          have R4 := R.cut k (k + 1)
          have l94 : (ss.take k ++ ss.drop (k + 1)).length ≤ 8 := by rw [List.length_append, List.length_take, List.length_drop]; omega
          have l44 : ∀ s ∈ ss.take k ++ ss.drop (k + 1), s.deeds.length ≤ 4 := fun s m => l4 s ((List.mem_append.mp m).elim List.mem_of_mem_take List.mem_of_mem_drop)
          have b54 := bnd l94 l44
          have tb8 : Tp K (upd H27 u (.tup [.ref ag, .ref at_, .ref q6])) (.ref q6) (blD (ss.take k ++ ss.drop (k + 1))) := .tup (s28.tup h6) (by
            rw [List.map_append, List.map_take, List.map_drop]
            exact (all8.takeP k).app (all8.dropP (k + 1)))
          refine ⟨.ref u, g, t, _, rfl, .tup (SqT.of upd_same) (.cons (Tp.strs (s248.tup hg)) (.cons (Tp.strs (s248.tup ht)) (.cons tb8 .nil))), R4, by omega, fun o4 H29 s29 no4 hp4 => ?_⟩
          have s249 := s248.trans s29
          have hp29 := hp24.same s249
          have tv29 := Tp.keep s249.kp _ _ tv24
          have Z29 := Z24.same s249
          clear s25 s26 s27 s28 s29 s247 s248 s249 all8 tb8 h4 h5 h6 nu hpt hg ht hb hxb hp24 tv24 Z24 no4
          -- left out
          refine ⟨_, rfl, _, rfl, (by show 1 ≤ sizeLine; decide), fun u3 nu3 => ?_⟩
          have s30 := same_upd (o := .tup [.int (k : Nat)]) nu3
          refine ⟨o, .ref u3, g, t, ss, k, rfl, hp29.same s30, Tp.ints (ns := [(k : Int)]) (SqT.of upd_same), by omega, by omega, R, fun o5 H31 s31 no5 hp5 => ?_⟩
          have s301 := s30.trans s31
          have hp31 := hp29.same s301
          have tv31 := Tp.keep s301.kp _ _ tv29
          have Z31 := Z29.same s301
          have hp41 := hp4.same s301
          clear s30 s31 s301 nu3 hp29 tv29 Z29 hp4
          obtain ⟨dx5, vg5, vt5, vb5, ho5, _, _, _⟩ := id hp5
          have n0 : (!(if false = true then !eqP g t (ss.take k ++ ss.drop (k + 1)) g t (ss.take k ++ ss.drop (k + 1)) else eqP g t (ss.take k ++ ss.drop (k + 1)) g t (ss.take k ++ ss.drop (k + 1)))) = false := by rw [R4.self]; rfl
          refine ⟨_, rfl, _, _, _, _, _, rfl, .own C, GE.ty G ho5, kit_own, _, rfl, noI rfl ?_⟩
          refine ⟨_, rfl, _, rfl, use_eq G GE hp5 hp41 R4 R4 fun H32 s32 => ⟨_, rfl, noI n0 ?_⟩⟩
          refine ⟨_, rfl, _, rfl, use_eq G GE (hp41.same s32) (hp5.same s32) R4 R4 fun H33 s33 => ⟨_, rfl, noI n0 ?_⟩⟩
          have s313 := s32.trans s33
          exact ⟨_, _, _, rfl, hp31.same s313, Tp.keep s313.kp _ _ tv31, Z31.same s313⟩
        · rintro σ H24 ⟨y10, y11, y12, rfl, hp24, tv24, Z24⟩
          obtain ⟨dx, vg, vt, vb, ho, tg, tt, tb⟩ := id hp24
          obtain ⟨ov', xs0, e0, hpt, hall⟩ := tv24.tup_inv
          cases e0
          refine ⟨_, rfl, o, C, dx, _, _, rfl, ho, G.cl, G.nG, flds_g _ _ _, _, rfl, o, C, dx, _, _, rfl, ho, G.cl, G.nT, flds_t _ _ _, _, rfl, o, C, dx, _, _, rfl, ho, G.cl, G.nB, flds_b _ _ _, (by show 3 ≤ sizeLine; decide), fun l1 n1 => ?_⟩
          have s5 := same_upd (o := .lst [vg, vt, vb]) n1
          refine ⟨_, rfl, ov, _, rfl, .inr (s5.tup hpt), fun l2 n2 => ?_⟩
          have s6 := same_upd (o := .lst xs0) n2
          have s46 := s5.trans s6
          refine ⟨.ref l1, .ref l2, .list [nmD g, nmD t, blD ss], rfl, .lst (SqL.of (s6 _ _ upd_same)) (TpAll.dp _ _ (.cons (Tp.keep s46.kp _ _ tg) (.cons (Tp.keep s46.kp _ _ tt) (.cons (Tp.keep s46.kp _ _ tb) .nil)))), .lst (SqL.of upd_same) (TpAll.dp _ _ (TpAll.keep s46.kp _ _ hall)), kept, fun H7 s7 => ⟨_, rfl, noI rfl ?_⟩⟩
          exact ⟨_, _, _, _, _, _, _, _, _, _, _, rfl, Z24.same (s46.trans s7)⟩
    · rintro σ H2 ⟨_, _, _, _, _, _, _, _, _, _, _, rfl, _⟩
      exact kk H2
end
end Y

namespace Y
open PySem PySem.Spec PyProof.Rows L2
/-- a def of the text as the top leaves it -/
def DefAt (K : PySem.W.Frag) (x : Str) (st : Stmt) : Prop := ∃ (f : Addr) (fd : FuncData), PySem.W.nsIn K mainGlobals x = some (some (.ref f)) ∧ Fun K x x st f fd
theorem defAt_mk {K : PySem.W.Frag} {x : Str} {st : Stmt} {f : Addr} {od an : Option Addr} {sl : Array (Option Value)} {oc kV dc pm cd ct : Value} (a : PySem.W.nsIn K mainGlobals x = some (some (.ref f)))
    (l : K.lookup f = some ⟨oc, od, .func (PySem.W.fnOf x x (defArgs st) (defBody st) (defScope st) .none kV dc pm an cd ct), sl⟩) (c : PySem.W.codeIn K cd x = true) (k : PySem.W.keepIn K (.ref f) = true) : DefAt K x st :=
  ⟨f, _, a, fun_mk (st := st) l c k⟩
/-- a method of the class at C -/
def MetAt (K : PySem.W.Frag) (C : Addr) (x q : Str) (st : Stmt) : Prop := ∃ (f : Addr) (fd : FuncData), PySem.W.findIn K (.ref C) x = some (some (.ref f)) ∧ PySem.W.isFn K (.ref f) = true ∧ Fun K x q st f fd
theorem metAt_mk {K : PySem.W.Frag} {C : Addr} {x q : Str} {st : Stmt} {f : Addr} {od an : Option Addr} {sl : Array (Option Value)} {oc kV dc pm cd ct : Value} (a : PySem.W.findIn K (.ref C) x = some (some (.ref f))) (i : PySem.W.isFn K (.ref f) = true)
    (l : K.lookup f = some ⟨oc, od, .func (PySem.W.fnOf x q (defArgs st) (defBody st) (defScope st) .none kV dc pm an cd ct), sl⟩) (c : PySem.W.codeIn K cd q = true) (k : PySem.W.keepIn K (.ref f) = true) : MetAt K C x q st :=
  ⟨f, _, a, i, fun_mk (st := st) l c k⟩
theorem all_mk {l : PySem.W.OpenLaw} {w : World} {K : PySem.W.Frag} {h : Heap} {mg : Str → Option Value} {fa : Addr} {C : Addr} {t_MOST_LETTERS : Tok} {a_DEED_LENGTHS : Addr} {e_DEED_LENGTHS : Array DictEntry} {n_DEED_LENGTHS : Nat} {t1 t2 t3 : Tok} {t_MOST_GIVEN : Tok} {t_MOST_TOLD : Tok} {t_MOST_STATEMENTS : Tok} (X : K.In h) (G0 : h.Ns mainGlobals mg) (hfa : mg "law" = some (.ref fa))
    (d0 : DefAt K "_law_hand" s_l_hand)
    (d1 : DefAt K "_law_draw" s_l_draw)
    (d2 : DefAt K "_law_some" s_l_some)
    (d3 : DefAt K "_law_shuffled" s_l_shuffled)
    (d4 : DefAt K "_law_is" s_l_is)
    (d5 : DefAt K "_law_own" s_l_own)
    (d6 : DefAt K "_law_deed" s_l_deed)
    (d7 : DefAt K "_law_statement" s_l_statement)
    (d8 : DefAt K "_law_parts" s_l_parts)
    (d9 : DefAt K "is_integer" s_is_integer)
    (d10 : DefAt K "is_number" s_is_number)
    (d11 : DefAt K "is_name" s_is_name)
    (d12 : DefAt K "is_name_tuple" s_is_name_tuple)
    (d13 : DefAt K "is_deed" s_is_deed)
    (d14 : DefAt K "first_wrong_deed" s_first_wrong_deed)
    (d15 : DefAt K "is_round_frame" s_is_round_frame)
    (d16 : DefAt K "is_given" s_is_given)
    (d17 : DefAt K "is_told" s_is_told)
    (d18 : DefAt K "has_round" s_has_round)
    (d19 : DefAt K "deeds_in" s_deeds_in)
    (d20 : DefAt K "_size" s_size)
    (d21 : DefAt K "_wrong_part" s_wrong_part)
    (d22 : DefAt K "_is_place_before" s_is_place_before)
    (d23 : DefAt K "is_place" s_is_place)
    (d24 : DefAt K "of_any_size" s_of_any_size)
    (d25 : DefAt K "_replaced" s_replaced)
    (d26 : DefAt K "left_out" s_left_out)
    (d27 : DefAt K "_law_made" s_l_made)
    (d28 : DefAt K "_law_changed" s_l_changed)
    (d29 : DefAt K "law" s_law)
    (aC : PySem.W.nsIn K mainGlobals "Program" = some (some (.ref C)))
    (m0 : MetAt K C "__init__" "Program.__init__" s_Program___init)
    (m1 : MetAt K C "__eq__" "Program.__eq__" s_Program___eq)
    (pg : PySem.W.plainGet K C Str.empty = true)
    (hd : PySem.W.hasDictIn K C = true)
    (po : PySem.W.plainOver K C = true)
    (sa : PySem.W.findIn K (.ref C) "__setattr__" = some (some (.builtin "object.__setattr__")))
    (mk : PySem.W.makesIn K C = true)
    (kC : PySem.W.keepIn K (.ref C) = true)
    (nG : PySem.W.findIn K (.ref C) "given" = some none)
    (nT : PySem.W.findIn K (.ref C) "told" = some none)
    (nB : PySem.W.findIn K (.ref C) "block" = some none)
    (x1 : PySem.W.findIn K (.ref C) (Str.ofString "__class__") = some (some (.builtin "object.__class__")))
    (x4 : PySem.W.subIn K (.ref C) (.type "object") = some true)
    (x5 : PySem.W.findIn K (.ref C) "__ne__" = some (some (.builtin "object.__ne__")))
    (x6 : PySem.W.typeIn K (.ref C) = some (.type "type"))
    (x7 : PySem.W.isClsIn K C = true)
    (z_len : PySem.W.nsIn K mainGlobals "len" = some none)
    (z_int_ : PySem.W.nsIn K mainGlobals "int" = some none)
    (z_abs : PySem.W.nsIn K mainGlobals "abs" = some none)
    (z_sum : PySem.W.nsIn K mainGlobals "sum" = some none)
    (z_list_ : PySem.W.nsIn K mainGlobals "list" = some none)
    (z_tuple_ : PySem.W.nsIn K mainGlobals "tuple" = some none)
    (z_range : PySem.W.nsIn K mainGlobals "range" = some none)
    (z_isinstance : PySem.W.nsIn K mainGlobals "isinstance" = some none)
    (z_str_ : PySem.W.nsIn K mainGlobals "str" = some none)
    (z_bool_ : PySem.W.nsIn K mainGlobals "bool" = some none)
    (z_dict_ : PySem.W.nsIn K mainGlobals "dict" = some none)
    (z_all : PySem.W.nsIn K mainGlobals "all" = some none)
    (z_set_ : PySem.W.nsIn K mainGlobals "set" = some none)
    (z_enumerate : PySem.W.nsIn K mainGlobals "enumerate" = some none)
    (z_min : PySem.W.nsIn K mainGlobals "min" = some none)
    (z_sorted : PySem.W.nsIn K mainGlobals "sorted" = some none)
    (q_MOST_LETTERS : PySem.W.nsIn K mainGlobals "MOST_LETTERS" = some (some (.int 8 t_MOST_LETTERS)))
    (q_DEED_LENGTHS : PySem.W.nsIn K mainGlobals "DEED_LENGTHS" = some (some (.ref a_DEED_LENGTHS)))
    (l_DEED_LENGTHS : K.lookup a_DEED_LENGTHS = some ⟨.type "dict", none, .dict e_DEED_LENGTHS n_DEED_LENGTHS, #[]⟩)
    (k_DEED_LENGTHS : PySem.W.KeysLit w.params e_DEED_LENGTHS.toList)
    (s_DEED_LENGTHS : (a_DEED_LENGTHS == sysModules) = false)
    (x_DEED_LENGTHS : e_DEED_LENGTHS.toList.map (fun e => keyTx e.key) = [some ("zero" : Str), some ("copy" : Str), some ("more" : Str)])
    (v0_DEED_LENGTHS : PySem.W.nsIn K a_DEED_LENGTHS "zero" = some (some (.int 2 t1)))
    (v1_DEED_LENGTHS : PySem.W.nsIn K a_DEED_LENGTHS "copy" = some (some (.int 3 t2)))
    (v2_DEED_LENGTHS : PySem.W.nsIn K a_DEED_LENGTHS "more" = some (some (.int 2 t3)))
    (q_MOST_GIVEN : PySem.W.nsIn K mainGlobals "MOST_GIVEN" = some (some (.int 2 t_MOST_GIVEN)))
    (q_MOST_TOLD : PySem.W.nsIn K mainGlobals "MOST_TOLD" = some (some (.int 4 t_MOST_TOLD)))
    (q_MOST_STATEMENTS : PySem.W.nsIn K mainGlobals "MOST_STATEMENTS" = some (some (.int 5000 t_MOST_STATEMENTS)))
    : ∃ fd : FuncData, (∀ (s : Shared) (v : Value), BindsTo s fd ⟨[v], []⟩ [("_law_script", v)]) ∧ ∀ base : Heap, K.In base → base.Ns mainGlobals mg → FnOk l.prog w K mg base CX0 9 fa fd ["_law_script"] (spLaw K) := by
  have T : Bi mg := ⟨PySem.W.mg_none_of X G0 z_len, PySem.W.mg_none_of X G0 z_int_, PySem.W.mg_none_of X G0 z_abs, PySem.W.mg_none_of X G0 z_sum, PySem.W.mg_none_of X G0 z_list_, PySem.W.mg_none_of X G0 z_tuple_, PySem.W.mg_none_of X G0 z_range, PySem.W.mg_none_of X G0 z_isinstance, PySem.W.mg_none_of X G0 z_str_, PySem.W.mg_none_of X G0 z_bool_, PySem.W.mg_none_of X G0 z_dict_, PySem.W.mg_none_of X G0 z_all, PySem.W.mg_none_of X G0 z_set_, PySem.W.mg_none_of X G0 z_enumerate, PySem.W.mg_none_of X G0 z_min, PySem.W.mg_none_of X G0 z_sorted⟩
  have c_MOST_LETTERS := PySem.W.mg_of X G0 q_MOST_LETTERS
  have c_DEED_LENGTHS := PySem.W.mg_of X G0 q_DEED_LENGTHS
  have L_DEED_LENGTHS : Dln K w mg a_DEED_LENGTHS e_DEED_LENGTHS n_DEED_LENGTHS := ⟨c_DEED_LENGTHS, ⟨l_DEED_LENGTHS, k_DEED_LENGTHS, s_DEED_LENGTHS⟩, ⟨_, v0_DEED_LENGTHS⟩, ⟨_, v1_DEED_LENGTHS⟩, ⟨_, v2_DEED_LENGTHS⟩, no_of l_DEED_LENGTHS x_DEED_LENGTHS⟩
  have c_MOST_GIVEN := PySem.W.mg_of X G0 q_MOST_GIVEN
  have c_MOST_TOLD := PySem.W.mg_of X G0 q_MOST_TOLD
  have c_MOST_STATEMENTS := PySem.W.mg_of X G0 q_MOST_STATEMENTS
  have G : Prg K mg C := ⟨⟨pg, hd, po, sa⟩, nG, nT, nB, PySem.W.mg_of X G0 aC⟩
  have GE : PrgE K C := ⟨x1, by first | rfl | (with_unfolding_all rfl) | decide +kernel, by first | rfl | (with_unfolding_all rfl) | decide +kernel, x4, x5, by rw [show (PySem.W.clsIn K C).isSome = true from x7, x6, Bool.true_and]; exact beq_self_eq_true _⟩
  obtain ⟨f0, fd0, a0, F0⟩ := d0
  have b0 := F0.binds (ps := ["_law_script"]) fun _ _ _ _ _ _ us hl => match us, hl with | [_], _ => rfl
  obtain ⟨f1, fd1, a1, F1⟩ := d1
  have b1 := F1.binds (ps := ["_law_hand_here", "_law_many"]) fun _ _ _ _ _ _ us hl => match us, hl with | [_, _], _ => rfl
  obtain ⟨f2, fd2, a2, F2⟩ := d2
  have b2 := F2.binds (ps := ["_law_hand_here", "_law_things"]) fun _ _ _ _ _ _ us hl => match us, hl with | [_, _], _ => rfl
  obtain ⟨f3, fd3, a3, F3⟩ := d3
  have b3 := F3.binds (ps := ["_law_hand_here", "_law_things"]) fun _ _ _ _ _ _ us hl => match us, hl with | [_, _], _ => rfl
  obtain ⟨f4, fd4, a4, F4⟩ := d4
  have b4 := F4.binds (ps := ["_law_told", "_law_due"]) fun _ _ _ _ _ _ us hl => match us, hl with | [_, _], _ => rfl
  obtain ⟨f5, fd5, a5, F5⟩ := d5
  have b5 := F5.binds (ps := ["_law_hand_here", "_law_many"]) fun _ _ _ _ _ _ us hl => match us, hl with | [_, _], _ => rfl
  obtain ⟨f6, fd6, a6, F6⟩ := d6
  have b6 := F6.binds (ps := ["_law_hand_here", "_law_own_here"]) fun _ _ _ _ _ _ us hl => match us, hl with | [_, _], _ => rfl
  obtain ⟨f7, fd7, a7, F7⟩ := d7
  have b7 := F7.binds (ps := ["_law_hand_here", "_law_own_here", "_law_most"]) fun _ _ _ _ _ _ us hl => match us, hl with | [_, _, _], _ => rfl
  obtain ⟨f8, fd8, a8, F8⟩ := d8
  have b8 := F8.binds (ps := ["_law_hand_here", "_law_most_names", "_law_most_statements", "_law_most_deeds", "_law_most_given"]) fun _ _ _ _ _ _ us hl => match us, hl with | [_, _, _, _, _], _ => rfl
  obtain ⟨f9, fd9, a9, F9⟩ := d9
  have b9 := F9.binds (ps := ["thing"]) fun _ _ _ _ _ _ us hl => match us, hl with | [_], _ => rfl
  obtain ⟨f10, fd10, a10, F10⟩ := d10
  have b10 := F10.binds (ps := ["thing"]) fun _ _ _ _ _ _ us hl => match us, hl with | [_], _ => rfl
  obtain ⟨f11, fd11, a11, F11⟩ := d11
  have b11 := F11.binds (ps := ["thing"]) fun _ _ _ _ _ _ us hl => match us, hl with | [_], _ => rfl
  obtain ⟨f12, fd12, a12, F12⟩ := d12
  have b12 := F12.binds (ps := ["thing"]) fun _ _ _ _ _ _ us hl => match us, hl with | [_], _ => rfl
  obtain ⟨f13, fd13, a13, F13⟩ := d13
  have b13 := F13.binds (ps := ["thing"]) fun _ _ _ _ _ _ us hl => match us, hl with | [_], _ => rfl
  obtain ⟨f14, fd14, a14, F14⟩ := d14
  have b14 := F14.binds (ps := ["things"]) fun _ _ _ _ _ _ us hl => match us, hl with | [_], _ => rfl
  obtain ⟨f15, fd15, a15, F15⟩ := d15
  have b15 := F15.binds (ps := ["thing"]) fun _ _ _ _ _ _ us hl => match us, hl with | [_], _ => rfl
  obtain ⟨f16, fd16, a16, F16⟩ := d16
  have b16 := F16.binds (ps := ["thing"]) fun _ _ _ _ _ _ us hl => match us, hl with | [_], _ => rfl
  obtain ⟨f17, fd17, a17, F17⟩ := d17
  have b17 := F17.binds (ps := ["thing"]) fun _ _ _ _ _ _ us hl => match us, hl with | [_], _ => rfl
  obtain ⟨f18, fd18, a18, F18⟩ := d18
  have b18 := F18.binds (ps := ["statement"]) fun _ _ _ _ _ _ us hl => match us, hl with | [_], _ => rfl
  obtain ⟨f19, fd19, a19, F19⟩ := d19
  have b19 := F19.binds (ps := ["statement"]) fun _ _ _ _ _ _ us hl => match us, hl with | [_], _ => rfl
  obtain ⟨f20, fd20, a20, F20⟩ := d20
  have b20 := F20.binds (ps := ["block"]) fun _ _ _ _ _ _ us hl => match us, hl with | [_], _ => rfl
  obtain ⟨f21, fd21, a21, F21⟩ := d21
  have b21 := F21.binds (ps := ["block"]) fun _ _ _ _ _ _ us hl => match us, hl with | [_], _ => rfl
  obtain ⟨f22, fd22, a22, F22⟩ := d22
  have b22 := F22.binds (ps := ["program", "further", "thing"]) fun _ _ _ _ _ _ us hl => match us, hl with | [_, _, _], _ => rfl
  obtain ⟨f23, fd23, a23, F23⟩ := d23
  have b23 := F23.binds (ps := ["program", "thing"]) fun _ _ _ _ _ _ us hl => match us, hl with | [_, _], _ => rfl
  obtain ⟨f24, fd24, a24, F24⟩ := d24
  have b24 := F24.binds (ps := ["given", "told", "block"]) fun _ _ _ _ _ _ us hl => match us, hl with | [_, _, _], _ => rfl
  obtain ⟨f25, fd25, a25, F25⟩ := d25
  have b25 := F25.binds (ps := ["block", "place", "many", "new"]) fun _ _ _ _ _ _ us hl => match us, hl with | [_, _, _, _], _ => rfl
  obtain ⟨f26, fd26, a26, F26⟩ := d26
  have b26 := F26.binds (ps := ["program", "place"]) fun _ _ _ _ _ _ us hl => match us, hl with | [_, _], _ => rfl
  obtain ⟨f27, fd27, a27, F27⟩ := d27
  have b27 := F27.binds (ps := ["_law_parts_here"]) fun _ _ _ _ _ _ us hl => match us, hl with | [_], _ => rfl
  obtain ⟨f28, fd28, a28, F28⟩ := d28
  have b28 := F28.binds (ps := ["_law_hand_here", "_law_parts_here"]) fun _ _ _ _ _ _ us hl => match us, hl with | [_, _], _ => rfl
  obtain ⟨f29, fd29, a29, F29⟩ := d29
  obtain ⟨g0, gd0, ga0, gi0, GF0⟩ := m0
  have b_init := GF0.binds (ps := ["self", "given", "told", "block"]) fun _ _ _ _ _ _ us hl => match us, hl with | [_, _, _, _], _ => rfl
  have M : Mk K C g0 := ⟨mk, ga0, gi0, kC⟩
  obtain ⟨g1, gd1, ga1, gi1, GF1⟩ := m1
  have b_eq := GF1.binds (ps := ["self", "other"]) fun _ _ _ _ _ _ us hl => match us, hl with | [_, _], _ => rfl
  have e := hfa.symm.trans (PySem.W.mg_of X G0 a29)
  cases e
  refine ⟨fd29, fun s v => ?_, fun base _ _ => ?_⟩
  · obtain ⟨oc, od, kV, doc, pm, an, cdv, ct, osl, rfl, lk, hcd⟩ := F29.ex
    exact .of_eq rfl
  have D_l_hand : Has l.prog w K mg base "_law_hand" 1 ["_law_script"] (spHand K) := .mk' (PySem.W.mg_of X G0 a0) (ok_hand F0 T) b0 F0.kp
  have D_l_draw : Has l.prog w K mg base "_law_draw" 1 ["_law_hand_here", "_law_many"] (spDraw K) := .mk' (PySem.W.mg_of X G0 a1) (ok_draw F1 T) b1 F1.kp
  have D_l_some : Has l.prog w K mg base "_law_some" 2 ["_law_hand_here", "_law_things"] (spSome K) := .mk' (PySem.W.mg_of X G0 a2) (ok_some F2 T D_l_draw) b2 F2.kp
  have D_l_shuffled : Has l.prog w K mg base "_law_shuffled" 2 ["_law_hand_here", "_law_things"] (spShuf K) := .mk' (PySem.W.mg_of X G0 a3) (ok_shuf F3 T D_l_draw) b3 F3.kp
  have D_l_is : Has l.prog w K mg base "_law_is" 7 ["_law_told", "_law_due"] (spIs K 5) := .mk' (PySem.W.mg_of X G0 a4) (ok_lawis F4 T (PySem.W.mg_of X G0 a4) b4 F4.kp 5) b4 F4.kp
  have D_l_own : Has l.prog w K mg base "_law_own" 3 ["_law_hand_here", "_law_many"] (spOwn K) := .mk' (PySem.W.mg_of X G0 a5) (ok_own F5 T D_l_shuffled) b5 F5.kp
  have D_l_deed : Has l.prog w K mg base "_law_deed" 3 ["_law_hand_here", "_law_own_here"] (spDeed K) := .mk' (PySem.W.mg_of X G0 a6) (ok_ldeed F6 T D_l_draw D_l_some) b6 F6.kp
  have D_l_statement : Has l.prog w K mg base "_law_statement" 4 ["_law_hand_here", "_law_own_here", "_law_most"] (spStm K) := .mk' (PySem.W.mg_of X G0 a7) (ok_stm F7 T D_l_draw D_l_some D_l_deed) b7 F7.kp
  have D_l_parts : Has l.prog w K mg base "_law_parts" 5 ["_law_hand_here", "_law_most_names", "_law_most_statements", "_law_most_deeds", "_law_most_given"] (spParts K) := .mk' (PySem.W.mg_of X G0 a8) (ok_parts F8 T D_l_draw D_l_shuffled D_l_own D_l_statement) b8 F8.kp
  have D_is_integer : Has l.prog w K mg base "is_integer" 1 ["thing"] (spIntT K) := .mk' (PySem.W.mg_of X G0 a9) (ok_integer F9 T) b9 F9.kp
  have D_is_number : Has l.prog w K mg base "is_number" 2 ["thing"] (spNumT K) := .mk' (PySem.W.mg_of X G0 a10) (ok_number F10 D_is_integer) b10 F10.kp
  have D_is_name : Has l.prog w K mg base "is_name" 1 ["thing"] (spNameT K) := .mk' (PySem.W.mg_of X G0 a11) (ok_name F11 T c_MOST_LETTERS) b11 F11.kp
  have D_is_name_tuple : Has l.prog w K mg base "is_name_tuple" 2 ["thing"] (spNamesT K) := .mk' (PySem.W.mg_of X G0 a12) (ok_names F12 T D_is_name) b12 F12.kp
  have D_is_deed : Has l.prog w K mg base "is_deed" 2 ["thing"] (spDeedT K) := .mk' (PySem.W.mg_of X G0 a13) (ok_deedT F13 T L_DEED_LENGTHS D_is_name) b13 F13.kp
  have D_first_wrong_deed : Has l.prog w K mg base "first_wrong_deed" 3 ["things"] (spFirstT K) := .mk' (PySem.W.mg_of X G0 a14) (ok_firstT F14 T D_is_deed) b14 F14.kp
  have D_is_round_frame : Has l.prog w K mg base "is_round_frame" 2 ["thing"] (spFrameT K) := .mk' (PySem.W.mg_of X G0 a15) (ok_frameT F15 T D_is_name) b15 F15.kp
  have D_is_given : Has l.prog w K mg base "is_given" 3 ["thing"] (spGivenT K) := .mk' (PySem.W.mg_of X G0 a16) (ok_given F16 T c_MOST_GIVEN D_is_name_tuple) b16 F16.kp
  have D_is_told : Has l.prog w K mg base "is_told" 3 ["thing"] (spToldT K) := .mk' (PySem.W.mg_of X G0 a17) (ok_told F17 T c_MOST_TOLD D_is_name_tuple) b17 F17.kp
  have D_has_round : Has l.prog w K mg base "has_round" 1 ["statement"] (spHasRound K) := .mk' (PySem.W.mg_of X G0 a18) (ok_has_round F18 ) b18 F18.kp
  have D_deeds_in : Has l.prog w K mg base "deeds_in" 2 ["statement"] (spDeedsIn K) := .mk' (PySem.W.mg_of X G0 a19) (ok_deeds_in F19 D_has_round) b19 F19.kp
  have D_size : Has l.prog w K mg base "_size" 3 ["block"] (spSize K) := .mk' (PySem.W.mg_of X G0 a20) (ok_size F20 T D_deeds_in) b20 F20.kp
  have D_wrong_part : Has l.prog w K mg base "_wrong_part" 4 ["block"] (spWrong K) := .mk' (PySem.W.mg_of X G0 a21) (ok_wrong F21 T c_MOST_STATEMENTS D_is_deed D_is_round_frame D_first_wrong_deed D_size) b21 F21.kp
  have G_init : FnOk l.prog w K mg base CX0 5 g0 gd0 ["self", "given", "told", "block"] (spInitR K C) := ok_initR GF0 G D_is_given D_is_told D_wrong_part
  have G_eq : FnOk l.prog w K mg base CX0 1 g1 gd1 ["self", "other"] (spEq K C) := ok_eq GF1 T G GE
  have D_is_place_before : Has l.prog w K mg base "_is_place_before" 3 ["program", "further", "thing"] (spPlaceB K C) := .mk' (PySem.W.mg_of X G0 a22) (ok_placeB F22 T G D_is_number D_has_round) b22 F22.kp
  have D_is_place : Has l.prog w K mg base "is_place" 4 ["program", "thing"] (spIsPlace K C) := .mk' (PySem.W.mg_of X G0 a23) (ok_is_place F23 D_is_place_before) b23 F23.kp
  have D_of_any_size : Has l.prog w K mg base "of_any_size" 7 ["given", "told", "block"] (spOfAny K C) := .mk' (PySem.W.mg_of X G0 a24) (ok_ofAny F24 G M G_init b_init) b24 F24.kp
  have D_replaced : Has l.prog w K mg base "_replaced" 1 ["block", "place", "many", "new"] (spRepl K) := .mk' (PySem.W.mg_of X G0 a25) (ok_repl F25 T) b25 F25.kp
  have D_left_out : Has l.prog w K mg base "left_out" 8 ["program", "place"] (spLeft K C) := .mk' (PySem.W.mg_of X G0 a26) (ok_left F26 G D_is_place D_of_any_size D_replaced) b26 F26.kp
  have D_l_made : Has l.prog w K mg base "_law_made" 7 ["_law_parts_here"] (spMade K C) := .mk' (PySem.W.mg_of X G0 a27) (ok_made F27 G M G_init b_init) b27 F27.kp
  have D_l_changed : Has l.prog w K mg base "_law_changed" 5 ["_law_hand_here", "_law_parts_here"] (spChg K) := .mk' (PySem.W.mg_of X G0 a28) (ok_chg F28 T D_l_draw D_l_statement) b28 F28.kp
  exact ok_law F29 T G GE M G_init b_init G_eq b_eq ga1 gi1 D_l_hand D_l_draw D_l_parts D_l_made D_l_is D_l_changed D_left_out
end Y
open PySem PySem.W PyProof.Rows
set_option maxHeartbeats 0 in
theorem PySem.Challenge.cw_flatrounds_k02_whole_programs_kept_and_e_holds : PySem.Challenge.rw_flatrounds_k02_whole_programs_kept_and_e.Holds := by
  w_on; o_law; k_head; (case hw => w_witness2)
  k_fill
  refine L2.walk_of (l := PySem.Challenge.rw_flatrounds_k02_whole_programs_kept_and_e) (n := 63) (k := 9) (x := "_law_script") (CX := fun _ => L2.CX0) (sp := fun w => Y.spLaw _) rfl (by decide) rfl ⟨rfl, by decide, by decide⟩ (fun w h Y => PySem.W.kIn_of Y) ?F (fun _ _ a ns hl _ hS => ⟨a, ns, rfl, hS, hl, fun _ => rfl⟩) (fun _ _ _ _ _ h => h)
  case F =>
    intro w mg fa h KX G hmg
    refine' Y.all_mk KX G hmg ?d0 ?d1 ?d2 ?d3 ?d4 ?d5 ?d6 ?d7 ?d8 ?d9 ?d10 ?d11 ?d12 ?d13 ?d14 ?d15 ?d16 ?d17 ?d18 ?d19 ?d20 ?d21 ?d22 ?d23 ?d24 ?d25 ?d26 ?d27 ?d28 ?d29 ?aC ?m0 ?m1 ?pg ?hd ?po ?sa ?mk ?kC ?nG ?nT ?nB ?x1 ?x4 ?x5 ?x6 ?x7 ?z_len ?z_int_ ?z_abs ?z_sum ?z_list_ ?z_tuple_ ?z_range ?z_isinstance ?z_str_ ?z_bool_ ?z_dict_ ?z_all ?z_set_ ?z_enumerate ?z_min ?z_sorted ?q_MOST_LETTERS ?q_DEED_LENGTHS ?l_DEED_LENGTHS ?k_DEED_LENGTHS ?s_DEED_LENGTHS ?x_DEED_LENGTHS ?v0_DEED_LENGTHS ?v1_DEED_LENGTHS ?v2_DEED_LENGTHS ?q_MOST_GIVEN ?q_MOST_TOLD ?q_MOST_STATEMENTS
    (case d0 => refine' Y.defAt_mk ?a0 ?l0 ?c0 ?k0; (case a0 => k_is); (case l0 => k_is); (case c0 => k_is); (case k0 => k_is))
    (case d1 => refine' Y.defAt_mk ?a1 ?l1 ?c1 ?k1; (case a1 => k_is); (case l1 => k_is); (case c1 => k_is); (case k1 => k_is))
    (case d2 => refine' Y.defAt_mk ?a2 ?l2 ?c2 ?k2; (case a2 => k_is); (case l2 => k_is); (case c2 => k_is); (case k2 => k_is))
    (case d3 => refine' Y.defAt_mk ?a3 ?l3 ?c3 ?k3; (case a3 => k_is); (case l3 => k_is); (case c3 => k_is); (case k3 => k_is))
    (case d4 => refine' Y.defAt_mk ?a4 ?l4 ?c4 ?k4; (case a4 => k_is); (case l4 => k_is); (case c4 => k_is); (case k4 => k_is))
    (case d5 => refine' Y.defAt_mk ?a5 ?l5 ?c5 ?k5; (case a5 => k_is); (case l5 => k_is); (case c5 => k_is); (case k5 => k_is))
    (case d6 => refine' Y.defAt_mk ?a6 ?l6 ?c6 ?k6; (case a6 => k_is); (case l6 => k_is); (case c6 => k_is); (case k6 => k_is))
    (case d7 => refine' Y.defAt_mk ?a7 ?l7 ?c7 ?k7; (case a7 => k_is); (case l7 => k_is); (case c7 => k_is); (case k7 => k_is))
    (case d8 => refine' Y.defAt_mk ?a8 ?l8 ?c8 ?k8; (case a8 => k_is); (case l8 => k_is); (case c8 => k_is); (case k8 => k_is))
    (case d9 => refine' Y.defAt_mk ?a9 ?l9 ?c9 ?k9; (case a9 => k_is); (case l9 => k_is); (case c9 => k_is); (case k9 => k_is))
    (case d10 => refine' Y.defAt_mk ?a10 ?l10 ?c10 ?k10; (case a10 => k_is); (case l10 => k_is); (case c10 => k_is); (case k10 => k_is))
    (case d11 => refine' Y.defAt_mk ?a11 ?l11 ?c11 ?k11; (case a11 => k_is); (case l11 => k_is); (case c11 => k_is); (case k11 => k_is))
    (case d12 => refine' Y.defAt_mk ?a12 ?l12 ?c12 ?k12; (case a12 => k_is); (case l12 => k_is); (case c12 => k_is); (case k12 => k_is))
    (case d13 => refine' Y.defAt_mk ?a13 ?l13 ?c13 ?k13; (case a13 => k_is); (case l13 => k_is); (case c13 => k_is); (case k13 => k_is))
    (case d14 => refine' Y.defAt_mk ?a14 ?l14 ?c14 ?k14; (case a14 => k_is); (case l14 => k_is); (case c14 => k_is); (case k14 => k_is))
    (case d15 => refine' Y.defAt_mk ?a15 ?l15 ?c15 ?k15; (case a15 => k_is); (case l15 => k_is); (case c15 => k_is); (case k15 => k_is))
    (case d16 => refine' Y.defAt_mk ?a16 ?l16 ?c16 ?k16; (case a16 => k_is); (case l16 => k_is); (case c16 => k_is); (case k16 => k_is))
    (case d17 => refine' Y.defAt_mk ?a17 ?l17 ?c17 ?k17; (case a17 => k_is); (case l17 => k_is); (case c17 => k_is); (case k17 => k_is))
    (case d18 => refine' Y.defAt_mk ?a18 ?l18 ?c18 ?k18; (case a18 => k_is); (case l18 => k_is); (case c18 => k_is); (case k18 => k_is))
    (case d19 => refine' Y.defAt_mk ?a19 ?l19 ?c19 ?k19; (case a19 => k_is); (case l19 => k_is); (case c19 => k_is); (case k19 => k_is))
    (case d20 => refine' Y.defAt_mk ?a20 ?l20 ?c20 ?k20; (case a20 => k_is); (case l20 => k_is); (case c20 => k_is); (case k20 => k_is))
    (case d21 => refine' Y.defAt_mk ?a21 ?l21 ?c21 ?k21; (case a21 => k_is); (case l21 => k_is); (case c21 => k_is); (case k21 => k_is))
    (case d22 => refine' Y.defAt_mk ?a22 ?l22 ?c22 ?k22; (case a22 => k_is); (case l22 => k_is); (case c22 => k_is); (case k22 => k_is))
    (case d23 => refine' Y.defAt_mk ?a23 ?l23 ?c23 ?k23; (case a23 => k_is); (case l23 => k_is); (case c23 => k_is); (case k23 => k_is))
    (case d24 => refine' Y.defAt_mk ?a24 ?l24 ?c24 ?k24; (case a24 => k_is); (case l24 => k_is); (case c24 => k_is); (case k24 => k_is))
    (case d25 => refine' Y.defAt_mk ?a25 ?l25 ?c25 ?k25; (case a25 => k_is); (case l25 => k_is); (case c25 => k_is); (case k25 => k_is))
    (case d26 => refine' Y.defAt_mk ?a26 ?l26 ?c26 ?k26; (case a26 => k_is); (case l26 => k_is); (case c26 => k_is); (case k26 => k_is))
    (case d27 => refine' Y.defAt_mk ?a27 ?l27 ?c27 ?k27; (case a27 => k_is); (case l27 => k_is); (case c27 => k_is); (case k27 => k_is))
    (case d28 => refine' Y.defAt_mk ?a28 ?l28 ?c28 ?k28; (case a28 => k_is); (case l28 => k_is); (case c28 => k_is); (case k28 => k_is))
    (case d29 => refine' Y.defAt_mk ?a29 ?l29 ?c29 ?k29; (case a29 => k_is); (case l29 => k_is); (case c29 => k_is); (case k29 => k_is))
    (case aC => k_is)
    (case m0 => refine' Y.metAt_mk ?ma0 ?mi0 ?ml0 ?mc0 ?mk0; (case ma0 => k_is); (case mi0 => k_is); (case ml0 => k_is); (case mc0 => k_is); (case mk0 => k_is))
    (case m1 => refine' Y.metAt_mk ?ma1 ?mi1 ?ml1 ?mc1 ?mk1; (case ma1 => k_is); (case mi1 => k_is); (case ml1 => k_is); (case mc1 => k_is); (case mk1 => k_is))
    (case pg => k_is)
    (case hd => k_is)
    (case po => k_is)
    (case sa => k_is)
    (case mk => k_is)
    (case kC => k_is)
    (case nG => k_is)
    (case nT => k_is)
    (case nB => k_is)
    (case x1 => k_is)
    (case x4 => k_is)
    (case x5 => k_is)
    (case x6 => k_is)
    (case x7 => k_is)
    (case z_len => k_is)
    (case z_int_ => k_is)
    (case z_abs => k_is)
    (case z_sum => k_is)
    (case z_list_ => k_is)
    (case z_tuple_ => k_is)
    (case z_range => k_is)
    (case z_isinstance => k_is)
    (case z_str_ => k_is)
    (case z_bool_ => k_is)
    (case z_dict_ => k_is)
    (case z_all => k_is)
    (case z_set_ => k_is)
    (case z_enumerate => k_is)
    (case z_min => k_is)
    (case z_sorted => k_is)
    (case q_MOST_LETTERS => k_is)
    (case q_DEED_LENGTHS => k_is)
    (case l_DEED_LENGTHS => k_is)
    (case k_DEED_LENGTHS => k_keys)
    (case s_DEED_LENGTHS => first | k_is | rfl | decide)
    (case x_DEED_LENGTHS => first | rfl | decide)
    (case v0_DEED_LENGTHS => k_is)
    (case v1_DEED_LENGTHS => k_is)
    (case v2_DEED_LENGTHS => k_is)
    (case q_MOST_GIVEN => k_is)
    (case q_MOST_TOLD => k_is)
    (case q_MOST_STATEMENTS => k_is)
