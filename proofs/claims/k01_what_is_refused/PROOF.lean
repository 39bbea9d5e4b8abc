import PyProof.Rows.All
import Wide.All
import OpenK.AllK
import Wide.FinOn
import HandS.ForMost
import HandS.Evl
import HandS.More
import HandS.Conv
import HandS.IsInst
import HandS.Zip
import HandS.Text
import HandS.Set
import HandS.SetKeys
import HandS.SortKw
import HandS.SortInts
import HandS.WideBits
import HandS.EndBits
import HandS.DictComp
import KE.KMinKey
import HandS.FltList
import HandS.Style
import HandS.ForExc
import HandS.ExcIs
import HandS.RaiseMore
import HandS.FStr
import PyProof.Rows.CountFlat
import PySem.Challenge.RW_spotsums_k01_what_is_refused
set_option Elab.async false
set_option linter.all false
set_option maxRecDepth 100000
set_option maxHeartbeats 4000000
/-! own lemmas, part A: readings by what is known, lists of numbers, webs in the heap -/
namespace Sg
open PySem PySem.Spec PyProof.Rows L2 Evl RZ

abbrev ni (n : Nat) : V := V.int (n : Int)
abbrev nl (ns : List Nat) : List V := ns.map ni
theorem nl_int (ns : List Nat) : nl ns = (ns.map fun n : Nat => (n : Int)).map V.int := by
  rw [List.map_map]; rfl
theorem nl_len (ns : List Nat) : (nl ns).length = ns.length := List.length_map _
theorem nl_app (a b : List Nat) : nl (a ++ b) = nl a ++ nl b := List.map_append
theorem nl_get {ns : List Nat} {i x : Nat} (h : ns[i]? = some x) : (nl ns)[i]? = some (ni x) := by
  rw [List.getElem?_map, h]; rfl
theorem nl_at {ns : List Nat} {i x : Nat} (h : ns[i]? = some x) : atI (nl ns) (i : Int) = some (ni x) := atI_nat (nl_get h)
theorem nl_of_get {ns : List Nat} {i : Nat} {v : V} (h : (nl ns)[i]? = some v) : ∃ x, ns[i]? = some x ∧ v = ni x := by
  rw [List.getElem?_map] at h
  cases e : ns[i]? with
  | none => rw [e] at h; cases h
  | some x => rw [e] at h; exact ⟨x, rfl, (Option.some.inj h).symm⟩
theorem nl_flat (ns : List Nat) : (nl ns).all flatV = true := by
  rw [List.all_eq_true]; intro v hv; obtain ⟨n, _, rfl⟩ := List.mem_map.mp hv; rfl
theorem inV_nl (x : Nat) (ns : List Nat) : inV (ni x) (nl ns) = decide (x ∈ ns) := by
  induction ns with
  | nil => rfl
  | cons y ys ih =>
    show (eqV (ni y) (ni x) || inV (ni x) (nl ys)) = _
    rw [ih]
    have e : eqV (ni y) (ni x) = decide (y = x) := by
      show ((y : Int) == (x : Int)) = _
      by_cases h : y = x
      · subst h; simp
      · rw [decide_eq_false h]; exact beq_eq_false_iff_ne.mpr (fun z => h (Int.ofNat_inj.mp z))
    rw [e]
    by_cases h : y = x
    · subst h; simp
    · have h' : ¬ x = y := fun z => h z.symm
      simp [h, h']
abbrev bll (bs : List Bool) : List V := bs.map V.bl
theorem bll_flat (bs : List Bool) : (bll bs).all flatV = true := by
  rw [List.all_eq_true]; intro v hv; obtain ⟨n, _, rfl⟩ := List.mem_map.mp hv; rfl
theorem inV_bll (x : Bool) (bs : List Bool) : inV (.bl x) (bll bs) = decide (x ∈ bs) := by
  induction bs with
  | nil => rfl
  | cons y ys ih =>
    show ((y == x) || inV (.bl x) (bll ys)) = _
    rw [ih]
    cases x <;> cases y <;> simp

/-! ### what a reading gives: some value, some heap -/
def EvR (te : TE) (σ : L2.St) (H : Hp) (R : V → Hp → Hp → Prop) : Prop := ∀ H1, Ex H H1 → ∀ Q : VK, (∀ v H2, Ex H1 H2 → R v H1 H2 → Q v H2) → te σ H1 Q
section
variable {K : PySem.W.Frag} {σ : L2.St} {H H' : Hp} {ta tb te tl : TE} {t u : TT} {x y z v : V} {D : Ends} {tu tw tz : TS} {R : V → Hp → Hp → Prop}
theorem EvR.mono (e : Ex H H') (h : EvR te σ H R) : EvR te σ H' R := fun H1 a Q q => h H1 (e.trans a) Q q
theorem s_asgR {i : Nat} (h : EvR te σ H R) (k : ∀ v H1, Ex H H1 → R v H H1 → D.nx (σ.set i (some v)) H1) : tAsg te (gName i) D σ H := h H (Ex.refl H) _ fun v H1 e r => k v H1 e r
theorem q_asgR {i : Nat} (h : EvR te σ H R) (k : ∀ v H1, Ex H H1 → R v H H1 → tz D (σ.set i (some v)) H1) : tSeq (tAsg te (gName i)) tz D σ H := s_asgR (D := { D with nx := tz D }) h k
theorem s_retR (h : EvR te σ H R) (k : ∀ v H1, Ex H H1 → R v H H1 → D.rt v H1) : tRet te D σ H := h H (Ex.refl H) _ k
theorem q_dropR (h : EvR te σ H R) (k : ∀ v H1, Ex H H1 → R v H H1 → tz D σ H1) : tSeq (tDrop te) tz D σ H := h H (Ex.refl H) _ k
theorem s_seq {t1 t2 : TS} (h : t1 { D with nx := t2 D } σ H) : tSeq t1 t2 D σ H := h
/-- a call whose promise holds for every greater heap -/
theorem er_call {sp : Sp} {dvs vs : List V} {E : XK} {ta : TA} (h : EvA ta σ H vs)
    (hs : ∀ H1, Ex H H1 → ∀ Q : VK, (∀ v H2, Ex H1 H2 → R v H1 H2 → Q v H2) → sp (vs ++ dvs) H1 Q E)
    (hr : ∀ v H0 H1 H2, Ex H0 H1 → R v H1 H2 → R v H0 H2) : EvR (tCall sp dvs E ta) σ H R := fun H1 e Q q =>
  h H1 e _ fun H2 e2 => hs H2 (e.trans e2) Q fun v H3 e3 r => q v H3 (e2.trans e3) (hr v H1 H2 H3 e2 r)
/-- for x in a list that an expression gives -/
theorem s_forE {j : Nat} (h : EvR tl σ H R)
    (k : ∀ v H1, Ex H H1 → R v H H1 → ∃ (a : Addr) (xs : List V) (Pv : Nat → L2.St → Hp → Prop), v = .ref a ∧ SqL K H1 a xs ∧ Pv 0 σ H1 ∧ (∀ i σ' H', i ≤ xs.length → Pv i σ' H' → SqL K H' a xs) ∧
      (∀ i x σ' H', xs[i]? = some x → Pv i σ' H' → tu { D with nx := Pv (i + 1), ct := Pv (i + 1), bk := D.nx } (σ'.set j (some x)) H') ∧ (∀ σ' H', Pv xs.length σ' H' → D.nx σ' H')) : tFor (iList K tl) (gName j) tu D σ H :=
  h H (Ex.refl H) _ fun v H1 e r => by
    obtain ⟨a, xs, Pv, rfl, hx, h0, hl, hs, hd⟩ := k v H1 e r
    exact ⟨a, rfl, ⟨xs, hx⟩, for_list Pv h0 hl hs hd⟩
theorem q_forE {j : Nat} (h : EvR tl σ H R)
    (k : ∀ v H1, Ex H H1 → R v H H1 → ∃ (a : Addr) (xs : List V) (Pv : Nat → L2.St → Hp → Prop), v = .ref a ∧ SqL K H1 a xs ∧ Pv 0 σ H1 ∧ (∀ i σ' H', i ≤ xs.length → Pv i σ' H' → SqL K H' a xs) ∧
      (∀ i x σ' H', xs[i]? = some x → Pv i σ' H' → tu { D with nx := Pv (i + 1), ct := Pv (i + 1), bk := tz D } (σ'.set j (some x)) H') ∧ (∀ σ' H', Pv xs.length σ' H' → tz D σ' H')) : tSeq (tFor (iList K tl) (gName j) tu) tz D σ H :=
  s_forE (D := { D with nx := tz D }) h k
/-- xs[i] op= e -/
theorem pget_list {X : Cx} : PGet X (rIxL X.K) := by
  intro pins s σ H o i ov iv Q I ro ri h
  obtain ⟨p, xs, k, z, rfl, rfl, hq, he, q⟩ := h
  cases ro
  obtain ⟨t, rfl⟩ := ri
  obtain ⟨its, r, pl, hz⟩ := I.list hq
  obtain ⟨j, h1, h2, h3, h4, h5⟩ := atI_get he
  obtain ⟨w, ew, rw'⟩ := r.get h2
  have hl := r.length
  have hn := line63
  have fin : EP X pins σ Q w s := ⟨z, H, I, rw', q⟩
  by_cases h0 : 0 ≤ k
  · have hj : k.toNat = j := by
      rw [seqIndex_of h0 h5] at h1
      exact Option.some.inj h1
    exact wpAny_getItem_list pl.isList h0 (by omega) (by rw [hj]; simpa using ew) fin
  · have hj : (k + (its.toArray.size : Int)).toNat = j := by
      rw [seqIndex_neg (by omega) h4] at h1
      rw [List.size_toArray, ← hl]
      exact Option.some.inj h1
    exact wpAny_getItem_list_neg pl.isList (by omega) (by rw [List.size_toArray] <;> omega) (by omega) (by rw [hj]; simpa using ew) fin
theorem s_augL {l : Addr} {xs : List V} {j : Nat} {a b : Int} {f : Int → Int → Int} (hl : H l = some (.lst xs)) (ho : Ev ta σ H (.ref l)) (hi : Ev tb σ H (.int (j : Int))) (hj : xs[j]? = some (.int a)) (h : Ev te σ H (.int b))
    (k : ∀ H1, Ex H H1 → D.nx σ (upd H1 l (.lst (xs.set j (.int (f a b)))))) : tAugS ta tb te (rIxL K) (ipI f) rSetL D σ H :=
  ho H (Ex.refl H) _ fun H1 e1 => hi H1 e1 _ fun H2 e2 => ⟨l, xs, (j : Int), .int a, rfl, rfl, sq_of (e2 l _ (e1 l _ hl)), atI_nat hj, h H2 (e1.trans e2) _ fun H3 e3 => ⟨a, b, rfl, rfl,
    ⟨l, xs, (j : Int), j, rfl, rfl, e3 l _ (e2 l _ (e1 l _ hl)), ixN_nat (List.getElem?_eq_some_iff.mp hj).1, k H3 ((e1.trans e2).trans e3)⟩⟩⟩
theorem q_augL {l : Addr} {xs : List V} {j : Nat} {a b : Int} {f : Int → Int → Int} (hl : H l = some (.lst xs)) (ho : Ev ta σ H (.ref l)) (hi : Ev tb σ H (.int (j : Int))) (hj : xs[j]? = some (.int a)) (h : Ev te σ H (.int b))
    (k : ∀ H1, Ex H H1 → tz D σ (upd H1 l (.lst (xs.set j (.int (f a b)))))) : tSeq (tAugS ta tb te (rIxL K) (ipI f) rSetL) tz D σ H := s_augL (D := { D with nx := tz D }) hl ho hi hj h k
theorem s_rev {l : Addr} {xs : List V} (hl : H l = some (.lst xs)) (ho : Ev ta σ H (.ref l)) (k : ∀ H1, Ex H H1 → D.nx σ (upd H1 l (.lst xs.reverse))) : tDrop (tBM0 K "list" rReverse ta) D σ H :=
  ho H (Ex.refl H) _ fun H1 e1 => ⟨Or.inl ⟨rfl, xs, sq_of (e1 l _ hl)⟩, l, xs, rfl, rfl, e1 l _ hl, k H1 e1⟩
theorem q_rev {l : Addr} {xs : List V} (hl : H l = some (.lst xs)) (ho : Ev ta σ H (.ref l)) (k : ∀ H1, Ex H H1 → tz D σ (upd H1 l (.lst xs.reverse))) : tSeq (tDrop (tBM0 K "list" rReverse ta)) tz D σ H := s_rev (D := { D with nx := tz D }) hl ho k
theorem s_clear {l : Addr} {xs : List V} (hl : H l = some (.lst xs)) (ho : Ev ta σ H (.ref l)) (k : ∀ H1, Ex H H1 → D.nx σ (upd H1 l (.lst []))) : tDrop (tBM0 K "list" rClear ta) D σ H :=
  ho H (Ex.refl H) _ fun H1 e1 => ⟨Or.inl ⟨rfl, xs, sq_of (e1 l _ hl)⟩, l, xs, rfl, rfl, e1 l _ hl, k H1 e1⟩
theorem q_clear {l : Addr} {xs : List V} (hl : H l = some (.lst xs)) (ho : Ev ta σ H (.ref l)) (k : ∀ H1, Ex H H1 → tz D σ (upd H1 l (.lst []))) : tSeq (tDrop (tBM0 K "list" rClear ta)) tz D σ H := s_clear (D := { D with nx := tz D }) hl ho k
theorem ev_index {a : Addr} {ys : List V} {j : Nat} (ho : Ev ta σ H (.ref a)) (h : Ev te σ H y) (hy : SqL K H a ys) (fy : flatV y = true) (fa : ys.all flatV = true) (hj : ys[j]? = some z) (hz : eqV z y = true)
    (hn : ∀ (m : Nat) (z' : V), m < j → ys[m]? = some z' → eqV z' y = false) : Ev (tBM K "list" (rIndex K) ta (tCons te tNil)) σ H (.int (j : Nat)) := fun H1 e Q q =>
  ho H1 e _ fun H2 e2 => ⟨Or.inl ⟨rfl, ys, ex_l (e.trans e2) hy⟩, h H2 (e.trans e2) _ fun H3 e3 => ⟨a, ys, y, j, z, rfl, rfl, ex_l ((e.trans e2).trans e3) hy, fy, fa, hj, hz, hn, q H3 (e2.trans e3)⟩⟩
theorem el_rep {xs : List V} {n : Int} (h : EvL ta σ H xs) (hb : Ev tb σ H (.int n)) (h1 : 0 ≤ n ∧ n ≤ 100000) (h2 : xs.length ≤ 100) : EvL (tOp rRep ta tb) σ H (List.replicate n.toNat xs).flatten := fun H1 e Q q =>
  h H1 e _ fun p H2 hp e2 h3 => hb H2 (e.trans e2) _ fun H3 e3 => ⟨p, n, xs, rfl, rfl, e3 p _ h3, by omega, by omega, by
    rw [sizeLine_eq]
    have : xs.length * n.toNat ≤ 100 * 100000 := Nat.mul_le_mul h2 (by omega)
    omega, fun l hl => q l _ (fresh_back (e2.trans e3) hl) ((e2.trans e3).trans (Ex.new hl)) upd_same⟩
theorem el_cat {xs ys : List V} (h : EvL ta σ H xs) (hb : EvL tb σ H ys) (h2 : xs.length + ys.length ≤ 100000) : EvL (tOp rCat ta tb) σ H (xs ++ ys) := fun H1 e Q q =>
  h H1 e _ fun p H2 hp e2 h3 => hb H2 (e.trans e2) _ fun l H3 hl e3 h4 => ⟨p, l, xs, ys, rfl, rfl, e3 p _ h3, h4, sz_of h2, fun r hr => q r _ (fresh_back (e2.trans e3) hr) ((e2.trans e3).trans (Ex.new hr)) upd_same⟩
theorem rgV_nat (n : Int) : rgV 0 n = nl (List.range n.toNat) := by
  unfold rgV
  rw [Int.sub_zero]
  apply List.map_congr_left
  intro i _
  show V.int (0 + (i : Int)) = V.int (i : Int)
  rw [Int.zero_add]
theorem el_rg1 {n : Int} (h : Ev ta σ H (.int n)) (hn : 0 ≤ n ∧ n ≤ 100000) : EvL (tLstRg (tRg1 ta)) σ H (nl (List.range n.toNat)) := fun H1 e Q q =>
  h H1 e _ fun H2 e2 => ⟨n, rfl, RgOk.of_le (by omega) (by omega) (by omega) (by omega), fun l hl => q l _ (fresh_back e2 hl) (e2.trans (Ex.new hl)) (by rw [rgV_nat]; exact upd_same)⟩
theorem ev_all {bs : List Bool} (h : EvL ta σ H (bll bs)) : Ev (tCB (rAll K) (tCons ta tNil)) σ H (.bl (bs.all id)) := fun H1 e Q q =>
  h H1 e _ fun p H2 hp e2 h2 => ⟨p, bs, rfl, sq_of h2, q H2 e2⟩
theorem ev_any {bs : List Bool} (h : EvL ta σ H (bll bs)) : Ev (tCB (rAny K) (tCons ta tNil)) σ H (.bl (bs.any id)) := fun H1 e Q q =>
  h H1 e _ fun p H2 hp e2 h2 => ⟨p, bs, rfl, sq_of h2, q H2 e2⟩
theorem ev_lenSet {a : Addr} {ns : List Nat} (h : Ev ta σ H (.ref a)) (hs : SqL K H a (nl ns)) (nd : ns.Nodup) (hl : ns.length ≤ 4000) : Ev (RZ.tLenSetI K ta) σ H (ni ns.length) := fun H1 e Q q =>
  h H1 e _ fun H2 e2 => ⟨a, ns.map fun n : Nat => (n : Int), rfl, by rw [← nl_int]; exact ex_l (e.trans e2) hs, nd.map _ (fun _ _ hne z => hne (Int.ofNat_inj.mp z)), by rw [List.length_map]; exact hl, by rw [List.length_map]; exact q H2 e2⟩
theorem ev_type {T : String} (h : Ev ta σ H x) (ht : ∀ H1, Ex H H1 → TyB K H1 x T) : Ev (tCB (rTyp K) (tCons ta tNil)) σ H (.ty T) := fun H1 e Q q =>
  h H1 e _ fun H2 e2 => ⟨x, T, rfl, ht H2 (e.trans e2), q H2 e2⟩
theorem ev_isi {c : V} {t u : Value} {b : Bool} (h : Ev ta σ H x) (hc : Ev tb σ H c) (k : ClsV c u) (ty : ∀ H1, Ex H H1 → TyX K H1 x t) (e0 : PySem.W.kitOne K t u = some b) : Ev (tCB (rIsi K) (tCons ta (tCons tb tNil))) σ H (.bl b) := fun H1 e Q q =>
  h H1 e _ fun H2 e2 => hc H2 (e.trans e2) _ fun H3 e3 => ⟨x, c, t, u, b, rfl, k, ty H3 ((e.trans e2).trans e3), e0, q H3 (e2.trans e3)⟩
theorem rv_notTy {a b : String} : RV rNT (.ty a) (.ty b) H (.bl (!decide (a = b))) := fun H1 _ _ q => ⟨a, b, rfl, rfl, q H1 (Ex.refl H1)⟩
theorem rv_isN : RV (fun x y H Q => y = .non ∧ Q (.bl (decide (x = .non))) H) x .non H (.bl (decide (x = .non))) := fun H1 _ _ q => ⟨rfl, q H1 (Ex.refl H1)⟩
theorem ev_chain {r r' : R2} {tc : TE} {a b : Bool} (ha : Ev ta σ H x) (hb : Ev tb σ H y) (hr : RV r x y H (.bl a)) (hc : a = true → ∃ w, Ev tc σ H w ∧ RV r' y w H (.bl b)) : Ev (tChain r r' ta tb tc) σ H (.bl (a && b)) := fun H1 e Q q =>
  ha H1 e _ fun H2 e2 => hb H2 (e.trans e2) _ fun H3 e3 => hr H3 ((e.trans e2).trans e3) _ fun H4 e4 => ⟨a, rfl, by
    cases a with
    | true =>
      show tc σ H4 _
      obtain ⟨w, h1, h2⟩ := hc rfl
      exact h1 H4 (((e.trans e2).trans e3).trans e4) _ fun H5 e5 => h2 H5 ((((e.trans e2).trans e3).trans e4).trans e5) Q fun H6 e6 => q H6 ((((e2.trans e3).trans e4).trans e5).trans e6)
    | false =>
      show Q (.bl false) H4
      exact q H4 ((e2.trans e3).trans e4)⟩
end
/-! ### the rules with the written part named (within a comprehension it must not hang on the block) -/
section
variable {X : Cx} (K : PySem.W.Frag)
theorem ixK (h : X.K = K := by rfl) : IxR X (rIxL K) := by subst h; exact ix_list
theorem ixTK (h : X.K = K := by rfl) : IxR X (rIxT K) := by subst h; exact ix_tup
theorem lenK (h : X.K = K := by rfl) : CallR X (.builtin "len") (rLenS K) := by subst h; exact call_len_seq
theorem listK (h : X.K = K := by rfl) : CallR X (.type "list") (rListS K) := by subst h; exact call_list_of
theorem inK (h : X.K = K := by rfl) : OpR X (compareOp .In) (rIn K false) := by subst h; exact op_in_seq
theorem niK (h : X.K = K := by rfl) : OpR X (compareOp .NotIn) (rIn K true) := by subst h; exact op_notIn_seq
theorem anyK (hc : X.calm = true) (h : X.K = K := by rfl) : CallR X (.builtin "any") (rAny K) := by subst h; exact cr_any hc
theorem allK (hc : X.calm = true) (h : X.K = K := by rfl) : CallR X (.builtin "all") (rAll K) := by subst h; exact cr_all hc
theorem sumK (hc : X.calm = true) (h : X.K = K := by rfl) : CallR X (.builtin "sum") (rSum K) := by subst h; exact cr_sum hc
theorem maxK (hc : X.calm = true) (h : X.K = K := by rfl) : CallR X (.builtin "max") (rMax K) := by subst h; exact cr_max hc
theorem minK (hc : X.calm = true) (h : X.K = K := by rfl) : CallR X (.builtin "min") (rMin K) := by subst h; exact cr_min hc
theorem slK (h : X.K = K := by rfl) : SlR X (rSlL K) := by subst h; exact sl_list
theorem idxK (h : X.K = K := by rfl) : MtR X "list.index" (rIndex K) := by subst h; exact mt_index
theorem typK (h : X.K = K := by rfl) : CallR X (.type "type") (rTyp K) := by subst h; exact call_type1
theorem isiK (h : X.K = K := by rfl) : CallR X (.builtin "isinstance") (rIsi K) := by subst h; exact call_isi
theorem eqK (hu : X.A.units + 64 < cLine) (h : X.K = K := by rfl) : OpR X (compareOp .Eq) (rEqD K) := by subst h; exact op_eqD hu
theorem neK (hu : X.A.units + 64 < cLine) (h : X.K = K := by rfl) : OpR X (compareOp .NotEq) (rNeD K) := by subst h; exact op_neD hu
theorem piK {tg l : Expr} {tl : TE} (hl : PE X l tl) (h : X.K = K := by rfl) : PI X tg l (iList K tl) := by subst h; exact pi_list hl
theorem lenSetK {a : Expr} {ta : TE} {p p2 q pos : Pos} (hg : Gl X "len") (hm : X.mg "len" = none) (hg2 : Gl X "set") (hm2 : X.mg "set" = none) (ha : PE X a ta) (hc : X.calm = true := by rfl)
    (na : starEach [a] X.env = (false, eval a X.env) :: starEach [] X.env := by rfl) (h : X.K = K := by rfl) : PE X (.Call (.Name "len" p) [.Call (.Name "set" p2) [a] [] q] [] pos) (RZ.tLenSetI K ta) := by subst h; exact RZ.pe_lenSetI hg hm hg2 hm2 ha hc na
theorem getK (h : X.K = K := by rfl) : PGet X (rIxL K) := by subst h; exact pget_list
end
end Sg
set_option Elab.async false
set_option linter.all false
set_option maxRecDepth 100000
set_option maxHeartbeats 4000000
/-! own lemmas, part B: webs in the heap -/
namespace Sg
open PySem PySem.Spec PyProof.Rows L2 Evl RZ

structure WebAt (H : Hp) (a : Addr) (ps : List Addr) (w : List (List Nat)) : Prop where
  top : H a = some (.lst (ps.map V.ref))
  len : ps.length = w.length
  row : ∀ (i : Nat) (p : Addr) (r : List Nat), ps[i]? = some p → w[i]? = some r → H p = some (.lst (nl r))
theorem WebAt.mono {H H' : Hp} {a : Addr} {ps : List Addr} {w : List (List Nat)} (h : WebAt H a ps w) (e : Ex H H') : WebAt H' a ps w :=
  ⟨e _ _ h.top, h.len, fun i p r h1 h2 => e _ _ (h.row i p r h1 h2)⟩
theorem WebAt.seq {K : PySem.W.Frag} {H : Hp} {a : Addr} {ps : List Addr} {w : List (List Nat)} (h : WebAt H a ps w) : SqL K H a (ps.map V.ref) := sq_of h.top
theorem WebAt.rlen {H : Hp} {a : Addr} {ps : List Addr} {w : List (List Nat)} (h : WebAt H a ps w) : (ps.map V.ref).length = w.length := by rw [List.length_map]; exact h.len
/-- the row at a place -/
theorem WebAt.at {H : Hp} {a : Addr} {ps : List Addr} {w : List (List Nat)} (h : WebAt H a ps w) {i : Nat} (hi : i < w.length) : ∃ p, ps[i]? = some p ∧ (ps.map V.ref)[i]? = some (.ref p) ∧ H p = some (.lst (nl w[i])) := by
  have hp : i < ps.length := by rw [h.len]; exact hi
  have e := List.getElem?_eq_getElem hp
  exact ⟨ps[i], e, by rw [List.getElem?_map, e]; rfl, h.row i _ _ e (List.getElem?_eq_getElem hi)⟩
structure NewAt (H0 : Hp) (a : Addr) (ps : List Addr) : Prop where
  top : H0 a = none
  row : ∀ p ∈ ps, H0 p = none
  nd : ps.Nodup
  na : a ∉ ps
theorem NewAt.back {H H0 : Hp} {a : Addr} {ps : List Addr} (h : NewAt H0 a ps) (e : Ex H H0) : NewAt H a ps := ⟨fresh_back e h.top, fun p hp => fresh_back e (h.row p hp), h.nd, h.na⟩
def RW (P : List (List Nat) → Prop) : V → Hp → Hp → Prop := fun v H0 H => ∃ a ps w, v = .ref a ∧ WebAt H a ps w ∧ NewAt H0 a ps ∧ P w
def RL (P : List Nat → Prop) : V → Hp → Hp → Prop := fun v H0 H => ∃ a xs, v = .ref a ∧ H0 a = none ∧ H a = some (.lst (nl xs)) ∧ P xs
theorem RW.back {P : List (List Nat) → Prop} {v : V} {H H0 H1 : Hp} (e : Ex H H0) (h : RW P v H0 H1) : RW P v H H1 := by
  obtain ⟨a, ps, w, h1, h2, h3, h4⟩ := h
  exact ⟨a, ps, w, h1, h2, h3.back e, h4⟩
theorem RL.back {P : List Nat → Prop} {v : V} {H H0 H1 : Hp} (e : Ex H H0) (h : RL P v H0 H1) : RL P v H H1 := by
  obtain ⟨a, xs, h1, h2, h3, h4⟩ := h
  exact ⟨a, xs, h1, fresh_back e h2, h3, h4⟩
/-- a row is changed -/
theorem WebAt.set {H : Hp} {a : Addr} {ps : List Addr} {w : List (List Nat)} (h : WebAt H a ps w) (nd : ps.Nodup) (na : a ∉ ps) {i : Nat} {p : Addr} (hp : ps[i]? = some p) (r : List Nat) : WebAt (upd H p (.lst (nl r))) a ps (w.set i r) := by
  have pm : p ∈ ps := List.mem_of_getElem? hp
  refine ⟨?_, by rw [List.length_set]; exact h.len, fun j q x h1 h2 => ?_⟩
  · rw [upd_ne (fun e => na (by rw [e]; exact pm))]
    exact h.top
  · by_cases e : i = j
    · subst e
      rw [hp] at h1
      cases h1
      have hi : i < w.length := by rw [← h.len]; exact (List.getElem?_eq_some_iff.mp hp).1
      rw [List.getElem?_set_self hi] at h2
      cases h2
      exact upd_same
    · rw [List.getElem?_set_ne e] at h2
      rw [upd_ne (fun z => e (by subst z; exact nd_ix nd hp h1))]
      exact h.row j q x h1 h2
/-- another object is changed -/
theorem WebAt.other {H : Hp} {a : Addr} {ps : List Addr} {w : List (List Nat)} (h : WebAt H a ps w) {q : Addr} (o : HO) (h1 : q ≠ a) (h2 : q ∉ ps) : WebAt (upd H q o) a ps w := by
  refine ⟨?_, h.len, fun j p x e1 e2 => ?_⟩
  · rw [upd_ne h1.symm]; exact h.top
  · rw [upd_ne (fun z => h2 (by rw [← z]; exact List.mem_of_getElem? e1))]
    exact h.row j p x e1 e2
/-- a place that H0 does not know is none of a web's that it knows -/
theorem WebAt.apart {H : Hp} {a : Addr} {ps : List Addr} {w : List (List Nat)} (h : WebAt H a ps w) {q : Addr} (n : H q = none) : q ≠ a ∧ q ∉ ps := by
  refine ⟨fun e => (ne_of_none h.top n) e.symm, fun hm => ?_⟩
  obtain ⟨i, hi, e⟩ := List.getElem_of_mem hm
  have hw : i < w.length := by rw [← h.len]; exact hi
  have := h.row i q _ (by rw [List.getElem?_eq_getElem hi, e]) (List.getElem?_eq_getElem hw)
  rw [n] at this
  cases this
/-! ### data -/
def rowD (r : List Nat) : PyData := .list (r.map fun n : Nat => PyData.int (n : Int))
def webD (w : List (List Nat)) : PyData := .list (w.map rowD)
theorem dpAll_ints {K : PySem.W.Frag} {H : Hp} : ∀ r : List Nat, DpAll K H (nl r) (r.map fun n : Nat => PyData.int (n : Int))
  | [] => .nil
  | n :: r => .cons (.int _) (dpAll_ints r)
theorem dp_row {K : PySem.W.Frag} {H : Hp} {p : Addr} {r : List Nat} (h : SqL K H p (nl r)) : Dp K H (.ref p) (rowD r) := .lst h (dpAll_ints r)
theorem dpAll_rows {K : PySem.W.Frag} {H : Hp} : ∀ (ps : List Addr) (w : List (List Nat)), ps.length = w.length → (∀ (i : Nat) (p : Addr) (r : List Nat), ps[i]? = some p → w[i]? = some r → H p = some (.lst (nl r))) → DpAll K H (ps.map V.ref) (w.map rowD)
  | [], [], _, _ => .nil
  | [], _ :: _, h, _ => by cases h
  | _ :: _, [], h, _ => by cases h
  | p :: ps, r :: w, h, k => .cons (dp_row (sq_of (k 0 p r rfl rfl))) (dpAll_rows ps w (Nat.succ.inj h) fun i q x h1 h2 => k (i + 1) q x h1 h2)
theorem WebAt.dp {K : PySem.W.Frag} {H : Hp} {a : Addr} {ps : List Addr} {w : List (List Nat)} (h : WebAt H a ps w) : Dp K H (.ref a) (webD w) := .lst h.seq (dpAll_rows ps w h.len h.row)
theorem canLayAll_of : ∀ ds : List PyData, (∀ d ∈ ds, d.canLay0 = true) → PyData.canLayAll0 ds = true
  | [], _ => by rw [PyData.canLayAll0]
  | d :: ds, h => by
    rw [PyData.canLayAll0, h d List.mem_cons_self, canLayAll_of ds fun x hx => h x (List.mem_cons_of_mem _ hx)]
    rfl
theorem depthAll_le : ∀ (n : Nat) (ds : List PyData), (∀ d ∈ ds, d.depth ≤ n) → PyData.depthAll ds ≤ n
  | n, [], _ => by rw [PyData.depthAll]; exact Nat.zero_le _
  | n, d :: ds, h => by
    rw [PyData.depthAll]
    exact Nat.max_le.mpr ⟨h d List.mem_cons_self, depthAll_le n ds fun x hx => h x (List.mem_cons_of_mem _ hx)⟩
theorem row_lay (r : List Nat) : (rowD r).canLay0 = true := by
  unfold rowD
  rw [PyData.canLay0]
  refine canLayAll_of _ fun d hd => ?_
  obtain ⟨n, _, rfl⟩ := List.mem_map.mp hd
  rw [PyData.canLay0]
theorem row_depth (r : List Nat) : (rowD r).depth ≤ 2 := by
  unfold rowD
  rw [PyData.depth]
  have : PyData.depthAll (r.map fun n : Nat => PyData.int (n : Int)) ≤ 1 := depthAll_le 1 _ fun d hd => by
    obtain ⟨n, _, rfl⟩ := List.mem_map.mp hd
    rw [PyData.depth]
    omega
  omega
theorem web_lay (w : List (List Nat)) : (webD w).canLay0 = true := by
  unfold webD
  rw [PyData.canLay0]
  refine canLayAll_of _ fun d hd => ?_
  obtain ⟨n, _, rfl⟩ := List.mem_map.mp hd
  exact row_lay n
theorem row_shaped (r : List Nat) : SeqAt.shaped (rowD r) = true := by
  unfold SeqAt.shaped
  rw [row_lay, decide_eq_true (by have := row_depth r; omega)]
  rfl
theorem web_shaped (w : List (List Nat)) : SeqAt.shaped (webD w) = true := by
  unfold SeqAt.shaped
  rw [web_lay]
  have : (webD w).depth ≤ 3 := by
    unfold webD
    rw [PyData.depth]
    have : PyData.depthAll (w.map rowD) ≤ 2 := depthAll_le 2 _ fun d hd => by
      obtain ⟨n, _, rfl⟩ := List.mem_map.mp hd
      exact row_depth n
    omega
  rw [decide_eq_true (by omega)]
  rfl
theorem rv_eqD {K : PySem.W.Frag} {H : Hp} {x y : V} {d e : PyData} (hx : ∀ H1, Ex H H1 → Dp K H1 x d) (hy : ∀ H1, Ex H H1 → Dp K H1 y e) (sd : SeqAt.shaped d = true) (se : SeqAt.shaped e = true) : RV (rEqD K) x y H (.bl (PyData.eqv d e)) :=
  fun H1 e1 _ q => ⟨d, e, hx H1 e1, hy H1 e1, sd, se, q H1 (Ex.refl H1)⟩
theorem rv_neD {K : PySem.W.Frag} {H : Hp} {x y : V} {d e : PyData} (hx : ∀ H1, Ex H H1 → Dp K H1 x d) (hy : ∀ H1, Ex H H1 → Dp K H1 y e) (sd : SeqAt.shaped d = true) (se : SeqAt.shaped e = true) : RV (rNeD K) x y H (.bl (!PyData.eqv d e)) :=
  fun H1 e1 _ q => ⟨d, e, hx H1 e1, hy H1 e1, sd, se, q H1 (Ex.refl H1)⟩
/-- == of the same data -/
theorem rv_neSame {K : PySem.W.Frag} {H : Hp} {x y : V} {d : PyData} (hx : ∀ H1, Ex H H1 → Dp K H1 x d) (hy : ∀ H1, Ex H H1 → Dp K H1 y d) (sd : SeqAt.shaped d = true) : RV (rNeD K) x y H (.bl false) := by
  have h := rv_neD hx hy sd sd
  rw [SeqAt.eqv_refl d (SeqAt.canLay_of_shaped sd)] at h
  exact h
theorem rv_eqSame {K : PySem.W.Frag} {H : Hp} {x y : V} {d : PyData} (hx : ∀ H1, Ex H H1 → Dp K H1 x d) (hy : ∀ H1, Ex H H1 → Dp K H1 y d) (sd : SeqAt.shaped d = true) : RV (rEqD K) x y H (.bl true) := by
  have h := rv_eqD hx hy sd sd
  rw [SeqAt.eqv_refl d (SeqAt.canLay_of_shaped sd)] at h
  exact h
/-! ### a comprehension whose items are new lists -/
def RRows (n : Nat) (f : Nat → List V) : V → Hp → Hp → Prop := fun v H0 H => ∃ D ps, v = .ref D ∧ NewAt H0 D ps ∧ ps.length = n ∧ H D = some (.lst (ps.map V.ref)) ∧ ∀ (i : Nat) p, ps[i]? = some p → H p = some (.lst (f i))
theorem RRows.web {n : Nat} {f : Nat → List Nat} {v : V} {H0 H : Hp} (h : RRows n (fun i => nl (f i)) v H0 H) : RW (fun w => w = (List.range n).map f) v H0 H := by
  obtain ⟨D, ps, rfl, hn, hl, ht, hr⟩ := h
  refine ⟨D, ps, _, rfl, ⟨ht, by rw [List.length_map, List.length_range]; exact hl, fun i p r h1 h2 => ?_⟩, hn, rfl⟩
  have hi : i < n := by rw [← hl]; exact (List.getElem?_eq_some_iff.mp h1).1
  rw [List.getElem?_map, List.getElem?_range hi] at h2
  cases h2
  exact hr i p h1
section
variable {K : PySem.W.Frag} {σ : L2.St} {H : Hp} {ta te tl : TE}
def Cv (H : Hp) (f : Nat → List V) (Dl : Addr) (i : Nat) (H' : Hp) : Prop := H Dl = none ∧ Ex H H' ∧ ∃ ps : List Addr, ps.length = i ∧ H' Dl = some (.lst (ps.map V.ref)) ∧ NewAt H Dl ps ∧ ∀ (k : Nat) p, ps[k]? = some p → H' p = some (.lst (f k))
theorem cv_start {H : Hp} {f : Nat → List V} {Dl : Addr} (h : H Dl = none) : Cv H f Dl 0 (upd H Dl (.lst [])) :=
  ⟨h, Ex.new h, [], rfl, upd_same, ⟨h, fun p hp => absurd hp (by simp), List.nodup_nil, by simp⟩, fun k p hp => by simp at hp⟩
theorem cv_turn {H H' : Hp} {f : Nat → List V} {Dl : Addr} {i : Nat} {σ2 : L2.St} (p : Cv H f Dl i H') (hi : i < 50000) (he : EvL te σ2 H (f i)) :
    tYes σ2 H' fun b H3 => if b = true then te σ2 H3 fun y H4 => ∃ acc, H4 Dl = some (.lst acc) ∧ acc.length < sizeLine ∧ Cv H f Dl (i + 1) (upd H4 Dl (.lst (acc ++ [y]))) else Cv H f Dl (i + 1) H3 := by
  obtain ⟨p1, p2, ps, hl, ht, hn, hr⟩ := p
  show te σ2 H' fun y H4 => ∃ acc, H4 Dl = some (.lst acc) ∧ acc.length < sizeLine ∧ Cv H f Dl (i + 1) (upd H4 Dl (.lst (acc ++ [y])))
  refine he H' p2 _ fun q H4 hq e4 h4 => ?_
  have qD : q ≠ Dl := (ne_of_none ht hq).symm
  have qps : q ∉ ps := fun hm => by
    obtain ⟨k, hk, e⟩ := List.getElem_of_mem hm
    have := hr k q (by rw [List.getElem?_eq_getElem hk, e])
    rw [hq] at this; cases this
  refine ⟨ps.map V.ref, e4 _ _ ht, sz_lt (by rw [List.length_map]; omega), p1, Ex.mut (p2.trans e4) p1, ps ++ [q], by rw [List.length_append, hl]; rfl, ?_, ⟨p1, ?_, ?_, ?_⟩, ?_⟩
  · rw [upd_same, List.map_append]; rfl
  · intro z hz
    rcases List.mem_append.mp hz with hz | hz
    · exact hn.row z hz
    · rw [List.mem_singleton.mp hz]; exact fresh_back p2 hq
  · exact List.nodup_append.mpr ⟨hn.nd, by simp, fun a ha b hb e => qps (by rw [List.mem_singleton.mp hb] at e; rw [← e]; exact ha)⟩
  · intro hm
    rcases List.mem_append.mp hm with hm | hm
    · exact hn.na hm
    · exact qD (List.mem_singleton.mp hm).symm
  · intro k z hz
    by_cases hk : k < ps.length
    · rw [List.getElem?_append_left hk] at hz
      have zD : z ≠ Dl := fun e => hn.na (by rw [← e]; exact List.mem_of_getElem? hz)
      rw [upd_ne zD]
      exact e4 _ _ (hr k z hz)
    · rw [List.getElem?_append_right (by omega)] at hz
      have e0 : k - ps.length = 0 := by
        have := (List.getElem?_eq_some_iff.mp hz).1
        simp at this; omega
      rw [e0] at hz
      cases hz
      have : k = i := by omega
      subst this
      rw [upd_ne qD]
      exact h4
theorem er_lcWL {a : Addr} {xs : List V} {j : Nat} {vs : List Nat} (f : Nat → List V) (h : Ev tl σ H (.ref a)) (hx : SqL K H a xs) (hz : xs.length ≤ 40000) (hw : ∀ x, wipe ((wipe σ vs).set j (some x)) vs = wipe σ vs)
    (he : ∀ (i : Nat) (x : V) H1, Ex H H1 → xs[i]? = some x → EvL te ((wipe σ vs).set j (some x)) H1 (f i)) : EvR (tLc (iList K tl) (gName j) tYes te vs) σ H (RRows xs.length f) := fun H0 e Q q => h H0 e _ fun H1 e1 => ⟨a, rfl, ⟨xs, ex_l (e.trans e1) hx⟩, fun Dl hD =>
  lc_list (xs := xs) (Cv H1 f Dl) (cv_start hD) (fun i H' _ p => ex_l ((e.trans e1).trans p.2.1) hx) (fun i x H' hi p => ⟨hw x, cv_turn p (by have := (List.getElem?_eq_some_iff.mp hi).1; omega) (he i x H1 (e.trans e1) hi)⟩)
    (fun H' p => by
      obtain ⟨p1, p2, ps, hl, ht, hn, hr⟩ := p
      exact q _ H' (e1.trans p2) ⟨Dl, ps, rfl, hn.back e1, hl, ht, hr⟩)⟩
theorem er_lcWR {ta : TA} {j : Nat} {vs : List Nat} {n : Int} (f : Nat → List V) (h : EvA ta σ H [.int n]) (hn : 0 ≤ n ∧ n ≤ 40000) (hw : ∀ x, wipe ((wipe σ vs).set j (some x)) vs = wipe σ vs)
    (he : ∀ (i : Nat) H1, Ex H H1 → (i : Int) < n → EvL te ((wipe σ vs).set j (some (.int (i : Int)))) H1 (f i)) : EvR (tLc (iRng1 ta) (gName j) tYes te vs) σ H (RRows n.toNat f) := fun H0 e Q q => h H0 e _ fun H1 e1 => ⟨n, rfl, by omega, by omega, fun Dl hD =>
  lc_range (lo := 0) (n := n.toNat) (Cv H1 f Dl) (cv_start hD) (fun i H' hi p => by
    have e0 : (0 : Int) + (i : Int) = (i : Int) := Int.zero_add _
    show wipe ((wipe σ vs).set j (some (.int ((0 : Int) + (i : Int))))) vs = wipe σ vs ∧ tYes ((wipe σ vs).set j (some (.int ((0 : Int) + (i : Int))))) H' fun b H3 => if b = true then te ((wipe σ vs).set j (some (.int ((0 : Int) + (i : Int))))) H3 fun y H4 => ∃ acc, H4 Dl = some (.lst acc) ∧ acc.length < sizeLine ∧ Cv H1 f Dl (i + 1) (upd H4 Dl (.lst (acc ++ [y]))) else Cv H1 f Dl (i + 1) H3
    rw [e0]
    exact ⟨hw _, cv_turn p (by omega) (he i H1 (e.trans e1) (by omega))⟩) (fun H' p => by
      obtain ⟨p1, p2, ps, hl, ht, hn, hr⟩ := p
      exact q _ H' (e1.trans p2) ⟨Dl, ps, rfl, hn.back e1, hl, ht, hr⟩)⟩
end
theorem given_all (n : Nat) (v : Nat → V) : given n (fun _ => true) v = (List.range n).map v := by
  unfold given
  rw [List.filter_eq_self.mpr (fun _ _ => rfl)]
end Sg
set_option Elab.async false
set_option linter.all false
set_option maxRecDepth 100000
set_option maxHeartbeats 4000000
namespace Sg
open PySem PySem.Spec PyProof.Rows L2 Evl RZ
section
variable {K : PySem.W.Frag} {σ : L2.St} {H : Hp} {ta tb te : TE} {D : Ends} {tz : TS}
/-- xs.append(ys.pop(i)) -/
theorem s_appPop {l p : Addr} {xs ys : List V} {y : V} {j : Nat} (hl : H l = some (.lst xs)) (ho : Ev ta σ H (.ref l)) (hp : H p = some (.lst ys)) (ho2 : Ev tb σ H (.ref p)) (hi : Ev te σ H (.int (j : Int))) (hj : ys[j]? = some y) (hz : xs.length < 100000) (hy : ys.length ≤ 100000) (hne : l ≠ p)
    (k : ∀ H1, Ex H H1 → D.nx σ (upd (upd H1 p (.lst (ys.eraseIdx j))) l (.lst (xs ++ [y])))) :
    tDrop (tBM K "list" rAppend ta (tCons (tBM K "list" rPopAt tb (tCons te tNil)) tNil)) D σ H :=
  ho H (Ex.refl H) _ fun H1 e1 => ⟨Or.inl ⟨rfl, xs, sq_of (e1 _ _ hl)⟩, ho2 H1 e1 _ fun H2 e2 => ⟨Or.inl ⟨rfl, ys, sq_of (e2 _ _ (e1 _ _ hp))⟩, hi H2 (e1.trans e2) _ fun H3 e3 => by
    have jl : j < ys.length := (List.getElem?_eq_some_iff.mp hj).1
    refine ⟨p, ys, (j : Int), j, y, rfl, rfl, e3 _ _ (e2 _ _ (e1 _ _ hp)), by omega, by omega, ?_, hj, ?_⟩
    · rw [seqIndex_of (by omega) (by omega)]
      rfl
    · exact ⟨l, xs, y, rfl, rfl, by rw [upd_ne hne]; exact e3 _ _ (e2 _ _ (e1 _ _ hl)), sz_lt hz, k H3 ((e1.trans e2).trans e3)⟩⟩⟩
end
theorem nl_erase : ∀ (ns : List Nat) (j : Nat), (nl ns).eraseIdx j = nl (ns.eraseIdx j)
  | [], _ => rfl
  | _ :: _, 0 => rfl
  | n :: r, j + 1 => congrArg (ni n :: ·) (nl_erase r j)
theorem erase_perm : ∀ {l : List Nat} {j : Nat} {x : Nat}, l[j]? = some x → (x :: l.eraseIdx j).Perm l
  | [], j, x, h => by simp at h
  | a :: r, 0, x, h => by
    have e : a = x := Option.some.inj h
    subst e
    exact List.Perm.refl _
  | a :: r, j + 1, x, h => (List.Perm.swap a x (r.eraseIdx j)).trans (List.Perm.cons a (erase_perm (l := r) (j := j) h))
theorem nd_len : ∀ {l l' : List Nat}, l.Nodup → (∀ x ∈ l, x ∈ l') → l.length ≤ l'.length
  | [], _, _, _ => Nat.zero_le _
  | a :: l, l', nd, sub => by
    have ha : a ∈ l' := sub a List.mem_cons_self
    have ih := nd_len (l := l) (l' := l'.erase a) (List.nodup_cons.mp nd).2 fun x hx => by
      have hne : x ≠ a := fun e => (List.nodup_cons.mp nd).1 (by rw [← e]; exact hx)
      exact (List.mem_erase_of_ne hne).mpr (sub x (List.mem_cons_of_mem _ hx))
    rw [List.length_erase_of_mem ha] at ih
    have : 0 < l'.length := List.length_pos_of_mem ha
    rw [List.length_cons]
    omega
theorem nd_rev {l : List Nat} (h : l.Nodup) : l.reverse.Nodup := (List.Perm.nodup_iff (List.reverse_perm l)).mpr h
theorem nl_rev (ns : List Nat) : (nl ns).reverse = nl ns.reverse := List.map_reverse.symm
/-! ### webs, as mathematics -/
structure GoodWeb (w : List (List Nat)) : Prop where
  pos : 1 ≤ w.length
  nd : ∀ (i : Nat) (r : List Nat), w[i]? = some r → r.Nodup
  lt : ∀ (i : Nat) (r : List Nat), w[i]? = some r → ∀ x ∈ r, x < w.length
def Acyc (w : List (List Nat)) : Prop := ∃ rank : Nat → Nat, (∀ i, i < w.length → rank i < w.length) ∧ ∀ (i : Nat) (r : List Nat) (x : Nat), w[i]? = some r → x ∈ r → rank x < rank i
def Order (m : Nat) (o : List Nat) : Prop := o.Nodup ∧ o.length = m ∧ ∀ x ∈ o, x < m
theorem order_step {m j x : Nat} {O L : List Nat} (nd : (O ++ L).Nodup) (hb : ∀ x ∈ O ++ L, x < m) (hj : L[j]? = some x) : ((O ++ [x]) ++ L.eraseIdx j).Nodup ∧ ∀ y ∈ (O ++ [x]) ++ L.eraseIdx j, y < m := by
  have jl := (List.getElem?_eq_some_iff.mp hj).1
  have pm : (x :: L.eraseIdx j).Perm L := erase_perm hj
  have p2 : ((O ++ [x]) ++ L.eraseIdx j).Perm (O ++ L) := by
    rw [List.append_assoc]
    exact List.Perm.append_left O pm
  exact ⟨p2.nodup_iff.mpr nd, fun y hy => hb y (p2.mem_iff.mp hy)⟩
/-- every number below m stands in the order -/
theorem Order.mem {m : Nat} {o : List Nat} (h : Order m o) {x : Nat} (hx : x < m) : x ∈ o := by
  refine Decidable.byContradiction fun hn => ?_
  have := nd_len (l := x :: o) (l' := List.range m) (List.nodup_cons.mpr ⟨hn, h.1⟩) fun y hy => by
    rcases List.mem_cons.mp hy with e | e
    · rw [e]; exact List.mem_range.mpr hx
    · exact List.mem_range.mpr (h.2.2 y e)
  rw [List.length_cons, List.length_range, h.2.1] at this
  omega
theorem Order.at {m : Nat} {o : List Nat} (h : Order m o) {t : Nat} (ht : t < m) : ∃ x, o[t]? = some x ∧ x < m ∧ o.idxOf x = t := by
  have hl : t < o.length := by rw [h.2.1]; exact ht
  refine ⟨o[t], List.getElem?_eq_getElem hl, h.2.2 _ (List.getElem_mem hl), ?_⟩
  exact h.1.idxOf_getElem t hl
theorem Order.pos {m : Nat} {o : List Nat} (h : Order m o) {x : Nat} (hx : x < m) : o.idxOf x < m := by
  rw [← h.2.1]; exact List.idxOf_lt_length_iff.mpr (h.mem hx)
theorem Order.inj {m : Nat} {o : List Nat} (h : Order m o) {x y : Nat} (hx : x < m) (hy : y < m) (e : o.idxOf x = o.idxOf y) : x = y := by
  have h1 := List.getElem_idxOf (List.idxOf_lt_length_iff.mpr (h.mem hx))
  have h2 := List.getElem_idxOf (List.idxOf_lt_length_iff.mpr (h.mem hy))
  rw [← h1, ← h2]
  congr 1
/-- the web while it is filled: rows up to place k, the k-th row up to place j -/
structure Filling (o : List Nat) (m k j : Nat) (w : List (List Nat)) : Prop where
  len : w.length = m
  nd : ∀ (i : Nat) (r : List Nat), w[i]? = some r → r.Nodup
  lt : ∀ (i : Nat) (r : List Nat), w[i]? = some r → ∀ x ∈ r, x < m ∧ o.idxOf x < o.idxOf i ∧ (o.idxOf i = k → o.idxOf x < j)
  no : ∀ (i : Nat) (r : List Nat), w[i]? = some r → k < o.idxOf i → r = []
theorem Filling.start {o : List Nat} {m : Nat} : Filling o m 0 0 ((List.range m).map fun _ => []) := by
  refine ⟨by simp, fun i r h => ?_, fun i r h x hx => ?_, fun i r h _ => ?_⟩
  all_goals (
    rw [List.getElem?_map] at h
    cases e : (List.range m)[i]? with
    | none => rw [e] at h; cases h
    | some y => rw [e] at h; cases h; first | exact List.nodup_nil | rfl | exact absurd hx (by simp))
theorem Filling.app {o : List Nat} {m k j : Nat} {w : List (List Nat)} (h : Filling o m k j w) (ho : Order m o) (hk : k < m) (hj : j < k) {x y : Nat} (hx : o[k]? = some x) (hy : o[j]? = some y) {r : List Nat} (hr : w[x]? = some r) : Filling o m k (j + 1) (w.set x (r ++ [y])) := by
  obtain ⟨x', e1, _, ix⟩ := ho.at hk
  rw [hx] at e1; cases e1
  obtain ⟨y', e1, ym, iy⟩ := ho.at (Nat.lt_trans hj hk)
  rw [hy] at e1; cases e1
  refine ⟨by rw [List.length_set]; exact h.len, fun i s hs => ?_, fun i s hs z hz => ?_, fun i s hs hi => ?_⟩
  · by_cases e : x = i
    · subst e
      rw [List.getElem?_set_self (List.getElem?_eq_some_iff.mp hr).1] at hs
      cases hs
      refine List.nodup_append.mpr ⟨h.nd _ _ hr, by simp, fun a ha b hb e => ?_⟩
      rw [List.mem_singleton.mp hb] at e
      subst e
      have := (h.lt _ _ hr _ ha).2.2 ix
      omega
    · rw [List.getElem?_set_ne e] at hs
      exact h.nd _ _ hs
  · by_cases e : x = i
    · subst e
      rw [List.getElem?_set_self (List.getElem?_eq_some_iff.mp hr).1] at hs
      cases hs
      rcases List.mem_append.mp hz with hz | hz
      · have := h.lt _ _ hr _ hz
        exact ⟨this.1, this.2.1, fun e => Nat.lt_succ_of_lt (this.2.2 e)⟩
      · rw [List.mem_singleton.mp hz]
        exact ⟨ym, by rw [ix, iy]; exact hj, fun _ => by rw [iy]; exact Nat.lt_succ_self _⟩
    · rw [List.getElem?_set_ne e] at hs
      have := h.lt _ _ hs _ hz
      exact ⟨this.1, this.2.1, fun e => Nat.lt_succ_of_lt (this.2.2 e)⟩
  · by_cases e : x = i
    · subst e; omega
    · rw [List.getElem?_set_ne e] at hs
      exact h.no _ _ hs hi
theorem Filling.skip {o : List Nat} {m k j : Nat} {w : List (List Nat)} (h : Filling o m k j w) : Filling o m k (j + 1) w :=
  ⟨h.len, h.nd, fun i r hr x hx => ⟨(h.lt i r hr x hx).1, (h.lt i r hr x hx).2.1, fun e => Nat.lt_succ_of_lt ((h.lt i r hr x hx).2.2 e)⟩, h.no⟩
theorem Filling.rev {o : List Nat} {m k j : Nat} {w : List (List Nat)} (h : Filling o m k j w) {x : Nat} {r : List Nat} (hr : w[x]? = some r) : Filling o m k j (w.set x r.reverse) := by
  refine ⟨by rw [List.length_set]; exact h.len, fun i s hs => ?_, fun i s hs z hz => ?_, fun i s hs hi => ?_⟩
  all_goals by_cases e : x = i
  · subst e
    rw [List.getElem?_set_self (List.getElem?_eq_some_iff.mp hr).1] at hs
    cases hs
    exact nd_rev (h.nd _ _ hr)
  · rw [List.getElem?_set_ne e] at hs
    exact h.nd _ _ hs
  · subst e
    rw [List.getElem?_set_self (List.getElem?_eq_some_iff.mp hr).1] at hs
    cases hs
    exact h.lt _ _ hr z (List.mem_reverse.mp hz)
  · rw [List.getElem?_set_ne e] at hs
    exact h.lt _ _ hs z hz
  · subst e
    rw [List.getElem?_set_self (List.getElem?_eq_some_iff.mp hr).1] at hs
    cases hs
    rw [h.no _ _ hr hi]; rfl
  · rw [List.getElem?_set_ne e] at hs
    exact h.no _ _ hs hi
theorem Filling.next {o : List Nat} {m k j : Nat} {w : List (List Nat)} (h : Filling o m k j w) : Filling o m (k + 1) 0 w :=
  ⟨h.len, h.nd, fun i r hr x hx => ⟨(h.lt i r hr x hx).1, (h.lt i r hr x hx).2.1, fun e => by
    rw [h.no i r hr (by omega)] at hx
    exact absurd hx (by simp)⟩, fun i r hr hi => h.no i r hr (by omega)⟩
theorem Filling.good {o : List Nat} {m k j : Nat} {w : List (List Nat)} (h : Filling o m k j w) (ho : Order m o) (hm : 1 ≤ m) : GoodWeb w ∧ Acyc w ∧ w.length = m :=
  ⟨⟨by rw [h.len]; exact hm, h.nd, fun i r hr x hx => by rw [h.len]; exact (h.lt i r hr x hx).1⟩, ⟨o.idxOf, fun i hi => by rw [h.len] at hi ⊢; exact ho.pos hi, fun i r x hr hx => (h.lt i r hr x hx).2.1⟩, h.len⟩
end Sg
set_option Elab.async false
set_option linter.all false
set_option maxRecDepth 100000
set_option maxHeartbeats 4000000
/-! own lemmas, part D: mathematics of rings -/
namespace Sg
open PySem PySem.Spec PyProof.Rows L2 Evl RZ
def row (w : List (List Nat)) (x : Nat) : List Nat := w.getD x []
theorem row_get {w : List (List Nat)} {x : Nat} {r : List Nat} (h : w[x]? = some r) : row w x = r := by
  unfold row; rw [List.getD_eq_getElem?_getD, h]; rfl
theorem row_at {w : List (List Nat)} {x : Nat} (h : x < w.length) : w[x]? = some (row w x) := by
  unfold row; rw [List.getD_eq_getElem?_getD, List.getElem?_eq_getElem h]; rfl
theorem row_out {w : List (List Nat)} {x : Nat} (h : ¬ x < w.length) : row w x = [] := by
  unfold row; rw [List.getD_eq_getElem?_getD, List.getElem?_eq_none (by omega)]; rfl
theorem GoodWeb.rnd {w : List (List Nat)} (g : GoodWeb w) (x : Nat) : (row w x).Nodup := by
  by_cases h : x < w.length
  · exact g.nd x _ (row_at h)
  · rw [row_out h]; exact List.nodup_nil
theorem GoodWeb.rlt {w : List (List Nat)} (g : GoodWeb w) {x y : Nat} (hy : y ∈ row w x) : y < w.length := by
  by_cases h : x < w.length
  · exact g.lt x _ (row_at h) y hy
  · rw [row_out h] at hy; exact absurd hy (by simp)
/-! ### sources -/
structure Src (w : List (List Nat)) (i t : Nat) (s : List (List Nat)) : Prop where
  len : s.length = w.length
  nd : ∀ (j : Nat) (r : List Nat), s[j]? = some r → r.Nodup
  mem : ∀ (j : Nat) (r : List Nat), s[j]? = some r → ∀ x, x ∈ r ↔ (x < i ∧ j ∈ row w x) ∨ (x = i ∧ j ∈ (row w i).take t)
theorem Src.start (w : List (List Nat)) : Src w 0 0 ((List.range w.length).map fun _ => []) := by
  refine ⟨by simp, fun j r h => ?_, fun j r h x => ?_⟩
  all_goals (
    rw [List.getElem?_map] at h
    cases e : (List.range w.length)[j]? with
    | none => rw [e] at h; cases h
    | some y => rw [e] at h; cases h; first | exact List.nodup_nil | simp)
theorem Src.step {w : List (List Nat)} {i t j : Nat} {s : List (List Nat)} (h : Src w i t s) (g : GoodWeb w) (hj : (row w i)[t]? = some j) {r : List Nat} (hr : s[j]? = some r) : Src w i (t + 1) (s.set j (r ++ [i])) := by
  have tk : (row w i).take (t + 1) = (row w i).take t ++ [j] := by
    rw [List.take_add_one, hj]; rfl
  have nin : j ∉ (row w i).take t := fun hm => by
    have nd := g.rnd i
    obtain ⟨k, hk, e⟩ := List.getElem_of_mem hm
    have kt : k < t := by rw [List.length_take] at hk; omega
    have : (row w i)[k]? = some j := by
      rw [← List.getElem?_take_of_lt kt, List.getElem?_eq_getElem hk, e]
    have := nd_ix nd this hj
    omega
  refine ⟨by rw [List.length_set]; exact h.len, fun k q hq => ?_, fun k q hq x => ?_⟩
  · by_cases e : j = k
    · subst e
      rw [List.getElem?_set_self (List.getElem?_eq_some_iff.mp hr).1] at hq
      cases hq
      refine List.nodup_append.mpr ⟨h.nd _ _ hr, by simp, fun a ha b hb e => ?_⟩
      rw [List.mem_singleton.mp hb] at e
      subst e
      rcases (h.mem _ _ hr a).mp ha with z | z
      · omega
      · exact nin z.2
    · rw [List.getElem?_set_ne e] at hq
      exact h.nd _ _ hq
  · rw [tk]
    by_cases e : j = k
    · subst e
      rw [List.getElem?_set_self (List.getElem?_eq_some_iff.mp hr).1] at hq
      cases hq
      rw [List.mem_append, h.mem _ _ hr x, List.mem_append, List.mem_singleton]
      constructor
      · rintro ((z | z) | z)
        · exact .inl z
        · exact .inr ⟨z.1, .inl z.2⟩
        · exact .inr ⟨z, .inr (by simp)⟩
      · rintro (z | ⟨z1, z2 | z2⟩)
        · exact .inl (.inl z)
        · exact .inl (.inr ⟨z1, z2⟩)
        · exact .inr z1
    · rw [List.getElem?_set_ne e] at hq
      rw [h.mem _ _ hq x, List.mem_append, List.mem_singleton]
      have : ¬ k = j := fun z => e z.symm
      simp [this]
theorem Src.next {w : List (List Nat)} {i : Nat} {s : List (List Nat)} (h : Src w i (row w i).length s) : Src w (i + 1) 0 s := by
  refine ⟨h.len, h.nd, fun j r hr x => ?_⟩
  rw [h.mem j r hr x, List.take_length, List.take_zero]
  constructor
  · rintro (z | ⟨z1, z2⟩)
    · exact .inl ⟨by omega, z.2⟩
    · subst z1; exact .inl ⟨by omega, z2⟩
  · rintro (z | z)
    · by_cases e : x = i
      · subst e; exact .inr ⟨rfl, z.2⟩
      · exact .inl ⟨by omega, z.2⟩
    · exact absurd z.2 (by simp)
def SrcOf (w s : List (List Nat)) : Prop := s.length = w.length ∧ (∀ (j : Nat) (r : List Nat), s[j]? = some r → r.Nodup ∧ ∀ x, x ∈ r ↔ (x < w.length ∧ j ∈ row w x))
theorem Src.done {w s : List (List Nat)} (h : Src w w.length 0 s) : SrcOf w s := by
  refine ⟨h.len, fun j r hr => ⟨h.nd j r hr, fun x => ?_⟩⟩
  rw [h.mem j r hr x, List.take_zero]
  simp
/-! ### what has ended -/
def cnt (r d : List Nat) : Nat := (r.filter fun m => !decide (m ∈ d)).length
theorem cnt_zero {r d : List Nat} : cnt r d = 0 ↔ ∀ m ∈ r, m ∈ d := by
  unfold cnt
  rw [List.length_eq_zero_iff, List.filter_eq_nil_iff]
  simp
theorem cnt_nil (r : List Nat) : cnt r [] = r.length := by
  unfold cnt
  rw [List.filter_eq_self.mpr (by simp)]
theorem cnt_out : ∀ {r d : List Nat} {s : Nat}, s ∉ r → cnt r (d ++ [s]) = cnt r d
  | [], _, _, _ => rfl
  | a :: r, d, s, h => by
    have h1 : a ≠ s := fun e => h (by rw [e]; exact List.mem_cons_self)
    have ih := cnt_out (r := r) (d := d) (s := s) fun z => h (List.mem_cons_of_mem _ z)
    unfold cnt at ih ⊢
    have e : decide (a ∈ d ++ [s]) = decide (a ∈ d) := by simp [h1]
    rw [List.filter_cons, List.filter_cons, e]
    split
    · rw [List.length_cons, List.length_cons, ih]
    · exact ih
theorem cnt_in : ∀ {r d : List Nat} {s : Nat}, r.Nodup → s ∈ r → s ∉ d → cnt r (d ++ [s]) + 1 = cnt r d
  | [], _, _, _, h, _ => absurd h (by simp)
  | a :: r, d, s, nd, h, hd => by
    by_cases e : a = s
    · subst e
      have o := cnt_out (d := d) (List.nodup_cons.mp nd).1
      unfold cnt at o ⊢
      have e1 : decide (a ∈ d ++ [a]) = true := by simp
      have e2 : decide (a ∈ d) = false := by simp [hd]
      rw [List.filter_cons, List.filter_cons, e1, e2]
      simp only [Bool.not_true, Bool.not_false, if_true, Bool.false_eq_true, if_false, List.length_cons]
      rw [o]
    · have ih := cnt_in (d := d) (List.nodup_cons.mp nd).2 (by rcases List.mem_cons.mp h with z | z; exact absurd z.symm e; exact z) hd
      unfold cnt at ih ⊢
      have e1 : decide (a ∈ d ++ [s]) = decide (a ∈ d) := by simp [e]
      rw [List.filter_cons, List.filter_cons, e1]
      split
      · rw [List.length_cons, List.length_cons]; omega
      · exact ih
structure Ended (w : List (List Nat)) (e : List Nat) : Prop where
  nd : e.Nodup
  lt : ∀ x ∈ e, x < w.length
  ord : ∀ (i x : Nat), e[i]? = some x → ∀ m ∈ row w x, ∃ j, j < i ∧ e[j]? = some m
  out : ∀ x, x < w.length → x ∉ e → ∃ m ∈ row w x, m ∉ e
/-- the outer loop: k spots are looked at -/
structure Kn (w : List (List Nat)) (k : Nat) (e wt : List Nat) : Prop where
  len : wt.length = w.length
  kle : k ≤ e.length
  nd : e.Nodup
  lt : ∀ x ∈ e, x < w.length
  ord : ∀ (i x : Nat), e[i]? = some x → ∀ m ∈ row w x, ∃ j, j < i ∧ e[j]? = some m
  wt : ∀ x, x < w.length → wt[x]? = some (cnt (row w x) (e.take k))
  iff : ∀ x, x < w.length → (x ∈ e ↔ cnt (row w x) (e.take k) = 0)
/-- the inner loop: of the sources of s, the first t are looked at; d: the spots looked at before s -/
structure Inn (w : List (List Nat)) (d : List Nat) (s : Nat) (pre : List Nat) (e wt : List Nat) : Prop where
  len : wt.length = w.length
  pfx : ∃ r, e = d ++ s :: r
  nd : e.Nodup
  lt : ∀ x ∈ e, x < w.length
  ord : ∀ (i x : Nat), e[i]? = some x → ∀ m ∈ row w x, ∃ j, j < i ∧ e[j]? = some m
  wt : ∀ x, x < w.length → wt[x]? = some (if x ∈ pre then cnt (row w x) (d ++ [s]) else cnt (row w x) d)
  iff : ∀ x, x < w.length → (x ∈ e ↔ (if x ∈ pre then cnt (row w x) (d ++ [s]) else cnt (row w x) d) = 0)
theorem Kn.inn {w : List (List Nat)} {k : Nat} {e wt : List Nat} (h : Kn w k e wt) {s : Nat} (hs : e[k]? = some s) : Inn w (e.take k) s [] e wt := by
  refine ⟨h.len, ⟨e.drop (k + 1), ?_⟩, h.nd, h.lt, h.ord, fun x hx => ?_, fun x hx => ?_⟩
  · have := (List.getElem?_eq_some_iff.mp hs)
    obtain ⟨hk, ek⟩ := this
    have : e.drop k = s :: e.drop (k + 1) := by rw [List.drop_eq_getElem_cons hk, ek]
    rw [← this, List.take_append_drop]
  · simpa using h.wt x hx
  · simpa using h.iff x hx
theorem Inn.kn {w : List (List Nat)} {d : List Nat} {s : Nat} {pre e wt : List Nat} (h : Inn w d s pre e wt) (hp : ∀ x, x < w.length → (x ∈ pre ↔ s ∈ row w x)) : Kn w (d.length + 1) e wt := by
  obtain ⟨r, er⟩ := h.pfx
  have tk : e.take (d.length + 1) = d ++ [s] := by
    rw [show e = (d ++ [s]) ++ r by rw [er]; simp]
    exact List.take_left' (by simp)
  have val : ∀ x, x < w.length → (if x ∈ pre then cnt (row w x) (d ++ [s]) else cnt (row w x) d) = cnt (row w x) (e.take (d.length + 1)) := fun x hx => by
    rw [tk]
    by_cases z : x ∈ pre
    · rw [if_pos z]
    · rw [if_neg z]
      exact (cnt_out fun m => z ((hp x hx).mpr m)).symm
  refine ⟨h.len, by rw [er]; simp, h.nd, h.lt, h.ord, fun x hx => ?_, fun x hx => ?_⟩
  · rw [h.wt x hx, val x hx]
  · rw [h.iff x hx, val x hx]
/-- one source -/
theorem Inn.step {w : List (List Nat)} {d : List Nat} {s : Nat} {pre e wt : List Nat} (h : Inn w d s pre e wt) (g : GoodWeb w) {x : Nat} (hx : x < w.length) (hs : s ∈ row w x) (hn : x ∉ pre) :
    ∃ c, wt[x]? = some (c + 1) ∧ cnt (row w x) (d ++ [s]) = c ∧ (c = 0 → Inn w d s (pre ++ [x]) (e ++ [x]) (wt.set x c)) ∧ (c ≠ 0 → Inn w d s (pre ++ [x]) e (wt.set x c)) := by
  obtain ⟨r, er⟩ := h.pfx
  have sd : s ∉ d := fun hm => by
    have := h.nd
    rw [er] at this
    exact (List.nodup_append.mp this).2.2 s hm s List.mem_cons_self rfl
  have hc := cnt_in (g.rnd x) hs sd
  have w1 := h.wt x hx
  rw [if_neg hn] at w1
  have i1 := h.iff x hx
  rw [if_neg hn] at i1
  have xe : x ∉ e := fun z => by have := i1.mp z; omega
  have xl : x < wt.length := by rw [h.len]; exact hx
  have val : ∀ y, y < w.length → (wt.set x (cnt (row w x) (d ++ [s])))[y]? = some (if y ∈ pre ++ [x] then cnt (row w y) (d ++ [s]) else cnt (row w y) d) := fun y hy => by
    by_cases e1 : x = y
    · subst e1
      rw [List.getElem?_set_self xl, if_pos (by simp)]
    · rw [List.getElem?_set_ne e1, h.wt y hy]
      have : (y ∈ pre ++ [x]) ↔ y ∈ pre := by
        rw [List.mem_append, List.mem_singleton]
        exact ⟨fun z => z.elim id fun q => absurd q.symm e1, .inl⟩
      by_cases z : y ∈ pre
      · rw [if_pos z, if_pos (this.mpr z)]
      · rw [if_neg z, if_neg (fun q => z (this.mp q))]
  have ifx : ∀ y, y ≠ x → ((if y ∈ pre ++ [x] then cnt (row w y) (d ++ [s]) else cnt (row w y) d) = (if y ∈ pre then cnt (row w y) (d ++ [s]) else cnt (row w y) d)) := fun y hy => by
    have : (y ∈ pre ++ [x]) ↔ y ∈ pre := by
      rw [List.mem_append, List.mem_singleton]
      exact ⟨fun z => z.elim id fun q => absurd q hy, .inl⟩
    by_cases z : y ∈ pre
    · rw [if_pos z, if_pos (this.mpr z)]
    · rw [if_neg z, if_neg (fun q => z (this.mp q))]
  refine ⟨cnt (row w x) (d ++ [s]), by rw [w1, ← hc], rfl, fun c0 => ?_, fun c0 => ?_⟩
  · refine ⟨by rw [List.length_set]; exact h.len, ⟨r ++ [x], by rw [er]; simp⟩, ?_, fun y hy => ?_, fun i y hy m hm => ?_, val, fun y hy => ?_⟩
    · refine List.nodup_append.mpr ⟨h.nd, by simp, fun a ha b hb z => ?_⟩
      rw [List.mem_singleton.mp hb] at z
      exact xe (by rw [← z]; exact ha)
    · rcases List.mem_append.mp hy with z | z
      · exact h.lt y z
      · rw [List.mem_singleton.mp z]; exact hx
    · by_cases il : i < e.length
      · rw [List.getElem?_append_left il] at hy
        obtain ⟨j, jl, hj⟩ := h.ord i y hy m hm
        exact ⟨j, jl, by rw [List.getElem?_append_left (by omega)]; exact hj⟩
      · rw [List.getElem?_append_right (by omega)] at hy
        have i0 : i - e.length = 0 := by
          have := (List.getElem?_eq_some_iff.mp hy).1
          simp at this; omega
        rw [i0] at hy
        cases hy
        have md := cnt_zero.mp c0 m hm
        have me : m ∈ e := by
          rw [er]
          rcases List.mem_append.mp md with z | z
          · exact List.mem_append_left _ z
          · rw [List.mem_singleton.mp z]; exact List.mem_append_right _ List.mem_cons_self
        obtain ⟨j, hj, ej⟩ := List.getElem_of_mem me
        exact ⟨j, by omega, by rw [List.getElem?_append_left hj, List.getElem?_eq_getElem hj, ej]⟩
    · by_cases e1 : y = x
      · subst e1
        rw [if_pos (by simp)]
        exact ⟨fun _ => c0, fun _ => by simp⟩
      · rw [ifx y e1, ← h.iff y hy, List.mem_append, List.mem_singleton]
        exact ⟨fun z => z.elim id fun q => absurd q e1, .inl⟩
  · refine ⟨by rw [List.length_set]; exact h.len, ⟨r, er⟩, h.nd, h.lt, h.ord, val, fun y hy => ?_⟩
    by_cases e1 : y = x
    · subst e1
      rw [if_pos (by simp)]
      exact ⟨fun z => absurd z xe, fun z => absurd z c0⟩
    · rw [ifx y e1]
      exact h.iff y hy
theorem Kn.start {w : List (List Nat)} (g : GoodWeb w) : Kn w 0 ((List.range w.length).filter fun x => decide ((row w x).length = 0)) ((List.range w.length).map fun x => (row w x).length) := by
  refine ⟨by simp, Nat.zero_le _, (List.filter_sublist).nodup List.nodup_range, fun x hx => ?_, fun i x hi m hm => ?_, fun x hx => ?_, fun x hx => ?_⟩
  · exact List.mem_range.mp (List.mem_filter.mp hx).1
  · have := (List.mem_filter.mp (List.mem_of_getElem? hi)).2
    have := List.eq_nil_of_length_eq_zero (of_decide_eq_true this)
    rw [this] at hm
    exact absurd hm (by simp)
  · rw [List.take_zero, cnt_nil, List.getElem?_map, List.getElem?_range hx]; rfl
  · rw [List.take_zero, cnt_nil, List.mem_filter, List.mem_range]
    exact ⟨fun z => of_decide_eq_true z.2, fun z => ⟨hx, decide_eq_true z⟩⟩
theorem Kn.len_le {w : List (List Nat)} {k : Nat} {e wt : List Nat} (h : Kn w k e wt) : e.length ≤ w.length := by
  have := nd_len (l' := List.range w.length) h.nd (fun x hx => List.mem_range.mpr (h.lt x hx))
  rw [List.length_range] at this
  exact this
theorem Kn.done {w : List (List Nat)} {e wt : List Nat} (h : Kn w e.length e wt) : Ended w e := by
  refine ⟨h.nd, h.lt, h.ord, fun x hx hn => ?_⟩
  refine Classical.byContradiction fun hc => hn ((h.iff x hx).mpr ?_)
  rw [List.take_length]
  exact cnt_zero.mpr fun m hm => Classical.byContradiction fun z => hc ⟨m, hm, z⟩
theorem Ended.acyc {w : List (List Nat)} {e : List Nat} (h : Ended w e) (all : ∀ x, x < w.length → x ∈ e) : Acyc w := by
  have hl : e.length ≤ w.length := by
    have := nd_len (l' := List.range w.length) h.nd (fun x hx => List.mem_range.mpr (h.lt x hx))
    rw [List.length_range] at this
    exact this
  refine ⟨e.idxOf, fun i hi => Nat.lt_of_lt_of_le (List.idxOf_lt_length_iff.mpr (all i hi)) hl, fun i r x hr hx => ?_⟩
  have hi : i < w.length := (List.getElem?_eq_some_iff.mp hr).1
  have il := List.idxOf_lt_length_iff.mpr (all i hi)
  have ei : e[e.idxOf i]? = some i := by rw [List.getElem?_eq_getElem il, List.getElem_idxOf il]
  obtain ⟨j, jl, hj⟩ := h.ord _ _ ei x (by rw [row_get hr]; exact hx)
  obtain ⟨jl', ej⟩ := List.getElem?_eq_some_iff.mp hj
  have := h.nd.idxOf_getElem j jl'
  rw [ej] at this
  show e.idxOf x < e.idxOf i
  omega
/-! ### a ring -/
structure IsRing (w : List (List Nat)) (r : List Nat) : Prop where
  ne : 0 < r.length
  nd : r.Nodup
  lt : ∀ x ∈ r, x < w.length
  go : ∀ (i x : Nat), r[i]? = some x → ∃ y, r[(i + 1) % r.length]? = some y ∧ y ∈ row w x
structure Walk (w : List (List Nat)) (e wk : List Nat) (s : Nat) : Prop where
  nd : wk.Nodup
  lt : ∀ x ∈ wk ++ [s], x < w.length ∧ x ∉ e
  go : ∀ (i x : Nat), wk[i]? = some x → ∃ y, (wk ++ [s])[i + 1]? = some y ∧ y ∈ row w x
theorem Walk.step {w : List (List Nat)} {e wk : List Nat} {s s' : Nat} (h : Walk w e wk s) (hs : s ∉ wk) (h1 : s' ∈ row w s) (h2 : s' < w.length) (h3 : s' ∉ e) : Walk w e (wk ++ [s]) s' := by
  refine ⟨List.nodup_append.mpr ⟨h.nd, by simp, fun a ha b hb z => ?_⟩, fun x hx => ?_, fun i x hx => ?_⟩
  · rw [List.mem_singleton.mp hb] at z
    exact hs (by rw [← z]; exact ha)
  · rcases List.mem_append.mp hx with z | z
    · exact h.lt x z
    · rw [List.mem_singleton.mp z]; exact ⟨h2, h3⟩
  · by_cases il : i < wk.length
    · rw [List.getElem?_append_left il] at hx
      obtain ⟨y, hy, hm⟩ := h.go i x hx
      exact ⟨y, by rw [List.getElem?_append_left (by simp; omega)]; exact hy, hm⟩
    · rw [List.getElem?_append_right (by omega)] at hx
      have i0 : i = wk.length := by
        have := (List.getElem?_eq_some_iff.mp hx).1
        simp at this; omega
      subst i0
      rw [Nat.sub_self] at hx
      cases hx
      exact ⟨s', by rw [List.getElem?_append_right (by simp)]; simp, h1⟩
theorem Walk.len_lt {w : List (List Nat)} {e wk : List Nat} {s : Nat} (h : Walk w e wk s) : wk.length ≤ w.length := by
  have := nd_len (l' := List.range w.length) h.nd (fun x hx => List.mem_range.mpr (h.lt x (List.mem_append_left _ hx)).1)
  rw [List.length_range] at this
  exact this
theorem Walk.len_lt' {w : List (List Nat)} {e wk : List Nat} {s : Nat} (h : Walk w e wk s) (hs : s ∉ wk) : wk.length < w.length := by
  have := nd_len (l := wk ++ [s]) (l' := List.range w.length) (List.nodup_append.mpr ⟨h.nd, by simp, fun a ha b hb z => by
    rw [List.mem_singleton.mp hb] at z
    exact hs (by rw [← z]; exact ha)⟩) (fun x hx => List.mem_range.mpr (h.lt x hx).1)
  rw [List.length_range, List.length_append] at this
  simp at this
  omega
theorem Walk.ring {w : List (List Nat)} {e wk : List Nat} {s j : Nat} (h : Walk w e wk s) (hj : wk[j]? = some s) : IsRing w (wk.drop j) := by
  have jl := (List.getElem?_eq_some_iff.mp hj).1
  refine ⟨by rw [List.length_drop]; omega, (List.drop_sublist _ _).nodup h.nd, fun x hx => (h.lt x (List.mem_append_left _ (List.mem_of_mem_drop hx))).1, fun i x hx => ?_⟩
  rw [List.getElem?_drop] at hx
  have il := (List.getElem?_eq_some_iff.mp hx).1
  obtain ⟨y, hy, hm⟩ := h.go _ _ hx
  refine ⟨y, ?_, hm⟩
  rw [List.length_drop, List.getElem?_drop]
  by_cases e1 : j + i + 1 < wk.length
  · rw [List.getElem?_append_left e1] at hy
    rw [Nat.mod_eq_of_lt (by omega), show j + (i + 1) = j + i + 1 by omega]
    exact hy
  · have e2 : i + 1 = wk.length - j := by omega
    rw [e2, Nat.mod_self, Nat.add_zero, hj]
    rw [List.getElem?_append_right (by omega), show j + i + 1 - wk.length = 0 by omega] at hy
    simpa using hy
end Sg
set_option Elab.async false
set_option linter.all false
set_option maxRecDepth 100000
set_option maxHeartbeats 4000000
namespace Sg
open PySem PySem.Spec PyProof.Rows L2 Evl RZ
def mask (n : Nat) (l : List Nat) : List Bool := (List.range n).map fun x => decide (x ∈ l)
theorem mask_len (n : Nat) (l : List Nat) : (mask n l).length = n := by unfold mask; rw [List.length_map, List.length_range]
theorem mask_at {n x : Nat} (l : List Nat) (h : x < n) : (mask n l)[x]? = some (decide (x ∈ l)) := by
  unfold mask; rw [List.getElem?_map, List.getElem?_range h]; rfl
theorem mask_start (n : Nat) : (List.replicate n [V.bl false]).flatten = bll (mask n []) := by
  induction n with
  | zero => rfl
  | succ n ih =>
    rw [List.replicate_succ', List.flatten_append, ih]
    unfold mask
    rw [List.range_succ, List.map_append]
    show _ = (List.map V.bl _)
    rw [List.map_append]
    simp
theorem mask_set {n x : Nat} (l : List Nat) (h : x < n) : (bll (mask n l)).set x (.bl true) = bll (mask n (l ++ [x])) := by
  show (List.map V.bl _).set x (V.bl true) = List.map V.bl _
  rw [← List.map_set]
  congr 1
  refine List.ext_getElem? fun i => ?_
  by_cases hi : i < n
  · rw [mask_at _ hi]
    by_cases e : x = i
    · subst e
      rw [List.getElem?_set_self (by rw [mask_len]; exact hi)]
      simp
    · rw [List.getElem?_set_ne e, mask_at _ hi]
      have : ¬ i = x := fun z => e z.symm
      simp [this]
  · rw [List.getElem?_eq_none (by rw [List.length_set, mask_len]; omega), List.getElem?_eq_none (by rw [mask_len]; omega)]
theorem mask_false {n : Nat} {l : List Nat} : false ∈ mask n l ↔ ∃ x, x < n ∧ x ∉ l := by
  unfold mask
  rw [List.mem_map]
  constructor
  · rintro ⟨x, hx, h⟩; exact ⟨x, List.mem_range.mp hx, of_decide_eq_false h⟩
  · rintro ⟨x, hx, h⟩; exact ⟨x, List.mem_range.mpr hx, decide_eq_false h⟩
theorem first_at {α : Type} [DecidableEq α] : ∀ {l : List α} {a : α}, a ∈ l → ∃ j : Nat, l[j]? = some a ∧ ∀ m x, m < j → l[m]? = some x → x ≠ a
  | [], _, h => absurd h (by simp)
  | b :: r, a, h => by
    by_cases e : b = a
    · subst e; exact ⟨0, rfl, fun m x hm => absurd hm (by omega)⟩
    · obtain ⟨j, h1, h2⟩ := first_at (l := r) (a := a) (by rcases List.mem_cons.mp h with z | z; exact absurd z.symm e; exact z)
      refine ⟨j + 1, h1, fun m x hm hx => ?_⟩
      cases m with
      | zero => cases hx; exact e
      | succ m => exact h2 m x (by omega) hx
theorem bll_get {bs : List Bool} {i : Nat} {b : Bool} (h : bs[i]? = some b) : (bll bs)[i]? = some (.bl b) := by
  rw [List.getElem?_map, h]; rfl
theorem bll_of {bs : List Bool} {i : Nat} {v : V} (h : (bll bs)[i]? = some v) : ∃ b, bs[i]? = some b ∧ v = .bl b := by
  rw [List.getElem?_map] at h
  cases e : bs[i]? with
  | none => rw [e] at h; cases h
  | some x => rw [e] at h; exact ⟨x, rfl, (Option.some.inj h).symm⟩
theorem given_filter (L : List Nat) (q : Nat → Bool) : given L.length (fun i => q (L.getD i 0)) (fun i => ni (L.getD i 0)) = nl (L.filter q) := by
  have e : L = (List.range L.length).map fun i => L.getD i 0 := by
    refine List.ext_getElem? fun i => ?_
    by_cases hi : i < L.length
    · rw [List.getElem?_map, List.getElem?_range hi, List.getElem?_eq_getElem hi]
      show _ = some (L.getD i 0)
      rw [List.getD_eq_getElem?_getD, List.getElem?_eq_getElem hi]; rfl
    · rw [List.getElem?_eq_none (by omega), List.getElem?_eq_none (by rw [List.length_map, List.length_range]; omega)]
  unfold given
  show _ = (L.filter q).map ni
  conv => rhs; rw [e]
  rw [List.filter_map, List.map_map]
  rfl
theorem getD_of {L : List Nat} {i x : Nat} (h : L[i]? = some x) : L.getD i 0 = x := by
  rw [List.getD_eq_getElem?_getD, h]; rfl
theorem cut_from (L : List Nat) (j : Nat) : cutV (nl L) (some (j : Int)) none = nl (L.drop j) := by
  unfold cutV
  rw [HT.sIx_nat, HT.sIx_none, nl_len]
  by_cases h : j ≤ L.length
  · rw [Nat.min_eq_left h, ← List.map_drop, List.take_of_length_le (by rw [List.length_map, List.length_drop]; omega)]
  · rw [Nat.min_eq_right (by omega), ← List.map_drop, List.drop_of_length_le (Nat.le_refl _), List.drop_of_length_le (by omega)]
    simp
section
variable {K : PySem.W.Frag} {σ : L2.St} {H : Hp} {ta te : TE}
/-- xs.index(x), of numbers -/
theorem ev_indexN {a : Addr} {L : List Nat} {x j : Nat} (ho : Ev ta σ H (.ref a)) (h : Ev te σ H (ni x)) (hs : SqL K H a (nl L)) (hj : L[j]? = some x) (hn : ∀ m y, m < j → L[m]? = some y → y ≠ x) : Ev (tBM K "list" (rIndex K) ta (tCons te tNil)) σ H (.int (j : Nat)) :=
  ev_index ho h hs rfl (nl_flat L) (nl_get hj) (beq_self_eq_true (x : Int)) fun m z' hm hz => by
    obtain ⟨y, hy, rfl⟩ := nl_of_get hz
    exact beq_eq_false_iff_ne.mpr fun e => hn m y hm hy (Int.ofNat_inj.mp e)
theorem ev_indexB {a : Addr} {bs : List Bool} {b : Bool} {j : Nat} (ho : Ev ta σ H (.ref a)) (h : Ev te σ H (.bl b)) (hs : SqL K H a (bll bs)) (hj : bs[j]? = some b) (hn : ∀ m y, m < j → bs[m]? = some y → y ≠ b) : Ev (tBM K "list" (rIndex K) ta (tCons te tNil)) σ H (.int (j : Nat)) :=
  ev_index ho h hs rfl (bll_flat bs) (bll_get hj) (beq_self_eq_true b) fun m z' hm hz => by
    obtain ⟨y, hy, rfl⟩ := bll_of hz
    exact beq_eq_false_iff_ne.mpr (hn m y hm hy)
theorem rv_niN {a : Addr} {L : List Nat} {x : Nat} (hs : SqL K H a (nl L)) : RV (rIn K true) (ni x) (.ref a) H (.bl (!decide (x ∈ L))) := by
  have h := rv_niL (x := ni x) hs rfl (nl_flat L)
  rw [inV_nl] at h
  exact h
theorem rv_inN {a : Addr} {L : List Nat} {x : Nat} (hs : SqL K H a (nl L)) : RV (rIn K false) (ni x) (.ref a) H (.bl (decide (x ∈ L))) := by
  have h := rv_isL (x := ni x) hs rfl (nl_flat L)
  rw [inV_nl] at h
  exact h
theorem rv_niB {a : Addr} {L : List Bool} {x : Bool} (hs : SqL K H a (bll L)) : RV (rIn K true) (.bl x) (.ref a) H (.bl (!decide (x ∈ L))) := by
  have h := rv_niL (x := .bl x) hs rfl (bll_flat L)
  rw [inV_bll] at h
  exact h
end
end Sg
namespace Sg
open PySem PySem.Spec PyProof.Rows L2 Evl RZ
theorem given_bll (r : List Nat) (g : Nat → Bool) : given r.length (fun _ => true) (fun k => .bl (g (r.getD k 0))) = bll (r.map g) := by
  rw [given_all]
  refine List.ext_getElem? fun i => ?_
  by_cases hi : i < r.length
  · rw [List.getElem?_map, List.getElem?_range hi, List.getElem?_map, List.getElem?_map, List.getElem?_eq_getElem hi]
    show some (V.bl (g (r.getD i 0))) = _
    rw [List.getD_eq_getElem?_getD, List.getElem?_eq_getElem hi]; rfl
  · rw [List.getElem?_eq_none (by rw [List.length_map, List.length_range]; omega), List.getElem?_eq_none (by rw [List.length_map, List.length_map]; omega)]
theorem ev_opR {σ : L2.St} {H : Hp} {ta tb : TE} {r : R2} {z : V} {ys : List V} {R : V → Hp → Hp → Prop} (ha : EvR ta σ H R) (hb : EvL tb σ H ys)
    (hr : ∀ v p H0 H1 H2, Ex H H0 → R v H0 H1 → Ex H1 H2 → H2 p = some (.lst ys) → RV r v (.ref p) H2 z) : Ev (tOp r ta tb) σ H z := fun H1 e Q q =>
  ha H1 e _ fun v H2 e2 r2 => hb H2 (e.trans e2) _ fun p H3 hp e3 h3 => hr v p H1 H2 H3 e r2 e3 h3 H3 (Ex.refl H3) Q fun H4 e4 => q H4 ((e2.trans e3).trans e4)
theorem GoodWeb.app {w : List (List Nat)} (g : GoodWeb w) {i x : Nat} {r : List Nat} (hr : w[i]? = some r) (hn : x ∉ r) (hx : x < w.length) : GoodWeb (w.set i (r ++ [x])) := by
  refine ⟨by rw [List.length_set]; exact g.pos, fun j q hq => ?_, fun j q hq y hy => ?_⟩
  · by_cases e : i = j
    · subst e
      rw [List.getElem?_set_self (List.getElem?_eq_some_iff.mp hr).1] at hq
      cases hq
      exact List.nodup_append.mpr ⟨g.nd _ _ hr, by simp, fun a ha b hb z => by
        rw [List.mem_singleton.mp hb] at z
        exact hn (by rw [← z]; exact ha)⟩
    · rw [List.getElem?_set_ne e] at hq
      exact g.nd _ _ hq
  · rw [List.length_set]
    by_cases e : i = j
    · subst e
      rw [List.getElem?_set_self (List.getElem?_eq_some_iff.mp hr).1] at hq
      cases hq
      rcases List.mem_append.mp hy with z | z
      · exact g.lt _ _ hr y z
      · rw [List.mem_singleton.mp z]; exact hx
    · rw [List.getElem?_set_ne e] at hq
      exact g.lt _ _ hq y hy
theorem good_cycle {m : Nat} (hm : 1 ≤ m) : GoodWeb ((List.range m).map fun i => [(i + 1) % m]) := by
  have hg : ∀ (i : Nat) (r : List Nat), ((List.range m).map fun i => [(i + 1) % m])[i]? = some r → r = [(i + 1) % m] := fun i r h => by
    rw [List.getElem?_map] at h
    by_cases hi : i < m
    · rw [List.getElem?_range hi] at h; exact (Option.some.inj h).symm
    · rw [List.getElem?_eq_none (by rw [List.length_range]; omega)] at h; cases h
  refine ⟨by simpa using hm, fun i r h => by rw [hg i r h]; simp, fun i r h x hx => ?_⟩
  rw [hg i r h] at hx
  rw [List.mem_singleton.mp hx, List.length_map, List.length_range]
  exact Nat.mod_lt _ (by omega)
end Sg
set_option Elab.async false
set_option linter.all false
set_option maxRecDepth 100000
set_option maxHeartbeats 4000000
/-! own lemmas, part M: numbers, lengths, laying over: mathematics -/
namespace Sg
/-! ### values told by what is ahead -/
def gx (g : List Nat) (i : Nat) : Nat := g.getD i 0
theorem gx_get {g : List Nat} {i : Nat} (h : i < g.length) : g[i]? = some (gx g i) := by
  unfold gx; rw [List.getD_eq_getElem?_getD, List.getElem?_eq_getElem h]; rfl
theorem gx_of {g : List Nat} {i x : Nat} (h : g[i]? = some x) : gx g i = x := by
  unfold gx; rw [List.getD_eq_getElem?_getD, h]; rfl
theorem gx_set {g : List Nat} {i x : Nat} (h : i < g.length) : gx (g.set i x) i = x := gx_of (List.getElem?_set_self h)
theorem gx_set_ne {g : List Nat} {i j x : Nat} (h : i ≠ j) : gx (g.set i x) j = gx g j := by
  unfold gx; rw [List.getD_eq_getElem?_getD, List.getElem?_set_ne h, List.getD_eq_getElem?_getD]
def ahead (w : List (List Nat)) (g : List Nat) (i : Nat) : List Nat := (row w i).map (gx g)
theorem ahead_len (w : List (List Nat)) (g : List Nat) (i : Nat) : (ahead w g i).length = (row w i).length := List.length_map _
structure Sol (R : List Nat → Nat → Prop) (w : List (List Nat)) (g : List Nat) : Prop where
  len : g.length = w.length
  val : ∀ i, i < w.length → R (ahead w g i) (gx g i)
theorem Sol.uniq {R : List Nat → Nat → Prop} (fn : ∀ l m n, R l m → R l n → m = n) {w : List (List Nat)} {g h : List Nat} (gw : GoodWeb w) (ac : Acyc w) (a : Sol R w g) (b : Sol R w h) : g = h := by
  obtain ⟨rank, r1, r2⟩ := ac
  have key : ∀ n i, rank i < n → i < w.length → gx g i = gx h i := by
    intro n
    induction n with
    | zero => intro i hi; omega
    | succ n ih =>
      intro i hi il
      have e : ahead w g i = ahead w h i := List.map_congr_left fun m hm => ih m (by have := r2 i _ m (row_at il) hm; omega) (gw.rlt hm)
      have h1 := a.val i il
      rw [e] at h1
      exact fn _ _ _ h1 (b.val i il)
  refine List.ext_getElem? fun i => ?_
  by_cases hi : i < w.length
  · rw [gx_get (by rw [a.len]; exact hi), gx_get (by rw [b.len]; exact hi), key _ i (Nat.lt_succ_self _) hi]
  · rw [List.getElem?_eq_none (by rw [a.len]; omega), List.getElem?_eq_none (by rw [b.len]; omega)]
/-- the values are filled in, in the order of the ended spots -/
structure Part (R : List Nat → Nat → Prop) (w : List (List Nat)) (e : List Nat) (k : Nat) (g : List Nat) : Prop where
  len : g.length = w.length
  val : ∀ j x, j < k → e[j]? = some x → R (ahead w g x) (gx g x)
theorem Part.start (R : List Nat → Nat → Prop) (w : List (List Nat)) (e : List Nat) : Part R w e 0 (List.replicate w.length 0) := ⟨List.length_replicate, fun j x h => absurd h (by omega)⟩
theorem nd_at {l : List Nat} (nd : l.Nodup) {i j x : Nat} (hi : l[i]? = some x) (hj : l[j]? = some x) : i = j := by
  obtain ⟨il, ei⟩ := List.getElem?_eq_some_iff.mp hi
  obtain ⟨jl, ej⟩ := List.getElem?_eq_some_iff.mp hj
  exact (List.getElem_inj nd).mp (ei.trans ej.symm)
theorem Part.step {R : List Nat → Nat → Prop} {w : List (List Nat)} {e : List Nat} {k : Nat} {g : List Nat} (h : Part R w e k g) (en : Ended w e) {x n : Nat} (hx : e[k]? = some x) (hn : R (ahead w g x) n) : Part R w e (k + 1) (g.set x n) := by
  have xl : x < g.length := by rw [h.len]; exact en.lt x (List.mem_of_getElem? hx)
  have same : ∀ j y, j ≤ k → e[j]? = some y → ahead w (g.set x n) y = ahead w g y := fun j y hj hy => List.map_congr_left fun m hm => by
    obtain ⟨i, hi, him⟩ := en.ord j y hy m hm
    refine gx_set_ne fun e0 => ?_
    subst e0
    have := nd_at en.nd hx him
    omega
  refine ⟨by rw [List.length_set]; exact h.len, fun j y hj hy => ?_⟩
  rw [same j y (by omega) hy]
  by_cases e0 : j = k
  · subst e0
    rw [hx] at hy
    cases hy
    rw [gx_set xl]
    exact hn
  · have : x ≠ y := fun z => e0 (by subst z; exact nd_at en.nd hy hx)
    rw [gx_set_ne this]
    exact h.val j y (by omega) hy
theorem Ended.full {w : List (List Nat)} {e : List Nat} (en : Ended w e) (g : GoodWeb w) (ac : Acyc w) : ∀ x, x < w.length → x ∈ e := by
  obtain ⟨rank, r1, r2⟩ := ac
  have key : ∀ n x, rank x < n → x < w.length → x ∈ e := by
    intro n
    induction n with
    | zero => intro x hx; omega
    | succ n ih =>
      intro x hx xl
      refine Classical.byContradiction fun hn => ?_
      obtain ⟨m, hm, hme⟩ := en.out x xl hn
      exact hme (ih m (by have := r2 x _ m (row_at xl) hm; omega) (g.rlt hm))
  exact fun x => key _ x (Nat.lt_succ_self _)
theorem Part.done {R : List Nat → Nat → Prop} {w : List (List Nat)} {e : List Nat} {g : List Nat} (h : Part R w e e.length g) (en : Ended w e) (gw : GoodWeb w) (ac : Acyc w) : Sol R w g := by
  refine ⟨h.len, fun i hi => ?_⟩
  obtain ⟨j, jl, ej⟩ := List.getElem_of_mem (en.full gw ac i hi)
  exact h.val j i jl (by rw [List.getElem?_eq_getElem jl, ej])
/-- a ring is none where all play ends -/
theorem IsRing.no {w : List (List Nat)} {r : List Nat} (h : IsRing w r) : ¬ Acyc w := by
  rintro ⟨rank, r1, r2⟩
  have key : ∀ n x, rank x < n → x ∉ r := by
    intro n
    induction n with
    | zero => intro x hx; omega
    | succ n ih =>
      intro x hx hm
      obtain ⟨i, il, ei⟩ := List.getElem_of_mem hm
      obtain ⟨y, hy, hyr⟩ := h.go i x (by rw [List.getElem?_eq_getElem il, ei])
      have := r2 x _ y (row_at (h.lt x hm)) hyr
      exact ih y (by omega) (List.mem_of_getElem? hy)
  have hx : 0 < r.length := h.ne
  exact key _ r[0] (Nat.lt_succ_self _) (List.getElem_mem hx)
/-! ### the least number that is missing -/
structure IsMex (l : List Nat) (n : Nat) : Prop where
  out : n ∉ l
  low : ∀ k, k < n → k ∈ l
theorem IsMex.uniq : ∀ (l : List Nat) (m n : Nat), IsMex l m → IsMex l n → m = n := fun l m n a b => by
  rcases Nat.lt_trichotomy m n with h | h | h
  · exact absurd (b.low m h) a.out
  · exact h
  · exact absurd (a.low n h) b.out
theorem IsMex.len {l : List Nat} {n : Nat} (a : IsMex l n) : n ≤ l.length := by
  have := nd_len (l := List.range n) (l' := l) List.nodup_range (fun x hx => a.low x (List.mem_range.mp hx))
  rwa [List.length_range] at this
abbrev Nums := Sol IsMex
theorem Nums.uniq {w : List (List Nat)} {g h : List Nat} (gw : GoodWeb w) (ac : Acyc w) (a : Nums w g) (b : Nums w h) : g = h := Sol.uniq IsMex.uniq gw ac a b
theorem Nums.ne {w : List (List Nat)} {g : List Nat} (a : Nums w g) {i m : Nat} (hi : i < w.length) (hm : m ∈ row w i) : gx g m ≠ gx g i := fun e => (a.val i hi).out (by rw [← e]; exact List.mem_map.mpr ⟨m, hm, rfl⟩)
theorem Nums.to {w : List (List Nat)} {g : List Nat} (a : Nums w g) {i k : Nat} (hi : i < w.length) (hk : k < gx g i) : ∃ m ∈ row w i, gx g m = k := List.mem_map.mp ((a.val i hi).low k hk)
theorem Nums.le {w : List (List Nat)} {g : List Nat} (gw : GoodWeb w) (a : Nums w g) (i : Nat) : gx g i ≤ w.length := by
  by_cases hi : i < w.length
  · have h1 := (a.val i hi).len
    rw [ahead_len] at h1
    have h2 := nd_len (l := row w i) (l' := List.range w.length) (gw.rnd i) (fun x hx => List.mem_range.mpr (gw.rlt hx))
    rw [List.length_range] at h2
    omega
  · unfold gx
    rw [List.getD_eq_getElem?_getD, List.getElem?_eq_none (by rw [a.len]; omega)]
    exact Nat.zero_le _
/-! ### the greatest -/
def mx : List Nat → Nat
  | [] => 0
  | a :: r => max a (mx r)
theorem mx_ge : ∀ {l : List Nat} {x : Nat}, x ∈ l → x ≤ mx l
  | a :: r, x, h => by
    unfold mx
    rcases List.mem_cons.mp h with e | e
    · rw [e]; exact Nat.le_max_left _ _
    · exact Nat.le_trans (mx_ge e) (Nat.le_max_right _ _)
theorem mx_in : ∀ {l : List Nat}, l ≠ [] → mx l ∈ l
  | [], h => absurd rfl h
  | [a], _ => by simp [mx]
  | a :: b :: r, _ => by
    have ih := mx_in (l := b :: r) (by simp)
    rw [show mx (a :: b :: r) = max a (mx (b :: r)) from rfl]
    rcases Nat.le_total a (mx (b :: r)) with h | h
    · rw [Nat.max_eq_right h]; exact List.mem_cons_of_mem _ ih
    · rw [Nat.max_eq_left h]; exact List.mem_cons_self
theorem mx_eq {l : List Nat} {n : Nat} (h1 : ∀ x ∈ l, x ≤ n) (h2 : n = 0 ∨ n ∈ l) : mx l = n := by
  apply Nat.le_antisymm
  · by_cases e : l = []
    · subst e; exact Nat.zero_le _
    · exact h1 _ (mx_in e)
  · rcases h2 with h | h
    · omega
    · exact mx_ge h
def IsLen (l : List Nat) (n : Nat) : Prop := n = mx (l.map (· + 1))
abbrev Lens := Sol IsLen
theorem Lens.uniq {w : List (List Nat)} {g h : List Nat} (gw : GoodWeb w) (ac : Acyc w) (a : Lens w g) (b : Lens w h) : g = h := Sol.uniq (fun _ _ _ a b => a.trans b.symm) gw ac a b
/-! ### laid over one another -/
def xs (l : List Nat) : Nat := l.foldl (· ^^^ ·) 0
theorem foldl_xor (l : List Nat) : ∀ a, l.foldl (· ^^^ ·) a = a ^^^ l.foldl (· ^^^ ·) 0 := by
  induction l with
  | nil => intro a; simp
  | cons b r ih =>
    intro a
    rw [List.foldl_cons, List.foldl_cons, ih, ih (0 ^^^ b), Nat.zero_xor, Nat.xor_assoc]
theorem xs_nil : xs [] = 0 := rfl
theorem xs_cons (a : Nat) (l : List Nat) : xs (a :: l) = a ^^^ xs l := by
  unfold xs
  rw [List.foldl_cons, foldl_xor, Nat.zero_xor]
theorem xs_app (l m : List Nat) : xs (l ++ m) = xs l ^^^ xs m := by
  induction l with
  | nil => rw [List.nil_append, xs_nil, Nat.zero_xor]
  | cons a l ih => rw [List.cons_append, xs_cons, ih, xs_cons, Nat.xor_assoc]
theorem xs_rev (l : List Nat) : xs l.reverse = xs l := by
  induction l with
  | nil => rfl
  | cons a l ih => rw [List.reverse_cons, xs_app, ih, xs_cons, xs_cons, xs_nil, Nat.xor_zero, Nat.xor_comm]
theorem xs_perm {l m : List Nat} (h : l.Perm m) : xs l = xs m := by
  induction h with
  | nil => rfl
  | cons a _ ih => rw [xs_cons, xs_cons, ih]
  | swap a b l => rw [xs_cons, xs_cons, xs_cons, xs_cons, ← Nat.xor_assoc, ← Nat.xor_assoc, Nat.xor_comm a b]
  | trans _ _ ih1 ih2 => exact ih1.trans ih2
theorem xor_same {a b c : Nat} : a ^^^ b = a ^^^ c ↔ b = c := by
  constructor
  · intro h
    have := congrArg (a ^^^ ·) h
    simpa [← Nat.xor_assoc] using this
  · intro h; rw [h]
theorem xor_eq0 {a b : Nat} : a ^^^ b = 0 ↔ a = b := by
  constructor
  · intro h
    have := congrArg (· ^^^ b) h
    simpa [Nat.xor_assoc] using this
  · intro h; rw [h, Nat.xor_self]
theorem xs_set : ∀ {l : List Nat} {i a : Nat} (b : Nat), l[i]? = some a → xs (l.set i b) = xs l ^^^ a ^^^ b
  | [], i, a, b, h => by simp at h
  | c :: l, 0, a, b, h => by
    have e : c = a := Option.some.inj h
    subst e
    rw [List.set_cons_zero, xs_cons, xs_cons, Nat.xor_comm c, Nat.xor_assoc (xs l), Nat.xor_self, Nat.xor_zero, Nat.xor_comm]
  | c :: l, i + 1, a, b, h => by
    rw [List.set_cons_succ, xs_cons, xs_set b (l := l) h, xs_cons, Nat.xor_assoc, Nat.xor_assoc, Nat.xor_assoc]
/-- the count of the numbers with the bit at k -/
def bits (l : List Nat) (k : Nat) : Nat := (l.filter fun n => n.testBit k).length
theorem xs_bit (l : List Nat) (k : Nat) : (xs l).testBit k = decide (bits l k % 2 = 1) := by
  induction l with
  | nil => rw [xs_nil]; simp [bits]
  | cons a l ih =>
    rw [xs_cons, Nat.testBit_xor, ih]
    unfold bits
    rw [List.filter_cons]
    cases a.testBit k with
    | true =>
      rw [if_pos rfl, List.length_cons]
      rcases Nat.mod_two_eq_zero_or_one (l.filter fun n => n.testBit k).length with h | h
      · rw [h, decide_eq_true (show ((l.filter fun n => n.testBit k).length + 1) % 2 = 1 by omega)]; rfl
      · rw [h, decide_eq_false (show ¬ ((l.filter fun n => n.testBit k).length + 1) % 2 = 1 by omega)]; rfl
    | false =>
      rw [if_neg Bool.false_ne_true]
      simp
theorem xs_lt {l : List Nat} {k : Nat} (h : ∀ x ∈ l, x < 2 ^ k) : xs l < 2 ^ k := by
  induction l with
  | nil => exact Nat.two_pow_pos k
  | cons a l ih =>
    rw [xs_cons]
    exact Nat.xor_lt_two_pow (h a List.mem_cons_self) (ih fun x hx => h x (List.mem_cons_of_mem _ hx))
/-- one bit more -/
theorem mod_step (n k : Nat) : n % 2 ^ (k + 1) = n % 2 ^ k + (if n.testBit k then 2 ^ k else 0) := by
  rw [Nat.pow_succ, Nat.mod_mul, Nat.testBit_eq_decide_div_mod_eq]
  rcases Nat.mod_two_eq_zero_or_one (n / 2 ^ k) with h | h
  · rw [h]; simp
  · rw [h]; simp
theorem lt_bit {x y : Nat} (i : Nat) (hx : x.testBit i = false) (hy : y.testBit i = true) (h : ∀ j, i < j → x.testBit j = y.testBit j) : x < y := by
  have e : x / 2 ^ (i + 1) = y / 2 ^ (i + 1) := Nat.eq_of_testBit_eq fun j => by
    rw [Nat.testBit_div_two_pow, Nat.testBit_div_two_pow]
    exact h _ (by omega)
  rw [Nat.pow_succ, ← Nat.div_div_eq_div_mul, ← Nat.div_div_eq_div_mul] at e
  rw [Nat.testBit_eq_decide_div_mod_eq] at hx hy
  have h1 := of_decide_eq_false hx
  have h2 := of_decide_eq_true hy
  refine Nat.lt_of_not_le fun hle => ?_
  have := Nat.div_le_div_right (c := 2 ^ i) hle
  omega
/-- of two unlike numbers the greater one has the first bit in which they differ -/
theorem top_bit {k x : Nat} (h : k < x) : ∃ b, (k ^^^ x).testBit b = true ∧ (∀ j, b < j → (k ^^^ x).testBit j = false) ∧ x.testBit b = true ∧ k.testBit b = false := by
  have d0 : k ^^^ x ≠ 0 := fun z => by have := xor_eq0.mp z; omega
  have hi := Nat.testBit_log2 d0
  have up : ∀ j, (k ^^^ x).log2 < j → (k ^^^ x).testBit j = false := fun j hj => Nat.testBit_lt_two_pow ((Nat.log2_lt d0).mp hj)
  refine ⟨(k ^^^ x).log2, hi, up, ?_⟩
  generalize (k ^^^ x).log2 = b at hi up
  rw [Nat.testBit_xor] at hi
  cases hk : k.testBit b with
  | false => rw [hk] at hi; exact ⟨by simpa using hi, rfl⟩
  | true =>
    rw [hk] at hi
    have hx : x.testBit b = false := by simpa using hi
    exfalso
    have := lt_bit b hx hk fun j hj => by
      have := up j hj
      rw [Nat.testBit_xor] at this
      cases hA : k.testBit j <;> cases hB : x.testBit j <;> simp_all
    omega
theorem xor_less {a d b : Nat} (hd : d.testBit b = true) (up : ∀ j, b < j → d.testBit j = false) (ha : a.testBit b = true) : a ^^^ d < a :=
  lt_bit b (by rw [Nat.testBit_xor, ha, hd]; rfl) ha fun j hj => by rw [Nat.testBit_xor, up j hj, Bool.xor_false]
/-- of a list that comes to more than k some number may be made less, so that k comes -/
theorem nim : ∀ {l : List Nat} {k : Nat}, k < xs l → ∃ (i a b : Nat), l[i]? = some a ∧ b < a ∧ xs l ^^^ a ^^^ b = k := by
  intro l k h
  obtain ⟨t, h1, h2, h3, _⟩ := top_bit h
  have : ∃ a ∈ l, a.testBit t = true := by
    rw [xs_bit] at h3
    have h4 : bits l t % 2 = 1 := of_decide_eq_true h3
    have h5 : 0 < (l.filter fun n => n.testBit t).length := by unfold bits at h4; omega
    obtain ⟨a, ha⟩ := List.exists_mem_of_length_pos h5
    exact ⟨a, (List.mem_filter.mp ha).1, (List.mem_filter.mp ha).2⟩
  obtain ⟨a, ha, hb⟩ := this
  obtain ⟨i, il, ei⟩ := List.getElem_of_mem ha
  refine ⟨i, a, a ^^^ (k ^^^ xs l), by rw [List.getElem?_eq_getElem il, ei], xor_less h1 h2 hb, ?_⟩
  rw [Nat.xor_assoc, ← Nat.xor_assoc a a, Nat.xor_self, Nat.zero_xor, Nat.xor_comm k, ← Nat.xor_assoc, Nat.xor_self, Nat.zero_xor]
/-- the missing number of both games side by side -/
theorem mex_xor {A B : List Nat} {a b : Nat} (ha : IsMex A a) (hb : IsMex B b) : IsMex (A.map (· ^^^ b) ++ B.map (a ^^^ ·)) (a ^^^ b) := by
  refine ⟨fun h => ?_, fun k hk => ?_⟩
  · rcases List.mem_append.mp h with h | h
    · obtain ⟨x, hx, e⟩ := List.mem_map.mp h
      have : x = a := by
        have e' : b ^^^ x = b ^^^ a := by rw [Nat.xor_comm b x, Nat.xor_comm b a]; exact e
        exact xor_same.mp e'
      exact ha.out (by rw [← this]; exact hx)
    · obtain ⟨x, hx, e⟩ := List.mem_map.mp h
      have : x = b := xor_same.mp e
      exact hb.out (by rw [← this]; exact hx)
  · have hl : k < xs [a, b] := by rw [xs_cons, xs_cons, xs_nil, Nat.xor_zero]; exact hk
    obtain ⟨i, c, d, hi, hd, e⟩ := nim hl
    rw [xs_cons, xs_cons, xs_nil, Nat.xor_zero] at e
    match i, hi with
    | 0, hi =>
      cases hi
      refine List.mem_append_left _ (List.mem_map.mpr ⟨d, ha.low d hd, ?_⟩)
      rw [← e, Nat.xor_comm a b, Nat.xor_assoc b, Nat.xor_self, Nat.xor_zero, Nat.xor_comm]
    | 1, hi =>
      cases hi
      refine List.mem_append_right _ (List.mem_map.mpr ⟨d, hb.low d hd, ?_⟩)
      rw [← e, Nat.xor_assoc a b, Nat.xor_self, Nat.xor_zero]
    | i + 2, hi => simp at hi
/-! ### rows -/
def rn (g : List Nat) (r : List Nat) : Nat := xs (r.map (gx g))
theorem rn_app (g r s : List Nat) : rn g (r ++ s) = rn g r ^^^ rn g s := by unfold rn; rw [List.map_append, xs_app]
theorem rn_set {g r : List Nat} {i a : Nat} (b : Nat) (h : r[i]? = some a) : rn g (r.set i b) = rn g r ^^^ gx g a ^^^ gx g b := by
  unfold rn
  rw [List.map_set]
  exact xs_set _ (by rw [List.getElem?_map, h]; rfl)
/-- from a lost row no move leads to a lost one -/
theorem rn_ne {w : List (List Nat)} {g r : List Nat} (a : Nums w g) (hr : ∀ x ∈ r, x < w.length) {i s m : Nat} (hi : r[i]? = some s) (hm : m ∈ row w s) : rn g (r.set i m) ≠ rn g r := fun e => by
  rw [rn_set m hi, Nat.xor_assoc] at e
  have : gx g s ^^^ gx g m = 0 := by
    have e' : rn g r ^^^ (gx g s ^^^ gx g m) = rn g r ^^^ 0 := by rw [e, Nat.xor_zero]
    exact xor_same.mp e'
  exact a.ne (hr s (List.mem_of_getElem? hi)) hm (xor_eq0.mp this).symm
/-- from each other row some move does -/
theorem rn_to {w : List (List Nat)} {g r : List Nat} (a : Nums w g) (hr : ∀ x ∈ r, x < w.length) (h : rn g r ≠ 0) : ∃ i s m, r[i]? = some s ∧ m ∈ row w s ∧ rn g (r.set i m) = 0 := by
  obtain ⟨i, x, b, hi, hb, e⟩ := nim (l := r.map (gx g)) (k := 0) (Nat.pos_of_ne_zero h)
  rw [List.getElem?_map] at hi
  cases hs : r[i]? with
  | none => rw [hs] at hi; cases hi
  | some s =>
    rw [hs] at hi
    have hx : gx g s = x := Option.some.inj hi
    subst hx
    obtain ⟨m, hm, em⟩ := a.to (hr s (List.mem_of_getElem? hs)) hb
    exact ⟨i, s, m, hs, hm, by rw [rn_set m hs, em]; exact e⟩
end Sg
set_option Elab.async false
set_option linter.all false
set_option maxRecDepth 100000
set_option maxHeartbeats 4000000
/-! own lemmas, part N: more readings -/
namespace Sg
open PySem PySem.Spec PyProof.Rows L2 Evl RZ
theorem good_len {w : List (List Nat)} (g : GoodWeb w) {i : Nat} {r : List Nat} (h : w[i]? = some r) : r.length ≤ w.length := by
  have := nd_len (l' := List.range w.length) (g.nd i r h) (fun x hx => List.mem_range.mpr (g.lt i r h x hx))
  rw [List.length_range] at this
  exact this
theorem web_row {K : PySem.W.Frag} {H : Hp} {a : Addr} {ps : List Addr} {w : List (List Nat)} (h : WebAt H a ps w) {i : Nat} (hi : i < w.length) : ∃ p, ps[i]? = some p ∧ (ps.map V.ref)[i]? = some (.ref p) ∧ H p = some (.lst (nl (row w i))) := by
  obtain ⟨p, h1, h2, h3⟩ := h.at hi
  have : row w i = w[i] := row_get (List.getElem?_eq_getElem hi)
  exact ⟨p, h1, h2, by rw [this]; exact h3⟩
theorem ev_wlen {K : PySem.W.Frag} {σ : L2.St} {H : Hp} {ta : TE} {a : Addr} {ps : List Addr} {w : List (List Nat)} (ha : Ev ta σ H (.ref a)) (hw : WebAt H a ps w) : Ev (tCB (rLenS K) (tCons ta tNil)) σ H (ni w.length) := ev_is (ev_len ha hw.seq) (by rw [hw.rlen])
theorem ev_llen {K : PySem.W.Frag} {σ : L2.St} {H : Hp} {ta : TE} {a : Addr} {r : List Nat} (ha : Ev ta σ H (.ref a)) (hw : SqL K H a (nl r)) : Ev (tCB (rLenS K) (tCons ta tNil)) σ H (ni r.length) := ev_is (ev_len ha hw) (by rw [nl_len])
section
variable {K : PySem.W.Frag} {σ : L2.St} {H H' : Hp} {ta tb te tl : TE} {t u : TT} {x y z v : V} {D : Ends} {tu tw tz : TS} {R : V → Hp → Hp → Prop}
theorem rv_isTy {a b : String} : RV (fun x y H Q => ∃ a b, x = .ty a ∧ y = .ty b ∧ Q (.bl (decide (a = b))) H) (.ty a) (.ty b) H (.bl (decide (a = b))) := fun H1 _ _ q => ⟨a, b, rfl, rfl, q H1 (Ex.refl H1)⟩
theorem rv_notN : RV (fun x y H Q => y = .non ∧ Q (.bl (!decide (x = .non))) H) x .non H (.bl (!decide (x = .non))) := fun H1 _ _ q => ⟨rfl, q H1 (Ex.refl H1)⟩
theorem ev_ofR (h : EvR te σ H R) (hv : ∀ v H0 H1, Ex H H0 → R v H0 H1 → v = z) : Ev te σ H z := fun H1 e Q q => h H1 e Q fun v H2 e2 r => by rw [hv v H1 H2 e r]; exact q H2 e2
/-- a call with one new list -/
theorem ev_callL {sp : Sp} {dvs xs : List V} {E : XK} (h : EvL te σ H xs) (hs : ∀ p H1, Ex H H1 → H p = none → H1 p = some (.lst xs) → SpV sp (V.ref p :: dvs) H1 z) : Ev (tCall sp dvs E (tCons te tNil)) σ H z := fun H1 e Q q =>
  h H1 e _ fun p H2 hp e2 h2 => hs p H2 (e.trans e2) (fresh_back e hp) h2 H2 (Ex.refl H2) Q (fun H3 e3 => q H3 (e2.trans e3)) E
theorem rv_xor {a b : Nat} : RV (rI0 fun i j => .int (Builtin.bitXor i j)) (ni a) (ni b) H (ni (a ^^^ b)) := by
  have h := @rv_I0 H (fun i j => .int (Builtin.bitXor i j)) (a : Int) (b : Int)
  rw [Bits.bitXor_pp (Int.natCast_nonneg a) (Int.natCast_nonneg b), Int.toNat_natCast, Int.toNat_natCast] at h
  exact h
theorem dec_nat {a b : Nat} : decide ((a : Int) = (b : Int)) = decide (a = b) := by
  by_cases h : a = b
  · subst h; simp
  · rw [decide_eq_false h]; exact decide_eq_false fun z => h (Int.ofNat_inj.mp z)
end
/-! ### a set of numbers -/
/-- the set at a has just these members -/
def SetN (P : Program) (w : World) (a : Addr) (ns : List Int) : HO := .ext fun h => ∃ S n, h.SetOf (intKind P w) a S n ∧ ∀ k, S k = true ↔ k ∈ ns
def rSetN (K : PySem.W.Frag) (P : Program) (w : World) : List V → Hp → VK → Prop := fun xs H Q => ∃ (l : Addr) (ns : List Int), xs = [.ref l] ∧ SqL K H l (ns.map V.int) ∧ ns.length ≤ 4000 ∧ ∀ p, H p = none → Q (.ref p) (upd H p (SetN P w p ns))
def rInN (P : Program) (w : World) (neg : Bool) : R2 := fun x y H Q => ∃ (k : Int) (a : Addr) (ns : List Int), x = .int k ∧ y = .ref a ∧ H a = some (SetN P w a ns) ∧ Q (.bl (if neg then !decide (k ∈ ns) else decide (k ∈ ns))) H
section
variable {X : Cx}
theorem setN_new {w : World} {P : Program} {H : Hp} {h : Heap} {a : Addr} {ns : List Int} (R : ∃ S n, h.SetOf (intKind P w) a S n ∧ ∀ k, S k = true ↔ k ∈ ns) : ObjOk P w H h a (SetN P w a ns) := by
  have ⟨S, n, ⟨o, es, ep, t, ho, r⟩, hs⟩ := R
  exact ⟨R, ⟨o, ho⟩, fun h1 h2 ⟨S', n', ⟨o', es', ep', t', ho', r'⟩, hs'⟩ k => ⟨S', n', ⟨o', es', ep', t', k o' ho', r'⟩, hs'⟩⟩
theorem met_mem (ns : List Int) (k : Int) : (PyProof.Rows.firstMet (fun i => ns.getD i 0) ns.length).any (· == k) = true ↔ k ∈ ns := by
  rw [PyProof.Rows.firstMet_any]
  have e : (List.range ns.length).map (fun i => ns.getD i 0) = ns := by
    refine List.ext_getElem? fun i => ?_
    by_cases hi : i < ns.length
    · rw [List.getElem?_map, List.getElem?_range hi, List.getElem?_eq_getElem hi]
      show some (ns.getD i 0) = _
      rw [List.getD_eq_getElem?_getD, List.getElem?_eq_getElem hi]; rfl
    · rw [List.getElem?_eq_none (by simpa using hi), List.getElem?_eq_none (by omega)]
  rw [e, List.any_eq_true]
  constructor
  · rintro ⟨x, hx, h⟩; rw [← eq_of_beq h]; exact hx
  · intro h; exact ⟨k, h, beq_self_eq_true k⟩
theorem cr_setN (hc : X.calm = true) : CallR X (.type "set") (rSetN X.K X.prog X.w) := by
  intro pins s σ H xs us Q I r h
  obtain ⟨l, ns, rfl, hq, hl, q⟩ := h
  obtain ⟨its, rv, pl, hz⟩ := I.list hq
  have hlen : its.toArray.size = ns.length := by rw [List.size_toArray, ← rv.length, List.length_map]
  rw [Vals.ref1 r]
  refine call_set_list (I.ok.hd hc) pl.isList (by simpa using intsAre_vals rv) (by rw [hlen]; unfold scanBound; omega) fun h' tk hS hk => ?_
  rw [hlen] at hS
  have new : ∃ S n, h'.SetOf (intKind X.prog X.w) s.heap.objs.size S n ∧ ∀ k, S k = true ↔ k ∈ ns := ⟨_, _, hS, fun k => met_mem ns k⟩
  exact ⟨.ref _, upd H s.heap.objs.size (SetN X.prog X.w s.heap.objs.size ns), I.laid (t' := tk) (fun b u e => hk b u (Heap.lt_size e) e) (Nat.le_refl _) (setN_new new), rfl, q _ (I.hok.fresh (Nat.le_refl _))⟩
theorem or_inN : OpR X (compareOp .In) (rInN X.prog X.w false) := by
  intro pins s σ H x y v u Q I rx ry h
  obtain ⟨k, a, ns, rfl, rfl, ha, q⟩ := h
  obtain ⟨tk, rfl⟩ := rx
  cases ry
  obtain ⟨S, n, R, hm⟩ := (I.hok a _ ha).1
  refine wpAny_inSet_of (intKind_is _ _ _ _) rfl R ⟨.bl (S k), H, I.tok _, rfl, ?_⟩
  have e : S k = decide (k ∈ ns) := by
    cases hS : S k with
    | true => exact (decide_eq_true ((hm k).mp hS)).symm
    | false => exact (decide_eq_false fun z => by rw [(hm k).mpr z] at hS; cases hS).symm
  rw [e]
  exact q
theorem setNK (K : PySem.W.Frag) (P : Program) (w : World) (hc : X.calm = true) (h : X.K = K := by rfl) (h1 : X.prog = P := by rfl) (h2 : X.w = w := by rfl) : CallR X (.type "set") (rSetN K P w) := by subst h h1 h2; exact cr_setN hc
theorem inNK (P : Program) (w : World) (h1 : X.prog = P := by rfl) (h2 : X.w = w := by rfl) : OpR X (compareOp .In) (rInN P w false) := by subst h1 h2; exact or_inN
end
section
variable {K : PySem.W.Frag} {P : Program} {w : World} {σ : L2.St} {H H' : Hp} {ta tb te tl : TE} {D : Ends} {tz : TS}
theorem q_asgSet {i : Nat} {a : Addr} {ns : List Nat} (h : Ev te σ H (.ref a)) (hs : SqL K H a (nl ns)) (hl : ns.length ≤ 4000) (k : ∀ p H1, H p = none → Ex H H1 → H1 p = some (SetN P w p (ns.map fun n : Nat => (n : Int))) → tz D (σ.set i (some (.ref p))) H1) : tSeq (tAsg (tCB (rSetN K P w) (tCons te tNil)) (gName i)) tz D σ H :=
  h H (Ex.refl H) _ fun H1 e => ⟨a, _, rfl, by rw [← nl_int]; exact ex_l e hs, by rw [List.length_map]; exact hl, fun p hp => k p _ (fresh_back e hp) (e.trans (Ex.new hp)) upd_same⟩
theorem rv_inS {a : Addr} {ns : List Nat} {n : Nat} (h : H a = some (SetN P w a (ns.map fun n : Nat => (n : Int)))) : RV (rInN P w false) (ni n) (.ref a) H (.bl (decide (n ∈ ns))) := fun H1 e Q q => ⟨n, a, _, rfl, rfl, e _ _ h, by
  have : decide ((n : Int) ∈ ns.map fun n : Nat => (n : Int)) = decide (n ∈ ns) := by
    by_cases hm : n ∈ ns
    · rw [decide_eq_true hm]; exact decide_eq_true (List.mem_map.mpr ⟨n, hm, rfl⟩)
    · rw [decide_eq_false hm]
      exact decide_eq_false fun z => by
        obtain ⟨m, h1, h2⟩ := List.mem_map.mp z
        exact hm (by rw [← Int.ofNat_inj.mp h2]; exact h1)
  show Q (.bl (decide _)) H1
  rw [this]
  exact q H1 (Ex.refl H1)⟩
end
/-! ### parts of lists -/
theorem cut_map {α : Type} (f : α → V) (L : List α) (lo hi : Option Int) : ∃ M : List α, cutV (L.map f) lo hi = M.map f ∧ M.length ≤ L.length ∧ ∀ x ∈ M, x ∈ L := by
  refine ⟨(L.drop (HT.sIx (L.map f).length 0 lo)).take (HT.sIx (L.map f).length (L.map f).length hi - HT.sIx (L.map f).length 0 lo), ?_, ?_, fun x hx => List.mem_of_mem_drop (List.mem_of_mem_take hx)⟩
  · unfold cutV
    rw [List.map_take, List.map_drop]
  · rw [List.length_take, List.length_drop]; omega
theorem cut_to {α : Type} (f : α → V) (L : List α) (j : Nat) : cutV (L.map f) none (some (j : Int)) = (L.take j).map f := by
  unfold cutV
  rw [HT.sIx_none, HT.sIx_nat, List.length_map, Nat.sub_zero, List.drop_zero, ← List.map_take]
  congr 1
  rcases Nat.le_total j L.length with h | h
  · rw [Nat.min_eq_left h]
  · rw [Nat.min_eq_right h, List.take_length, List.take_of_length_le h]
theorem cut_off {α : Type} (f : α → V) (L : List α) (j : Nat) : cutV (L.map f) (some (j : Int)) none = (L.drop j).map f := by
  unfold cutV
  rw [HT.sIx_none, HT.sIx_nat, List.length_map, ← List.map_drop, ← List.map_take]
  congr 1
  rcases Nat.le_total j L.length with h | h
  · rw [Nat.min_eq_left h, List.take_of_length_le (by rw [List.length_drop]; omega)]
  · rw [Nat.min_eq_right h, List.drop_of_length_le (Nat.le_refl _), List.drop_of_length_le h]; simp
theorem given_map {α : Type} (l : List α) (d : α) (g : α → V) : given l.length (fun _ => true) (fun i => g (l.getD i d)) = l.map g := by
  rw [given_all]
  refine List.ext_getElem? fun i => ?_
  by_cases hi : i < l.length
  · rw [List.getElem?_map, List.getElem?_range hi, List.getElem?_map, List.getElem?_eq_getElem hi]
    show some (g (l.getD i d)) = _
    rw [List.getD_eq_getElem?_getD, List.getElem?_eq_getElem hi]; rfl
  · rw [List.getElem?_eq_none (by simpa using hi), List.getElem?_eq_none (by simpa using hi)]
theorem given_nl (l : List Nat) (g : Nat → Nat) : given l.length (fun _ => true) (fun i => ni (g (l.getD i 0))) = nl (l.map g) := by
  rw [given_map l 0 (fun n => ni (g n))]
  show _ = List.map _ _
  rw [List.map_map]; rfl
theorem getD_is {α : Type} {L : List α} {i : Nat} {x d : α} (h : L[i]? = some x) : L.getD i d = x := by
  rw [List.getD_eq_getElem?_getD, h]; rfl
theorem map_of_get {α : Type} {f : α → V} {L : List α} {i : Nat} {v : V} (h : (L.map f)[i]? = some v) : ∃ x, L[i]? = some x ∧ v = f x := by
  rw [List.getElem?_map] at h
  cases e : L[i]? with
  | none => rw [e] at h; cases h
  | some x => rw [e] at h; exact ⟨x, rfl, (Option.some.inj h).symm⟩
theorem et_yes {σ : L2.St} {H : Hp} : EvT tYes σ H true := fun H1 _ _ q => q H1 (Ex.refl H1)
section
variable {K : PySem.W.Frag} {σ : L2.St} {H H' : Hp} {ta tb te : TE}
theorem el_catVL {a : Addr} {xs ys : List V} (ha : Ev ta σ H (.ref a)) (h : H a = some (.lst xs)) (hb : EvL tb σ H ys) (h2 : xs.length + ys.length ≤ 100000) : EvL (tOp rCat ta tb) σ H (xs ++ ys) := fun H1 e Q q =>
  ha H1 e _ fun H2 e2 => hb H2 (e.trans e2) _ fun l H3 hl e3 h4 => ⟨a, l, xs, ys, rfl, rfl, ((e.trans e2).trans e3) a _ h, h4, sz_of h2, fun r hr => q r _ (fresh_back (e2.trans e3) hr) ((e2.trans e3).trans (Ex.new hr)) upd_same⟩
theorem el_catVV {a b : Addr} {xs ys : List V} (ha : Ev ta σ H (.ref a)) (h : H a = some (.lst xs)) (hb : Ev tb σ H (.ref b)) (h' : H b = some (.lst ys)) (h2 : xs.length + ys.length ≤ 100000) : EvL (tOp rCat ta tb) σ H (xs ++ ys) := fun H1 e Q q =>
  ha H1 e _ fun H2 e2 => hb H2 (e.trans e2) _ fun H3 e3 => ⟨a, b, xs, ys, rfl, rfl, ((e.trans e2).trans e3) a _ h, ((e.trans e2).trans e3) b _ h', sz_of h2, fun r hr => q r _ (fresh_back (e2.trans e3) hr) ((e2.trans e3).trans (Ex.new hr)) upd_same⟩
theorem el_catLV {b : Addr} {xs ys : List V} (ha : EvL ta σ H xs) (hb : ∀ H1, Ex H H1 → Ev tb σ H1 (.ref b)) (h' : H b = some (.lst ys)) (h2 : xs.length + ys.length ≤ 100000) : EvL (tOp rCat ta tb) σ H (xs ++ ys) := fun H1 e Q q =>
  ha H1 e _ fun p H2 hp e2 h3 => hb H2 (e.trans e2) H2 (Ex.refl H2) _ fun H3 e3 => ⟨p, b, xs, ys, rfl, rfl, e3 p _ h3, ((e.trans e2).trans e3) b _ h', sz_of h2, fun r hr => q r _ (fresh_back (e2.trans e3) hr) ((e2.trans e3).trans (Ex.new hr)) upd_same⟩
theorem el_is {xs ys : List V} (h : EvL te σ H xs) (e : xs = ys) : EvL te σ H ys := by rw [← e]; exact h
/-- isinstance(x, int), isinstance(x, bool) of a whole number; of a list -/
theorem ev_isInt {z : Int} (h : Ev ta σ H (.int z)) : Ev (tCB (rIsi K) (tCons ta (tCons (tC (.ty "int")) tNil))) σ H (.bl true) := ev_isi h ev_c (ClsV.ty "int") (fun H1 e => .base (.int _)) (kit_ty (r := true) (by decide +kernel))
theorem ev_isBool {z : Int} (h : Ev ta σ H (.int z)) : Ev (tCB (rIsi K) (tCons ta (tCons (tC (.ty "bool")) tNil))) σ H (.bl false) := ev_isi h ev_c (ClsV.ty "bool") (fun H1 e => .base (.int _)) (kit_ty (r := false) (by decide +kernel))
theorem ev_isBoolB {b : Bool} (h : Ev ta σ H (.bl b)) : Ev (tCB (rIsi K) (tCons ta (tCons (tC (.ty "bool")) tNil))) σ H (.bl true) := ev_isi h ev_c (ClsV.ty "bool") (fun H1 e => .base (.bl _)) (kit_ty (r := true) (by decide +kernel))
theorem ev_isList {a : Addr} {xs : List V} (h : Ev ta σ H (.ref a)) (ha : H a = some (.lst xs)) : Ev (tCB (rIsi K) (tCons ta (tCons (tC (.ty "list")) tNil))) σ H (.bl true) := ev_isi h ev_c (ClsV.ty "list") (fun H1 e => .base (.lst (e _ _ ha))) (kit_ty (r := true) (by decide +kernel))
end
end Sg
set_option Elab.async false
set_option linter.all false
set_option maxRecDepth 100000
set_option maxHeartbeats 4000000
namespace Sg
open PySem PySem.Spec PyProof.Rows L2 Evl RZ
section
variable {K : PySem.W.Frag} {σ : L2.St} {H H' : Hp} {ta tb te : TE} {r : R2} {x y z : V} {R S : V → Hp → Hp → Prop}
/-- the first operand new, the second known; both new -/
theorem ev_opR1 (ha : EvR ta σ H R) (hb : ∀ H1, Ex H H1 → Ev tb σ H1 y) (hr : ∀ v H0 H1 H2, Ex H H0 → Ex H0 H1 → R v H0 H1 → Ex H1 H2 → RV r v y H2 z) : Ev (tOp r ta tb) σ H z := fun H1 e Q q =>
  ha H1 e _ fun v H2 e2 r2 => hb H2 (e.trans e2) H2 (Ex.refl H2) _ fun H3 e3 => hr v H1 H2 H3 e e2 r2 e3 H3 (Ex.refl H3) Q fun H4 e4 => q H4 ((e2.trans e3).trans e4)
theorem ev_opR2 (ha : Ev ta σ H x) (hb : EvR tb σ H S) (hr : ∀ v H0 H1, Ex H H0 → Ex H0 H1 → S v H0 H1 → RV r x v H1 z) : Ev (tOp r ta tb) σ H z := fun H1 e Q q =>
  ha H1 e _ fun H2 e2 => hb H2 (e.trans e2) _ fun v H3 e3 r3 => hr v H2 H3 (e.trans e2) e3 r3 H3 (Ex.refl H3) Q fun H4 e4 => q H4 ((e2.trans e3).trans e4)
theorem ev_opRR (ha : EvR ta σ H R) (hb : ∀ H1, Ex H H1 → EvR tb σ H1 S) (hr : ∀ v u H0 H1 H2 H3, Ex H H0 → Ex H0 H1 → R v H0 H1 → Ex H1 H2 → Ex H2 H3 → S u H2 H3 → RV r v u H3 z) : Ev (tOp r ta tb) σ H z := fun H1 e Q q =>
  ha H1 e _ fun v H2 e2 r2 => hb H2 (e.trans e2) H2 (Ex.refl H2) _ fun u H3 e3 r3 => hr v u H1 H2 H2 H3 e e2 r2 (Ex.refl H2) e3 r3 H3 (Ex.refl H3) Q fun H4 e4 => q H4 ((e2.trans e3).trans e4)
theorem EvL.new {xs : List V} (h : EvL te σ H xs) : EvR te σ H (fun v H0 H1 => ∃ p, v = .ref p ∧ H0 p = none ∧ H1 p = some (.lst xs)) := fun H1 e Q q => h H1 e Q fun p H2 hp e2 h2 => q _ H2 e2 ⟨p, rfl, hp, h2⟩
/-- lists of numbers held against one another -/
theorem rv_neN {a b : Addr} {l : List Nat} (ha : H a = some (.lst (nl l))) (hb : H b = some (.lst (nl l))) : RV (rNeD K) (.ref a) (.ref b) H (.bl false) := rv_neSame (d := rowD l) (fun H1 e => dp_row (sq_of (e _ _ ha))) (fun H1 e => dp_row (sq_of (e _ _ hb))) (row_shaped l)
theorem rv_eqN {a b : Addr} {l : List Nat} (ha : H a = some (.lst (nl l))) (hb : H b = some (.lst (nl l))) : RV (rEqD K) (.ref a) (.ref b) H (.bl true) := rv_eqSame (d := rowD l) (fun H1 e => dp_row (sq_of (e _ _ ha))) (fun H1 e => dp_row (sq_of (e _ _ hb))) (row_shaped l)
theorem rv_neW {a b : Addr} {ps qs : List Addr} {w : List (List Nat)} (ha : WebAt H a ps w) (hb : WebAt H b qs w) : RV (rNeD K) (.ref a) (.ref b) H (.bl false) := rv_neSame (d := webD w) (fun H1 e => (ha.mono e).dp) (fun H1 e => (hb.mono e).dp) (web_shaped w)
theorem rv_eqW {a b : Addr} {ps qs : List Addr} {w : List (List Nat)} (ha : WebAt H a ps w) (hb : WebAt H b qs w) : RV (rEqD K) (.ref a) (.ref b) H (.bl true) := rv_eqSame (d := webD w) (fun H1 e => (ha.mono e).dp) (fun H1 e => (hb.mono e).dp) (web_shaped w)
end
/-! ### a spot's moves are taken away -/
theorem row_set {w : List (List Nat)} {i x : Nat} {r : List Nat} : row (w.set i r) x = if i = x ∧ i < w.length then r else row w x := by
  unfold row
  rw [List.getD_eq_getElem?_getD, List.getD_eq_getElem?_getD]
  by_cases e : i = x
  · subst e
    by_cases h : i < w.length
    · rw [List.getElem?_set_self h, if_pos ⟨rfl, h⟩]; rfl
    · rw [if_neg (fun z => h z.2), List.getElem?_eq_none (by rw [List.length_set]; omega), List.getElem?_eq_none (by omega)]
  · rw [List.getElem?_set_ne e, if_neg (fun z => e z.1)]
theorem GoodWeb.clear {w : List (List Nat)} (g : GoodWeb w) (i : Nat) : GoodWeb (w.set i []) := by
  have key : ∀ (j : Nat) (r : List Nat), (w.set i [])[j]? = some r → r = [] ∨ w[j]? = some r := fun j r h => by
    by_cases e : i = j
    · subst e
      have hl : i < w.length := by have := (List.getElem?_eq_some_iff.mp h).1; rwa [List.length_set] at this
      rw [List.getElem?_set_self hl] at h
      cases h; exact .inl rfl
    · rw [List.getElem?_set_ne e] at h; exact .inr h
  refine ⟨by rw [List.length_set]; exact g.pos, fun j r h => ?_, fun j r h x hx => ?_⟩
  · rcases key j r h with z | z
    · rw [z]; exact List.nodup_nil
    · exact g.nd j r z
  · rw [List.length_set]
    rcases key j r h with z | z
    · rw [z] at hx; exact absurd hx (by simp)
    · exact g.lt j r z x hx
theorem Acyc.clear {w : List (List Nat)} (ac : Acyc w) (i : Nat) : Acyc (w.set i []) := by
  obtain ⟨rank, r1, r2⟩ := ac
  refine ⟨rank, fun j hj => by rw [List.length_set] at hj ⊢; exact r1 j hj, fun j r x h hx => ?_⟩
  by_cases e : i = j
  · subst e
    have hl : i < w.length := by have := (List.getElem?_eq_some_iff.mp h).1; rwa [List.length_set] at this
    rw [List.getElem?_set_self hl] at h
    cases h; exact absurd hx (by simp)
  · rw [List.getElem?_set_ne e] at h
    exact r2 j r x h hx
theorem given_bl (l : List Nat) (g : Nat → Bool) (n : Nat) : given n (fun _ => true) (fun i => .bl (g i)) = bll ((List.range n).map g) := by
  rw [given_all]
  show _ = List.map _ _
  rw [List.map_map]; rfl
end Sg
set_option Elab.async false
set_option linter.all false
set_option maxRecDepth 100000
set_option maxHeartbeats 4000000
namespace Sg
open PySem PySem.Spec PyProof.Rows L2 Evl RZ
theorem u1 {A : Around} (h : A.units + 64 < cLine) : A.units + 1 < cLine := by omega
/-! ### a dict of numbers, made by a comprehension -/
structure Shown (kf : Nat → Int) (vf : Nat → V) (n : Nat) (kvs : List (Key × V)) : Prop where
  len : kvs.length ≤ n
  has : ∀ i, i < n → ∃ v, valV kvs (.inl (kf i)) = some v
  is : ∀ k v, valV kvs (.inl k) = some v → ∃ i, i < n ∧ kf i = k ∧ vf i = v
theorem put_len (kvs : List (Key × V)) (k : Key) (v : V) : (putK kvs k v).length ≤ kvs.length + 1 := by
  unfold putK
  split
  · rw [List.length_map]; omega
  · rw [List.length_append]; simp
theorem Shown.put {kf : Nat → Int} {vf : Nat → V} {n : Nat} {kvs : List (Key × V)} (h : Shown kf vf n kvs) : Shown kf vf (n + 1) (putK kvs (.inl (kf n)) (vf n)) := by
  refine ⟨Nat.le_trans (put_len _ _ _) (Nat.succ_le_succ h.len), fun i hi => ?_, fun k v hv => ?_⟩
  · rw [valV_put]
    by_cases e : (Sum.inl (kf i) : Key) = Sum.inl (kf n)
    · exact ⟨_, if_pos e⟩
    · rw [if_neg e]
      have : i ≠ n := fun z => e (by rw [z])
      exact h.has i (by omega)
  · rw [valV_put] at hv
    by_cases e : (Sum.inl k : Key) = Sum.inl (kf n)
    · rw [if_pos e] at hv
      exact ⟨n, Nat.lt_succ_self n, (Sum.inl.inj e).symm, Option.some.inj hv⟩
    · rw [if_neg e] at hv
      obtain ⟨i, hi, h1, h2⟩ := h.is k v hv
      exact ⟨i, by omega, h1, h2⟩
section
variable {K : PySem.W.Frag} {σ : L2.St} {H H' : Hp} {ta tb te tk tv tl : TE}
/-- {key: value for x in a known list} -/
theorem er_dcL {a : Addr} {ys : List V} {j : Nat} {vs : List Nat} (kf : Nat → Int) (vf : Nat → V) (h : Ev tl σ H (.ref a)) (hx : SqL K H a ys) (hz : ys.length ≤ 40000) (hw : ∀ x, wipe ((wipe σ vs).set j (some x)) vs = wipe σ vs)
    (hk : ∀ (i : Nat) (x : V) H1, Ex H H1 → ys[i]? = some x → Ev tk ((wipe σ vs).set j (some x)) H1 (.int (kf i))) (hv : ∀ (i : Nat) (x : V) H1, Ex H H1 → ys[i]? = some x → Ev tv ((wipe σ vs).set j (some x)) H1 (vf i)) :
    EvR (tDc (iList K tl) (gName j) tYes tk tv vs) σ H (fun v H0 H1 => ∃ D kvs, v = .ref D ∧ H0 D = none ∧ H1 D = some (.dK kvs) ∧ Shown kf vf ys.length kvs) := fun H0 e Q q => h H0 e _ fun H1 e1 => ⟨a, rfl, ⟨ys, ex_l (e.trans e1) hx⟩, fun Dl hD => by
  let I : Nat → Hp → Prop := fun i G => Ex H1 G ∧ ∃ kvs, G Dl = some (.dK kvs) ∧ Shown kf vf i kvs
  have at_ : ∀ i G, I i G → SqL K G a ys := fun i G p => ex_l ((e.trans e1).trans p.1) hx
  refine ⟨fun i m G => m + i = ys.length ∧ I i G, ⟨ys.length, rfl, Ex.new hD, [], upd_same, ⟨Nat.zero_le _, fun i hi => absurd hi (by omega), fun k v hv => by cases hv⟩⟩, fun i m G hW => ?_⟩
  obtain ⟨hm, p⟩ := hW
  cases m with
  | zero =>
    have ei : i = ys.length := by omega
    subst ei
    obtain ⟨ex, kvs, hk1, sh⟩ := p
    exact .inl ⟨⟨ys, ex_l ((e.trans e1).trans ex) hx, Nat.le_refl _⟩, q _ G (e1.trans ex) ⟨Dl, kvs, rfl, fresh_back e1 hD, hk1, sh⟩⟩
  | succ m =>
    have il : i < ys.length := by omega
    have sq := at_ i G p
    refine .inr ⟨⟨ys, ys[i], sq, List.getElem?_eq_getElem il⟩, I (i + 1), fun G' p' => ⟨m, Nat.lt_succ_self m, by omega, p'⟩, fun x G' hy => ?_⟩
    obtain ⟨rfl, hy⟩ := hy
    have hxi := hy ys sq
    obtain ⟨ex, kvs, hk1, sh⟩ := p
    refine ⟨hw x, ?_⟩
    show tk _ _ _
    refine hk i x H1 (e.trans e1) hxi G' ex _ fun G2 a2 => hv i x H1 (e.trans e1) hxi G2 (ex.trans a2) _ fun G3 a3 => ?_
    have hk3 := a3 _ _ (a2 _ _ hk1)
    exact ⟨kvs, .inl (kf i), rfl, hk3, sz_lt (by have := sh.len; omega), ((ex.trans a2).trans a3).mut hD, _, upd_same, sh.put⟩⟩
theorem ev_dget {a : Addr} {kvs : List (Key × V)} {k : Int} {v : V} (ha : Ev ta σ H (.ref a)) (hb : Ev tb σ H (.int k)) (h : H a = some (.dK kvs)) (hv : valV kvs (.inl k) = some v) : Ev (tDGet ta tb) σ H v := fun H1 e Q q =>
  ha H1 e _ fun H2 e2 => hb H2 (e.trans e2) _ fun H3 e3 => ⟨a, v, rfl, by
    have := DGet.k (k := .inl k) (((e.trans e2).trans e3) _ _ h)
    rw [hv] at this
    exact this, q H3 (e2.trans e3)⟩
end
end Sg
set_option Elab.async false
set_option linter.all false
set_option maxRecDepth 100000
set_option maxHeartbeats 4000000
namespace Sg
open PySem PySem.Spec PyProof.Rows L2 Evl RZ
section
variable {K : PySem.W.Frag} {σ : L2.St} {H H' : Hp} {ta tb te : TE} {tr : TA} {z x : V} {R S : V → Hp → Hp → Prop}
def rMin2 : List V → Hp → VK → Prop := fun xs H Q => ∃ i j, xs = [.int i, .int j] ∧ Q (.int (if j < i then j else i)) H
theorem ev_min2 {i j : Int} (ha : Ev ta σ H (.int i)) (hb : Ev tb σ H (.int j)) : Ev (tCB rMin2 (tCons ta (tCons tb tNil))) σ H (.int (if j < i then j else i)) := fun H1 e Q q =>
  ha H1 e _ fun H2 e2 => hb H2 (e.trans e2) _ fun H3 e3 => ⟨i, j, rfl, q H3 (e2.trans e3)⟩
/-- a call whose first argument is made on the way -/
theorem ev_callR {sp : Sp} {dvs vs : List V} {E : XK} (h : EvR te σ H R) (hr : ∀ H1, Ex H H1 → EvA tr σ H1 vs) (hs : ∀ v H0 H1 H2, Ex H H0 → Ex H0 H1 → R v H0 H1 → Ex H1 H2 → SpV sp (v :: (vs ++ dvs)) H2 z) : Ev (tCall sp dvs E (tCons te tr)) σ H z := fun H1 e Q q =>
  h H1 e _ fun v H2 e2 r2 => hr H2 (e.trans e2) H2 (Ex.refl H2) _ fun H3 e3 => hs v H1 H2 H3 e e2 r2 e3 H3 (Ex.refl H3) Q (fun H4 e4 => q H4 ((e2.trans e3).trans e4)) E
/-- the second is made on the way -/
theorem ev_callR2 {sp : Sp} {dvs vs : List V} {E : XK} (h1 : Ev ta σ H x) (h : EvR te σ H R) (hr : ∀ H1, Ex H H1 → EvA tr σ H1 vs) (hs : ∀ v H0 H1 H2, Ex H H0 → Ex H0 H1 → R v H0 H1 → Ex H1 H2 → SpV sp (x :: v :: (vs ++ dvs)) H2 z) : Ev (tCall sp dvs E (tCons ta (tCons te tr))) σ H z := fun H1 e Q q =>
  h1 H1 e _ fun H2 e2 => h H2 (e.trans e2) _ fun v H3 e3 r3 => hr H3 ((e.trans e2).trans e3) H3 (Ex.refl H3) _ fun H4 e4 => hs v H2 H3 H4 (e.trans e2) e3 r3 e4 H4 (Ex.refl H4) Q (fun H5 e5 => q H5 ((e2.trans e3).trans (e4.trans e5))) E
/-- the same of a call that gives something with a property -/
theorem er_callL {sp : Sp} {dvs xs : List V} {E : XK} (h : EvL te σ H xs) (hs : ∀ p H0 H1, Ex H H0 → H0 p = none → Ex H0 H1 → H1 p = some (.lst xs) → ∀ Q : VK, (∀ v H2, Ex H1 H2 → R v H1 H2 → Q v H2) → sp (.ref p :: dvs) H1 Q E)
    (hb : ∀ v H0 H1 H2, Ex H0 H1 → R v H1 H2 → R v H0 H2) : EvR (tCall sp dvs E (tCons te tNil)) σ H R := fun H1 e Q q =>
  h H1 e _ fun p H2 hp e2 h2 => hs p H1 H2 e hp e2 h2 Q fun v H3 e3 r => q v H3 (e2.trans e3) (hb v H1 H2 H3 e2 r)
end
end Sg
set_option Elab.async false
set_option linter.all false
set_option maxRecDepth 100000
set_option maxHeartbeats 4000000
/-! own lemmas, part X: max(xs, default=d) -/
namespace Sg
open PySem PySem.Spec PyProof.Rows L2 Evl RZ
theorem maxd_args (a v : Value) : argsOk "max" ⟨[a], [(Str.ofString "default", v)]⟩ := by unfold argsOk; kernel_rfl
section
variable {prog : Program} {w : World} {A : Around} {R : Result → Shared → Prop} {I : Addr} {fp wr : List Addr} {n : Nat} {P : Nat → Value → Prop} {St : Nat → Heap → Prop}
theorem maxd_loop (W : Walks prog w A.in1 I fp wr n P St) (bt : Nat → Nat → Bool) (hcmp : CmpOf prog w A.in1 .Gt P bt) (S : Addr) (hSf : S ∉ fp) (d : Value) :
    ∀ (k j : Nat) (s : Shared) (old : Array Value) (c : Nat), n = j + k → St j s.heap → s.heap.get? S = some { cls := .type "list", dict := none, data := .seq old c, slots := #[] } →
      ((j = 0 ∧ old = #[]) ∨ (0 < j ∧ ∃ vb, old = #[vb, vb] ∧ P (argBest bt (j - 1)) vb)) →
      (∀ v h' tk, ((n = 0 ∧ v = d) ∨ (0 < n ∧ P (argBest bt (n - 1)) v)) → (∀ b o, b ∉ wr → b ≠ S → s.heap.get? b = some o → h'.get? b = some o) → R (.ok (.ret v)) { s with heap := h', toks := tk }) →
      codeAny (model prog w) A (.builtin "max.loop" ⟨[.ref I, .none, .ref S], [(Str.ofString "default", d)]⟩) R s := by
  have nw : S ∉ wr := fun z => hSf (W.sub _ z)
  have nm : (toString "max" ++ toString ".loop" : String) = "max.loop" := by decide
  intro k
  induction k with
  | zero =>
    intro j s old c hn hst hS ho hR
    have jn : j = n := by omega
    refine codeAny_builtin F.entry_max_loop ?_; rw [Around.under_plainId F.plain_max_loop _]
    show wpAny _ A.in1 (seqItems? (.ref S) >>= _) _ _ s; refine wpAny_bind (wpAny_seqItems hS rfl ?_)
    show wpAny _ A.in1 (tryCatch (pyNext (.ref I)) _ >>= _) _ _ s; refine wpAny_bind (wpAny_tryCatch (W.done s _ _ (jn ▸ hst) fun h1 tk hk1 => ?_))
    have hS1 := hk1 S _ nw hS
    rcases ho with ⟨j0, rfl⟩ | ⟨j0, vb, rfl, hP⟩
    · refine wpAny_bind (wpAny_rule (wpAny_pure (hR d h1 tk (.inl ⟨by omega, rfl⟩) fun b o hb _ e => hk1 b o hb e)))
    · show wpAny _ A.in1 (updateSeq S (fun _ => #[]) >>= _) _ _ _; refine wpAny_bind ?_
      refine wpAny_updateSeq hS1 rfl (wpAny_bind (wpAny_letGo (wpAny_pure (hR vb _ tk (.inr ⟨by omega, by rw [← jn]; exact hP⟩) fun b o hb hbS e => ?_))))
      exact (Heap.get?_update_other _ _ (Ne.symm hbS)).trans (hk1 b o hb e)
  | succ k ih =>
    intro j s old c hn hst hS ho hR
    refine codeAny_builtin F.entry_max_loop ?_; rw [Around.under_plainId F.plain_max_loop _]
    show wpAny _ A.in1 (seqItems? (.ref S) >>= _) _ _ s; refine wpAny_bind (wpAny_seqItems hS rfl ?_)
    show wpAny _ A.in1 (tryCatch (pyNext (.ref I)) _ >>= _) _ _ s; refine wpAny_bind (wpAny_tryCatch (W.item j s _ _ (by omega) hst fun v h1 tk hP1 hst1 hk1 => ?_))
    have hS1 := hk1 S _ nw hS
    rcases ho with ⟨j0, rfl⟩ | ⟨j0, vb, rfl, hP⟩
    · subst j0
      show wpAny _ A.in1 (updateSeq S (fun _ => #[v, v]) >>= _) _ _ _; refine wpAny_bind ?_; refine wpAny_updateSeq hS1 rfl ?_; rw [nm]
      refine wpAny_pure ⟨plainId_quiet F.plain_max_loop _, ih 1 _ #[v, v] _ (by omega) (W.frame _ _ _ hst1 fun b hb o e => ?_) (Heap.get?_update_self _ hS1 rfl) (.inr ⟨by omega, v, rfl, hP1⟩) fun v2 h2 tk2 hv2 hk2 => ?_⟩
      · exact (Heap.get?_update_other _ _ (fun z : S = b => hSf (by rw [z]; exact hb))).trans e
      · exact hR v2 h2 tk2 hv2 fun b o hb hbS e => hk2 b o hb hbS ((Heap.get?_update_other _ _ (Ne.symm hbS)).trans (hk1 b o hb e))
    · show wpAny _ A.in1 (tryCatch (holding [v, v] (richCompare .Gt v vb >>= _)) _ >>= _) _ _ _; refine wpAny_bind (wpAny_tryCatch (wpAny_holding (wpAny_bind (hcmp j (argBest bt (j - 1)) v vb _ _ _ hP1 hP ?_))))
      refine wpAny_bind (wpAny_holding (wpAny_truthy_bool (wpAny_bind (wpAny_letGo (wpAny_pure ?_)))))
      have aj : argBest bt j = if bt j (argBest bt (j - 1)) then j else argBest bt (j - 1) := by
        obtain ⟨i, rfl⟩ : ∃ i, j = i + 1 := ⟨j - 1, by omega⟩
        rfl
      cases hb : bt j (argBest bt (j - 1)) with
      | true =>
        rw [hb] at aj; simp only [if_true] at aj ⊢
        refine wpAny_bind ?_; refine wpAny_updateSeq hS1 rfl (wpAny_bind (wpAny_letGo ?_)); rw [nm]
        refine wpAny_pure ⟨plainId_quiet F.plain_max_loop _, ih (j + 1) _ #[v, v] _ (by omega) (W.frame _ _ _ hst1 fun b hb o e => ?_) (Heap.get?_update_self _ hS1 rfl) (.inr ⟨by omega, v, rfl, by show P (argBest bt j) v; rw [aj]; exact hP1⟩) fun v2 h2 tk2 hv2 hk2 => ?_⟩
        · exact (Heap.get?_update_other _ _ (fun z : S = b => hSf (by rw [z]; exact hb))).trans e
        · exact hR v2 h2 tk2 hv2 fun b o hb hbS e => hk2 b o hb hbS ((Heap.get?_update_other _ _ (Ne.symm hbS)).trans (hk1 b o hb e))
      | false =>
        rw [hb] at aj; simp only [Bool.false_eq_true, if_false] at aj ⊢
        refine wpAny_bind (wpAny_letGo ?_); rw [nm]
        refine wpAny_pure ⟨plainId_quiet F.plain_max_loop _, ih (j + 1) _ #[vb, vb] c (by omega) hst1 hS1 (.inr ⟨by omega, vb, rfl, by show P (argBest bt j) vb; rw [aj]; exact hP⟩) fun v2 h2 tk2 hv2 hk2 => ?_⟩
        exact hR v2 h2 tk2 hv2 fun b o hb hbS e => hk2 b o hb hbS (hk1 b o hb e)
end
section
variable {prog : Program} {w : World} {A : Around} {E : Value → Shared → Prop} {s : Shared}
theorem maxd_call {l : Addr} {vs : List Value} {d : Value} {ns : List Int} {Q : Value → Shared → Prop} (hh : A.handled = none) (hl : s.heap.IsList l vs.toArray) (hi : IntsAre vs ns)
    (h : ∀ v h' tk, ((ns = [] ∧ v = d) ∨ ∃ M t, v = .int M t ∧ M ∈ ns ∧ ∀ a ∈ ns, a ≤ M) → (∀ b o, s.heap.get? b = some o → h'.get? b = some o) → Q v { s with heap := h', toks := tk }) :
    wpAny (model prog w) A (call (.builtin "max") [.ref l] [(Str.ofString "default", d)]) Q E s := by
  have nm : (toString "max" ++ toString ".loop" : String) = "max.loop" := by decide
  obtain ⟨zs, e⟩ := hi.allInts.items
  have hn : numsOf (intItems zs).toList = ns := by rw [← e]; exact hi.numsOf
  rw [nums_intItems] at hn
  subst hn
  rw [e] at hl
  refine kmk_tree F.kind_max F.plain_max F.entry_max (maxd_args _ _) ?_
  show wpAny _ A.in1 (Builtin.Builtins.bindParams "max" ["key", "default"] 0 ⟨[], [(Str.ofString "default", d)]⟩ >>= _) _ _ s; refine wpAny_bind (wpAny_of_eq (show Builtin.Builtins.bindParams "max" ["key", "default"] 0 ⟨[], [(Str.ofString "default", d)]⟩ = pure [none, some d] from rfl) ?_)
  refine wpAny_bind (wpAny_pure (wpAny_bind (iter_anyList hl fun s₂ e2 st hfp hlI => ?_)))
  subst e2
  refine wpAny_bind (wpAny_newObj_type ?_)
  rw [nm]
  have W := Walks.list (prog := prog) (w := w) (A := A.in1) hh s.heap.objs.size l hlI (intItems zs)
  have fr : (s.heap.push { cls := .type "list_iterator", data := .fields #[.ref l, .int 0 0] }).objs.size ∉ [s.heap.objs.size, l] := fun hm => Nat.lt_irrefl _ (hfp _ hm)
  refine wpAny_pure ⟨plainId_quiet F.plain_max_loop _, maxd_loop W _ (CmpOf.ints_gt (numAt zs) (fun _ _ => intItems_at)) _ fr d (intItems zs).size 0 _ #[] _ (by omega) (W.frame _ _ _ st fun b _ o e => Heap.get?_push_of_some _ e) (Heap.get?_push_size _ rfl) (.inl ⟨rfl, rfl⟩) fun v h' tk hv hk => ?_⟩
  have keep : ∀ b o, s.heap.get? b = some o → h'.get? b = some o := fun b o e => by
    have lt := Heap.lt_size e
    have e1 : (s.heap.push { cls := .type "list_iterator", data := .fields #[.ref l, .int 0 0] }).get? b = some o := Heap.get?_push_of_some _ e
    exact hk b o (fun hm => Nat.ne_of_lt lt (List.mem_singleton.mp hm)) (Nat.ne_of_lt (Heap.lt_size e1)) (Heap.get?_push_of_some _ e1)
  refine h v h' tk ?_ keep
  rcases hv with ⟨h0, rfl⟩ | ⟨h0, hP⟩
  · refine .inl ⟨?_, rfl⟩
    have : zs.toList.length = 0 := by simpa [intItems] using h0
    rw [List.eq_nil_of_length_eq_zero this]; rfl
  · refine .inr ?_
    obtain ⟨t, rfl⟩ := intItems_at hP
    have hz : 0 < zs.size := by simpa [intItems] using h0
    have es : (intItems zs).size = zs.size := by simp [intItems]
    obtain ⟨h1, h2⟩ := argBest_gt (numAt zs) (zs.size - 1)
    refine ⟨_, t, rfl, ?_, fun a ha => ?_⟩
    · rw [es, numAt_eq]; exact PySem.getD_mem (by rw [List.length_map, Array.length_toList]; omega)
    · obtain ⟨j, hj, rfl⟩ := mem_getD ha
      rw [List.length_map, Array.length_toList] at hj
      rw [← numAt_eq, es]; exact h2 j (by omega)
end
def rMaxd (K : PySem.W.Frag) : List V → List V → Hp → VK → Prop := fun vs zs H Q => ∃ (a : Addr) (ns : List Nat), vs = [V.ref a] ∧ zs = [.int 0] ∧ SqL K H a (nl ns) ∧ Q (ni (mx ns)) H
theorem cr_maxd {X : Cx} (hc : X.calm = true) : CallRK X (.builtin "max") [Str.ofString "default"] (rMaxd X.K) := by
  intro pins s σ H vs zs us ws Q I r rz h
  obtain ⟨a, ns, rfl, rfl, hs, q⟩ := h
  obtain ⟨its, rv, hl, _⟩ := I.list hs
  rw [Vals.ref1 r]
  cases rz with
  | cons rd rt =>
    cases rt
    obtain ⟨td, rfl⟩ := rd
    rw [nl_int] at rv
    refine maxd_call (I.ok.hd hc) hl.isList rv.ints fun v h' tk hv hk => ?_
    have : ∃ t, v = .int ((mx ns : Nat) : Int) t := by
      rcases hv with ⟨h0, rfl⟩ | ⟨M, t, rfl, hm, hM⟩
      · have : ns = [] := by cases ns with | nil => rfl | cons _ _ => cases h0
        subst this
        exact ⟨td, rfl⟩
      · obtain ⟨m, hmn, rfl⟩ := List.mem_map.mp hm
        refine ⟨t, ?_⟩
        congr 1
        have := mx_eq (l := ns) (n := m) (fun x hx => Int.ofNat_le.mp (hM _ (List.mem_map.mpr ⟨x, hx, rfl⟩))) (.inr hmn)
        rw [this]
    obtain ⟨t, rfl⟩ := this
    exact ⟨ni (mx ns), H, I.kept hk, ⟨t, rfl⟩, q⟩
theorem maxdK {X : Cx} (K : PySem.W.Frag) (hc : X.calm = true) (h : X.K = K := by rfl) : CallRK X (.builtin "max") [Str.ofString "default"] (rMaxd K) := by subst h; exact cr_maxd hc
theorem ev_maxd {K : PySem.W.Frag} {σ : L2.St} {H : Hp} {ta tb : TE} {ns : List Nat} (ha : EvL ta σ H (nl ns)) (hb : ∀ H1, Ex H H1 → Ev tb σ H1 (.int 0)) : Ev (tCKw (rMaxd K) (tCons ta tNil) (tCons tb tNil)) σ H (ni (mx ns)) := fun H1 e Q q =>
  ha H1 e _ fun p H2 hp e2 h2 => hb H2 (e.trans e2) H2 (Ex.refl H2) _ fun H3 e3 => ⟨p, ns, rfl, rfl, sq_of (e3 _ _ h2), q H3 (e2.trans e3)⟩
end Sg
namespace Sg
open PySem PySem.Spec PyProof.Rows L2 Evl RZ
theorem ev_maxN {K : PySem.W.Frag} {σ : L2.St} {H : Hp} {ta : TE} {ns : List Nat} (ha : EvL ta σ H (nl ns)) (h0 : ns ≠ []) : Ev (tCB (rMax K) (tCons ta tNil)) σ H (ni (mx ns)) := fun H1 e Q q =>
  ha H1 e _ fun p H2 hp e2 h2 => ⟨p, ns.map fun n : Nat => (n : Int), rfl, by rw [← nl_int]; exact sq_of h2, by rw [List.length_map]; exact List.length_pos_iff.mpr h0, fun m hm hM => by
    obtain ⟨x, hx, rfl⟩ := List.mem_map.mp hm
    have : mx ns = x := mx_eq (fun y hy => Int.ofNat_le.mp (hM _ (List.mem_map.mpr ⟨y, hy, rfl⟩))) (.inr hx)
    rw [← this]
    exact q H2 e2⟩
theorem mx_zero (l : List Nat) : mx (0 :: l.map (1 + ·)) = mx (l.map (· + 1)) := by
  have : l.map (1 + ·) = l.map (· + 1) := List.map_congr_left fun x _ => Nat.add_comm 1 x
  rw [this]
  exact Nat.max_eq_right (Nat.zero_le _)
end Sg
set_option Elab.async false
set_option linter.all false
set_option maxRecDepth 100000
set_option maxHeartbeats 4000000
namespace Sg
open PySem PySem.Spec PyProof.Rows L2 Evl RZ
theorem mexx (l : List Nat) : ∃ n, IsMex l n := by
  have key : ∀ f k, (∀ j, j < k → j ∈ l) → l.length ≤ k + f → ∃ n, IsMex l n := by
    intro f
    induction f with
    | zero =>
      intro k h hl
      by_cases hk : k ∈ l
      · have := nd_len (l := List.range (k + 1)) (l' := l) List.nodup_range fun x hx => by
          have hx' := List.mem_range.mp hx
          by_cases e : x = k
          · rw [e]; exact hk
          · exact h x (by omega)
        rw [List.length_range] at this
        omega
      · exact ⟨k, hk, h⟩
    | succ f ih =>
      intro k h hl
      by_cases hk : k ∈ l
      · exact ih (k + 1) (fun j hj => by
          by_cases e : j = k
          · rw [e]; exact hk
          · exact h j (by omega)) (by omega)
      · exact ⟨k, hk, h⟩
  exact key l.length 0 (fun j hj => absurd hj (by omega)) (by omega)
theorem gx_tab {n i : Nat} (G : Nat → Nat) (h : i < n) : gx ((List.range n).map G) i = G i := gx_of (by rw [List.getElem?_map, List.getElem?_range h]; rfl)
/-- told by a function of the spot -/
theorem Sol.tab {R : List Nat → Nat → Prop} {w : List (List Nat)} (gw : GoodWeb w) (G : Nat → Nat) (h : ∀ i, i < w.length → R ((row w i).map G) (G i)) : Sol R w ((List.range w.length).map G) := by
  refine ⟨by rw [List.length_map, List.length_range], fun i hi => ?_⟩
  have : ahead w ((List.range w.length).map G) i = (row w i).map G := List.map_congr_left fun m hm => gx_tab G (gw.rlt hm)
  rw [this, gx_tab G hi]
  exact h i hi
theorem Nums.ex {w : List (List Nat)} (gw : GoodWeb w) (ac : Acyc w) : ∃ g, Nums w g := by
  obtain ⟨rank, r1, r2⟩ := ac
  have key : ∀ n, ∃ G : Nat → Nat, ∀ i, i < w.length → rank i < n → IsMex ((row w i).map G) (G i) := by
    intro n
    induction n with
    | zero => exact ⟨fun _ => 0, fun i _ h => absurd h (by omega)⟩
    | succ n ih =>
      obtain ⟨G, hG⟩ := ih
      refine ⟨fun i => if rank i = n then (mexx ((row w i).map G)).choose else G i, fun i hi hr => ?_⟩
      have e : (row w i).map (fun i => if rank i = n then (mexx ((row w i).map G)).choose else G i) = (row w i).map G := List.map_congr_left fun m hm => by
        have := r2 i _ m (row_at hi) hm
        show (if rank m = n then _ else _) = _
        rw [if_neg (by omega)]
      rw [e]
      show IsMex _ (if rank i = n then _ else _)
      by_cases h : rank i = n
      · rw [if_pos h]; exact (mexx ((row w i).map G)).choose_spec
      · rw [if_neg h]; exact hG i hi (by omega)
  obtain ⟨G, hG⟩ := key w.length
  exact ⟨_, Sol.tab gw G fun i hi => hG i hi (r1 i hi)⟩
theorem given_nlf (L : List Nat) (q : Nat → Bool) (f : Nat → Nat) : given L.length (fun i => q (L.getD i 0)) (fun i => ni (f (L.getD i 0))) = nl ((L.filter q).map f) := by
  have h := given_filter L q
  unfold given at h ⊢
  have e : (fun i => ni (f (L.getD i 0))) = (fun v : V => match v with | .int z => ni (f z.toNat) | v => v) ∘ (fun i => ni (L.getD i 0)) := by
    funext i
    show _ = ni (f (Int.toNat ((L.getD i 0 : Nat) : Int)))
    rw [Int.toNat_natCast]
  rw [e, ← List.map_map, h]
  show List.map _ (List.map _ _) = List.map _ (List.map _ _)
  rw [List.map_map, List.map_map]
  refine List.map_congr_left fun n _ => ?_
  show ni (f (Int.toNat ((n : Nat) : Int))) = _
  rw [Int.toNat_natCast]
  rfl
theorem rn_lt {w : List (List Nat)} {g : List Nat} (gw : GoodWeb w) (nu : Nums w g) (hl : w.length ≤ 200) (r : List Nat) : ∀ x ∈ r.map (gx g), x < 2 ^ 8000 := fun x hx => by
  obtain ⟨s, _, rfl⟩ := List.mem_map.mp hx
  have := nu.le gw s
  exact Nat.lt_of_le_of_lt (Nat.le_trans this hl) (by decide +kernel)
/-- two operands of one kind, by their values -/
theorem dec_bl {a b : Bool} : decide (V.bl a = V.bl b) = (a == b) := by cases a <;> cases b <;> rfl
end Sg
set_option Elab.async false
set_option linter.all false
set_option maxRecDepth 100000
set_option maxHeartbeats 4000000
namespace Sg
open PySem PySem.Spec PyProof.Rows L2 Evl RZ
section
variable {K : PySem.W.Frag} {σ : L2.St} {H H' : Hp} {ta tb te : TE} {tr : TA} {D : Ends} {tz : TS} {x y z v : V} {R : V → Hp → Hp → Prop} {S : List V → Hp → Hp → Prop}
/-- x, y = a, b -/
theorem s_asgT2 {i j : Nat} (h : EvU te σ H [x, y]) (k : ∀ H1, Ex H H1 → D.nx ((σ.set i (some x)).set j (some y)) H1) : tAsg te (gTup K 2 (gCons (gName i) (gCons (gName j) gNil))) D σ H :=
  h H (Ex.refl H) _ fun p H1 hp e h1 => ⟨p, [x, y], rfl, st_of h1, rfl, x, [y], rfl, y, [], rfl, rfl, k H1 e⟩
theorem q_asgT2 {i j : Nat} (h : EvU te σ H [x, y]) (k : ∀ H1, Ex H H1 → tz D ((σ.set i (some x)).set j (some y)) H1) : tSeq (tAsg te (gTup K 2 (gCons (gName i) (gCons (gName j) gNil)))) tz D σ H := s_asgT2 (D := { D with nx := tz D }) h k
theorem s_par {i j : Nat} (h : EvA tr σ H [x, y]) (k : ∀ H1, Ex H H1 → D.nx ((σ.set i (some x)).set j (some y)) H1) : tPar i j tr D σ H := h H (Ex.refl H) _ fun H1 e => ⟨x, y, rfl, k H1 e⟩
theorem q_par {i j : Nat} (h : EvA tr σ H [x, y]) (k : ∀ H1, Ex H H1 → tz D ((σ.set i (some x)).set j (some y)) H1) : tSeq (tPar i j tr) tz D σ H := s_par (D := { D with nx := tz D }) h k
def EvAR (ta : TA) (σ : L2.St) (H : Hp) (S : List V → Hp → Hp → Prop) : Prop := ∀ H1, Ex H H1 → ∀ Q : List V → Hp → Prop, (∀ vs H2, Ex H1 H2 → S vs H1 H2 → Q vs H2) → ta σ H1 Q
theorem ear_nil : EvAR tNil σ H (fun vs _ _ => vs = []) := fun H1 e Q q => q [] H1 (Ex.refl H1) rfl
theorem ear_cons (h : EvR te σ H R) (hr : ∀ H1, Ex H H1 → EvAR tr σ H1 S) : EvAR (tCons te tr) σ H (fun vs H0 H2 => ∃ v r H1, vs = v :: r ∧ Ex H0 H1 ∧ R v H0 H1 ∧ Ex H1 H2 ∧ S r H1 H2) := fun H1 e Q q =>
  h H1 e _ fun v H2 e2 r2 => hr H2 (e.trans e2) H2 (Ex.refl H2) _ fun vs H3 e3 s3 => q (v :: vs) H3 (e2.trans e3) ⟨v, vs, H2, rfl, e2, r2, e3, s3⟩
theorem er_lst (h : EvAR tr σ H S) (hl : ∀ vs H0 H1, S vs H0 H1 → vs.length ≤ 100000) : EvR (tLst tr) σ H (fun v H0 H2 => ∃ p vs H1, v = .ref p ∧ Ex H0 H1 ∧ S vs H0 H1 ∧ H1 p = none ∧ Ex H1 H2 ∧ H2 p = some (.lst vs)) := fun H1 e Q q =>
  h H1 e _ fun vs H2 e2 s2 => ⟨sz_of (hl vs H1 H2 s2), fun p hp => q _ _ (e2.trans (Ex.new hp)) ⟨p, vs, H2, rfl, e2, s2, hp, Ex.new hp, upd_same⟩⟩
theorem er_of (h : Ev te σ H v) : EvR te σ H (fun u _ _ => u = v) := fun H1 e Q q => h H1 e Q fun H2 e2 => q v H2 e2 rfl
end
/-! ### a list of lists -/
theorem trip_shaped (w : List (List Nat)) (r s : List Nat) : SeqAt.shaped (.list [webD w, rowD r, rowD s]) = true := by
  unfold SeqAt.shaped
  rw [PyData.canLay0, canLayAll_of _ (fun d hd => by
    simp only [List.mem_cons, List.not_mem_nil, or_false] at hd
    rcases hd with rfl | rfl | rfl
    · exact web_lay w
    · exact row_lay r
    · exact row_lay s)]
  have : (PyData.list [webD w, rowD r, rowD s]).depth ≤ 4 := by
    rw [PyData.depth]
    have wd : (webD w).depth ≤ 3 := by
      unfold webD
      rw [PyData.depth]
      have : PyData.depthAll (w.map rowD) ≤ 2 := depthAll_le 2 _ fun d hd => by
        obtain ⟨n, _, rfl⟩ := List.mem_map.mp hd
        exact row_depth n
      omega
    have := depthAll_le 3 [webD w, rowD r, rowD s] fun d hd => by
      simp only [List.mem_cons, List.not_mem_nil, or_false] at hd
      rcases hd with rfl | rfl | rfl
      · exact wd
      · have := row_depth r; omega
      · have := row_depth s; omega
    omega
  rw [decide_eq_true (by omega)]
  rfl
theorem pair_shaped (w : List (List Nat)) (r : List Nat) : SeqAt.shaped (.list [webD w, rowD r]) = true := by
  unfold SeqAt.shaped
  rw [PyData.canLay0, canLayAll_of _ (fun d hd => by
    simp only [List.mem_cons, List.not_mem_nil, or_false] at hd
    rcases hd with rfl | rfl
    · exact web_lay w
    · exact row_lay r)]
  have : (PyData.list [webD w, rowD r]).depth ≤ 4 := by
    rw [PyData.depth]
    have wd : (webD w).depth ≤ 3 := by
      unfold webD
      rw [PyData.depth]
      have : PyData.depthAll (w.map rowD) ≤ 2 := depthAll_le 2 _ fun d hd => by
        obtain ⟨n, _, rfl⟩ := List.mem_map.mp hd
        exact row_depth n
      omega
    have := depthAll_le 3 [webD w, rowD r] fun d hd => by
      simp only [List.mem_cons, List.not_mem_nil, or_false] at hd
      rcases hd with rfl | rfl
      · exact wd
      · have := row_depth r; omega
    omega
  rw [decide_eq_true (by omega)]
  rfl
theorem dp_trip {K : PySem.W.Frag} {H : Hp} {l a p q : Addr} {ps : List Addr} {w : List (List Nat)} {r s : List Nat} (hl : H l = some (.lst [.ref a, .ref p, .ref q])) (hw : WebAt H a ps w) (hp : H p = some (.lst (nl r))) (hq : H q = some (.lst (nl s))) : Dp K H (.ref l) (.list [webD w, rowD r, rowD s]) :=
  .lst (sq_of hl) (.cons hw.dp (.cons (dp_row (sq_of hp)) (.cons (dp_row (sq_of hq)) .nil)))
theorem dp_pair {K : PySem.W.Frag} {H : Hp} {l a p : Addr} {ps : List Addr} {w : List (List Nat)} {r : List Nat} (hl : H l = some (.lst [.ref a, .ref p])) (hw : WebAt H a ps w) (hp : H p = some (.lst (nl r))) : Dp K H (.ref l) (.list [webD w, rowD r]) :=
  .lst (sq_of hl) (.cons hw.dp (.cons (dp_row (sq_of hp)) .nil))
end Sg
set_option Elab.async false
set_option linter.all false
set_option maxRecDepth 100000
set_option maxHeartbeats 4000000
namespace Sg
open PySem PySem.Spec PyProof.Rows L2 Evl RZ
theorem cut_mid {α : Type} (f : α → V) (L : List α) (a b : Nat) : ∃ M : List α, cutV (L.map f) (some (a : Int)) (some (b : Int)) = M.map f ∧ M.length ≤ b - a ∧ ∀ x ∈ M, x ∈ L := by
  refine ⟨(L.drop (min a L.length)).take (min b L.length - min a L.length), ?_, ?_, fun x hx => List.mem_of_mem_drop (List.mem_of_mem_take hx)⟩
  · unfold cutV
    rw [HT.sIx_nat, HT.sIx_nat, List.length_map, List.map_take, List.map_drop]
  · rw [List.length_take]; omega
/-! ### heaps -/
def heapR (ts : List Nat) (b : Nat) : List Nat := (ts.filter fun t => decide (t ≤ b)).map (b - ·)
def heapW (m : Nat) (ts : List Nat) : List (List Nat) := (List.range (m + 1)).map (heapR ts)
theorem heap_len (m : Nat) (ts : List Nat) : (heapW m ts).length = m + 1 := by unfold heapW; rw [List.length_map, List.length_range]
theorem heap_row {m b : Nat} {ts : List Nat} (h : b < m + 1) : row (heapW m ts) b = heapR ts b := row_get (by unfold heapW; rw [List.getElem?_map, List.getElem?_range h]; rfl)
theorem heap_get {m b : Nat} {ts r : List Nat} (h : (heapW m ts)[b]? = some r) : b < m + 1 ∧ r = heapR ts b := by
  have hl := (List.getElem?_eq_some_iff.mp h).1
  rw [heap_len] at hl
  have := row_get h
  rw [heap_row hl] at this
  exact ⟨hl, this.symm⟩
theorem heap_mem {ts : List Nat} {b x : Nat} : x ∈ heapR ts b ↔ ∃ t ∈ ts, t ≤ b ∧ x = b - t := by
  unfold heapR
  rw [List.mem_map]
  constructor
  · rintro ⟨t, ht, rfl⟩
    obtain ⟨h1, h2⟩ := List.mem_filter.mp ht
    exact ⟨t, h1, of_decide_eq_true h2, rfl⟩
  · rintro ⟨t, h1, h2, rfl⟩
    exact ⟨t, List.mem_filter.mpr ⟨h1, decide_eq_true h2⟩, rfl⟩
theorem heap_good {m : Nat} {ts : List Nat} (nd : ts.Nodup) : GoodWeb (heapW m ts) := by
  refine ⟨by rw [heap_len]; omega, fun i r h => ?_, fun i r h x hx => ?_⟩
  · obtain ⟨hi, rfl⟩ := heap_get h
    unfold heapR
    refine List.pairwise_map.mpr ?_
    have : (ts.filter fun t => decide (t ≤ i)).Pairwise (· ≠ ·) := List.Pairwise.filter _ nd
    refine List.Pairwise.imp_of_mem (fun {a b} ha hb hne e => ?_) this
    have h1 := of_decide_eq_true (List.mem_filter.mp ha).2
    have h2 := of_decide_eq_true (List.mem_filter.mp hb).2
    omega
  · obtain ⟨hi, rfl⟩ := heap_get h
    obtain ⟨t, _, _, rfl⟩ := heap_mem.mp hx
    rw [heap_len]; omega
theorem heap_acyc {m : Nat} {ts : List Nat} (h1 : ∀ t ∈ ts, 1 ≤ t) : Acyc (heapW m ts) := by
  refine ⟨id, fun i hi => hi, fun i r x h hx => ?_⟩
  obtain ⟨hi, rfl⟩ := heap_get h
  obtain ⟨t, ht, hb, rfl⟩ := heap_mem.mp hx
  have := h1 t ht
  show i - t < i
  omega
theorem mod_gap {b t M : Nat} (h1 : 1 ≤ t) (h2 : t < M) (h3 : t ≤ b) : (b - t) % M ≠ b % M := fun e => by
  have h := Nat.sub_mod_eq_zero_of_mod_eq e.symm
  have : b - (b - t) = t := by omega
  rw [this, Nat.mod_eq_of_lt h2] at h
  omega
theorem heap_nums {m far : Nat} {ts : List Nat} (gw : GoodWeb (heapW m ts)) (h : ∀ t, t ∈ ts ↔ 1 ≤ t ∧ t ≤ far) : Nums (heapW m ts) ((List.range (m + 1)).map fun k => k % (far + 1)) := by
  have := Sol.tab (R := IsMex) gw (fun k => k % (far + 1)) fun b hb => by
    rw [heap_len] at hb
    rw [heap_row hb]
    refine ⟨fun hm => ?_, fun k hk => ?_⟩
    · obtain ⟨x, hx, e⟩ := List.mem_map.mp hm
      obtain ⟨t, ht, htb, rfl⟩ := heap_mem.mp hx
      have := (h t).mp ht
      exact mod_gap this.1 (by omega) htb e
    · have hlt := Nat.mod_lt b (show 0 < far + 1 by omega)
      have hle := Nat.mod_le b (far + 1)
      refine List.mem_map.mpr ⟨b - (b % (far + 1) - k), heap_mem.mpr ⟨b % (far + 1) - k, (h _).mpr ⟨by omega, by omega⟩, by omega, rfl⟩, ?_⟩
      have e := Nat.div_add_mod b (far + 1)
      have : b - (b % (far + 1) - k) = (far + 1) * (b / (far + 1)) + k := by omega
      show (b - (b % (far + 1) - k)) % (far + 1) = k
      rw [this, Nat.mul_comm]
      exact Nat.mul_add_mod_of_lt (by omega)
  rw [heap_len] at this
  exact this
/-! ### each spot gets a nought behind -/
def app0 (w : List (List Nat)) (i : Nat) : List (List Nat) := (List.range w.length).map fun k => if k < i then row w k ++ [0] else row w k
theorem app0_zero (w : List (List Nat)) : app0 w 0 = w := by
  refine List.ext_getElem? fun k => ?_
  unfold app0
  by_cases h : k < w.length
  · rw [List.getElem?_map, List.getElem?_range h, row_at h]
    show some (if k < 0 then _ else _) = _
    rw [if_neg (by omega)]
  · rw [List.getElem?_eq_none (by rw [List.length_map, List.length_range]; omega), List.getElem?_eq_none (by omega)]
theorem app0_len (w : List (List Nat)) (i : Nat) : (app0 w i).length = w.length := by unfold app0; rw [List.length_map, List.length_range]
theorem app0_row {w : List (List Nat)} {i k : Nat} (h : k < w.length) : row (app0 w i) k = if k < i then row w k ++ [0] else row w k := row_get (by unfold app0; rw [List.getElem?_map, List.getElem?_range h]; rfl)
theorem app0_set {w : List (List Nat)} {i : Nat} (h : i < w.length) : (app0 w i).set i (row w i ++ [0]) = app0 w (i + 1) := by
  refine List.ext_getElem? fun k => ?_
  by_cases hk : k < w.length
  · by_cases e : i = k
    · subst e
      rw [List.getElem?_set_self (by rw [app0_len]; exact h), row_at (by rw [app0_len]; exact h), app0_row h, if_pos (Nat.lt_succ_self i)]
    · rw [List.getElem?_set_ne e, row_at (by rw [app0_len]; exact hk), row_at (by rw [app0_len]; exact hk), app0_row hk, app0_row hk]
      congr 1
      by_cases h1 : k < i
      · rw [if_pos h1, if_pos (by omega)]
      · rw [if_neg h1, if_neg (by omega)]
  · rw [List.getElem?_eq_none (by rw [List.length_set, app0_len]; omega), List.getElem?_eq_none (by rw [app0_len]; omega)]
theorem app0_all (w : List (List Nat)) : app0 w w.length = (List.range w.length).map fun k => row w k ++ [0] := by
  unfold app0
  refine List.map_congr_left fun k hk => ?_
  rw [if_pos (List.mem_range.mp hk)]
section
variable {K : PySem.W.Frag} {σ : L2.St} {H : Hp} {tl te : TE} {D : Ends} {tz : TS}
/-- for x in web: x.append(0) -/
theorem q_forApp {a : Addr} {ps : List Addr} {w : List (List Nat)} {j : Nat} (h : Ev tl σ H (.ref a)) (hw : WebAt H a ps w) (nd : ps.Nodup) (na : a ∉ ps) (hb : ∀ i, i < w.length → (row w i).length < 50000) (hj : j < σ.length)
    (k : ∀ y H', (∀ b o, b ∉ ps → H b = some o → H' b = some o) → (∀ b, b ∉ ps → H' b = none → H b = none) → WebAt H' a ps (app0 w w.length) → tz D (σ.set j y) H') :
    tSeq (tFor (iList K tl) (gName j) (tDrop (tBM K "list" rAppend (tVar j) (tCons (tC (.int 0)) tNil)))) tz D σ H := by
  refine q_forLn h hw.seq (fun i σ' H' => (∃ y, σ' = σ.set j y) ∧ (∀ b o, b ∉ ps → H b = some o → H' b = some o) ∧ WebAt H' a ps (app0 w i)) (fun H1 e1 => ⟨⟨σ.getD j none, ?_⟩, fun b o _ e => e1 b o e, by rw [app0_zero]; exact hw.mono e1⟩) (fun i σ' H' _ hI => hI.2.2.seq) (fun i x σ' H' hx hI => ?_) (fun σ' H' hI => ?_)
  · refine List.ext_getElem? fun i => ?_
    by_cases e : j = i
    · subst e
      rw [List.getElem?_set_self hj, List.getD_eq_getElem?_getD, List.getElem?_eq_getElem hj]; rfl
    · rw [List.getElem?_set_ne e]
  · obtain ⟨⟨y, rfl⟩, hk, hI⟩ := hI
    have il : i < w.length := by
      have := (List.getElem?_eq_some_iff.mp hx).1
      rw [hw.rlen] at this; exact this
    obtain ⟨p, hp, hpr, hrow⟩ := web_row (K := K) hI (i := i) (by rw [app0_len]; exact il)
    rw [hpr] at hx
    cases hx
    rw [app0_row il, if_neg (by omega)] at hrow
    have pin := List.mem_of_getElem? hp
    refine s_app hrow (ev_var (by rw [List.getElem?_set_self (by rw [List.length_set]; exact hj)])) ev_c (by rw [nl_len]; have := hb i il; omega) (fun H4 e4 => ⟨⟨some (.ref p), by rw [List.set_set]⟩, fun b o hbp e => ?_, ?_⟩)
    · rw [upd_ne (fun z => hbp (by rw [z]; exact pin))]
      exact e4 _ _ (hk b o hbp e)
    · have := (hI.mono e4).set nd na hp (row w i ++ [0])
      rw [app0_set il, nl_app] at this
      exact this
  · obtain ⟨⟨y, rfl⟩, hk, hI⟩ := hI
    rw [hw.rlen] at hI
    exact k y H' hk (fun b hbp hn => by
      cases e : H b with
      | none => rfl
      | some o => rw [hk b o hbp e] at hn; cases hn) hI
end
end Sg
set_option Elab.async false
set_option linter.all false
set_option maxRecDepth 100000
set_option maxHeartbeats 4000000
namespace Sg
open PySem PySem.Spec PyProof.Rows L2 Evl RZ
/-! ### ranks of any size -/
theorem filt_le {p q : Nat → Bool} : ∀ {l : List Nat}, (∀ x ∈ l, p x = true → q x = true) → (l.filter p).length ≤ (l.filter q).length
  | [], _ => Nat.le_refl _
  | a :: l, h => by
    have ih := filt_le (l := l) fun x hx => h x (List.mem_cons_of_mem _ hx)
    rw [List.filter_cons, List.filter_cons]
    by_cases hp : p a = true
    · rw [if_pos hp, if_pos (h a List.mem_cons_self hp), List.length_cons, List.length_cons]; omega
    · rw [if_neg hp]
      split
      · rw [List.length_cons]; omega
      · exact ih
theorem filt_lt {p q : Nat → Bool} {y : Nat} : ∀ {l : List Nat}, (∀ x ∈ l, p x = true → q x = true) → y ∈ l → p y = false → q y = true → (l.filter p).length < (l.filter q).length
  | [], _, h, _, _ => absurd h (by simp)
  | a :: l, h, hy, h1, h2 => by
    have hl : ∀ x ∈ l, p x = true → q x = true := fun x hx => h x (List.mem_cons_of_mem _ hx)
    rw [List.filter_cons, List.filter_cons]
    by_cases e : y = a
    · subst e
      rw [h1, h2, if_neg Bool.false_ne_true, if_pos rfl, List.length_cons]
      exact Nat.lt_succ_of_le (filt_le hl)
    · have ih := filt_lt (l := l) hl ((List.mem_cons.mp hy).resolve_left e) h1 h2
      by_cases hp : p a = true
      · rw [if_pos hp, if_pos (h a List.mem_cons_self hp), List.length_cons, List.length_cons]; omega
      · rw [if_neg hp]
        split
        · rw [List.length_cons]; omega
        · exact ih
theorem acyc_of {w : List (List Nat)} (gw : GoodWeb w) (rank : Nat → Nat) (h : ∀ i x, i < w.length → x ∈ row w i → rank x < rank i) : Acyc w := by
  refine ⟨fun i => ((List.range w.length).filter fun j => decide (rank j < rank i)).length, fun i hi => ?_, fun i r x hr hx => ?_⟩
  · have := filt_lt (p := fun j => decide (rank j < rank i)) (q := fun _ => true) (y := i) (l := List.range w.length) (fun _ _ _ => rfl) (List.mem_range.mpr hi) (decide_eq_false (Nat.lt_irrefl _)) rfl
    have e : ((List.range w.length).filter fun _ => true).length = w.length := by rw [List.filter_eq_self.mpr (fun _ _ => rfl), List.length_range]
    rw [e] at this
    exact this
  · have hi := (List.getElem?_eq_some_iff.mp hr).1
    have hx' : x ∈ row w i := by rw [row_get hr]; exact hx
    have hlt := h i x hi hx'
    exact filt_lt (p := fun j => decide (rank j < rank x)) (q := fun j => decide (rank j < rank i)) (y := x) (fun j _ hj => decide_eq_true (Nat.lt_trans (of_decide_eq_true hj) hlt)) (List.mem_range.mpr (gw.rlt hx')) (decide_eq_false (Nat.lt_irrefl _)) (decide_eq_true hlt)
/-! ### the first n spots of a web -/
def cutW (w : List (List Nat)) (n : Nat) : List (List Nat) := (List.range (min n w.length)).map fun i => (row w i).filter fun x => decide (x < n)
theorem cutW_len (w : List (List Nat)) (n : Nat) : (cutW w n).length = min n w.length := by unfold cutW; rw [List.length_map, List.length_range]
theorem cutW_row {w : List (List Nat)} {n i : Nat} (h : i < min n w.length) : row (cutW w n) i = (row w i).filter fun x => decide (x < n) := row_get (by unfold cutW; rw [List.getElem?_map, List.getElem?_range h]; rfl)
theorem cutW_good {w : List (List Nat)} {n : Nat} (g : GoodWeb w) (hn : 1 ≤ n) : GoodWeb (cutW w n) := by
  have hp := g.pos
  refine ⟨by rw [cutW_len]; omega, fun i r h => ?_, fun i r h x hx => ?_⟩
  · have hi := (List.getElem?_eq_some_iff.mp h).1
    rw [cutW_len] at hi
    have := row_get h
    rw [cutW_row hi] at this
    rw [← this]
    exact List.Pairwise.filter _ (g.rnd i)
  · have hi := (List.getElem?_eq_some_iff.mp h).1
    rw [cutW_len] at hi
    have := row_get h
    rw [cutW_row hi] at this
    rw [← this] at hx
    obtain ⟨h1, h2⟩ := List.mem_filter.mp hx
    have := g.rlt h1
    have := of_decide_eq_true h2
    rw [cutW_len]; omega
theorem cutW_acyc {w : List (List Nat)} {n : Nat} (g : GoodWeb w) (ac : Acyc w) (hn : 1 ≤ n) : Acyc (cutW w n) := by
  obtain ⟨rank, r1, r2⟩ := ac
  refine acyc_of (cutW_good g hn) rank fun i x hi hx => ?_
  rw [cutW_len] at hi
  rw [cutW_row hi] at hx
  exact r2 i _ x (row_at (by omega)) (List.mem_filter.mp hx).1
section
variable {K : PySem.W.Frag} {σ : L2.St} {H : Hp} {tl te tn tw ta : TE} {t : TT} {g : TG} {vs : List Nat} {R S : V → Hp → Hp → Prop}
/-- what is made on the way is walked by a comprehension -/
theorem er_lcB (h : EvR tl σ H R) (k : ∀ v H0 H1, Ex H H0 → Ex H0 H1 → R v H0 H1 → EvR (tLc (iList K (tC v)) g t te vs) σ H1 S) (hb : ∀ v H0 H1 H2, Ex H0 H1 → S v H1 H2 → S v H0 H2) : EvR (tLc (iList K tl) g t te vs) σ H S := fun H1 e Q q =>
  h H1 e _ fun v H2 e2 r => k v H1 H2 e e2 r H2 (Ex.refl H2) Q fun u H3 e3 s => q u H3 (e2.trans e3) (hb u H1 H2 H3 e2 s)
theorem er_slB {lo hi : TO} (h : EvR te σ H R) (k : ∀ v H0 H1, Ex H H0 → Ex H0 H1 → R v H0 H1 → EvR (tSl (rSlL K) (tC v) lo hi) σ H1 S) (hb : ∀ v H0 H1 H2, Ex H0 H1 → S v H1 H2 → S v H0 H2) : EvR (tSl (rSlL K) te lo hi) σ H S := fun H1 e Q q =>
  h H1 e _ fun v H2 e2 r => k v H1 H2 e e2 r H2 (Ex.refl H2) Q fun u H3 e3 s => q u H3 (e2.trans e3) (hb u H1 H2 H3 e2 s)
theorem er_weak (h : EvR te σ H R) (k : ∀ v H0 H1, Ex H H0 → Ex H0 H1 → R v H0 H1 → S v H0 H1) : EvR te σ H S := fun H1 e Q q => h H1 e Q fun v H2 e2 r => q v H2 e2 (k v H1 H2 e e2 r)
def CutAt (n : Nat) : V → Hp → Hp → Prop := fun v H0 H1 => ∃ p wa ps w, v = .ref p ∧ H1 p = some (.lst ((List.take n ps).map V.ref)) ∧ WebAt H1 wa ps w ∧ GoodWeb w ∧ Acyc w ∧ w.length ≤ 40
/-- [[x for x in row if x < n] for row in web[:n]] -/
theorem er_cut {n j : Nat} (h : EvR tw σ H (RW (fun w => GoodWeb w ∧ Acyc w ∧ w.length ≤ 40))) (h1 : 1 ≤ n) (hn : ∀ H1, Ex H H1 → Ev tn σ H1 (ni n)) (hw : ∀ x, wipe ((wipe σ vs).set j (some x)) vs = wipe σ vs)
    (he : ∀ (p : Addr) (r : List Nat) H1, Ex H H1 → H1 p = some (.lst (nl r)) → r.length ≤ 40 → EvL te ((wipe σ vs).set j (some (.ref p))) H1 (nl (r.filter fun x => decide (x < n)))) :
    EvR (tLc (iList K (tSl (rSlL K) tw tNoPart (tPart tn))) (gName j) tYes te vs) σ H (RW (fun w => GoodWeb w ∧ Acyc w ∧ w.length ≤ n)) := by
  refine er_lcB (R := CutAt n) (er_slB (S := CutAt n) h (fun v H0 H1 e0 e1 r => ?_) (fun v H0 H1 H2 e hs => hs)) (fun v H0 H1 e0 e1 r => ?_) (fun v H0 H1 H2 e hs => hs.back e)
  · obtain ⟨wa, ps, w, rfl, hw1, _, g, ac, hl⟩ := r
    refine er_weak (EvL.new (el_is (el_sl (K := K) ev_c eo_none (eo_some (hn H1 (e0.trans e1))) hw1.seq) (cut_to V.ref ps n))) fun v H2 H3 e2 e3 hs => ?_
    obtain ⟨p, rfl, _, hp⟩ := hs
    exact ⟨p, wa, ps, w, rfl, hp, hw1.mono (e2.trans e3), g, ac, hl⟩
  · obtain ⟨p, wa, ps, w, rfl, hp, hw1, g, ac, hl⟩ := r
    have lt : (ps.take n).length = min n w.length := by rw [List.length_take, hw1.len]
    refine er_weak (er_lcWL (K := K) (xs := (ps.take n).map V.ref) (fun i => nl ((row w i).filter fun x => decide (x < n))) ev_c (sq_of hp) (by rw [List.length_map, lt]; omega) hw (fun i x H4 e4 hx => ?_)) fun v H2 H3 e2 e3 hs => ?_
    · have il : i < min n w.length := by
        have := (List.getElem?_eq_some_iff.mp hx).1
        rw [List.length_map, lt] at this; exact this
      obtain ⟨q, hq, hqr, hrow⟩ := web_row (K := K) (hw1.mono e4) (i := i) (by omega)
      have : (ps.take n)[i]? = some q := by rw [List.getElem?_take_of_lt (by omega)]; exact hq
      rw [List.getElem?_map, this] at hx
      cases hx
      have rl := good_len g (row_at (show i < w.length by omega))
      exact he q _ H4 ((e0.trans e1).trans e4) hrow (by omega)
    · obtain ⟨xa, xps, xw, rfl, hx, nx, ex⟩ := RRows.web hs
      rw [List.length_map, lt] at ex
      have ex' : xw = cutW w n := ex
      exact ⟨xa, xps, xw, rfl, hx, nx, by rw [ex']; exact cutW_good g h1, by rw [ex']; exact cutW_acyc g ac h1, by rw [ex', cutW_len]; omega⟩
theorem rv_ltN {a b : Nat} : RV (rI0 fun i j => .bl (decide (i < j))) (ni a) (ni b) H (.bl (decide (a < b))) := by
  have e : (V.bl (decide ((a : Int) < (b : Int)))) = .bl (decide (a < b)) := by
    congr 1
    exact decide_eq_decide.mpr Int.ofNat_lt
  rw [← e]
  exact rv_I0
/-! ### sorted, tuple -/
theorem er_sorted {a : Addr} {l : List Nat} (h : Ev ta σ H (.ref a)) (hs : SqL K H a (nl l)) : EvR (tCB (rSortedI K) (tCons ta tNil)) σ H (RL (fun r => r.Perm l ∧ r.Pairwise (· ≤ ·))) := fun H1 e Q q =>
  h H1 e _ fun H2 e2 => ⟨a, l.map fun n : Nat => (n : Int), rfl, by rw [← nl_int]; exact ex_l (e.trans e2) hs, fun ns' p pm pw hp => by
    obtain ⟨r, hr⟩ : ∃ r : List Nat, ns' = r.map fun n : Nat => (n : Int) := by
      refine ⟨ns'.map Int.toNat, ?_⟩
      rw [List.map_map]
      conv => lhs; rw [← List.map_id ns']
      refine List.map_congr_left fun z hz => ?_
      obtain ⟨n, _, rfl⟩ := List.mem_map.mp (pm.mem_iff.mp hz)
      show (n : Int) = ((Int.toNat (n : Int) : Nat) : Int)
      rw [Int.toNat_natCast]
    subst hr
    rw [← nl_int]
    refine q _ _ (e2.trans (Ex.new hp)) ⟨p, r, rfl, fresh_back e2 hp, upd_same, ?_, ?_⟩
    · have h2 := pm.map Int.toNat
      rw [List.map_map, List.map_map] at h2
      have e : ∀ L : List Nat, L.map (Int.toNat ∘ fun n : Nat => (n : Int)) = L := fun L => by
        conv => rhs; rw [← List.map_id L]
        exact List.map_congr_left fun n _ => Int.toNat_natCast n
      rw [e, e] at h2
      exact h2
    · exact (List.pairwise_map.mp pw).imp fun h => Int.ofNat_le.mp h⟩
def rTupOf (K : PySem.W.Frag) : List V → Hp → VK → Prop := fun xs H Q => ∃ p ys, xs = [.ref p] ∧ ((SqL K H p ys ∧ ∀ l, H l = none → Q (.ref l) (upd H l (.tup ys))) ∨ (SqT K H p ys ∧ Q (.ref p) H))
theorem eu_tupOf {a : Addr} {xs : List V} (h : Ev ta σ H (.ref a)) (hs : SqL K H a xs) : EvU (tCB (rTupOf K) (tCons ta tNil)) σ H xs := fun H1 e Q q =>
  h H1 e _ fun H2 e2 => ⟨a, xs, rfl, .inl ⟨ex_l (e.trans e2) hs, fun l hl => q l _ (fresh_back e2 hl) (e2.trans (Ex.new hl)) upd_same⟩⟩
end
section
variable {X : Cx} (K : PySem.W.Frag)
theorem tupK (h : X.K = K := by rfl) : CallR X (.type "tuple") (rTupOf K) := by subst h; exact call_tuple_of
theorem sortK (h : X.K = K := by rfl) : CallR X (.builtin "sorted") (rSortedI K) := by subst h; exact cr_sortedI
end
end Sg
set_option Elab.async false
set_option linter.all false
set_option maxRecDepth 100000
set_option maxHeartbeats 4000000
namespace Sg
open PySem PySem.Spec PyProof.Rows L2 Evl RZ
/-! ### a web gets a spot more -/
theorem WebAt.push {H : Hp} {a q : Addr} {ps : List Addr} {w : List (List Nat)} {r : List Nat} (h : WebAt H a ps w) (hq : H q = some (.lst (nl r))) (n1 : q ≠ a) (n2 : a ∉ ps) : WebAt (upd H a (.lst (ps.map V.ref ++ [.ref q]))) a (ps ++ [q]) (w ++ [r]) := by
  refine ⟨by rw [upd_same, List.map_append]; rfl, by rw [List.length_append, List.length_append, h.len]; rfl, fun i p s h1 h2 => ?_⟩
  by_cases hi : i < ps.length
  · rw [List.getElem?_append_left hi] at h1
    rw [List.getElem?_append_left (by rw [← h.len]; exact hi)] at h2
    rw [upd_ne (fun z => n2 (by rw [← z]; exact List.mem_of_getElem? h1))]
    exact h.row i p s h1 h2
  · rw [List.getElem?_append_right (by omega)] at h1
    rw [List.getElem?_append_right (by rw [← h.len]; omega), ← h.len] at h2
    have e0 : i - ps.length = 0 := by
      have := (List.getElem?_eq_some_iff.mp h1).1
      simp at this; omega
    rw [e0] at h1 h2
    cases h1
    cases h2
    rw [upd_ne n1]
    exact hq
theorem NewAt.push {H0 : Hp} {a q : Addr} {ps : List Addr} (h : NewAt H0 a ps) (hq : H0 q = none) (n1 : q ≠ a) (n2 : q ∉ ps) : NewAt H0 a (ps ++ [q]) := by
  refine ⟨h.top, fun p hp => ?_, ?_, fun hm => ?_⟩
  · rcases List.mem_append.mp hp with z | z
    · exact h.row p z
    · rw [List.mem_singleton.mp z]; exact hq
  · exact List.nodup_append.mpr ⟨h.nd, by simp, fun x hx y hy z => n2 (by rw [List.mem_singleton.mp hy] at z; rw [← z]; exact hx)⟩
  · rcases List.mem_append.mp hm with z | z
    · exact h.na z
    · exact n1 (List.mem_singleton.mp z).symm
theorem flat_succ {α : Type} (f : Nat → List α) (n : Nat) : (List.range (n + 1)).flatMap f = (List.range n).flatMap f ++ f n := by
  rw [List.range_succ, List.flatMap_append]
  simp
section
variable {K : PySem.W.Frag} {σ : L2.St} {H : Hp} {ta te : TE} {D : Ends} {tz : TS}
/-- web.append([..]): a new row behind -/
theorem s_push {H0 : Hp} {a : Addr} {ps : List Addr} {w : List (List Nat)} {r : List Nat} (ex : Ex H0 H) (hw : WebAt H a ps w) (nw : NewAt H0 a ps) (ha : Ev ta σ H (.ref a)) (he : EvL te σ H (nl r)) (hl : w.length < 50000)
    (k : ∀ H' ps', Ex H0 H' → WebAt H' a ps' (w ++ [r]) → NewAt H0 a ps' → D.nx σ H') : tDrop (tBM K "list" rAppend ta (tCons te tNil)) D σ H :=
  s_appL hw.top ha he (by rw [hw.rlen]; omega) fun p H1 hp e1 h1 => by
    have nq := hw.apart hp
    exact k _ _ ((ex.trans e1).mut nw.top) ((hw.mono e1).push h1 nq.1 nw.na) (nw.push (fresh_back ex hp) nq.1 nq.2)
theorem q_push {H0 : Hp} {a : Addr} {ps : List Addr} {w : List (List Nat)} {r : List Nat} (ex : Ex H0 H) (hw : WebAt H a ps w) (nw : NewAt H0 a ps) (ha : Ev ta σ H (.ref a)) (he : EvL te σ H (nl r)) (hl : w.length < 50000)
    (k : ∀ H' ps', Ex H0 H' → WebAt H' a ps' (w ++ [r]) → NewAt H0 a ps' → tz D σ H') : tSeq (tDrop (tBM K "list" rAppend ta (tCons te tNil))) tz D σ H := s_push (D := { D with nx := tz D }) ex hw nw ha he hl k
end
/-! ### dicts whose keys are tuples of numbers -/
def keyN (r : List Nat) : List Key := r.map fun n : Nat => Sum.inl (n : Int)
theorem keyN_kV (r : List Nat) : (keyN r).map kV = nl r := by
  unfold keyN
  rw [List.map_map]; rfl
theorem keyN_inj : ∀ {r s : List Nat}, keyN r = keyN s → r = s
  | [], [], _ => rfl
  | [], b :: s, h => nomatch (show ([] : List Key) = Sum.inl (b : Int) :: keyN s from h)
  | a :: r, [], h => nomatch (show Sum.inl (a : Int) :: keyN r = ([] : List Key) from h)
  | a :: r, b :: s, h => by
    have h1 : Sum.inl (a : Int) :: keyN r = (Sum.inl (b : Int) :: keyN s : List Key) := h
    obtain ⟨h2, h3⟩ := List.cons.inj h1
    rw [keyN_inj h3, Int.ofNat_inj.mp (Sum.inl.inj h2)]
/-- a dict told by a function of the row -/
structure Told (f : List Nat → V) (kvs : List (List Key × V)) (S : List Nat → Prop) : Prop where
  ok : ∀ r, valV kvs (keyN r) = none ∨ valV kvs (keyN r) = some (f r)
  has : ∀ r, S r → valV kvs (keyN r) = some (f r)
theorem Told.put {f : List Nat → V} {kvs : List (List Key × V)} {S : List Nat → Prop} (h : Told f kvs S) (s : List Nat) : Told f (putK kvs (keyN s) (f s)) (fun r => S r ∨ r = s) := by
  have e : ∀ r, valV (putK kvs (keyN s) (f s)) (keyN r) = if r = s then some (f s) else valV kvs (keyN r) := fun r => by
    rw [valV_put]
    by_cases hr : r = s
    · rw [if_pos hr, if_pos (by rw [hr])]
    · rw [if_neg hr, if_neg (fun z => hr (keyN_inj z))]
  refine ⟨fun r => ?_, fun r hr => ?_⟩
  · rw [e]
    by_cases hrs : r = s
    · rw [if_pos hrs, hrs]; exact .inr rfl
    · rw [if_neg hrs]; exact h.ok r
  · rw [e]
    by_cases hrs : r = s
    · rw [if_pos hrs, hrs]
    · rw [if_neg hrs]; exact h.has r (hr.resolve_right hrs)
theorem Told.mono {f : List Nat → V} {kvs : List (List Key × V)} {S S' : List Nat → Prop} (h : Told f kvs S) (k : ∀ r, S' r → S r) : Told f kvs S' := ⟨h.ok, fun r hr => h.has r (k r hr)⟩
theorem put_lenT (kvs : List (List Key × V)) (k : List Key) (v : V) : (putK kvs k v).length ≤ kvs.length + 1 := by
  unfold putK
  split
  · rw [List.length_map]; omega
  · rw [List.length_append]; simp
def RU1 (P : List Nat → Prop) : V → Hp → Hp → Prop := fun v _ H1 => ∃ b r, v = .ref b ∧ H1 b = some (.tup (nl r)) ∧ P r
section
variable {K : PySem.W.Frag} {σ : L2.St} {H : Hp} {ta tb te tv : TE} {D : Ends} {tz : TS} {R : V → Hp → Hp → Prop}
theorem er_tup {xs : List Nat} (h : EvU te σ H (nl xs)) : EvR te σ H (RU1 (fun r => r = xs)) := fun H1 e Q q => h H1 e Q fun p H2 hp e2 h2 => q _ H2 e2 ⟨p, xs, rfl, h2, rfl⟩
/-- tuple(sorted(xs)) -/
theorem er_tupSorted {a : Addr} {l : List Nat} (h : Ev ta σ H (.ref a)) (hs : SqL K H a (nl l)) : EvR (tCB (rTupOf K) (tCons (tCB (rSortedI K) (tCons ta tNil)) tNil)) σ H (RU1 (fun r => r.Perm l ∧ r.Pairwise (· ≤ ·))) := fun H1 e Q q =>
  er_sorted h hs H1 e _ fun v H2 e2 r2 => by
    obtain ⟨p, r, rfl, _, hp, h1⟩ := r2
    exact eu_tupOf (K := K) (σ := σ) (ta := tC (.ref p)) ev_c (sq_of hp) H2 (Ex.refl H2) Q fun t H3 ht e3 h3 => q _ H3 (e2.trans e3) ⟨t, r, rfl, h3, h1⟩
theorem s_dputT {d : Addr} {kvs : List (List Key × V)} {v : V} {P : List Nat → Prop} (hd : H d = some (.dT kvs)) (hv : Ev tv σ H v) (ho : Ev ta σ H (.ref d)) (hk : EvR te σ H (RU1 P)) (hl : kvs.length < 50000) (k : ∀ H1 r, Ex H H1 → P r → D.nx σ (upd H1 d (.dT (putK kvs (keyN r) v)))) : sDPut ta te tv D σ H :=
  hv H (Ex.refl H) _ fun H1 e1 => ho H1 e1 _ fun H2 e2 => hk H2 (e1.trans e2) _ fun u H3 e3 r3 => by
    obtain ⟨b, r, rfl, hb, hp⟩ := r3
    have e := (e1.trans e2).trans e3
    exact ⟨d, _, rfl, DPut.t (e _ _ hd) (by rw [keyN_kV]; exact hb) (sz_lt (by omega)), k H3 r e hp⟩
theorem q_dputT {d : Addr} {kvs : List (List Key × V)} {v : V} {P : List Nat → Prop} (hd : H d = some (.dT kvs)) (hv : Ev tv σ H v) (ho : Ev ta σ H (.ref d)) (hk : EvR te σ H (RU1 P)) (hl : kvs.length < 50000) (k : ∀ H1 r, Ex H H1 → P r → tz D σ (upd H1 d (.dT (putK kvs (keyN r) v)))) : tSeq (sDPut ta te tv) tz D σ H :=
  s_dputT (D := { D with nx := tz D }) hd hv ho hk hl k
theorem ev_dgetT {d : Addr} {kvs : List (List Key × V)} {v : V} {P : List Nat → Prop} (hd : H d = some (.dT kvs)) (ho : Ev ta σ H (.ref d)) (hk : EvR te σ H (RU1 P)) (hv : ∀ r, P r → valV kvs (keyN r) = some v) : Ev (tDGet ta te) σ H v := fun H1 e Q q =>
  ho H1 e _ fun H2 e2 => hk H2 (e.trans e2) _ fun u H3 e3 r3 => by
    obtain ⟨b, r, rfl, hb, hp⟩ := r3
    have h3 := DGet.t (k := keyN r) (((e.trans e2).trans e3) _ _ hd) (by rw [keyN_kV]; exact hb)
    rw [hv r hp] at h3
    exact ⟨d, v, rfl, h3, q H3 (e2.trans e3)⟩
theorem q_newT {i : Nat} (k : ∀ p H1, H p = none → Ex H H1 → H1 p = some (.dT []) → tz D (σ.set i (some (.ref p))) H1) : tSeq (tAsg tDNewT (gName i)) tz D σ H := fun p hp => k p _ hp (Ex.new hp) upd_same
end
/-! ### all rows of up to three spots -/
def R3 (a b k : Nat) : List (List Nat) := (List.range k).map fun t => [a, b, b + t]
def R2 (m a j : Nat) : List (List Nat) := (List.range j).flatMap fun b => [a, b] :: R3 a b (m - b)
def R1 (m i : Nat) : List (List Nat) := (List.range i).flatMap fun a => [a] :: R2 m a m
def allRows (m : Nat) : List (List Nat) := [] :: R1 m m
theorem flat_len {α : Type} (f : Nat → List α) (c : Nat) : ∀ n, (∀ i, i < n → (f i).length ≤ c) → ((List.range n).flatMap f).length ≤ n * c
  | 0, _ => by simp
  | n + 1, h => by
    rw [flat_succ, List.length_append, Nat.succ_mul]
    have := flat_len f c n fun i hi => h i (by omega)
    have := h n (by omega)
    omega
theorem R3_len (a b k : Nat) : (R3 a b k).length = k := by unfold R3; rw [List.length_map, List.length_range]
theorem R2_len {m a j : Nat} (hm : m ≤ 4) (hj : j ≤ 4) : (R2 m a j).length ≤ 20 := by
  have := flat_len (fun b => [a, b] :: R3 a b (m - b)) 5 j fun b _ => by rw [List.length_cons, R3_len]; omega
  unfold R2; omega
theorem R1_len {m i : Nat} (hm : m ≤ 4) (hi : i ≤ 4) : (R1 m i).length ≤ 84 := by
  have := flat_len (fun a => [a] :: R2 m a m) 21 i fun a _ => by rw [List.length_cons]; have := R2_len (a := a) hm hm; omega
  unfold R1; omega
theorem rows_ok {m : Nat} {r : List Nat} (h : r ∈ allRows m) : r.length ≤ 3 ∧ ∀ x ∈ r, x < m := by
  unfold allRows R1 R2 R3 at h
  simp only [List.mem_cons, List.mem_flatMap, List.mem_range, List.mem_map] at h
  rcases h with rfl | ⟨a, ha, rfl | ⟨b, hb, rfl | ⟨t, ht, rfl⟩⟩⟩
  · exact ⟨by decide, fun x hx => absurd hx (by simp)⟩
  · exact ⟨by simp, fun x hx => by rw [List.mem_singleton.mp hx]; exact ha⟩
  · exact ⟨by simp, fun x hx => by simp only [List.mem_cons, List.not_mem_nil, or_false] at hx; omega⟩
  · exact ⟨by simp, fun x hx => by simp only [List.mem_cons, List.not_mem_nil, or_false] at hx; omega⟩
theorem rows_all {m : Nat} {r : List Nat} (hl : r.length ≤ 3) (hx : ∀ x ∈ r, x < m) (hs : r.Pairwise (· ≤ ·)) : r ∈ allRows m := by
  unfold allRows R1 R2 R3
  simp only [List.mem_cons, List.mem_flatMap, List.mem_range, List.mem_map]
  match r, hl, hx, hs with
  | [], _, _, _ => exact .inl rfl
  | [a], _, hx, _ => exact .inr ⟨a, hx a (by simp), .inl rfl⟩
  | [a, b], _, hx, _ => exact .inr ⟨a, hx a (by simp), .inr ⟨b, hx b (by simp), .inl rfl⟩⟩
  | [a, b, c], _, hx, hs =>
    have hbc : b ≤ c := by
      have h2 := (List.pairwise_cons.mp hs).2
      exact (List.pairwise_cons.mp h2).1 c (by simp)
    have hc := hx c (by simp)
    exact .inr ⟨a, hx a (by simp), .inr ⟨b, hx b (by simp), .inr ⟨c - b, by omega, by rw [show b + (c - b) = c by omega]⟩⟩⟩
  | a :: b :: c :: d :: r, hl, _, _ => simp at hl
/-! ### the rows ahead of a row -/
def aheadRows (w : List (List Nat)) (r : List Nat) (i : Nat) : List (List Nat) := (List.range i).flatMap fun k => (row w (gx r k)).map fun x => r.set k x
theorem ahead_mem {w : List (List Nat)} {r o : List Nat} : o ∈ aheadRows w r r.length ↔ ∃ (i s x : Nat), r[i]? = some s ∧ x ∈ row w s ∧ o = r.set i x := by
  unfold aheadRows
  simp only [List.mem_flatMap, List.mem_range, List.mem_map]
  constructor
  · rintro ⟨i, hi, x, hx, rfl⟩
    exact ⟨i, gx r i, x, gx_get hi, hx, rfl⟩
  · rintro ⟨i, s, x, hi, hx, rfl⟩
    exact ⟨i, (List.getElem?_eq_some_iff.mp hi).1, x, by rw [gx_of hi]; exact hx, rfl⟩
theorem set_parts {r : List Nat} {i x : Nat} (h : i < r.length) : r.take i ++ [x] ++ r.drop (i + 1) = r.set i x := by
  rw [List.set_eq_take_append_cons_drop, if_pos h, List.append_assoc]
  first | done | rfl
end Sg
set_option Elab.async false
set_option linter.all false
set_option maxRecDepth 100000
set_option maxHeartbeats 4000000
namespace Sg
open PySem PySem.Spec PyProof.Rows L2 Evl RZ
/-! ### a list of tuples of two numbers -/
def tupO (m : Nat × Nat) : HO := .tup [ni m.1, ni m.2]
structure MvAt (H : Hp) (a : Addr) (ts : List Addr) (ms : List (Nat × Nat)) : Prop where
  top : H a = some (.lst (ts.map V.ref))
  len : ts.length = ms.length
  tup : ∀ (i : Nat) (t : Addr) (m : Nat × Nat), ts[i]? = some t → ms[i]? = some m → H t = some (tupO m)
theorem MvAt.mono {H H' : Hp} {a : Addr} {ts : List Addr} {ms : List (Nat × Nat)} (h : MvAt H a ts ms) (e : Ex H H') : MvAt H' a ts ms := ⟨e _ _ h.top, h.len, fun i t m h1 h2 => e _ _ (h.tup i t m h1 h2)⟩
theorem MvAt.rlen {H : Hp} {a : Addr} {ts : List Addr} {ms : List (Nat × Nat)} (h : MvAt H a ts ms) : (ts.map V.ref).length = ms.length := by rw [List.length_map]; exact h.len
theorem MvAt.at {H : Hp} {a : Addr} {ts : List Addr} {ms : List (Nat × Nat)} (h : MvAt H a ts ms) {i : Nat} {m : Nat × Nat} (hm : ms[i]? = some m) : ∃ t, ts[i]? = some t ∧ (ts.map V.ref)[i]? = some (.ref t) ∧ H t = some (tupO m) := by
  have il : i < ts.length := by rw [h.len]; exact (List.getElem?_eq_some_iff.mp hm).1
  have e := List.getElem?_eq_getElem il
  exact ⟨ts[i], e, by rw [List.getElem?_map, e]; rfl, h.tup i _ _ e hm⟩
def RM (P : List (Nat × Nat) → Prop) : V → Hp → Hp → Prop := fun v H0 H => ∃ a ts ms, v = .ref a ∧ H0 a = none ∧ MvAt H a ts ms ∧ P ms
theorem RM.back {P : List (Nat × Nat) → Prop} {v : V} {H H0 H1 : Hp} (e : Ex H H0) (h : RM P v H0 H1) : RM P v H H1 := by
  obtain ⟨a, ts, ms, h1, h2, h3⟩ := h
  exact ⟨a, ts, ms, h1, fresh_back e h2, h3⟩
def tupD (m : Nat × Nat) : PyData := .tuple [.int (m.1 : Int), .int (m.2 : Int)]
def mvD (ms : List (Nat × Nat)) : PyData := .list (ms.map tupD)
theorem dp_tup {K : PySem.W.Frag} {H : Hp} {t : Addr} {m : Nat × Nat} (h : H t = some (tupO m)) : Dp K H (.ref t) (tupD m) := .tup (st_of h) (.cons (.int _) (.cons (.int _) .nil))
theorem dpAll_tups {K : PySem.W.Frag} {H : Hp} : ∀ (ts : List Addr) (ms : List (Nat × Nat)), ts.length = ms.length → (∀ (i : Nat) (t : Addr) (m : Nat × Nat), ts[i]? = some t → ms[i]? = some m → H t = some (tupO m)) → DpAll K H (ts.map V.ref) (ms.map tupD)
  | [], [], _, _ => .nil
  | [], _ :: _, h, _ => by cases h
  | _ :: _, [], h, _ => by cases h
  | t :: ts, m :: ms, h, k => .cons (dp_tup (k 0 t m rfl rfl)) (dpAll_tups ts ms (Nat.succ.inj h) fun i q x h1 h2 => k (i + 1) q x h1 h2)
theorem MvAt.dp {K : PySem.W.Frag} {H : Hp} {a : Addr} {ts : List Addr} {ms : List (Nat × Nat)} (h : MvAt H a ts ms) : Dp K H (.ref a) (mvD ms) := .lst (sq_of h.top) (dpAll_tups ts ms h.len h.tup)
theorem tup_lay (m : Nat × Nat) : (tupD m).canLay0 = true := by
  unfold tupD
  rw [PyData.canLay0]
  refine canLayAll_of _ fun d hd => ?_
  simp only [List.mem_cons, List.not_mem_nil, or_false] at hd
  rcases hd with rfl | rfl <;> rw [PyData.canLay0]
theorem tup_depth (m : Nat × Nat) : (tupD m).depth ≤ 2 := by
  unfold tupD
  rw [PyData.depth]
  have := depthAll_le 1 [PyData.int (m.1 : Int), .int (m.2 : Int)] fun d hd => by
    simp only [List.mem_cons, List.not_mem_nil, or_false] at hd
    rcases hd with rfl | rfl <;> rw [PyData.depth] <;> omega
  omega
theorem mv_shaped (ms : List (Nat × Nat)) : SeqAt.shaped (mvD ms) = true := by
  unfold SeqAt.shaped mvD
  rw [PyData.canLay0, canLayAll_of _ (fun d hd => by
    obtain ⟨m, _, rfl⟩ := List.mem_map.mp hd
    exact tup_lay m)]
  have : (PyData.list (ms.map tupD)).depth ≤ 3 := by
    rw [PyData.depth]
    have := depthAll_le 2 (ms.map tupD) fun d hd => by
      obtain ⟨m, _, rfl⟩ := List.mem_map.mp hd
      exact tup_depth m
    omega
  rw [decide_eq_true (by omega)]
  rfl
theorem rv_neM {K : PySem.W.Frag} {H : Hp} {a b : Addr} {ts us : List Addr} {ms : List (Nat × Nat)} (ha : MvAt H a ts ms) (hb : MvAt H b us ms) : RV (rNeD K) (.ref a) (.ref b) H (.bl false) := rv_neSame (d := mvD ms) (fun H1 e => (ha.mono e).dp) (fun H1 e => (hb.mono e).dp) (mv_shaped ms)
theorem eqv_nil (ms : List (Nat × Nat)) : PyData.eqv (mvD ms) (rowD []) = decide (ms = []) := by
  cases ms with
  | nil => exact SeqAt.eqv_refl (mvD []) (SeqAt.canLay_of_shaped (mv_shaped []))
  | cons m ms =>
    rw [decide_eq_false (fun h => by cases h)]
    show PyData.eqv (.list (tupD m :: ms.map tupD)) (.list []) = false
    rw [PyData.eqv, PyData.eqvAll]
theorem rv_eqNil {K : PySem.W.Frag} {H : Hp} {a b : Addr} {ts : List Addr} {ms : List (Nat × Nat)} (ha : MvAt H a ts ms) (hb : H b = some (.lst [])) : RV (rEqD K) (.ref a) (.ref b) H (.bl (decide (ms = []))) := by
  have h := rv_eqD (K := K) (H := H) (x := .ref a) (y := .ref b) (d := mvD ms) (e := rowD []) (fun H1 e => (ha.mono e).dp) (fun H1 e => dp_row (r := []) (sq_of (e _ _ hb))) (mv_shaped ms) (row_shaped [])
  rw [eqv_nil] at h
  exact h
theorem rv_neNil {K : PySem.W.Frag} {H : Hp} {a b : Addr} {ts : List Addr} {ms : List (Nat × Nat)} (ha : MvAt H a ts ms) (hb : H b = some (.lst [])) : RV (rNeD K) (.ref a) (.ref b) H (.bl (!decide (ms = []))) := by
  have h := rv_neD (K := K) (H := H) (x := .ref a) (y := .ref b) (d := mvD ms) (e := rowD []) (fun H1 e => (ha.mono e).dp) (fun H1 e => dp_row (r := []) (sq_of (e _ _ hb))) (mv_shaped ms) (row_shaped [])
  rw [eqv_nil] at h
  exact h
/-! ### nested comprehensions whose items are new objects -/
structure Enum (J : It) (xs : List V) (H : Hp) : Prop where
  go : ∀ i H', Ex H H' → i < xs.length → J.go i H'
  yld : ∀ i x H' H2, Ex H H' → J.yld i H' x H2 → i < xs.length → H2 = H' ∧ xs[i]? = some x
  stop : ∀ H', Ex H H' → J.stop xs.length H'
def EvI (wi : TI) (σ : L2.St) (H : Hp) (xs : List V) : Prop := ∀ H1, Ex H H1 → ∀ R : It → Hp → Prop, (∀ J H2, Ex H1 H2 → Enum J xs H2 → R J H2) → wi σ H1 R
def EvN (te : TE) (σ : L2.St) (H : Hp) (o : HO) : Prop := ∀ H1, Ex H H1 → ∀ Q : VK, (∀ p H2, H1 p = none → Ex H1 H2 → H2 p = some o → Q (.ref p) H2) → te σ H1 Q
/-- all but one object stay -/
def KB (Dl : Addr) (H H' : Hp) : Prop := ∀ b o, b ≠ Dl → H b = some o → H' b = some o
theorem sql_but {K : PySem.W.Frag} {Dl a : Addr} {H H' : Hp} {xs : List V} (k : KB Dl H H') (h : a ≠ Dl) (hs : SqL K H a xs) : SqL K H' a xs := by
  rcases hs with (hs | ⟨o, hs⟩) | hs
  · exact .inl (.inl (k _ _ h hs))
  · exact .inl (.inr ⟨o, k _ _ h hs⟩)
  · exact .inr hs
structure EnumB (Dl : Addr) (J : It) (xs : List V) (H : Hp) : Prop where
  go : ∀ i H', KB Dl H H' → i < xs.length → J.go i H'
  yld : ∀ i x H' H2, KB Dl H H' → J.yld i H' x H2 → i < xs.length → H2 = H' ∧ xs[i]? = some x
  stop : ∀ H', KB Dl H H' → J.stop xs.length H'
def EvI2 (wi : TI) (σ : L2.St) (H : Hp) (xs : List V) : Prop := ∀ Dl, H Dl = none → ∀ H1, Ex H H1 → H1 Dl ≠ none → ∀ R : It → Hp → Prop, (∀ J H2, Ex H1 H2 → EnumB Dl J xs H2 → R J H2) → wi σ H1 R
section
variable {K : PySem.W.Frag} {σ : L2.St} {H : Hp} {tl te : TE} {wi wi1 : TI}
theorem ei2_rng {ta : TA} {n : Nat} (h : EvA ta σ H [.int (n : Int)]) (hn : n ≤ 100000) : EvI2 (iRng1 ta) σ H (nl (List.range n)) := fun Dl hD H1 e hD1 R q => h H1 e _ fun H2 e2 => ⟨(n : Int), rfl, by omega, by omega, by
  refine q _ H2 e2 ⟨fun i H' _ hi => ?_, fun i x H' H3 _ hy hi => ?_, fun H' _ => ?_⟩
  · rw [nl_len, List.length_range] at hi
    show i < (n : Int).toNat
    omega
  · rw [nl_len, List.length_range] at hi
    obtain ⟨rfl, rfl⟩ := hy
    refine ⟨rfl, ?_⟩
    rw [Int.zero_add]
    exact nl_get (List.getElem?_range hi)
  · rw [nl_len, List.length_range]
    show (n : Int).toNat ≤ n
    omega⟩
theorem enumB_l {Dl a : Addr} {xs : List V} (ha : a ≠ Dl) (hx : SqL K H a xs) : EnumB Dl (Itl K a) xs H :=
  ⟨fun i H' e hi => ⟨xs, xs[i], sql_but e ha hx, List.getElem?_eq_getElem hi⟩, fun i x H' H2 e hy hi => ⟨hy.1, hy.2 xs (sql_but e ha hx)⟩, fun H' e => ⟨xs, sql_but e ha hx, Nat.le_refl _⟩⟩
theorem ei2_L {xs : List V} (h : EvL tl σ H xs) : EvI2 (iList K tl) σ H xs := fun Dl hD H1 e hD1 R q => h H1 e _ fun p H2 hp e2 h2 => ⟨p, rfl, ⟨xs, sq_of h2⟩, q _ H2 e2 (enumB_l (fun z => hD1 (by rw [← z]; exact hp)) (sq_of h2))⟩
/-- a new list with a property, told by a function of it -/
theorem ei2_R {R0 : V → Hp → Hp → Prop} {xs : List V} (h : EvR tl σ H R0) (k : ∀ v H0 H1, R0 v H0 H1 → ∃ p, v = .ref p ∧ H0 p = none ∧ H1 p = some (.lst xs)) : EvI2 (iList K tl) σ H xs := fun Dl hD H1 e hD1 R q => h H1 e _ fun v H2 e2 r => by
  obtain ⟨p, rfl, hp, h2⟩ := k v H1 H2 r
  exact ⟨p, rfl, ⟨xs, sq_of h2⟩, q _ H2 e2 (enumB_l (fun z => hD1 (by rw [← z]; exact hp)) (sq_of h2))⟩
theorem ei_rng {ta : TA} {n : Nat} (h : EvA ta σ H [.int (n : Int)]) (hn : n ≤ 100000) : EvI (iRng1 ta) σ H (nl (List.range n)) := fun H1 e R q => h H1 e _ fun H2 e2 => ⟨(n : Int), rfl, by omega, by omega, by
  refine q _ H2 e2 ⟨fun i H' _ hi => ?_, fun i x H' H3 _ hy hi => ?_, fun H' _ => ?_⟩
  · rw [nl_len, List.length_range] at hi
    show i < (n : Int).toNat
    omega
  · rw [nl_len, List.length_range] at hi
    obtain ⟨rfl, rfl⟩ := hy
    refine ⟨rfl, ?_⟩
    rw [Int.zero_add]
    exact nl_get (List.getElem?_range hi)
  · rw [nl_len, List.length_range]
    show (n : Int).toNat ≤ n
    omega⟩
theorem enum_l {a : Addr} {xs : List V} (hx : SqL K H a xs) : Enum (Itl K a) xs H :=
  ⟨fun i H' e hi => ⟨xs, xs[i], ex_l e hx, List.getElem?_eq_getElem hi⟩, fun i x H' H2 e hy hi => ⟨hy.1, hy.2 xs (ex_l e hx)⟩, fun H' e => ⟨xs, ex_l e hx, Nat.le_refl _⟩⟩
theorem ei_L {xs : List V} (h : EvL tl σ H xs) : EvI (iList K tl) σ H xs := fun H1 e R q => h H1 e _ fun p H2 hp e2 h2 => ⟨p, rfl, ⟨xs, sq_of h2⟩, q _ H2 e2 (enum_l (sq_of h2))⟩
theorem ei_V {a : Addr} {xs : List V} (h : Ev tl σ H (.ref a)) (hx : SqL K H a xs) : EvI (iList K tl) σ H xs := fun H1 e R q => h H1 e _ fun H2 e2 => ⟨a, rfl, ⟨xs, ex_l (e.trans e2) hx⟩, q _ H2 e2 (enum_l (ex_l (e.trans e2) hx))⟩
theorem en_U {xs : List V} (h : EvU te σ H xs) : EvN te σ H (.tup xs) := h
theorem en_L {xs : List V} (h : EvL te σ H xs) : EvN te σ H (.lst xs) := h
def CvO (H : Hp) (Dl : Addr) (os : List HO) (H' : Hp) : Prop := H Dl = none ∧ Ex H H' ∧ ∃ ps : List Addr, ps.length = os.length ∧ H' Dl = some (.lst (ps.map V.ref)) ∧ NewAt H Dl ps ∧ ∀ (k : Nat) p o, ps[k]? = some p → os[k]? = some o → H' p = some o
def RObjs (os : List HO) : V → Hp → Hp → Prop := fun v H0 H => ∃ D ps, v = .ref D ∧ NewAt H0 D ps ∧ ps.length = os.length ∧ H D = some (.lst (ps.map V.ref)) ∧ ∀ (k : Nat) p o, ps[k]? = some p → os[k]? = some o → H p = some o
theorem cvo_turn {H H' : Hp} {Dl : Addr} {os : List HO} {o : HO} {σ2 : L2.St} {W : Hp → Prop} (p : CvO H Dl os H') (hl : os.length < 50000) (he : EvN te σ2 H o) (k : ∀ G, KB Dl H' G → CvO H Dl (os ++ [o]) G → W G) :
    te σ2 H' fun y H4 => ∃ acc, H4 Dl = some (.lst acc) ∧ acc.length < sizeLine ∧ W (upd H4 Dl (.lst (acc ++ [y]))) := by
  obtain ⟨p1, p2, ps, pl, ht, hn, hr⟩ := p
  refine he H' p2 _ fun q H4 hq e4 h4 => ?_
  have qD : q ≠ Dl := (ne_of_none ht hq).symm
  have qps : q ∉ ps := fun hm => by
    obtain ⟨j, hj, e⟩ := List.getElem_of_mem hm
    have hjo : j < os.length := by rw [← pl]; exact hj
    have := hr j q _ (by rw [List.getElem?_eq_getElem hj, e]) (List.getElem?_eq_getElem hjo)
    rw [hq] at this; cases this
  refine ⟨ps.map V.ref, e4 _ _ ht, sz_lt (by rw [List.length_map]; omega), k _ (fun b u hb hu => by rw [upd_ne hb]; exact e4 _ _ hu) ⟨p1, (p2.trans e4).mut p1, ps ++ [q], by rw [List.length_append, List.length_append, pl]; rfl, by rw [upd_same, List.map_append]; rfl, hn.push (fresh_back p2 hq) qD qps, fun j z u hz hu => ?_⟩⟩
  by_cases hj : j < ps.length
  · rw [List.getElem?_append_left hj] at hz
    rw [List.getElem?_append_left (by rw [← pl]; exact hj)] at hu
    have zD : z ≠ Dl := fun e => hn.na (by rw [← e]; exact List.mem_of_getElem? hz)
    rw [upd_ne zD]
    exact e4 _ _ (hr j z u hz hu)
  · rw [List.getElem?_append_right (by omega)] at hz
    rw [List.getElem?_append_right (by rw [← pl]; omega), ← pl] at hu
    have e0 : j - ps.length = 0 := by
      have := (List.getElem?_eq_some_iff.mp hz).1
      simp at this; omega
    rw [e0] at hz hu
    cases hz; cases hu
    rw [upd_ne qD]
    exact h4
def pre2 (ys : Nat → List V) (os : Nat → Nat → HO) (i : Nat) : List HO := (List.range i).flatMap fun i => (List.range (ys i).length).map (os i)
theorem er_lc2 {j j1 : Nat} {vs vs1 : List Nat} {xs : List V} (ys : Nat → List V) (os : Nat → Nat → HO) (hx : EvI wi σ H xs) (hz : xs.length ≤ 200) (hy : ∀ i, i < xs.length → (ys i).length ≤ 200)
    (hi : ∀ (i : Nat) x H1, Ex H H1 → xs[i]? = some x → EvI2 wi1 ((wipe σ vs).set j (some x)) H1 (ys i)) (hw : ∀ x, wipe ((wipe σ vs).set j (some x)) vs = wipe σ vs)
    (hw1 : ∀ x y, wipe ((wipe ((wipe σ vs).set j (some x)) vs1).set j1 (some y)) vs1 = wipe ((wipe σ vs).set j (some x)) vs1)
    (he : ∀ (i k : Nat) x y H1, Ex H H1 → xs[i]? = some x → (ys i)[k]? = some y → EvN te ((wipe ((wipe σ vs).set j (some x)) vs1).set j1 (some y)) H1 (os i k)) :
    EvR (tLc2 wi (gName j) tYes wi1 (gName j1) tYes te vs vs1) σ H (RObjs (pre2 ys os xs.length)) := fun H0 e Q q => hx H0 e _ fun J H1 e1 en Dl hD => by
  have len : ∀ i, i ≤ xs.length → (pre2 ys os i).length ≤ i * 200 := fun i hi => flat_len _ 200 i fun k hk => by rw [List.length_map, List.length_range]; exact hy k (by omega)
  refine ⟨fun i m G => m + i = xs.length ∧ CvO H1 Dl (pre2 ys os i) G, ⟨xs.length, rfl, hD, Ex.new hD, [], rfl, upd_same, ⟨hD, fun p hp => absurd hp (by simp), List.nodup_nil, by simp⟩, fun k p o hp => by simp at hp⟩, fun i m G hW => ?_⟩
  obtain ⟨hm, p⟩ := hW
  cases m with
  | zero =>
    have ei : i = xs.length := by omega
    subst ei
    obtain ⟨p1, p2, ps, pl, ht, hn, hr⟩ := p
    exact .inl ⟨en.stop G p2, q _ G (e1.trans p2) ⟨Dl, ps, rfl, hn.back e1, pl, ht, hr⟩⟩
  | succ m =>
    have il : i < xs.length := by omega
    refine .inr ⟨en.go i G p.2.1 il, fun G' => CvO H1 Dl (pre2 ys os (i + 1)) G', fun G' p' => ⟨m, Nat.lt_succ_self m, by omega, p'⟩, fun x G' hyl => ?_⟩
    obtain ⟨rfl, hxi⟩ := en.yld i x G G' p.2.1 hyl il
    refine ⟨hw x, ?_⟩
    show wi1 _ _ _
    have hDs : G' Dl ≠ none := by
      obtain ⟨_, _, ps, _, ht, _⟩ := p
      rw [ht]; exact fun z => nomatch z
    refine hi i x H1 (e.trans e1) hxi Dl hD G' p.2.1 hDs _ fun J1 G2 a2 en1 => ?_
    have p2' : CvO H1 Dl (pre2 ys os i) G2 := by
      obtain ⟨p1, p2, ps, pl, ht, hn, hr⟩ := p
      exact ⟨p1, p2.trans a2, ps, pl, a2 _ _ ht, hn, fun k z o h1 h2 => a2 _ _ (hr k z o h1 h2)⟩
    have psucc : pre2 ys os (i + 1) = pre2 ys os i ++ (List.range (ys i).length).map (os i) := flat_succ _ _
    have li := len i (by omega)
    have lyi := hy i il
    refine ⟨fun k m1 G => m1 + k = (ys i).length ∧ KB Dl G2 G ∧ CvO H1 Dl (pre2 ys os i ++ (List.range k).map (os i)) G, ⟨(ys i).length, rfl, fun b o _ hb => hb, by rw [List.range_zero, List.map_nil, List.append_nil]; exact p2'⟩, fun k m1 G3 hW1 => ?_⟩
    obtain ⟨hm1, a3, p3⟩ := hW1
    cases m1 with
    | zero =>
      have ek : k = (ys i).length := by omega
      subst ek
      refine .inl ⟨en1.stop G3 a3, ?_⟩
      show CvO H1 Dl (pre2 ys os (i + 1)) G3
      rw [psucc]
      exact p3
    | succ m1 =>
      have kl : k < (ys i).length := by omega
      refine .inr ⟨en1.go k G3 a3 kl, fun G' => KB Dl G2 G' ∧ CvO H1 Dl (pre2 ys os i ++ (List.range (k + 1)).map (os i)) G', fun G' p' => ⟨m1, Nat.lt_succ_self m1, by omega, p'⟩, fun y G4 hyl1 => ?_⟩
      obtain ⟨rfl, hyk⟩ := en1.yld k y G3 G4 a3 hyl1 kl
      refine ⟨hw1 x y, ?_⟩
      have e3 : pre2 ys os i ++ (List.range (k + 1)).map (os i) = (pre2 ys os i ++ (List.range k).map (os i)) ++ [os i k] := by rw [List.range_succ, List.map_append, List.append_assoc]; rfl
      rw [e3]
      have hi200 : i * 200 ≤ 200 * 200 := Nat.mul_le_mul_right 200 (by omega)
      show te _ _ _
      exact cvo_turn (W := fun G' => KB Dl G2 G' ∧ CvO H1 Dl ((pre2 ys os i ++ (List.range k).map (os i)) ++ [os i k]) G') p3 (by rw [List.length_append, List.length_map, List.length_range]; omega) (he i k x y H1 (e.trans e1) hxi hyk) (fun G kb c => ⟨fun b o hb ho => kb b o hb (a3 b o hb ho), c⟩)
end
/-! ### a spot's moves in order, the moves of a row -/
def up (w : List (List Nat)) (s : Nat) : List Nat := (List.range w.length).filter fun x => decide (x ∈ row w s)
theorem up_mem {w : List (List Nat)} (gw : GoodWeb w) {s x : Nat} : x ∈ up w s ↔ x ∈ row w s := by
  unfold up
  rw [List.mem_filter, List.mem_range]
  exact ⟨fun h => of_decide_eq_true h.2, fun h => ⟨gw.rlt h, decide_eq_true h⟩⟩
theorem up_sorted {w : List (List Nat)} (gw : GoodWeb w) {s : Nat} {r : List Nat} (h : r.Perm (row w s) ∧ r.Pairwise (· ≤ ·)) : r = up w s := by
  have u1 : (up w s).Pairwise (· ≤ ·) := List.Pairwise.filter _ ((List.pairwise_lt_range (n := w.length)).imp Nat.le_of_lt)
  have und : (up w s).Nodup := List.Pairwise.filter _ List.nodup_range
  have pm : r.Perm (up w s) := by
    refine (List.perm_ext_iff_of_nodup (h.1.nodup_iff.mpr (gw.rnd s)) und).mpr fun x => ?_
    rw [up_mem gw]
    exact h.1.mem_iff
  exact List.Perm.eq_of_pairwise (fun a b _ _ h1 h2 => Nat.le_antisymm h1 h2) h.2 u1 pm
theorem up_len (w : List (List Nat)) (s : Nat) : (up w s).length ≤ w.length := by
  have := List.length_filter_le (fun x => decide (x ∈ row w s)) (List.range w.length)
  rw [List.length_range] at this
  exact this
def mvs (w : List (List Nat)) (r : List Nat) : List (Nat × Nat) := (List.range r.length).flatMap fun i => (up w (gx r i)).map fun x => (i, x)
theorem mvs_mem {w : List (List Nat)} (gw : GoodWeb w) {r : List Nat} {i x : Nat} : (i, x) ∈ mvs w r ↔ i < r.length ∧ x ∈ row w (gx r i) := by
  unfold mvs
  simp only [List.mem_flatMap, List.mem_range, List.mem_map, Prod.mk.injEq]
  constructor
  · rintro ⟨j, hj, y, hy, rfl, rfl⟩
    exact ⟨hj, (up_mem gw).mp hy⟩
  · rintro ⟨hi, hx⟩
    exact ⟨i, hi, x, (up_mem gw).mpr hx, rfl, rfl⟩
theorem mvs_len (w : List (List Nat)) (r : List Nat) : (mvs w r).length ≤ r.length * w.length := flat_len _ _ r.length fun i _ => by rw [List.length_map]; exact up_len _ _
theorem range_gx {α : Type} (l : List Nat) (f : Nat → α) : (List.range l.length).map (fun k => f (gx l k)) = l.map f := by
  refine List.ext_getElem? fun i => ?_
  by_cases hi : i < l.length
  · rw [List.getElem?_map, List.getElem?_range hi, List.getElem?_map, gx_get hi]; rfl
  · rw [List.getElem?_eq_none (by rw [List.length_map, List.length_range]; omega), List.getElem?_eq_none (by rw [List.length_map]; omega)]
theorem mvs_pre (w : List (List Nat)) (r : List Nat) : pre2 (fun i => nl (up w (gx r i))) (fun i k => tupO (i, gx (up w (gx r i)) k)) r.length = (mvs w r).map tupO := by
  unfold pre2 mvs
  rw [List.map_flatMap]
  congr 1
  funext i
  rw [nl_len, range_gx (up w (gx r i)) (fun x => tupO (i, x)), List.map_map]
  rfl
theorem RObjs.mv {ms : List (Nat × Nat)} {v : V} {H0 H : Hp} (h : RObjs (ms.map tupO) v H0 H) : RM (fun z => z = ms) v H0 H := by
  obtain ⟨D, ps, rfl, hn, hl, ht, hr⟩ := h
  rw [List.length_map] at hl
  exact ⟨D, ps, ms, rfl, hn.top, ⟨ht, hl, fun i t m h1 h2 => hr i t _ h1 (by rw [List.getElem?_map, h2]; rfl)⟩, rfl⟩
theorem filter_at {α : Type} (L : List α) (d : α) (q : α → Bool) : ((List.range L.length).filter fun i => q (L.getD i d)).map (fun i => L.getD i d) = L.filter q := by
  have e : L = (List.range L.length).map fun i => L.getD i d := by
    refine List.ext_getElem? fun i => ?_
    by_cases hi : i < L.length
    · rw [List.getElem?_map, List.getElem?_range hi, List.getElem?_eq_getElem hi]
      show _ = some (L.getD i d)
      rw [List.getD_eq_getElem?_getD, List.getElem?_eq_getElem hi]; rfl
    · rw [List.getElem?_eq_none (by omega), List.getElem?_eq_none (by rw [List.length_map, List.length_range]; omega)]
  conv => rhs; rw [e]
  rw [List.filter_map]
  rfl
section
variable {K : PySem.W.Frag} {σ : L2.St} {H : Hp} {tl te : TE} {tt : TT}
/-- [new tuple for i, j in moves if ..] -/
theorem er_lcMv {a : Addr} {ts : List Addr} {ms : List (Nat × Nat)} {i j : Nat} {vs : List Nat} (f : Nat × Nat → Bool) (h : Ev tl σ H (.ref a)) (hm : MvAt H a ts ms) (hz : ms.length ≤ 40000) (hw : ∀ x y, wipe (((wipe σ vs).set i (some x)).set j (some y)) vs = wipe σ vs)
    (ht : ∀ m H1, Ex H H1 → m ∈ ms → EvT tt (((wipe σ vs).set i (some (ni m.1))).set j (some (ni m.2))) H1 (f m)) (he : ∀ m H1, Ex H H1 → m ∈ ms → f m = true → EvN te (((wipe σ vs).set i (some (ni m.1))).set j (some (ni m.2))) H1 (tupO m)) :
    EvR (tLc (iList K tl) (gTup K 2 (gCons (gName i) (gCons (gName j) gNil))) tt te vs) σ H (RM (fun z => z = ms.filter f)) := fun H0 e Q q => h H0 e _ fun H1 e1 => ⟨a, rfl, ⟨ts.map V.ref, sq_of ((e.trans e1) _ _ hm.top)⟩, fun Dl hD =>
  lc_list (xs := ts.map V.ref) (fun k => CvO H1 Dl (((ms.take k).filter f).map tupO)) ⟨hD, Ex.new hD, [], rfl, upd_same, ⟨hD, fun p hp => absurd hp (by simp), List.nodup_nil, by simp⟩, fun k p o hp => by simp at hp⟩ (fun k H' _ p => sq_of ((e.trans (e1.trans p.2.1)) _ _ hm.top)) (fun k x H' hx p => by
    have kl : k < ms.length := by
      have := (List.getElem?_eq_some_iff.mp hx).1
      rw [hm.rlen] at this; exact this
    have mk := List.getElem?_eq_getElem kl
    obtain ⟨t, ht1, htr, htu⟩ := hm.at mk
    rw [htr] at hx
    cases hx
    have min := List.mem_of_getElem? mk
    have tk : ms.take (k + 1) = ms.take k ++ [ms[k]] := by rw [List.take_add_one, mk]; rfl
    have ex := e.trans e1
    refine ⟨t, [ni ms[k].1, ni ms[k].2], rfl, st_of ((ex.trans p.2.1) _ _ htu), rfl, ni ms[k].1, [ni ms[k].2], rfl, ni ms[k].2, [], rfl, rfl, hw _ _, ?_⟩
    refine ht ms[k] H1 ex min H' p.2.1 _ fun H3 e3 => ?_
    obtain ⟨p1, p2, ps, pl, hl, hn, hr⟩ := p
    have p3 : CvO H1 Dl (((ms.take k).filter f).map tupO) H3 := ⟨p1, p2.trans e3, ps, pl, e3 _ _ hl, hn, fun k z o h1 h2 => e3 _ _ (hr k z o h1 h2)⟩
    cases hf : f ms[k] with
    | false =>
      show CvO H1 Dl (((ms.take (k + 1)).filter f).map tupO) H3
      rw [tk, List.filter_append, List.filter_cons, hf, if_neg Bool.false_ne_true, List.filter_nil, List.append_nil]
      exact p3
    | true =>
      show te _ _ _
      have e4 : ((ms.take (k + 1)).filter f).map tupO = ((ms.take k).filter f).map tupO ++ [tupO ms[k]] := by
        rw [tk, List.filter_append, List.filter_cons, hf, if_pos rfl, List.filter_nil, List.map_append]; rfl
      rw [e4]
      have fl := List.length_filter_le f (ms.take k)
      rw [List.length_take] at fl
      exact cvo_turn (W := CvO H1 Dl (((ms.take k).filter f).map tupO ++ [tupO ms[k]])) p3 (by rw [List.length_map]; omega) (he ms[k] H1 ex min hf) (fun G _ c => c))
    (fun H' p => by
      obtain ⟨p1, p2, ps, pl, hl, hn, hr⟩ := p
      rw [hm.rlen, List.take_length] at pl hr
      exact q _ H' (e1.trans p2) (RObjs.mv ⟨Dl, ps, rfl, hn.back e1, pl, hl, hr⟩))⟩
/-- [move for move in moves if ..]: the same tuples -/
theorem er_lcSel {a : Addr} {ts : List Addr} {ms : List (Nat × Nat)} {j : Nat} {vs : List Nat} (f : Nat × Nat → Bool) (h : Ev tl σ H (.ref a)) (hm : MvAt H a ts ms) (hz : ms.length ≤ 40000) (hw : ∀ x, wipe ((wipe σ vs).set j (some x)) vs = wipe σ vs)
    (ht : ∀ t m H1, Ex H H1 → m ∈ ms → H1 t = some (tupO m) → EvT tt ((wipe σ vs).set j (some (.ref t))) H1 (f m)) (he : ∀ t H1, Ex H H1 → Ev te ((wipe σ vs).set j (some (.ref t))) H1 (.ref t)) :
    EvR (tLc (iList K tl) (gName j) tt te vs) σ H (RM (fun z => z = ms.filter f)) := by
  have hmem : ∀ {k : Nat} {x : V}, (ts.map V.ref)[k]? = some x → ∃ t, x = .ref t ∧ ts.getD k 0 = t ∧ ∃ m, ms[k]? = some m ∧ ms.getD k (0, 0) = m ∧ H t = some (tupO m) := fun {k x} hx => by
    have kl : k < ms.length := by
      have := (List.getElem?_eq_some_iff.mp hx).1
      rw [hm.rlen] at this; exact this
    have mk := List.getElem?_eq_getElem kl
    obtain ⟨t, ht1, htr, htu⟩ := hm.at mk
    rw [htr] at hx
    exact ⟨t, (Option.some.inj hx).symm, getD_is ht1, ms[k], mk, getD_is mk, htu⟩
  refine er_weak (EvL.new (el_lcL (K := K) (xs := ts.map V.ref) (fun k => f (ms.getD k (0, 0))) (fun k => .ref (ts.getD k 0)) h (sq_of hm.top) (by rw [hm.rlen]; exact hz) hw (fun k x H1 e1 hx => ?_) (fun k x H1 e1 hx _ => ?_))) fun v H0 H1 e0 e1 hs => ?_
  · obtain ⟨t, rfl, _, m, hmk, e, htu⟩ := hmem hx
    rw [e]
    exact ht t m H1 e1 (List.mem_of_getElem? hmk) (e1 _ _ htu)
  · obtain ⟨t, rfl, e, _⟩ := hmem hx
    rw [e]
    exact he t H1 e1
  · obtain ⟨p, rfl, hp0, hp⟩ := hs
    rw [hm.rlen] at hp
    refine ⟨p, ((List.range ms.length).filter fun k => f (ms.getD k (0, 0))).map (fun k => ts.getD k 0), _, rfl, hp0, ⟨?_, ?_, fun i t m h1 h2 => ?_⟩, rfl⟩
    · rw [hp, List.map_map]; rfl
    · rw [← filter_at ms (0, 0) f, List.length_map, List.length_map]
    · rw [← filter_at ms (0, 0) f] at h2
      rw [List.getElem?_map] at h1 h2
      cases hk : ((List.range ms.length).filter fun k => f (ms.getD k (0, 0)))[i]? with
      | none => rw [hk] at h1; cases h1
      | some k =>
        rw [hk] at h1 h2
        have km := List.mem_range.mp (List.mem_filter.mp (List.mem_of_getElem? hk)).1
        obtain ⟨t', ht', _, htu⟩ := hm.at (List.getElem?_eq_getElem km)
        have e3 : t' = t := (getD_is ht').symm.trans (Option.some.inj h1)
        have e4 : ms[k] = m := (getD_is (List.getElem?_eq_getElem km)).symm.trans (Option.some.inj h2)
        rw [← e3, ← e4]
        exact (e0.trans e1) _ _ htu
theorem ev_tlen {t : Addr} {xs : List V} (ha : Ev te σ H (.ref t)) (h : SqT K H t xs) : Ev (tCB (rLenS K) (tCons te tNil)) σ H (.int (xs.length : Int)) := fun H1 e Q q =>
  ha H1 e _ fun H2 e2 => ⟨t, xs, rfl, .inr (ex_t (e.trans e2) h), q H2 e2⟩
theorem q_unp2 {D : Ends} {tz : TS} {i j : Nat} {t : Addr} {x y : V} (h : Ev te σ H (.ref t)) (ht : SqT K H t [x, y]) (k : ∀ H1, Ex H H1 → tz D ((σ.set i (some x)).set j (some y)) H1) : tSeq (tAsg te (gTup K 2 (gCons (gName i) (gCons (gName j) gNil)))) tz D σ H :=
  h H (Ex.refl H) _ fun H1 e => ⟨t, [x, y], rfl, ex_t e ht, rfl, x, [y], rfl, y, [], rfl, rfl, k H1 e⟩
end
end Sg
namespace Sg
open PySem PySem.Spec PyProof.Rows L2 Evl RZ
theorem pgTK {X : Cx} (K : PySem.W.Frag) {es : List Expr} {k : Nat} {pos : Pos} {t : TGs} {n : Nat} (h : PGs X es t) (hc : X.calm = true := by rfl) (hK : X.K = K := by rfl)
    (hn : (assignEach es X.env).length = n := by rfl) (hst : (assignEach es X.env).findIdx? (·.1) = none := by rfl) : PG X (.Tuple es k pos) (gTup K n t) := by subst hK; exact pg_tup hc h hn hst
end Sg
set_option Elab.async false
set_option linter.all false
set_option maxRecDepth 100000
set_option maxHeartbeats 4000000
namespace Sg
open PySem PySem.Spec PyProof.Rows L2 Evl RZ
theorem rv_notB {H : Hp} {a b : Bool} : RV rNotB (.bl a) (.bl b) H (.bl (!decide (a = b))) := fun H1 _ _ q => ⟨a, b, rfl, rfl, q H1 (Ex.refl H1)⟩
theorem rv_isB {H : Hp} {a b : Bool} : RV rIsB (.bl a) (.bl b) H (.bl (decide (a = b))) := fun H1 _ _ q => ⟨a, b, rfl, rfl, q H1 (Ex.refl H1)⟩
section
variable {K : PySem.W.Frag} {σ : L2.St} {H : Hp} {tn tw te : TE} {vs : List Nat}
theorem er_cutV {n j : Nat} {a : Addr} {ps : List Addr} {w : List (List Nat)} (h : Ev tw σ H (.ref a)) (hw1 : WebAt H a ps w) (g : GoodWeb w) (ac : Acyc w) (hl : w.length ≤ 40) (h1 : 1 ≤ n) (hn : ∀ H1, Ex H H1 → Ev tn σ H1 (ni n)) (hw : ∀ x, wipe ((wipe σ vs).set j (some x)) vs = wipe σ vs)
    (he : ∀ (p : Addr) (r : List Nat) H1, Ex H H1 → H1 p = some (.lst (nl r)) → r.length ≤ 40 → EvL te ((wipe σ vs).set j (some (.ref p))) H1 (nl (r.filter fun x => decide (x < n)))) :
    EvR (tLc (iList K (tSl (rSlL K) tw tNoPart (tPart tn))) (gName j) tYes te vs) σ H (RW (fun w => GoodWeb w ∧ Acyc w ∧ w.length ≤ n)) := by
  have lt : (ps.take n).length = min n w.length := by rw [List.length_take, hw1.len]
  refine er_lcB (R := fun v _ H1 => ∃ p, v = .ref p ∧ H1 p = some (.lst ((ps.take n).map V.ref))) (er_weak (EvL.new (el_is (el_sl (K := K) h eo_none (eo_some (hn H (Ex.refl H))) hw1.seq) (cut_to V.ref ps n))) fun v H2 H3 e2 e3 hs => ?_) (fun v H0 H1 e0 e1 r => ?_) (fun v H0 H1 H2 e hs => hs.back e)
  · obtain ⟨p, rfl, _, hp⟩ := hs
    exact ⟨p, rfl, hp⟩
  · obtain ⟨p, rfl, hp⟩ := r
    have hw2 := hw1.mono (e0.trans e1)
    refine er_weak (er_lcWL (K := K) (xs := (ps.take n).map V.ref) (fun i => nl ((row w i).filter fun x => decide (x < n))) ev_c (sq_of hp) (by rw [List.length_map, lt]; omega) hw (fun i x H4 e4 hx => ?_)) fun v H2 H3 e2 e3 hs => ?_
    · have il : i < min n w.length := by
        have := (List.getElem?_eq_some_iff.mp hx).1
        rw [List.length_map, lt] at this; exact this
      obtain ⟨q, hq, hqr, hrow⟩ := web_row (K := K) (hw2.mono e4) (i := i) (by omega)
      have : (ps.take n)[i]? = some q := by rw [List.getElem?_take_of_lt (by omega)]; exact hq
      rw [List.getElem?_map, this] at hx
      cases hx
      have rl := good_len g (row_at (show i < w.length by omega))
      exact he q _ H4 ((e0.trans e1).trans e4) hrow (by omega)
    · obtain ⟨xa, xps, xw, rfl, hx, nx, ex⟩ := RRows.web hs
      rw [List.length_map, lt] at ex
      have ex' : xw = cutW w n := ex
      exact ⟨xa, xps, xw, rfl, hx, nx, by rw [ex']; exact cutW_good g h1, by rw [ex']; exact cutW_acyc g ac h1, by rw [ex', cutW_len]; omega⟩
end
end Sg
set_option Elab.async false
set_option linter.all false
set_option maxRecDepth 100000
set_option maxHeartbeats 4000000
namespace Sg
open PySem PySem.Spec PyProof.Rows L2 Evl RZ
theorem web_ext {w v : List (List Nat)} (hl : w.length = v.length) (h : ∀ i, i < w.length → row w i = row v i) : w = v := by
  refine List.ext_getElem? fun i => ?_
  by_cases hi : i < w.length
  · rw [row_at hi, row_at (by rw [← hl]; exact hi), h i hi]
  · rw [List.getElem?_eq_none (by omega), List.getElem?_eq_none (by omega)]
theorem good_of {w : List (List Nat)} (hp : 1 ≤ w.length) (h1 : ∀ i, i < w.length → (row w i).Nodup) (h2 : ∀ i, i < w.length → ∀ x ∈ row w i, x < w.length) : GoodWeb w := by
  refine ⟨hp, fun i r hr => ?_, fun i r hr x hx => ?_⟩
  · have hi := (List.getElem?_eq_some_iff.mp hr).1
    rw [← row_get hr]; exact h1 i hi
  · have hi := (List.getElem?_eq_some_iff.mp hr).1
    rw [← row_get hr] at hx; exact h2 i hi x hx
theorem acyc_self {w : List (List Nat)} (ac : Acyc w) {i : Nat} (hi : i < w.length) : i ∉ row w i := fun h => by
  obtain ⟨rank, r1, r2⟩ := ac
  exact Nat.lt_irrefl _ (r2 i _ i (row_at hi) h)
theorem nodup_map {l : List Nat} {f : Nat → Nat} (nd : l.Nodup) (hf : ∀ a b, f a = f b → a = b) : (l.map f).Nodup := List.pairwise_map.mpr (List.Pairwise.imp (fun hne e => hne (hf _ _ e)) nd)
/-! ### joined -/
def joinW (w v : List (List Nat)) : List (List Nat) := w ++ v.map fun r => r.map (· + w.length)
theorem join_len (w v : List (List Nat)) : (joinW w v).length = w.length + v.length := by unfold joinW; rw [List.length_append, List.length_map]
theorem join_row1 {w v : List (List Nat)} {i : Nat} (h : i < w.length) : row (joinW w v) i = row w i := row_get (by unfold joinW; rw [List.getElem?_append_left h, row_at h])
theorem join_row2 {w v : List (List Nat)} {k : Nat} (h : k < v.length) : row (joinW w v) (w.length + k) = (row v k).map (· + w.length) := row_get (by
  unfold joinW
  rw [List.getElem?_append_right (by omega), show w.length + k - w.length = k by omega, List.getElem?_map, row_at h]; rfl)
theorem join_good {w v : List (List Nat)} (gw : GoodWeb w) (gv : GoodWeb v) : GoodWeb (joinW w v) := by
  have hp := gw.pos
  refine good_of (by rw [join_len]; omega) (fun i hi => ?_) (fun i hi x hx => ?_)
  · rw [join_len] at hi
    by_cases h : i < w.length
    · rw [join_row1 h]; exact gw.rnd i
    · obtain ⟨k, rfl⟩ : ∃ k, i = w.length + k := ⟨i - w.length, by omega⟩
      rw [join_row2 (by omega)]
      exact nodup_map (gv.rnd k) fun a b e => by omega
  · rw [join_len] at hi ⊢
    by_cases h : i < w.length
    · rw [join_row1 h] at hx; have := gw.rlt hx; omega
    · obtain ⟨k, rfl⟩ : ∃ k, i = w.length + k := ⟨i - w.length, by omega⟩
      rw [join_row2 (by omega)] at hx
      obtain ⟨y, hy, rfl⟩ := List.mem_map.mp hx
      have := gv.rlt hy; omega
theorem join_acyc {w v : List (List Nat)} (gw : GoodWeb w) (gv : GoodWeb v) (aw : Acyc w) (av : Acyc v) : Acyc (joinW w v) := by
  obtain ⟨r1, _, a2⟩ := aw
  obtain ⟨r2, _, b2⟩ := av
  refine acyc_of (join_good gw gv) (fun i => if i < w.length then r1 i else r2 (i - w.length)) fun i x hi hx => ?_
  rw [join_len] at hi
  by_cases h : i < w.length
  · rw [join_row1 h] at hx
    have hxl := gw.rlt hx
    show (if x < w.length then _ else _) < (if i < w.length then _ else _)
    rw [if_pos h, if_pos hxl]
    exact a2 i _ x (row_at h) hx
  · obtain ⟨k, rfl⟩ : ∃ k, i = w.length + k := ⟨i - w.length, by omega⟩
    have hk : k < v.length := by omega
    rw [join_row2 hk] at hx
    obtain ⟨y, hy, rfl⟩ := List.mem_map.mp hx
    show (if y + w.length < w.length then _ else _) < (if w.length + k < w.length then _ else _)
    rw [if_neg (by omega), if_neg (by omega), show y + w.length - w.length = y by omega, show w.length + k - w.length = k by omega]
    exact b2 k _ y (row_at hk) hy
theorem gx_app1 {g h : List Nat} {i : Nat} (hi : i < g.length) : gx (g ++ h) i = gx g i := by unfold gx; rw [List.getD_eq_getElem?_getD, List.getElem?_append_left hi, List.getD_eq_getElem?_getD]
theorem gx_app2 {g h : List Nat} {k : Nat} : gx (g ++ h) (g.length + k) = gx h k := by unfold gx; rw [List.getD_eq_getElem?_getD, List.getElem?_append_right (by omega), show g.length + k - g.length = k by omega, List.getD_eq_getElem?_getD]
theorem join_nums {w v : List (List Nat)} {g h : List Nat} (gw : GoodWeb w) (gv : GoodWeb v) (a : Nums w g) (b : Nums v h) : Nums (joinW w v) (g ++ h) := by
  refine ⟨by rw [List.length_append, join_len, a.len, b.len], fun i hi => ?_⟩
  rw [join_len] at hi
  by_cases hiw : i < w.length
  · have e : ahead (joinW w v) (g ++ h) i = ahead w g i := by
      unfold ahead
      rw [join_row1 hiw]
      exact List.map_congr_left fun m hm => gx_app1 (by rw [a.len]; exact gw.rlt hm)
    rw [e, gx_app1 (by rw [a.len]; exact hiw)]
    exact a.val i hiw
  · obtain ⟨k, rfl⟩ : ∃ k, i = w.length + k := ⟨i - w.length, by omega⟩
    have hk : k < v.length := by omega
    have e : ahead (joinW w v) (g ++ h) (w.length + k) = ahead v h k := by
      unfold ahead
      rw [join_row2 hk, List.map_map]
      refine List.map_congr_left fun m hm => ?_
      show gx (g ++ h) (m + w.length) = _
      rw [Nat.add_comm, ← a.len, gx_app2]
    rw [e, ← a.len, gx_app2]
    exact b.val k hk
/-! ### paired -/
def pairR (w v : List (List Nat)) (i k : Nat) : List Nat := (row w i).map (fun a => a * v.length + k) ++ (row v k).map (fun b => i * v.length + b)
def pairW (w v : List (List Nat)) : List (List Nat) := (List.range w.length).flatMap fun i => (List.range v.length).map fun k => pairR w v i k
theorem flat_tab {α : Type} (f : Nat → Nat → α) (n m : Nat) (hm : 0 < m) : ((List.range n).flatMap fun i => (List.range m).map fun k => f i k) = (List.range (n * m)).map fun t => f (t / m) (t % m) := by
  induction n with
  | zero => simp
  | succ n ih =>
    rw [flat_succ, ih, Nat.succ_mul, List.range_add, List.map_append, List.map_map]
    congr 1
    refine List.map_congr_left fun k hk => ?_
    have hk' := List.mem_range.mp hk
    show f n k = f ((n * m + k) / m) ((n * m + k) % m)
    rw [Nat.mul_comm n m, Nat.mul_add_div hm, Nat.div_eq_of_lt hk', Nat.add_zero, Nat.mul_add_mod, Nat.mod_eq_of_lt hk']
theorem split2 {n m t : Nat} (h : t < n * m) : t / m < n ∧ t % m < m ∧ t / m * m + t % m = t := by
  have hm : 0 < m := by
    rcases Nat.eq_zero_or_pos m with z | z
    · rw [z, Nat.mul_zero] at h; omega
    · exact z
  exact ⟨Nat.div_lt_of_lt_mul (by rw [Nat.mul_comm]; exact h), Nat.mod_lt _ hm, by have := Nat.div_add_mod t m; rw [Nat.mul_comm] at this; exact this⟩
theorem two_lt {n m i k : Nat} (hi : i < n) (hk : k < m) : i * m + k < n * m := by
  have : (i + 1) * m ≤ n * m := Nat.mul_le_mul_right m hi
  rw [Nat.succ_mul] at this
  omega
theorem two_div {m i k : Nat} (hk : k < m) : (i * m + k) / m = i ∧ (i * m + k) % m = k := by
  rw [Nat.mul_comm i m, Nat.mul_add_div (by omega), Nat.div_eq_of_lt hk, Nat.add_zero, Nat.mul_add_mod, Nat.mod_eq_of_lt hk]
  exact ⟨rfl, rfl⟩
theorem two_inj {m i k a b : Nat} (hk : k < m) (hb : b < m) (e : i * m + k = a * m + b) : i = a ∧ k = b := by
  have h1 := two_div (i := i) hk
  have h2 := two_div (i := a) hb
  rw [e] at h1
  exact ⟨h1.1.symm.trans h2.1, h1.2.symm.trans h2.2⟩
theorem pair_len (w v : List (List Nat)) (hv : 0 < v.length) : (pairW w v).length = w.length * v.length := by unfold pairW; rw [flat_tab _ _ _ hv, List.length_map, List.length_range]
theorem pair_row {w v : List (List Nat)} {i k : Nat} (hi : i < w.length) (hk : k < v.length) : row (pairW w v) (i * v.length + k) = pairR w v i k := row_get (by
  unfold pairW
  rw [flat_tab _ _ _ (by omega), List.getElem?_map, List.getElem?_range (two_lt hi hk)]
  show some (pairR w v _ _) = _
  rw [(two_div hk).1, (two_div hk).2])
theorem pairR_nodup {w v : List (List Nat)} (gw : GoodWeb w) (gv : GoodWeb v) {i k : Nat} (hk : k < v.length) (hs : i ∉ row w i) : (pairR w v i k).Nodup := by
  refine List.nodup_append.mpr ⟨nodup_map (gw.rnd i) fun a b e => (two_inj hk hk e).1, nodup_map (gv.rnd k) fun a b e => by omega, fun x hx y hy e => ?_⟩
  obtain ⟨a, ha, rfl⟩ := List.mem_map.mp hx
  obtain ⟨b, hb, rfl⟩ := List.mem_map.mp hy
  have e1 := (two_inj hk (gv.rlt hb) e).1
  rw [e1] at ha
  exact hs ha
theorem pair_good {w v : List (List Nat)} (gw : GoodWeb w) (gv : GoodWeb v) (hs : ∀ i, i < w.length → i ∉ row w i) : GoodWeb (pairW w v) := by
  have hp := gw.pos
  have hq := gv.pos
  have hl := pair_len w v hq
  refine good_of (by rw [hl]; exact Nat.mul_pos hp hq) (fun t ht => ?_) (fun t ht x hx => ?_)
  · rw [hl] at ht
    obtain ⟨h1, h2, h3⟩ := split2 ht
    rw [← h3, pair_row h1 h2]
    exact pairR_nodup gw gv h2 (hs _ h1)
  · rw [hl] at ht ⊢
    obtain ⟨h1, h2, h3⟩ := split2 ht
    rw [← h3, pair_row h1 h2] at hx
    rcases List.mem_append.mp hx with z | z
    · obtain ⟨a, ha, rfl⟩ := List.mem_map.mp z
      exact two_lt (gw.rlt ha) h2
    · obtain ⟨b, hb, rfl⟩ := List.mem_map.mp z
      exact two_lt h1 (gv.rlt hb)
theorem pair_acyc {w v : List (List Nat)} (gw : GoodWeb w) (gv : GoodWeb v) (aw : Acyc w) (av : Acyc v) : Acyc (pairW w v) := by
  have g := pair_good gw gv fun i hi => acyc_self aw hi
  have hq := gv.pos
  obtain ⟨r1, _, a2⟩ := aw
  obtain ⟨r2, _, b2⟩ := av
  refine acyc_of g (fun t => r1 (t / v.length) + r2 (t % v.length)) fun t x ht hx => ?_
  rw [pair_len w v hq] at ht
  obtain ⟨h1, h2, h3⟩ := split2 ht
  rw [← h3, pair_row h1 h2] at hx
  rcases List.mem_append.mp hx with z | z
  · obtain ⟨a, ha, rfl⟩ := List.mem_map.mp z
    show r1 ((a * v.length + t % v.length) / v.length) + r2 ((a * v.length + t % v.length) % v.length) < _
    rw [(two_div h2).1, (two_div h2).2]
    have := a2 _ _ a (row_at h1) ha
    omega
  · obtain ⟨b, hb, rfl⟩ := List.mem_map.mp z
    show r1 ((t / v.length * v.length + b) / v.length) + r2 ((t / v.length * v.length + b) % v.length) < _
    rw [(two_div (gv.rlt hb)).1, (two_div (gv.rlt hb)).2]
    have := b2 _ _ b (row_at h2) hb
    omega
/-- a table over both -/
def tab2 (n m : Nat) (f : Nat → Nat → Nat) : List Nat := (List.range n).flatMap fun i => (List.range m).map fun k => f i k
theorem tab2_at {n m i k : Nat} (f : Nat → Nat → Nat) (hi : i < n) (hk : k < m) : gx (tab2 n m f) (i * m + k) = f i k := gx_of (by
  unfold tab2
  rw [flat_tab _ _ _ (by omega), List.getElem?_map, List.getElem?_range (two_lt hi hk)]
  show some (f _ _) = _
  rw [(two_div hk).1, (two_div hk).2])
theorem tab2_len {n m : Nat} (f : Nat → Nat → Nat) (hm : 0 < m) : (tab2 n m f).length = n * m := by unfold tab2; rw [flat_tab _ _ _ hm, List.length_map, List.length_range]
theorem pair_sol {R : List Nat → Nat → Prop} {w v : List (List Nat)} (f : Nat → Nat → Nat) (gw : GoodWeb w) (gv : GoodWeb v) (h : ∀ i k, i < w.length → k < v.length → R ((row w i).map (fun a => f a k) ++ (row v k).map (fun b => f i b)) (f i k)) : Sol R (pairW w v) (tab2 w.length v.length f) := by
  have hq := gv.pos
  refine ⟨by rw [tab2_len f hq, pair_len w v hq], fun t ht => ?_⟩
  rw [pair_len w v hq] at ht
  obtain ⟨h1, h2, h3⟩ := split2 ht
  have e : ahead (pairW w v) (tab2 w.length v.length f) (t / v.length * v.length + t % v.length) = (row w (t / v.length)).map (fun a => f a (t % v.length)) ++ (row v (t % v.length)).map (fun b => f (t / v.length) b) := by
    unfold ahead
    rw [pair_row h1 h2]
    unfold pairR
    rw [List.map_append, List.map_map, List.map_map]
    congr 1
    · exact List.map_congr_left fun a ha => tab2_at f (gw.rlt ha) h2
    · exact List.map_congr_left fun b hb => tab2_at f h1 (gv.rlt hb)
  have := h _ _ h1 h2
  rw [← e, ← tab2_at f h1 h2, h3] at this
  exact this
theorem pair_nums {w v : List (List Nat)} {g h : List Nat} (gw : GoodWeb w) (gv : GoodWeb v) (a : Nums w g) (b : Nums v h) : Nums (pairW w v) (tab2 w.length v.length fun i k => gx g i ^^^ gx h k) :=
  pair_sol _ gw gv fun i k hi hk => by
    have := mex_xor (a.val i hi) (b.val k hk)
    unfold ahead at this
    rw [List.map_map, List.map_map] at this
    exact this
theorem mx_app (l r : List Nat) : mx (l ++ r) = max (mx l) (mx r) := by
  induction l with
  | nil => show mx r = max 0 (mx r); omega
  | cons a l ih => show max a (mx (l ++ r)) = max (max a (mx l)) (mx r); rw [ih]; omega
theorem mx_add (l : List Nat) (c : Nat) (h : l ≠ []) : mx (l.map (· + c)) = mx l + c := by
  refine mx_eq (fun x hx => ?_) (.inr (List.mem_map.mpr ⟨mx l, mx_in h, rfl⟩))
  obtain ⟨y, hy, rfl⟩ := List.mem_map.mp hx
  have := mx_ge hy
  omega
theorem pair_lens {w v : List (List Nat)} {g h : List Nat} (gw : GoodWeb w) (gv : GoodWeb v) (a : Lens w g) (b : Lens v h) : Lens (pairW w v) (tab2 w.length v.length fun i k => gx g i + gx h k) :=
  pair_sol _ gw gv fun i k hi hk => by
    have ha : gx g i = mx ((ahead w g i).map (· + 1)) := a.val i hi
    have hb : gx h k = mx ((ahead v h k).map (· + 1)) := b.val k hk
    show gx g i + gx h k = mx (List.map (· + 1) _)
    rw [List.map_append, mx_app, List.map_map, List.map_map]
    have e1 : (row w i).map ((· + 1) ∘ fun a => gx g a + gx h k) = ((ahead w g i).map (· + 1)).map (· + gx h k) := by
      unfold ahead
      rw [List.map_map, List.map_map]
      exact List.map_congr_left fun x _ => by show gx g x + gx h k + 1 = gx g x + 1 + gx h k; omega
    have e2 : (row v k).map ((· + 1) ∘ fun b => gx g i + gx h b) = ((ahead v h k).map (· + 1)).map (· + gx g i) := by
      unfold ahead
      rw [List.map_map, List.map_map]
      exact List.map_congr_left fun x _ => by show gx g i + gx h x + 1 = gx h x + 1 + gx g i; omega
    rw [e1, e2]
    generalize (ahead w g i).map (· + 1) = A at ha
    generalize (ahead v h k).map (· + 1) = B at hb
    cases hA : A with
    | nil =>
      rw [hA] at ha
      have ha' : gx g i = 0 := ha
      cases hB : B with
      | nil => rw [hB] at hb; have hb' : gx h k = 0 := hb; rw [ha', hb']; rfl
      | cons y B' =>
        rw [← hB, mx_add B _ (by rw [hB]; simp), ← hb, ha']
        show 0 + _ = max 0 _
        omega
    | cons x A' =>
      rw [← hA, mx_add A _ (by rw [hA]; simp), ← ha]
      cases hB : B with
      | nil => rw [hB] at hb; have hb' : gx h k = 0 := hb; rw [hb']; show _ = max _ 0; omega
      | cons y B' =>
        rw [← hB, mx_add B _ (by rw [hB]; simp), ← hb]
        omega
theorem rn_two (g h : List Nat) {i k : Nat} (hi : i < g.length) : rn (g ++ h) [i, g.length + k] = gx g i ^^^ gx h k := by
  unfold rn
  show xs [gx (g ++ h) i, gx (g ++ h) (g.length + k)] = _
  rw [gx_app1 hi, gx_app2, xs_cons, xs_cons, xs_nil, Nat.xor_zero]
/-! ### readings -/
section
variable {K : PySem.W.Frag} {σ : L2.St} {H : Hp} {ta tb te tl : TE} {D : Ends} {tz : TS}
theorem WebAt.cat {H : Hp} {a b p : Addr} {ps qs : List Addr} {w v : List (List Nat)} (h1 : WebAt H a ps w) (h2 : WebAt H b qs v) (hp : H p = some (.lst (ps.map V.ref ++ qs.map V.ref))) : WebAt H p (ps ++ qs) (w ++ v) := by
  refine ⟨by rw [hp, List.map_append], by rw [List.length_append, List.length_append, h1.len, h2.len], fun i q r e1 e2 => ?_⟩
  by_cases hi : i < ps.length
  · rw [List.getElem?_append_left hi] at e1
    rw [List.getElem?_append_left (by rw [← h1.len]; exact hi)] at e2
    exact h1.row i q r e1 e2
  · rw [List.getElem?_append_right (by omega)] at e1
    rw [List.getElem?_append_right (by rw [← h1.len]; omega), ← h1.len] at e2
    exact h2.row _ q r e1 e2
/-- two new webs, one behind the other -/
theorem er_catWW {P Q : List (List Nat) → Prop} (ha : EvR ta σ H (RW P)) (hb : ∀ H1, Ex H H1 → EvR tb σ H1 (RW Q)) (hl : ∀ w v, P w → Q v → w.length + v.length ≤ 100000) : EvR (tOp rCat ta tb) σ H (RW (fun w => ∃ w1 w2, P w1 ∧ Q w2 ∧ w = w1 ++ w2)) := fun H1 e R q =>
  ha H1 e _ fun v H2 e2 r2 => hb H2 (e.trans e2) H2 (Ex.refl H2) _ fun u H3 e3 r3 => by
    obtain ⟨a, ps, w1, rfl, h1, n1, p1⟩ := r2
    obtain ⟨b, qs, w2, rfl, h2, n2, p2⟩ := r3
    have h13 := h1.mono e3
    refine ⟨a, b, _, _, rfl, rfl, h13.top, h2.top, sz_of (by rw [h1.rlen, h2.rlen]; exact hl w1 w2 p1 p2), fun p hp => ?_⟩
    have ap := h2.apart hp
    have ap1 := h13.apart hp
    refine q _ _ ((e2.trans e3).trans (Ex.new hp)) ⟨p, ps ++ qs, w1 ++ w2, rfl, (h13.mono (Ex.new hp)).cat (h2.mono (Ex.new hp)) upd_same, ⟨fresh_back (e2.trans e3) hp, fun z hz => ?_, ?_, fun hm => ?_⟩, w1, w2, p1, p2, rfl⟩
    · rcases List.mem_append.mp hz with k | k
      · exact n1.row z k
      · exact fresh_back e2 (n2.row z k)
    · exact List.nodup_append.mpr ⟨n1.nd, n2.nd, fun x hx y hy z => (h1.apart (n2.row y hy)).2 (by rw [← z]; exact hx)⟩
    · rcases List.mem_append.mp hm with k | k
      · exact ap1.2 k
      · exact ap.2 k
theorem RObjs.web {L : List (List Nat)} {v : V} {H0 H : Hp} (h : RObjs (L.map fun r => HO.lst (nl r)) v H0 H) : RW (fun w => w = L) v H0 H := by
  obtain ⟨D, ps, rfl, hn, hl, ht, hr⟩ := h
  rw [List.length_map] at hl
  exact ⟨D, ps, L, rfl, ⟨ht, hl, fun i p r h1 h2 => hr i p _ h1 (by rw [List.getElem?_map, h2]; rfl)⟩, hn, rfl⟩
theorem RW.to {P Q : List (List Nat) → Prop} {v : V} {H0 H : Hp} (h : RW P v H0 H) (k : ∀ w, P w → Q w) : RW Q v H0 H := by
  obtain ⟨a, ps, w, h1, h2, h3, h4⟩ := h
  exact ⟨a, ps, w, h1, h2, h3, k w h4⟩
/-- for x in a new list of rows: x.append(0) -/
theorem q_forAppL {ps : List Addr} {w : List (List Nat)} {j : Nat} (h : EvL tl σ H (ps.map V.ref)) (hr : ∀ (i : Nat) (p : Addr) (r : List Nat), ps[i]? = some p → w[i]? = some r → H p = some (.lst (nl r))) (hl : ps.length = w.length) (nd : ps.Nodup) (hb : ∀ i, i < w.length → (row w i).length < 50000) (hj : j < σ.length)
    (k : ∀ y H', (∀ b o, b ∉ ps → H b = some o → H' b = some o) → (∀ (i : Nat) (p : Addr) (r : List Nat), ps[i]? = some p → w[i]? = some r → H' p = some (.lst (nl (r ++ [0])))) → tz D (σ.set j y) H') :
    tSeq (tFor (iList K tl) (gName j) (tDrop (tBM K "list" rAppend (tVar j) (tCons (tC (.int 0)) tNil)))) tz D σ H := by
  refine q_forNLn h (fun a i σ' H' => (∃ y, σ' = σ.set j y) ∧ (∀ b o, b ∉ ps → H b = some o → H' b = some o) ∧ WebAt H' a ps (app0 w i) ∧ a ∉ ps) (fun a H1 na e1 h1 => ⟨⟨σ.getD j none, ?_⟩, fun b o _ e => e1 b o e, ⟨h1, by rw [app0_len]; exact hl, fun i p r e2 e3 => ?_⟩, fun hm => ?_⟩) (fun a i σ' H' _ hI => hI.2.2.1.seq) (fun a i x σ' H' hx hI => ?_) (fun a σ' H' hI => ?_)
  · refine List.ext_getElem? fun i => ?_
    by_cases e : j = i
    · subst e
      rw [List.getElem?_set_self hj, List.getD_eq_getElem?_getD, List.getElem?_eq_getElem hj]; rfl
    · rw [List.getElem?_set_ne e]
  · rw [app0_zero] at e3
    exact e1 _ _ (hr i p r e2 e3)
  · obtain ⟨i, hi, e⟩ := List.getElem_of_mem hm
    have := hr i a w[i] (by rw [List.getElem?_eq_getElem hi, e]) (List.getElem?_eq_getElem (by rw [← hl]; exact hi))
    rw [na] at this; cases this
  · obtain ⟨⟨y, rfl⟩, hk, hI, na⟩ := hI
    have il : i < w.length := by
      have := (List.getElem?_eq_some_iff.mp hx).1
      rw [List.length_map, hl] at this; exact this
    obtain ⟨p, hp, hpr, hrow⟩ := web_row (K := K) hI (i := i) (by rw [app0_len]; exact il)
    rw [hpr] at hx
    cases hx
    rw [app0_row il, if_neg (by omega)] at hrow
    have pin := List.mem_of_getElem? hp
    refine s_app hrow (ev_var (by rw [List.getElem?_set_self (by rw [List.length_set]; exact hj)])) ev_c (by rw [nl_len]; have := hb i il; omega) (fun H4 e4 => ⟨⟨some (.ref p), by rw [List.set_set]⟩, fun b o hbp e => ?_, ?_, na⟩)
    · rw [upd_ne (fun z => hbp (by rw [z]; exact pin))]
      exact e4 _ _ (hk b o hbp e)
    · have := (hI.mono e4).set nd na hp (row w i ++ [0])
      rw [app0_set il, nl_app] at this
      exact this
  · obtain ⟨⟨y, rfl⟩, hk, hI, na⟩ := hI
    rw [List.length_map, hl] at hI
    refine k y H' hk fun i p r e1 e2 => ?_
    have il := (List.getElem?_eq_some_iff.mp e2).1
    have := hI.row i p (r ++ [0]) e1 (by rw [row_at (by rw [app0_len]; exact il), app0_row il, if_pos il, row_get e2])
    exact this
theorem q_setLL {l : Addr} {xs ys : List V} {j : Nat} (hl : H l = some (.lst xs)) (h : EvL te σ H ys) (ho : ∀ H1, Ex H H1 → Ev ta σ H1 (.ref l)) (hi : ∀ H1, Ex H H1 → Ev tb σ H1 (.int (j : Int))) (hj : j < xs.length) (k : ∀ p H1, H p = none → Ex H H1 → H1 p = some (.lst ys) → tz D σ (upd H1 l (.lst (xs.set j (.ref p))))) :
    tSeq (tAsg te (gSub ta tb rSetL)) tz D σ H := h H (Ex.refl H) _ fun p H1 hp e1 h1 => ho H1 e1 H1 (Ex.refl H1) _ fun H2 e2 => hi H2 (e1.trans e2) H2 (Ex.refl H2) _ fun H3 e3 =>
  ⟨l, xs, (j : Int), j, rfl, rfl, ((e1.trans e2).trans e3) l _ hl, ixN_nat hj, k p H3 hp ((e1.trans e2).trans e3) ((e2.trans e3) _ _ h1)⟩
/-- xs.extend(ys), ys new -/
theorem q_extend {l : Addr} {xs ys : List V} (hl : H l = some (.lst xs)) (ha : Ev ta σ H (.ref l)) (h : EvL te σ H ys) (hz : xs.length + ys.length ≤ 100000) (k : ∀ H1, Ex H H1 → tz D σ (upd H1 l (.lst (xs ++ ys)))) :
    tSeq (tDrop (tBM K "list" rExtend ta (tCons te tNil))) tz D σ H := ha H (Ex.refl H) _ fun H1 e1 =>
  ⟨Or.inl ⟨rfl, xs, sq_of (e1 l _ hl)⟩, h H1 e1 _ fun p H2 hp e2 h2 => ⟨l, p, xs, ys, rfl, rfl, e2 l _ (e1 l _ hl), h2, sz_of hz, k H2 (e1.trans e2)⟩⟩
theorem s_extend {l : Addr} {xs ys : List V} (hl : H l = some (.lst xs)) (ha : Ev ta σ H (.ref l)) (h : EvL te σ H ys) (hz : xs.length + ys.length ≤ 100000) (k : ∀ H1, Ex H H1 → D.nx σ (upd H1 l (.lst (xs ++ ys)))) :
    tDrop (tBM K "list" rExtend ta (tCons te tNil)) D σ H := ha H (Ex.refl H) _ fun H1 e1 =>
  ⟨Or.inl ⟨rfl, xs, sq_of (e1 l _ hl)⟩, h H1 e1 _ fun p H2 hp e2 h2 => ⟨l, p, xs, ys, rfl, rfl, e2 l _ (e1 l _ hl), h2, sz_of hz, k H2 (e1.trans e2)⟩⟩
end
theorem webs_shaped (w v : List (List Nat)) : SeqAt.shaped (.list [webD w, webD v]) = true := by
  unfold SeqAt.shaped
  rw [PyData.canLay0, canLayAll_of _ (fun d hd => by
    simp only [List.mem_cons, List.not_mem_nil, or_false] at hd
    rcases hd with rfl | rfl <;> exact web_lay _)]
  have wd : ∀ w, (webD w).depth ≤ 3 := fun w => by
    unfold webD
    rw [PyData.depth]
    have : PyData.depthAll (w.map rowD) ≤ 2 := depthAll_le 2 _ fun d hd => by
      obtain ⟨n, _, rfl⟩ := List.mem_map.mp hd
      exact row_depth n
    omega
  have : (PyData.list [webD w, webD v]).depth ≤ 4 := by
    rw [PyData.depth]
    have := depthAll_le 3 [webD w, webD v] fun d hd => by
      simp only [List.mem_cons, List.not_mem_nil, or_false] at hd
      rcases hd with rfl | rfl <;> exact wd _
    omega
  rw [decide_eq_true (by omega)]
  rfl
theorem dp_webs {K : PySem.W.Frag} {H : Hp} {l a b : Addr} {ps qs : List Addr} {w v : List (List Nat)} (hl : H l = some (.lst [.ref a, .ref b])) (hw : WebAt H a ps w) (hv : WebAt H b qs v) : Dp K H (.ref l) (.list [webD w, webD v]) :=
  .lst (sq_of hl) (.cons hw.dp (.cons hv.dp .nil))
end Sg
set_option Elab.async false
set_option linter.all false
set_option maxRecDepth 100000
set_option maxHeartbeats 4000000
namespace Sg
open PySem PySem.Spec PyProof.Rows L2 Evl RZ
theorem Sol.ex {R : List Nat → Nat → Prop} (tot : ∀ l, ∃ n, R l n) {w : List (List Nat)} (gw : GoodWeb w) (ac : Acyc w) : ∃ g, Sol R w g := by
  obtain ⟨rank, r1, r2⟩ := ac
  have key : ∀ n, ∃ G : Nat → Nat, ∀ i, i < w.length → rank i < n → R ((row w i).map G) (G i) := by
    intro n
    induction n with
    | zero => exact ⟨fun _ => 0, fun i _ h => absurd h (by omega)⟩
    | succ n ih =>
      obtain ⟨G, hG⟩ := ih
      refine ⟨fun i => if rank i = n then (tot ((row w i).map G)).choose else G i, fun i hi hr => ?_⟩
      have e : (row w i).map (fun i => if rank i = n then (tot ((row w i).map G)).choose else G i) = (row w i).map G := List.map_congr_left fun m hm => by
        have := r2 i _ m (row_at hi) hm
        show (if rank m = n then _ else _) = _
        rw [if_neg (by omega)]
      rw [e]
      show R _ (if rank i = n then _ else _)
      by_cases h : rank i = n
      · rw [if_pos h]; exact (tot ((row w i).map G)).choose_spec
      · rw [if_neg h]; exact hG i hi (by omega)
  obtain ⟨G, hG⟩ := key w.length
  exact ⟨_, Sol.tab gw G fun i hi => hG i hi (r1 i hi)⟩
theorem Lens.ex {w : List (List Nat)} (gw : GoodWeb w) (ac : Acyc w) : ∃ g, Lens w g := Sol.ex (R := IsLen) (fun l => ⟨mx (l.map (· + 1)), rfl⟩) gw ac
theorem WebAt.catR {H : Hp} {a p : Addr} {ps qs : List Addr} {w v : List (List Nat)} (h1 : WebAt H a ps w) (hl : qs.length = v.length) (h2 : ∀ (i : Nat) (q : Addr) (r : List Nat), qs[i]? = some q → v[i]? = some r → H q = some (.lst (nl r))) (hp : H p = some (.lst (ps.map V.ref ++ qs.map V.ref))) : WebAt H p (ps ++ qs) (w ++ v) := by
  refine ⟨by rw [hp, List.map_append], by rw [List.length_append, List.length_append, h1.len, hl], fun i q r e1 e2 => ?_⟩
  by_cases hi : i < ps.length
  · rw [List.getElem?_append_left hi] at e1
    rw [List.getElem?_append_left (by rw [← h1.len]; exact hi)] at e2
    exact h1.row i q r e1 e2
  · rw [List.getElem?_append_right (by omega)] at e1
    rw [List.getElem?_append_right (by rw [← h1.len]; omega), ← h1.len] at e2
    exact h2 _ q r e1 e2
theorem WebAt.put {H : Hp} {a x : Addr} {ps : List Addr} {w : List (List Nat)} {r : List Nat} {j : Nat} (h : WebAt H a ps w) (hx : H x = some (.lst (nl r))) (n1 : x ≠ a) (n2 : a ∉ ps) : WebAt (upd H a (.lst ((ps.map V.ref).set j (.ref x)))) a (ps.set j x) (w.set j r) := by
  refine ⟨by rw [upd_same, List.map_set], by rw [List.length_set, List.length_set, h.len], fun i q s e1 e2 => ?_⟩
  by_cases e : j = i
  · subst e
    have jl : j < ps.length := by have := (List.getElem?_eq_some_iff.mp e1).1; rwa [List.length_set] at this
    rw [List.getElem?_set_self jl] at e1
    rw [List.getElem?_set_self (by rw [← h.len]; exact jl)] at e2
    cases e1; cases e2
    rw [upd_ne n1]; exact hx
  · rw [List.getElem?_set_ne e] at e1 e2
    rw [upd_ne (fun z => n2 (by rw [← z]; exact List.mem_of_getElem? e1))]
    exact h.row i q s e1 e2
section
variable {K : PySem.W.Frag} {σ : L2.St} {H : Hp} {te : TE} {R : V → Hp → Hp → Prop}
theorem el_ofR {xs : List V} (h : EvR te σ H R) (k : ∀ v H0 H1, Ex H H0 → Ex H0 H1 → R v H0 H1 → ∃ p, v = .ref p ∧ H0 p = none ∧ H1 p = some (.lst xs)) : EvL te σ H xs := fun H1 e Q q => h H1 e Q fun v H2 e2 r => by
  obtain ⟨p, rfl, h0, h1⟩ := k v H1 H2 e e2 r
  exact q p H2 h0 e2 h1
end
theorem ev_opRL {σ : L2.St} {H : Hp} {ta tb : TE} {r : L2.R2} {z : V} {ys : List V} {R : V → Hp → Hp → Prop} (ha : EvR ta σ H R) (hb : ∀ H1, Ex H H1 → EvL tb σ H1 ys)
    (hr : ∀ v p H0 H1 H2, Ex H H0 → Ex H0 H1 → R v H0 H1 → Ex H1 H2 → H2 p = some (.lst ys) → RV r v (.ref p) H2 z) : Ev (tOp r ta tb) σ H z := fun H1 e Q q =>
  ha H1 e _ fun v H2 e2 r2 => hb H2 (e.trans e2) H2 (Ex.refl H2) _ fun p H3 hp e3 h3 => hr v p H1 H2 H3 e e2 r2 e3 h3 H3 (Ex.refl H3) Q fun H4 e4 => q H4 ((e2.trans e3).trans e4)
theorem cut_last (r : List Nat) : cutV (nl (r ++ [0])) none (some (-1)) = nl r := by
  unfold cutV
  rw [HT.sIx_none, Nat.sub_zero, List.drop_zero]
  have : HT.sIx (nl (r ++ [0])).length (nl (r ++ [0])).length (some (-1)) = r.length := by
    unfold HT.sIx
    rw [nl_len, List.length_append]
    simp
    omega
  rw [this, nl_app]
  exact List.take_left' (nl_len r)
/-- the web whose first spot gets another row -/
def ringW (w : List (List Nat)) : List (List Nat) := w.set 0 ((w.length - 1) :: (row w 0).filter fun x => decide (x < w.length - 1))
theorem ring_len (w : List (List Nat)) : (ringW w).length = w.length := by unfold ringW; rw [List.length_set]
theorem ring_good {w : List (List Nat)} (g : GoodWeb w) : GoodWeb (ringW w) := by
  have hp := g.pos
  have hr : ∀ i, row (ringW w) i = if 0 = i ∧ 0 < w.length then (w.length - 1) :: (row w 0).filter (fun x => decide (x < w.length - 1)) else row w i := fun i => row_set
  refine good_of (by rw [ring_len]; exact hp) (fun i hi => ?_) (fun i hi x hx => ?_)
  · rw [hr]
    split
    · exact List.nodup_cons.mpr ⟨fun hm => by have := of_decide_eq_true (List.mem_filter.mp hm).2; omega, List.Pairwise.filter _ (g.rnd 0)⟩
    · exact g.rnd i
  · rw [hr] at hx
    rw [ring_len]
    split at hx
    · rcases List.mem_cons.mp hx with z | z
      · rw [z]; omega
      · exact g.rlt (List.mem_filter.mp z).1
    · exact g.rlt hx
end Sg
set_option Elab.async false
set_option linter.all false
set_option maxRecDepth 100000
set_option maxHeartbeats 4000000
/-! own lemmas, part K: refusals -/
namespace Sg
open PySem PySem.Spec PyProof.Rows L2 Evl RZ
abbrev veL : List Value := [.type "ValueError", .type "Exception", .type "BaseException", .type "object"]
/-- a class of refusals, as the written part tells it -/
structure ExcF (K : PySem.W.Frag) (C : Addr) : Prop where
  k : PySem.W.keepIn K (.ref C) = true
  x : PySem.W.excIn K C veL "ValueError.__new__" = true
  b : PySem.W.subIn K (.ref C) (.type "BaseException") = some true
  t : PySem.W.typeIn K (.ref C) = some (.type "type")
  e : ExcC K C
/-- isinstance(e, c), e the refusal that the suite holds at a (its class cls, its dict d) -/
def tIsE (K : PySem.W.Frag) (a : Addr) (cls : Value) (d : Option Addr) (ta : TA) : TE := fun σ H Q => ta σ H fun vs H1 => ∃ (D : Addr) (c : V) (cv : Value) (b : Bool), cls = .ref D ∧ d = none ∧ ExcC K D ∧ vs = [.ref a, c] ∧ (∀ u, RelV c u → u = cv) ∧ PySem.W.kitOne K (.ref D) cv = some b ∧ Q (.bl b) H1
section
variable {X : Cx} {a : Addr} {oe : Obj} {cls : Value} {d : Option Addr} {pn : List (Addr × Obj)}
theorem call_isE' (hz : Zc cls d oe) (hf : ∃ vs, oe.data = .fields vs) (K : PySem.W.Frag) (hK : X.K = K := by rfl) : CallR (X.suite a ((a, oe) :: pn)) (.builtin "isinstance") (fun xs H Q => ∃ (D : Addr) (c : V) (cv : Value) (b : Bool), cls = .ref D ∧ d = none ∧ ExcC K D ∧ xs = [.ref a, c] ∧ (∀ u, RelV c u → u = cv) ∧ PySem.W.kitOne K (.ref D) cv = some b ∧ Q (.bl b) H) := by
  subst hK
  intro pins s σ H xs us Q I r h
  obtain ⟨D, c, cv, b, rfl, rfl, C, rfl, hcv, e, q⟩ := h
  exact call_isE C hz hf pins s σ H _ us Q I r ⟨c, cv, b, rfl, hcv, e, q⟩
end
section
variable {K : PySem.W.Frag} {σ : L2.St} {H : Hp} {ta tb te : TE} {a C D : Addr}
theorem ev_isE {b : Bool} (h1 : Ev ta σ H (.ref a)) (h2 : Ev tb σ H (.ref C)) (e : ExcC K D) (hk : PySem.W.kitOne K (.ref D) (.ref C) = some b) :
    Ev (tCB (fun xs H Q => ∃ (D' : Addr) (c : V) (cv : Value) (b : Bool), Value.ref D = .ref D' ∧ (none : Option Addr) = none ∧ ExcC K D' ∧ xs = [.ref a, c] ∧ (∀ u, RelV c u → u = cv) ∧ PySem.W.kitOne K (.ref D') cv = some b ∧ Q (.bl b) H) (tCons ta (tCons tb tNil))) σ H (.bl b) := fun H1 e1 Q q =>
  h1 H1 e1 _ fun H2 e2 => h2 H2 (e1.trans e2) _ fun H3 e3 => ⟨D, .ref C, .ref C, b, rfl, rfl, e, rfl, fun u r => r, hk, q H3 (e2.trans e3)⟩
theorem ev_isET {b : Bool} {T : String} (h1 : Ev ta σ H (.ref a)) (h2 : Ev tb σ H (.ty T)) (e : ExcC K D) (hk : PySem.W.kitOne K (.ref D) (.type T) = some b) :
    Ev (tCB (fun xs H Q => ∃ (D' : Addr) (c : V) (cv : Value) (b : Bool), Value.ref D = .ref D' ∧ (none : Option Addr) = none ∧ ExcC K D' ∧ xs = [.ref a, c] ∧ (∀ u, RelV c u → u = cv) ∧ PySem.W.kitOne K (.ref D') cv = some b ∧ Q (.bl b) H) (tCons ta (tCons tb tNil))) σ H (.bl b) := fun H1 e1 Q q =>
  h1 H1 e1 _ fun H2 e2 => h2 H2 (e1.trans e2) _ fun H3 e3 => ⟨D, .ty T, .type T, b, rfl, rfl, e, rfl, fun u r => r, hk, q H3 (e2.trans e3)⟩
end
/-- a call that may refuse: what its promise asks, at the arguments -/
theorem s_callX {σ : L2.St} {H : Hp} {vs : List V} {sp : Sp} {E : L2.St → XK} {ta : TA} {Q : VK} (h : EvA ta σ H vs) (k : ∀ H1, Ex H H1 → sp vs H1 Q (E σ)) : tCallS sp E ta σ H Q := h H (Ex.refl H) _ k
end Sg
set_option Elab.async false
set_option linter.all false
set_option maxRecDepth 100000
set_option maxHeartbeats 4000000
/-! own lemmas, part L: what is refused -/
namespace Sg
open PySem PySem.Spec PyProof.Rows L2 Evl RZ
section
variable {P : Program} {w : World} {K : PySem.W.Frag} {mg : Str → Option Value} {base : Heap} {CX : CXT} {k : Nat} {f : Addr} {fd : FuncData} {ps : List Str} {sp sp' : Sp}
theorem fnok_cx (F : FnOk P w K mg base CX0 k f fd ps sp) : FnOk P w K mg base CX k f fd ps sp :=
  ⟨F.len, fun A outer s H args us vs Q E hr he hb hv hs => codeAny_mono (F.run A outer s H args us vs Q E hr he hb hv hs) fun r s' q => by
    cases r with
    | error e => exact q.elim
    | ok fl =>
      cases fl with
      | ret u => exact q
      | next => exact q
      | brk => exact q
      | cont => exact q⟩
/-- two promises of one def -/
theorem fnok_or (F : FnOk P w K mg base CX k f fd ps sp) (G : FnOk P w K mg base CX k f fd ps sp') : FnOk P w K mg base CX k f fd ps (fun vs H Q E => sp vs H Q E ∨ sp' vs H Q E) :=
  ⟨fun vs H Q E q => q.elim (F.len vs H Q E) (G.len vs H Q E), fun A outer s H args us vs Q E hr he hb hv hs => hs.elim (F.run A outer s H args us vs Q E hr he hb hv) (G.run A outer s H args us vs Q E hr he hb hv)⟩
end
/-! ### len(set(xs)), doubles or not -/
theorem met_full (ns : List Int) : ∀ i, i ≤ ns.length → (PyProof.Rows.firstMet (fun i => ns.getD i 0) i).length = i → PyProof.Rows.firstMet (fun i => ns.getD i 0) i = ns.take i ∧ (ns.take i).Nodup
  | 0, _, _ => ⟨by rw [PyProof.Rows.firstMet_zero, List.take_zero], by rw [List.take_zero]; exact List.nodup_nil⟩
  | i + 1, hi, h => by
    have le := PyProof.Rows.firstMet_length_le (fun i => ns.getD i 0) i
    rw [PyProof.Rows.firstMet_succ] at h ⊢
    unfold PyProof.Rows.step_dedup at h ⊢
    have e2 : ns.take (i + 1) = ns.take i ++ [ns.getD i 0] := by
      rw [List.take_add_one, List.getD_eq_getElem?_getD, List.getElem?_eq_getElem hi]; rfl
    cases hb : (PyProof.Rows.firstMet (fun i => ns.getD i 0) i).any (· == ns.getD i 0) with
    | true => rw [hb, if_pos rfl] at h; omega
    | false =>
      rw [hb, if_neg Bool.false_ne_true] at h
      rw [List.length_append] at h
      have hl : (PyProof.Rows.firstMet (fun i => ns.getD i 0) i).length = i := by simp at h; exact h
      obtain ⟨h1, h2⟩ := met_full ns i (by omega) hl
      rw [if_neg Bool.false_ne_true, e2, h1]
      refine ⟨rfl, List.nodup_append.mpr ⟨h2, by simp, fun x hx y hy e => ?_⟩⟩
      rw [List.mem_singleton] at hy
      subst hy; subst e
      rw [h1] at hb
      have : (ns.take i).any (· == ns.getD i 0) = true := List.any_eq_true.mpr ⟨_, hx, beq_self_eq_true _⟩
      rw [hb] at this; cases this
def tLenSetX (K : PySem.W.Frag) (ta : TE) : TE := fun σ H Q => ta σ H fun x H1 => ∃ (l : Addr) (ns : List Int), x = .ref l ∧ SqL K H1 l (ns.map V.int) ∧ ns.length ≤ 4000 ∧ ∀ n : Nat, (n = ns.length ↔ ns.Nodup) → Q (.int (n : Int)) H1
theorem pe_lenSetX {X : Cx} {a : Expr} {ta : TE} {p p2 q pos : Pos} (hg : Gl X "len") (hm : X.mg "len" = none) (hg2 : Gl X "set") (hm2 : X.mg "set" = none) (ha : PE X a ta) (hc : X.calm = true := by rfl)
    (na : starEach [a] X.env = (false, eval a X.env) :: starEach [] X.env := by rfl) : PE X (.Call (.Name "len" p) [.Call (.Name "set" p2) [a] [] q] [] pos) (tLenSetX X.K ta) := by
  refine ⟨fun pins s σ H Q I h => ?_⟩
  refine Call_ (ld_blt I hg hm boot_len ?_)
  refine PyProof.Rows.callWith_builtin1 (PyProof.Rows.args_cons ?_ rfl) rfl rfl
  refine Call_ (ld_blt I hg2 hm2 boot_set ?_)
  refine PyProof.Rows.callWith_type1 (PyProof.Rows.args_cons (thn (ha.run pins s σ H _ I h) fun v s1 ⟨x, H1, I1, r1, q1⟩ => PyProof.Rows.args_nil ?_) na) na rfl
  obtain ⟨l, ns, rfl, hq, hl, q1⟩ := q1
  cases r1
  obtain ⟨its, r, pl, hz⟩ := I1.list hq
  have hlen : its.toArray.size = ns.length := by rw [List.size_toArray, ← r.length, List.length_map]
  refine call_set_list (I1.ok.hd hc) pl.isList (by simpa using intsAre_vals r) (by rw [hlen]; unfold scanBound; omega) fun h' tk hS hk => ?_
  refine PyProof.Rows.args_nil ?_
  rw [hlen] at hS
  have le := PyProof.Rows.firstMet_length_le (fun i => ns.getD i 0) ns.length
  have q2 := q1 (PyProof.Rows.firstMet (fun i => ns.getD i 0) ns.length).length ⟨fun h => by
    have := (met_full ns ns.length (Nat.le_refl _) h).2
    rwa [List.take_length] at this, fun h => by rw [RZ.firstMet_nodup h ns.length (Nat.le_refl _), List.take_length]⟩
  obtain ⟨o, es, ep, t, ho, hex, hd, _, _, _, hf, hn⟩ := hS
  have I2 : Inv X pins σ H1 { s1 with heap := h', toks := tk } := I1.kept fun b o e => hk b o (Heap.lt_size e) e
  exact call_len_set ho hex hd hf (by rw [hn] <;> omega) ⟨.int _, H1, I2.tok _, ⟨_, by rw [hn]⟩, q2⟩
theorem lenSetXK {X : Cx} (K : PySem.W.Frag) {a : Expr} {ta : TE} {p p2 q pos : Pos} (hg : Gl X "len") (hm : X.mg "len" = none) (hg2 : Gl X "set") (hm2 : X.mg "set" = none) (ha : PE X a ta) (hc : X.calm = true := by rfl)
    (na : starEach [a] X.env = (false, eval a X.env) :: starEach [] X.env := by rfl) (h : X.K = K := by rfl) : PE X (.Call (.Name "len" p) [.Call (.Name "set" p2) [a] [] q] [] pos) (tLenSetX K ta) := by subst h; exact pe_lenSetX hg hm hg2 hm2 ha hc na
/-- len(set(xs)) == len(xs) -/
theorem ev_lenSetEq {K : PySem.W.Frag} {σ : L2.St} {H : Hp} {ta tb : TE} {a : Addr} {ns : List Int} (h : Ev ta σ H (.ref a)) (hs : SqL K H a (ns.map V.int)) (hl : ns.length ≤ 4000) (hb : Ev tb σ H (.int (ns.length : Int))) : Ev (tOp rEq (tLenSetX K ta) tb) σ H (.bl (decide ns.Nodup)) := fun H1 e Q q =>
  h H1 e _ fun H2 e2 => ⟨a, ns, rfl, ex_l (e.trans e2) hs, hl, fun n hn => hb H2 (e.trans e2) _ fun H3 e3 => ⟨rfl, by
    have : decide (V.int (n : Int) = V.int (ns.length : Int)) = decide ns.Nodup := by
      rw [dec_int]
      by_cases hd : ns.Nodup
      · rw [decide_eq_true hd, hn.mpr hd]; simp
      · rw [decide_eq_false hd]
        refine beq_eq_false_iff_ne.mpr fun z => hd (hn.mp (Int.ofNat_inj.mp z))
    rw [this]
    exact q H3 (e2.trans e3)⟩⟩
/-! ### bs.count(b) -/
def rCntB (K : PySem.W.Frag) : V → List V → Hp → VK → Prop := fun x xs H Q => ∃ (p : Addr) (bs : List Bool) (b : Bool), x = .ref p ∧ xs = [.bl b] ∧ SqL K H p (bll bs) ∧ Q (.int (bs.count b : Nat)) H
theorem vals_bool : ∀ {bs : List Bool} {us : List Value}, Vals (bll bs) us → us = bs.map Value.bool
  | [], _, .nil => rfl
  | b :: bs, _, .cons r t => by
    cases (show _ = Value.bool b from r)
    rw [vals_bool t]; rfl
theorem cntB (b : Bool) : ∀ bs : List Bool, (bs.map Value.bool).countP (isBoolOf b) = bs.count b
  | [] => rfl
  | c :: bs => by
    rw [List.map_cons, List.countP_cons, List.count_cons, cntB b bs]; rfl
theorem mt_bcount {X : Cx} : MtR X "list.count" (rCntB X.K) := by
  intro pins s σ H x xs v us Q I rx rxs h
  obtain ⟨p, bs, b, rfl, rfl, hs, q⟩ := h
  cases rx
  obtain ⟨u, rfl, ru⟩ := rxs.one
  cases (show u = Value.bool b from ru)
  obtain ⟨its, rv, ⟨⟨cls, dd, data, sl⟩, n, ho, hc, hdn, hd⟩, hlen⟩ := I.list hs
  simp only at hc hd
  subst hc hd
  have hi := vals_bool rv
  refine call_meets PySem.F.slot_list_count ⟨_, ho, rfl⟩ PySem.F.entry_list_count (PySem.F.args_list_count_2 _ _)
    (SeqAt.list_countAt p its.toArray n dd sl (.bool b) (isBoolOf b)) ⟨ho, fun y hy => ?_, ?_⟩
  · have hy' : y ∈ its := by simpa using hy
    rw [hi] at hy'
    obtain ⟨c, _, rfl⟩ := List.mem_map.mp hy'
    exact PySem.SeqAt.EqAt.bool_bool c b
  · have ec : its.toArray.toList.countP (isBoolOf b) = bs.count b := by rw [show its.toArray.toList = its from rfl, hi, cntB]
    refine ⟨.int (bs.count b : Nat), H, I.tok _, ⟨s.toks, ?_⟩, q⟩
    show Value.int ((its.toArray.toList.countP (isBoolOf b) : Nat) : Int) s.toks = Value.int ((bs.count b : Nat) : Int) s.toks
    rw [ec]
theorem cntBK {X : Cx} (K : PySem.W.Frag) (h : X.K = K := by rfl) : MtR X "list.count" (rCntB K) := by subst h; exact mt_bcount
theorem ev_cntB {K : PySem.W.Frag} {σ : L2.St} {H : Hp} {ta te : TE} {a : Addr} {bs : List Bool} {b : Bool} (ho : Ev ta σ H (.ref a)) (h : Ev te σ H (.bl b)) (hs : SqL K H a (bll bs)) : Ev (tBM K "list" (rCntB K) ta (tCons te tNil)) σ H (.int (bs.count b : Nat)) := fun H1 e Q q =>
  ho H1 e _ fun H2 e2 => ⟨Or.inl ⟨rfl, _, ex_l (e.trans e2) hs⟩, h H2 (e.trans e2) _ fun H3 e3 => ⟨a, bs, b, rfl, rfl, ex_l ((e.trans e2).trans e3) hs, q H3 (e2.trans e3)⟩⟩
/-- o.m(..), told without the block -/
theorem pe_bmK {X : Cx} (K : PySem.W.Frag) {o e : Expr} {es : List Expr} {to : TE} {t : TA} {name : Str} {apos cpos : Pos} {T id : String} {r : V → List V → Hp → VK → Prop} (pa : PlainAttrs T) (slot : Slot T name id) (hty : typeOf (.builtin id) = pure (.type "method_descriptor")) (hm : MtR X id r) (ho : PE X o to) (ha : PA X (e :: es) t)
    (hbase : attributeBase o name X.env (eval o X.env) = eval o X.env := by rfl)
    (hfew : ((backTo cpos (starEach (e :: es) X.env)).all (fun x => !x.1) && (backToKw cpos (keywordEach [] X.env)).all (fun x => x.1.isSome)
      && decide ((e :: es).length + ([] : List Keyword).length + (if ([] : List Keyword).isEmpty then 0 else 1) < 30)) = true := by rfl)
    (hline : (apos.endLine == cpos.line) = true := by rfl) (hs : starEach (e :: es) X.env = (false, eval e X.env) :: starEach es X.env := by rfl) (hplain : (backTo cpos (starEach es X.env)).any (·.1) = false := by rfl) (h : X.K = K := by rfl) :
    PE X (.Call (.Attribute o name apos) (e :: es) [] cpos) (tBM K T r to t) := by subst h; exact pe_bm pa slot hty hm ho ha hbase hfew hline hs hplain
/-! ### what refuses: whatever is wanted of its value -/
def Rf (te : TE) (σ : L2.St) (H : Hp) : Prop := ∀ H1, Ex H H1 → ∀ Q : VK, te σ H1 Q
def RfT (tt : TT) (σ : L2.St) (H : Hp) : Prop := ∀ H1, Ex H H1 → ∀ Q : Bool → Hp → Prop, tt σ H1 Q
def RfA (ta : TA) (σ : L2.St) (H : Hp) : Prop := ∀ H1, Ex H H1 → ∀ Q : List V → Hp → Prop, ta σ H1 Q
section
variable {σ : L2.St} {H : Hp} {ta tb te : TE} {tr tg : TA} {tt tu : TT} {x : V} {vs : List V} {b : Bool} {D : Ends} {t u z : TS} {sp : Sp} {E : L2.St → XK} {g : TG}
theorem rf_call (h : EvA tg σ H vs) (k : ∀ H1, Ex H H1 → ∀ Q : VK, sp vs H1 Q (E σ)) : Rf (tCallS sp E tg) σ H := fun H1 e Q => h H1 e _ fun H2 e2 => k H2 (e.trans e2) Q
theorem rf_op1 {r : L2.R2} (h : Rf ta σ H) : Rf (tOp r ta tb) σ H := fun H1 e Q => h H1 e _
theorem rf_op2 {r : L2.R2} (h : Ev ta σ H x) (h2 : Rf tb σ H) : Rf (tOp r ta tb) σ H := fun H1 e Q => h H1 e _ fun H2 e2 => h2 H2 (e.trans e2) _
theorem rf_test (h : Rf te σ H) : RfT (tTest te) σ H := fun H1 e Q => h H1 e _
theorem rf_B (h : Rf te σ H) : RfT (tB te) σ H := fun H1 e Q => h H1 e _
theorem rf_not (h : RfT tt σ H) : RfT (tNot tt) σ H := fun H1 e Q => h H1 e _
theorem s_rfIf (h : RfT tt σ H) : tIfS tt t u D σ H := h H (Ex.refl H) _
theorem q_rfIf (h : RfT tt σ H) : tSeq (tIfS tt t u) z D σ H := h H (Ex.refl H) _
theorem s_rfDrop (h : Rf te σ H) : tDrop te D σ H := h H (Ex.refl H) _
theorem q_rfDrop (h : Rf te σ H) : tSeq (tDrop te) z D σ H := h H (Ex.refl H) _
theorem s_rfAsg (h : Rf te σ H) : tAsg te g D σ H := h H (Ex.refl H) _
theorem q_rfAsg (h : Rf te σ H) : tSeq (tAsg te g) z D σ H := h H (Ex.refl H) _
theorem s_rfRet (h : Rf te σ H) : tRet te D σ H := h H (Ex.refl H) _
/-- a call that may refuse, and doesn't -/
theorem ev_callS {v : V} (h : EvA tg σ H vs) (k : ∀ H1, Ex H H1 → ∀ Q : VK, (∀ H2, Ex H1 H2 → Q v H2) → sp vs H1 Q (E σ)) : Ev (tCallS sp E tg) σ H v := fun H1 e Q q =>
  h H1 e _ fun H2 e2 => k H2 (e.trans e2) Q fun H3 e3 => q H3 (e2.trans e3)
theorem er_callS {R : V → Hp → Hp → Prop} (h : EvA tg σ H vs) (k : ∀ H1, Ex H H1 → ∀ Q : VK, (∀ v H2, Ex H1 H2 → R v H1 H2 → Q v H2) → sp vs H1 Q (E σ)) (hr : ∀ v H0 H1 H2, Ex H0 H1 → R v H1 H2 → R v H0 H2) : EvR (tCallS sp E tg) σ H R := fun H1 e Q q =>
  h H1 e _ fun H2 e2 => k H2 (e.trans e2) Q fun v H3 e3 r => q v H3 (e2.trans e3) (hr v H1 H2 H3 e2 r)
end
/-! ### lists of odd things -/
def oddL (m : Nat) (p : Addr) : List V := [ni m, .int (-1), .bl true, .str "0", .non, .ref p, .int (10 ^ 20)]
def ROdd (m : Nat) : V → Hp → Hp → Prop := fun v _ H1 => ∃ a p, v = .ref a ∧ H1 a = some (.lst (oddL m p)) ∧ H1 p = some (.lst (nl [0]))
section
variable {K : PySem.W.Frag} {σ : L2.St} {H : Hp} {t0 t1 t2 t3 t4 t5 t6 ta tb tc tj te : TE} {D : Ends} {tz : TS} {tt : TT} {R : V → Hp → Hp → Prop} {b : Bool}
theorem er_odd {m : Nat} (h0 : Ev t0 σ H (ni m)) (h1 : Ev t1 σ H (.int (-1))) (h2 : Ev t2 σ H (.bl true)) (h3 : Ev t3 σ H (.str "0")) (h4 : Ev t4 σ H .non) (h5 : EvL t5 σ H (nl [0])) (h6 : Ev t6 σ H (.int (10 ^ 20))) :
    EvR (tLst (tCons t0 (tCons t1 (tCons t2 (tCons t3 (tCons t4 (tCons t5 (tCons t6 tNil)))))))) σ H (ROdd m) := fun G0 e0 Q q =>
  h0 G0 e0 _ fun G1 a1 => h1 G1 (e0.trans a1) _ fun G2 a2 => h2 G2 ((e0.trans a1).trans a2) _ fun G3 a3 => h3 G3 (((e0.trans a1).trans a2).trans a3) _ fun G4 a4 => h4 G4 ((((e0.trans a1).trans a2).trans a3).trans a4) _ fun G5 a5 =>
  h5 G5 (((((e0.trans a1).trans a2).trans a3).trans a4).trans a5) _ fun p G6 hp a6 hl => h6 G6 ((((((e0.trans a1).trans a2).trans a3).trans a4).trans a5).trans a6) _ fun G7 a7 =>
  ⟨sz_of (show 7 ≤ 100000 by decide), fun z hz => q _ _ (((((((a1.trans a2).trans a3).trans a4).trans a5).trans a6).trans a7).trans (Ex.new hz)) ⟨z, p, rfl, upd_same, by
    have h7 := a7 _ _ hl
    rw [upd_ne (fun e => by rw [e, hz] at h7; cases h7)]
    exact h7⟩⟩
theorem er_if (h : EvT tt σ H b) (h1 : b = true → EvR ta σ H R) (h2 : b = false → EvR tb σ H R) (hr : ∀ v H0 H1 H2, Ex H0 H1 → R v H1 H2 → R v H0 H2) : EvR (tIf tt ta tb) σ H R := fun H1 e Q q => h H1 e _ fun H2 e2 => by
  cases b with
  | true => exact h1 rfl H2 (e.trans e2) Q fun v H3 e3 r => q v H3 (e2.trans e3) (hr v H1 H2 H3 e2 r)
  | false => exact h2 rfl H2 (e.trans e2) Q fun v H3 e3 r => q v H3 (e2.trans e3) (hr v H1 H2 H3 e2 r)
/-- one of [[], None, a tuple, {}, a text, a number] -/
def RSix : V → Hp → Hp → Prop := fun v _ H1 => (∃ a, v = .ref a ∧ H1 a = some (.lst [])) ∨ v = .non ∨ (∃ a xs, v = .ref a ∧ H1 a = some (.tup xs)) ∨ (∃ a, v = .ref a ∧ H1 a = some (.dK [])) ∨ (∃ s, v = .str s) ∨ ∃ z, v = .int z
theorem er_six {xs : List V} {s : Str} {z : Int} {j : Nat} (h0 : EvL t0 σ H []) (h1 : Ev t1 σ H .non) (h2 : EvU t2 σ H xs) (h4 : Ev t4 σ H (.str s)) (h5 : Ev t5 σ H (.int z)) (hj : Ev tj σ H (.int (j : Int))) (jl : j < 6) :
    EvR (tOp (rIxL K) (tLst (tCons t0 (tCons t1 (tCons t2 (tCons tDNewK (tCons t4 (tCons t5 tNil))))))) tj) σ H RSix := fun G0 e0 Q q =>
  h0 G0 e0 _ fun p0 G1 n1 a1 l0 => h1 G1 (e0.trans a1) _ fun G2 a2 => h2 G2 ((e0.trans a1).trans a2) _ fun p2 G3 n3 a3 l2 => fun p3 n4 => by
    have a4 := Ex.new (o := .dK []) n4
    refine h4 _ (((e0.trans a1).trans a2).trans (a3.trans a4)) _ fun G5 a5 => h5 G5 ((((e0.trans a1).trans a2).trans (a3.trans a4)).trans a5) _ fun G6 a6 => ⟨sz_of (show 6 ≤ 100000 by decide), fun p7 n7 => ?_⟩
    have ex7 := ((((a1.trans a2).trans (a3.trans a4)).trans a5).trans a6).trans (Ex.new (o := .lst [.ref p0, .non, .ref p2, .ref p3, .str s, .int z]) n7)
    refine hj _ (e0.trans ex7) _ fun G8 a8 => ⟨p7, _, _, [V.ref p0, .non, .ref p2, .ref p3, .str s, .int z][j]'jl, rfl, rfl, sq_of (a8 _ _ upd_same), atI_nat (List.getElem?_eq_getElem jl), q _ _ (ex7.trans a8) ?_⟩
    have f0 : G8 p0 = some (.lst []) := ((((a2.trans (a3.trans a4)).trans a5).trans a6).trans ((Ex.new n7).trans a8)) _ _ l0
    have f2 : G8 p2 = some (.tup xs) := (((a4.trans a5).trans a6).trans ((Ex.new n7).trans a8)) _ _ l2
    have f3 : G8 p3 = some (.dK []) := ((a5.trans a6).trans ((Ex.new n7).trans a8)) _ _ upd_same
    match j, jl with
    | 0, _ => exact .inl ⟨p0, rfl, f0⟩
    | 1, _ => exact .inr (.inl rfl)
    | 2, _ => exact .inr (.inr (.inl ⟨p2, xs, rfl, f2⟩))
    | 3, _ => exact .inr (.inr (.inr (.inl ⟨p3, rfl, f3⟩)))
    | 4, _ => exact .inr (.inr (.inr (.inr (.inl ⟨s, rfl⟩))))
    | 5, _ => exact .inr (.inr (.inr (.inr (.inr ⟨z, rfl⟩))))
def RThree (xs ys : List V) : V → Hp → Hp → Prop := fun v _ H1 => (∃ a, v = .ref a ∧ H1 a = some (.lst xs)) ∨ (∃ a, v = .ref a ∧ H1 a = some (.tup ys)) ∨ v = .non
theorem er_three {xs ys : List V} {j : Nat} (h0 : EvL t0 σ H xs) (h1 : EvU t1 σ H ys) (h2 : Ev t2 σ H .non) (hj : Ev tj σ H (.int (j : Int))) (jl : j < 3) :
    EvR (tOp (rIxL K) (tLst (tCons t0 (tCons t1 (tCons t2 tNil)))) tj) σ H (RThree xs ys) := fun G0 e0 Q q =>
  h0 G0 e0 _ fun p0 G1 n1 a1 l0 => h1 G1 (e0.trans a1) _ fun p1 G2 n2 a2 l1 => h2 G2 ((e0.trans a1).trans a2) _ fun G3 a3 => ⟨sz_of (show 3 ≤ 100000 by decide), fun p7 n7 => by
    have ex7 := ((a1.trans a2).trans a3).trans (Ex.new (o := .lst [.ref p0, .ref p1, .non]) n7)
    refine hj _ (e0.trans ex7) _ fun G8 a8 => ⟨p7, _, _, [V.ref p0, .ref p1, .non][j]'jl, rfl, rfl, sq_of (a8 _ _ upd_same), atI_nat (List.getElem?_eq_getElem jl), q _ _ (ex7.trans a8) ?_⟩
    have f0 : G8 p0 = some (.lst xs) := ((a2.trans a3).trans ((Ex.new n7).trans a8)) _ _ l0
    have f1 : G8 p1 = some (.tup ys) := (a3.trans ((Ex.new n7).trans a8)) _ _ l1
    match j, jl with
    | 0, _ => exact .inl ⟨p0, rfl, f0⟩
    | 1, _ => exact .inr (.inl ⟨p1, rfl, f1⟩)
    | 2, _ => exact .inr (.inr rfl)⟩
def rInsF : V → List V → Hp → VK → Prop := fun x vs H Q => ∃ (l : Addr) (xs : List V) (i : Int) (y : V), x = .ref l ∧ vs = [.int i, y] ∧ H l = some (.lst xs) ∧ xs.length < sizeLine ∧ 0 ≤ i ∧ i < 2 ^ 63 ∧ Q .non (upd H l (.lst (xs.take i.toNat ++ [y] ++ xs.drop i.toNat)))
theorem insK {X : Cx} : MtR X "list.insert" rInsF := mt_insert
theorem s_ins {l : Addr} {xs : List V} {i : Nat} {y : V} (hl : H l = some (.lst xs)) (ha : Ev ta σ H (.ref l)) (hb : Ev tb σ H (.int (i : Int))) (hc : Ev tc σ H y) (hz : xs.length < 100000) (hi : i ≤ 100000) (k : ∀ H1, Ex H H1 → D.nx σ (upd H1 l (.lst (xs.take i ++ [y] ++ xs.drop i)))) :
    tDrop (tBM K "list" rInsF ta (tCons tb (tCons tc tNil))) D σ H :=
  ha H (Ex.refl H) _ fun H1 e1 => ⟨Or.inl ⟨rfl, xs, sq_of (e1 _ _ hl)⟩, hb H1 e1 _ fun H2 e2 => hc H2 (e1.trans e2) _ fun H3 e3 => ⟨l, xs, _, y, rfl, rfl, ((e1.trans e2).trans e3) _ _ hl, by rw [sizeLine_eq]; omega, by omega, by omega, by rw [Int.toNat_natCast]; exact k H3 ((e1.trans e2).trans e3)⟩⟩
theorem q_ins {l : Addr} {xs : List V} {i : Nat} {y : V} (hl : H l = some (.lst xs)) (ha : Ev ta σ H (.ref l)) (hb : Ev tb σ H (.int (i : Int))) (hc : Ev tc σ H y) (hz : xs.length < 100000) (hi : i ≤ 100000) (k : ∀ H1, Ex H H1 → tz D σ (upd H1 l (.lst (xs.take i ++ [y] ++ xs.drop i)))) :
    tSeq (tDrop (tBM K "list" rInsF ta (tCons tb (tCons tc tNil)))) tz D σ H := s_ins (D := { D with nx := tz D }) hl ha hb hc hz hi k
/-- xs[i] = a new object -/
theorem s_setN {l : Addr} {xs : List V} {j : Nat} {o : HO} (hl : H l = some (.lst xs)) (h : EvN te σ H o) (ho : Ev ta σ H (.ref l)) (hi : Ev tb σ H (.int (j : Int))) (hj : j < xs.length) (k : ∀ p H1, H p = none → Ex H H1 → H1 p = some o → D.nx σ (upd H1 l (.lst (xs.set j (.ref p))))) :
    tAsg te (gSub ta tb rSetL) D σ H := h H (Ex.refl H) _ fun p H1 hp e1 h1 => ho H1 e1 _ fun H2 e2 => hi H2 (e1.trans e2) _ fun H3 e3 =>
  ⟨l, xs, (j : Int), j, rfl, rfl, ((e1.trans e2).trans e3) l _ hl, ixN_nat hj, k p H3 hp ((e1.trans e2).trans e3) ((e2.trans e3) _ _ h1)⟩
end
end Sg

set_option Elab.async false
set_option linter.all false
set_option maxRecDepth 100000
set_option maxHeartbeats 4000000
namespace KX
open PySem PySem.Spec PyProof.Rows L2 Evl RZ Sg
def topS (i : Nat) : Stmt := PySem.Challenge.pw_spotsums_k01_what_is_refused.main.body.getD i (.Pass ⟨0, 0, 0, 0⟩)
abbrev sIsWeb : Stmt := topS 9
abbrev nIsWeb : List Str := ["thing", "spot"]
theorem scIsWeb : FnScope nIsWeb ["thing"] (defScope sIsWeb) := ⟨rfl, rfl, rfl, by decide +kernel, rfl, by decide +kernel, by decide +kernel⟩
abbrev sIsSpot : Stmt := topS 10
abbrev nIsSpot : List Str := ["thing", "many", "move"]
theorem scIsSpot : FnScope nIsSpot ["thing", "many"] (defScope sIsSpot) := ⟨rfl, rfl, rfl, by decide +kernel, rfl, by decide +kernel, by decide +kernel⟩
abbrev sIsPlace : Stmt := topS 11
abbrev nIsPlace : List Str := ["thing", "many"]
theorem scIsPlace : FnScope nIsPlace ["thing", "many"] (defScope sIsPlace) := ⟨rfl, rfl, rfl, by decide +kernel, rfl, by decide +kernel, by decide +kernel⟩
abbrev sCheckWeb : Stmt := topS 12
abbrev nCheckWeb : List Str := ["thing"]
theorem scCheckWeb : FnScope nCheckWeb ["thing"] (defScope sCheckWeb) := ⟨rfl, rfl, rfl, by decide +kernel, rfl, by decide +kernel, by decide +kernel⟩
abbrev sCheckGame : Stmt := topS 13
abbrev nCheckGame : List Str := ["thing"]
theorem scCheckGame : FnScope nCheckGame ["thing"] (defScope sCheckGame) := ⟨rfl, rfl, rfl, by decide +kernel, rfl, by decide +kernel, by decide +kernel⟩
abbrev sRingIn : Stmt := topS 14
abbrev nRingIn : List Str := ["web", "ended", "spot", "walk", "onward", "move"]
theorem scRingIn : FnScope nRingIn ["web"] (defScope sRingIn) := ⟨rfl, rfl, rfl, by decide +kernel, rfl, by decide +kernel, by decide +kernel⟩
abbrev sEndedSpots : Stmt := topS 15
abbrev nEndedSpots : List Str := ["web", "sources", "waiting", "ended", "looked_at", "spot", "source", "moves"]
theorem scEndedSpots : FnScope nEndedSpots ["web"] (defScope sEndedSpots) := ⟨rfl, rfl, rfl, by decide +kernel, rfl, by decide +kernel, by decide +kernel⟩
abbrev sSources : Stmt := topS 16
abbrev nSources : List Str := ["web", "sources", "spot", "move", "_"]
theorem scSources : FnScope nSources ["web"] (defScope sSources) := ⟨rfl, rfl, rfl, by decide +kernel, rfl, by decide +kernel, by decide +kernel⟩
abbrev sJoinedWebs : Stmt := topS 17
abbrev nJoinedWebs : List Str := ["one", "other", "raised", "moves", "move"]
theorem scJoinedWebs : FnScope nJoinedWebs ["one", "other"] (defScope sJoinedWebs) := ⟨rfl, rfl, rfl, by decide +kernel, rfl, by decide +kernel, by decide +kernel⟩
abbrev sPairedWeb : Stmt := topS 18
abbrev nPairedWeb : List Str := ["one", "other", "left", "right"]
theorem scPairedWeb : FnScope nPairedWeb ["one", "other"] (defScope sPairedWeb) := ⟨rfl, rfl, rfl, by decide +kernel, rfl, by decide +kernel, by decide +kernel⟩
abbrev sPairedMoves : Stmt := topS 19
abbrev nPairedMoves : List Str := ["one", "other", "left", "right", "many", "moves", "move", "paired"]
theorem scPairedMoves : FnScope nPairedMoves ["one", "other", "left", "right"] (defScope sPairedMoves) := ⟨rfl, rfl, rfl, by decide +kernel, rfl, by decide +kernel, by decide +kernel⟩
abbrev sCheckCount : Stmt := topS 20
abbrev nCheckCount : List Str := ["many"]
theorem scCheckCount : FnScope nCheckCount ["many"] (defScope sCheckCount) := ⟨rfl, rfl, rfl, by decide +kernel, rfl, by decide +kernel, by decide +kernel⟩
abbrev sNumbersOf : Stmt := topS 22
abbrev nNumbersOf : List Str := ["web", "numbers", "spot", "move"]
theorem scNumbersOf : FnScope nNumbersOf ["web"] (defScope sNumbersOf) := ⟨rfl, rfl, rfl, by decide +kernel, rfl, by decide +kernel, by decide +kernel⟩
abbrev sLeastMissing : Stmt := topS 23
abbrev nLeastMissing : List Str := ["numbers", "found", "least"]
theorem scLeastMissing : FnScope nLeastMissing ["numbers"] (defScope sLeastMissing) := ⟨rfl, rfl, rfl, by decide +kernel, rfl, by decide +kernel, by decide +kernel⟩
abbrev sLengthsOf : Stmt := topS 24
abbrev nLengthsOf : List Str := ["web", "lengths", "spot", "move"]
theorem scLengthsOf : FnScope nLengthsOf ["web"] (defScope sLengthsOf) := ⟨rfl, rfl, rfl, by decide +kernel, rfl, by decide +kernel, by decide +kernel⟩
abbrev sShownMoves : Stmt := topS 25
abbrev nShownMoves : List Str := ["web", "spot", "numbers", "showing", "move", "number"]
theorem scShownMoves : FnScope nShownMoves ["web", "spot"] (defScope sShownMoves) := ⟨rfl, rfl, rfl, by decide +kernel, rfl, by decide +kernel, by decide +kernel⟩
abbrev sLaidOver : Stmt := topS 26
abbrev nLaidOver : List Str := ["numbers", "total", "number"]
theorem scLaidOver : FnScope nLaidOver ["numbers"] (defScope sLaidOver) := ⟨rfl, rfl, rfl, by decide +kernel, rfl, by decide +kernel, by decide +kernel⟩
abbrev sMovesIn : Stmt := topS 29
abbrev nMovesIn : List Str := ["web", "row", "place", "spot"]
theorem scMovesIn : FnScope nMovesIn ["web", "row"] (defScope sMovesIn) := ⟨rfl, rfl, rfl, by decide +kernel, rfl, by decide +kernel, by decide +kernel⟩
abbrev sPlayed : Stmt := topS 30
abbrev nPlayed : List Str := ["web", "row", "move", "behind", "place", "spot"]
theorem scPlayed : FnScope nPlayed ["web", "row", "move"] (defScope sPlayed) := ⟨rfl, rfl, rfl, by decide +kernel, rfl, by decide +kernel, by decide +kernel⟩
abbrev sRowNumber : Stmt := topS 31
abbrev nRowNumber : List Str := ["web", "row", "numbers", "spot"]
theorem scRowNumber : FnScope nRowNumber ["web", "row"] (defScope sRowNumber) := ⟨rfl, rfl, rfl, by decide +kernel, rfl, by decide +kernel, by decide +kernel⟩
abbrev sCheckRow : Stmt := topS 32
abbrev nCheckRow : List Str := ["web", "thing"]
theorem scCheckRow : FnScope nCheckRow ["web", "thing"] (defScope sCheckRow) := ⟨rfl, rfl, rfl, by decide +kernel, rfl, by decide +kernel, by decide +kernel⟩
abbrev sIsRow : Stmt := topS 33
abbrev nIsRow : List Str := ["web", "thing", "spot"]
theorem scIsRow : FnScope nIsRow ["web", "thing"] (defScope sIsRow) := ⟨rfl, rfl, rfl, by decide +kernel, rfl, by decide +kernel, by decide +kernel⟩
abbrev sIsMove : Stmt := topS 34
abbrev nIsMove : List Str := ["web", "row", "thing", "place", "spot"]
theorem scIsMove : FnScope nIsMove ["web", "row", "thing"] (defScope sIsMove) := ⟨rfl, rfl, rfl, by decide +kernel, rfl, by decide +kernel, by decide +kernel⟩
abbrev sIsLost : Stmt := topS 36
abbrev nIsLost : List Str := ["web", "row"]
theorem scIsLost : FnScope nIsLost ["web", "row"] (defScope sIsLost) := ⟨rfl, rfl, rfl, by decide +kernel, rfl, by decide +kernel, by decide +kernel⟩
abbrev sGoodMoves : Stmt := topS 37
abbrev nGoodMoves : List Str := ["web", "row", "total", "numbers", "place", "spot"]
theorem scGoodMoves : FnScope nGoodMoves ["web", "row"] (defScope sGoodMoves) := ⟨rfl, rfl, rfl, by decide +kernel, rfl, by decide +kernel, by decide +kernel⟩
abbrev sPartingRow : Stmt := topS 38
abbrev nPartingRow : List Str := ["web", "one", "other"]
theorem scPartingRow : FnScope nPartingRow ["web", "one", "other"] (defScope sPartingRow) := ⟨rfl, rfl, rfl, by decide +kernel, rfl, by decide +kernel, by decide +kernel⟩
abbrev sLCellAt : Stmt := topS 40
abbrev nLCellAt : List Str := ["_law_script", "_law_k"]
theorem scLCellAt : FnScope nLCellAt ["_law_script", "_law_k"] (defScope sLCellAt) := ⟨rfl, rfl, rfl, by decide +kernel, rfl, by decide +kernel, by decide +kernel⟩
abbrev sLMixed : Stmt := topS 41
abbrev nLMixed : List Str := ["_law_cell", "_law_k", "_law_number"]
theorem scLMixed : FnScope nLMixed ["_law_cell", "_law_k"] (defScope sLMixed) := ⟨rfl, rfl, rfl, by decide +kernel, rfl, by decide +kernel, by decide +kernel⟩
abbrev sLOrderBy : Stmt := topS 42
abbrev nLOrderBy : List Str := ["_law_cell", "_law_many", "_law_left", "_law_order", "_law_k"]
theorem scLOrderBy : FnScope nLOrderBy ["_law_cell", "_law_many"] (defScope sLOrderBy) := ⟨rfl, rfl, rfl, by decide +kernel, rfl, by decide +kernel, by decide +kernel⟩
abbrev sLWebBy : Stmt := topS 43
abbrev nLWebBy : List Str := ["_law_script", "_law_at", "_law_many", "_law_order", "_law_thin", "_law_web", "_law_k", "_law_j", "_law_spot"]
theorem scLWebBy : FnScope nLWebBy ["_law_script", "_law_at"] (defScope sLWebBy) := ⟨rfl, rfl, rfl, by decide +kernel, rfl, by decide +kernel, by decide +kernel⟩
abbrev sLCopied : Stmt := topS 44
abbrev nLCopied : List Str := ["_law_web", "_law_spot"]
theorem scLCopied : FnScope nLCopied ["_law_web"] (defScope sLCopied) := ⟨rfl, rfl, rfl, by decide +kernel, rfl, by decide +kernel, by decide +kernel⟩
abbrev sLSpoilt : Stmt := topS 45
abbrev nLSpoilt : List Str := ["_law_web", "_law_cell", "_law_at", "_law_odd", "_law_found", "_law_double", "_law_others", "_law_far", "_law_spot", "_law_k"]
theorem scLSpoilt : FnScope nLSpoilt ["_law_web", "_law_cell"] (defScope sLSpoilt) := ⟨rfl, rfl, rfl, by decide +kernel, rfl, by decide +kernel, by decide +kernel⟩
abbrev sLRinged : Stmt := topS 46
abbrev nLRinged : List Str := ["_law_web", "_law_cell", "_law_found", "_law_many", "_law_spots", "_law_k"]
theorem scLRinged : FnScope nLRinged ["_law_web", "_law_cell"] (defScope sLRinged) := ⟨rfl, rfl, rfl, by decide +kernel, rfl, by decide +kernel, by decide +kernel⟩
abbrev sLBadRow : Stmt := topS 47
abbrev nLBadRow : List Str := ["_law_row", "_law_many", "_law_cell", "_law_odd", "_law_at"]
theorem scLBadRow : FnScope nLBadRow ["_law_row", "_law_many", "_law_cell"] (defScope sLBadRow) := ⟨rfl, rfl, rfl, by decide +kernel, rfl, by decide +kernel, by decide +kernel⟩
abbrev sLAskedOne : Stmt := topS 48
abbrev nLAskedOne : List Str := ["_law_which", "_law_web", "_law_row"]
theorem scLAskedOne : FnScope nLAskedOne ["_law_which", "_law_web", "_law_row"] (defScope sLAskedOne) := ⟨rfl, rfl, rfl, by decide +kernel, rfl, by decide +kernel, by decide +kernel⟩
abbrev sLAsked : Stmt := topS 49
abbrev nLAsked : List Str := ["_law_which", "_law_web", "_law_other", "_law_row", "_law_more", "_law_move"]
theorem scLAsked : FnScope nLAsked ["_law_which", "_law_web", "_law_other", "_law_row", "_law_more", "_law_move"] (defScope sLAsked) := ⟨rfl, rfl, rfl, by decide +kernel, rfl, by decide +kernel, by decide +kernel⟩
abbrev sLTold : Stmt := topS 50
abbrev nLTold : List Str := ["_law_which", "_law_web", "_law_other", "_law_row", "_law_more", "_law_move", "_law_names", "error"]
theorem scLTold : FnScope nLTold ["_law_which", "_law_web", "_law_other", "_law_row", "_law_more", "_law_move"] (defScope sLTold) := ⟨rfl, rfl, rfl, by decide +kernel, rfl, by decide +kernel, by decide +kernel⟩
abbrev sLaw : Stmt := topS 51
abbrev nLaw : List Str := ["_law_script", "_law_web", "_law_row", "_law_which", "_law_spoilt_here", "_law_ringed_here", "_law_bad", "_law_due", "_law_handed", "_law_odd", "_law_place", "_law_move", "_law_wide", "_law_other", "_law_cell", "_law_k"]
theorem scLaw : FnScope nLaw ["_law_script"] (defScope sLaw) := ⟨rfl, rfl, rfl, by decide +kernel, rfl, by decide +kernel, by decide +kernel⟩
structure DefF (K : PySem.W.Frag) (mg : Str → Option Value) (x : Str) (st : Stmt) (ps : List Str) where
  f : Addr
  fd : FuncData
  F : Fun K x x st f fd
  g : mg x = some (.ref f)
  b : Binds K fd ps []
structure Txt (K : PySem.W.Frag) (mg : Str → Option Value) where
  z_ValueError : mg "ValueError" = none
  z_bool : mg "bool" = none
  z_int : mg "int" = none
  z_isinstance : mg "isinstance" = none
  z_len : mg "len" = none
  z_list : mg "list" = none
  z_max : mg "max" = none
  z_min : mg "min" = none
  z_range : mg "range" = none
  z_set : mg "set" = none
  z_sorted : mg "sorted" = none
  z_tuple : mg "tuple" = none
  z_type : mg "type" = none
  tMOSTSPOTS : Tok
  gMOSTSPOTS : mg "MOST_SPOTS" = some (.int 200 tMOSTSPOTS)
  tMOSTGAMES : Tok
  gMOSTGAMES : mg "MOST_GAMES" = some (.int 24 tMOSTGAMES)
  cGameError : Addr
  gcGameError : mg "GameError" = some (.ref cGameError)
  cNoWeb : Addr
  gcNoWeb : mg "NoWeb" = some (.ref cNoWeb)
  cRinged : Addr
  gcRinged : mg "Ringed" = some (.ref cRinged)
  cNoRow : Addr
  gcNoRow : mg "NoRow" = some (.ref cNoRow)
  cNoMove : Addr
  gcNoMove : mg "NoMove" = some (.ref cNoMove)
  cTooMany : Addr
  gcTooMany : mg "TooMany" = some (.ref cTooMany)
  xNoWeb : ExcF K cNoWeb
  xRinged : ExcF K cRinged
  xNoRow : ExcF K cNoRow
  xNoMove : ExcF K cNoMove
  xTooMany : ExcF K cTooMany
  kNoWeb_NoWeb : PySem.W.kitOne K (.ref cNoWeb) (.ref cNoWeb) = some true
  kNoWeb_Ringed : PySem.W.kitOne K (.ref cNoWeb) (.ref cRinged) = some false
  kNoWeb_NoRow : PySem.W.kitOne K (.ref cNoWeb) (.ref cNoRow) = some false
  kNoWeb_NoMove : PySem.W.kitOne K (.ref cNoWeb) (.ref cNoMove) = some false
  kNoWeb_TooMany : PySem.W.kitOne K (.ref cNoWeb) (.ref cTooMany) = some false
  kRinged_NoWeb : PySem.W.kitOne K (.ref cRinged) (.ref cNoWeb) = some false
  kRinged_Ringed : PySem.W.kitOne K (.ref cRinged) (.ref cRinged) = some true
  kRinged_NoRow : PySem.W.kitOne K (.ref cRinged) (.ref cNoRow) = some false
  kRinged_NoMove : PySem.W.kitOne K (.ref cRinged) (.ref cNoMove) = some false
  kRinged_TooMany : PySem.W.kitOne K (.ref cRinged) (.ref cTooMany) = some false
  kNoRow_NoWeb : PySem.W.kitOne K (.ref cNoRow) (.ref cNoWeb) = some false
  kNoRow_Ringed : PySem.W.kitOne K (.ref cNoRow) (.ref cRinged) = some false
  kNoRow_NoRow : PySem.W.kitOne K (.ref cNoRow) (.ref cNoRow) = some true
  kNoRow_NoMove : PySem.W.kitOne K (.ref cNoRow) (.ref cNoMove) = some false
  kNoRow_TooMany : PySem.W.kitOne K (.ref cNoRow) (.ref cTooMany) = some false
  kNoMove_NoWeb : PySem.W.kitOne K (.ref cNoMove) (.ref cNoWeb) = some false
  kNoMove_Ringed : PySem.W.kitOne K (.ref cNoMove) (.ref cRinged) = some false
  kNoMove_NoRow : PySem.W.kitOne K (.ref cNoMove) (.ref cNoRow) = some false
  kNoMove_NoMove : PySem.W.kitOne K (.ref cNoMove) (.ref cNoMove) = some true
  kNoMove_TooMany : PySem.W.kitOne K (.ref cNoMove) (.ref cTooMany) = some false
  kTooMany_NoWeb : PySem.W.kitOne K (.ref cTooMany) (.ref cNoWeb) = some false
  kTooMany_Ringed : PySem.W.kitOne K (.ref cTooMany) (.ref cRinged) = some false
  kTooMany_NoRow : PySem.W.kitOne K (.ref cTooMany) (.ref cNoRow) = some false
  kTooMany_NoMove : PySem.W.kitOne K (.ref cTooMany) (.ref cNoMove) = some false
  kTooMany_TooMany : PySem.W.kitOne K (.ref cTooMany) (.ref cTooMany) = some true
  kNoWeb_ValueError : PySem.W.kitOne K (.ref cNoWeb) (.type "ValueError") = some true
  kRinged_ValueError : PySem.W.kitOne K (.ref cRinged) (.type "ValueError") = some true
  kNoRow_ValueError : PySem.W.kitOne K (.ref cNoRow) (.type "ValueError") = some true
  kNoMove_ValueError : PySem.W.kitOne K (.ref cNoMove) (.type "ValueError") = some true
  kTooMany_ValueError : PySem.W.kitOne K (.ref cTooMany) (.type "ValueError") = some true
  mNoWeb_GameError : PySem.W.exmOne K (.ref cNoWeb) (.ref cGameError) = some true
  mRinged_GameError : PySem.W.exmOne K (.ref cRinged) (.ref cGameError) = some true
  mNoRow_GameError : PySem.W.exmOne K (.ref cNoRow) (.ref cGameError) = some true
  mNoMove_GameError : PySem.W.exmOne K (.ref cNoMove) (.ref cGameError) = some true
  mTooMany_GameError : PySem.W.exmOne K (.ref cTooMany) (.ref cGameError) = some true
  dIsWeb : DefF K mg "is_web" sIsWeb ["thing"]
  dIsSpot : DefF K mg "_is_spot" sIsSpot ["thing", "many"]
  dIsPlace : DefF K mg "is_place" sIsPlace ["thing", "many"]
  dCheckWeb : DefF K mg "check_web" sCheckWeb ["thing"]
  dCheckGame : DefF K mg "check_game" sCheckGame ["thing"]
  dRingIn : DefF K mg "ring_in" sRingIn ["web"]
  dEndedSpots : DefF K mg "ended_spots" sEndedSpots ["web"]
  dSources : DefF K mg "_sources" sSources ["web"]
  dJoinedWebs : DefF K mg "joined_webs" sJoinedWebs ["one", "other"]
  dPairedWeb : DefF K mg "paired_web" sPairedWeb ["one", "other"]
  dPairedMoves : DefF K mg "_paired_moves" sPairedMoves ["one", "other", "left", "right"]
  dCheckCount : DefF K mg "_check_count" sCheckCount ["many"]
  dNumbersOf : DefF K mg "numbers_of" sNumbersOf ["web"]
  dLeastMissing : DefF K mg "_least_missing" sLeastMissing ["numbers"]
  dLengthsOf : DefF K mg "lengths_of" sLengthsOf ["web"]
  dShownMoves : DefF K mg "shown_moves" sShownMoves ["web", "spot"]
  dLaidOver : DefF K mg "laid_over" sLaidOver ["numbers"]
  dMovesIn : DefF K mg "moves_in" sMovesIn ["web", "row"]
  dPlayed : DefF K mg "played" sPlayed ["web", "row", "move"]
  dRowNumber : DefF K mg "row_number" sRowNumber ["web", "row"]
  dCheckRow : DefF K mg "_check_row" sCheckRow ["web", "thing"]
  dIsRow : DefF K mg "_is_row" sIsRow ["web", "thing"]
  dIsMove : DefF K mg "_is_move" sIsMove ["web", "row", "thing"]
  dIsLost : DefF K mg "is_lost" sIsLost ["web", "row"]
  dGoodMoves : DefF K mg "good_moves" sGoodMoves ["web", "row"]
  dPartingRow : DefF K mg "parting_row" sPartingRow ["web", "one", "other"]
  dLCellAt : DefF K mg "_law_cell_at" sLCellAt ["_law_script", "_law_k"]
  dLMixed : DefF K mg "_law_mixed" sLMixed ["_law_cell", "_law_k"]
  dLOrderBy : DefF K mg "_law_order_by" sLOrderBy ["_law_cell", "_law_many"]
  dLWebBy : DefF K mg "_law_web_by" sLWebBy ["_law_script", "_law_at"]
  dLCopied : DefF K mg "_law_copied" sLCopied ["_law_web"]
  dLSpoilt : DefF K mg "_law_spoilt" sLSpoilt ["_law_web", "_law_cell"]
  dLRinged : DefF K mg "_law_ringed" sLRinged ["_law_web", "_law_cell"]
  dLBadRow : DefF K mg "_law_bad_row" sLBadRow ["_law_row", "_law_many", "_law_cell"]
  dLAskedOne : DefF K mg "_law_asked_one" sLAskedOne ["_law_which", "_law_web", "_law_row"]
  dLAsked : DefF K mg "_law_asked" sLAsked ["_law_which", "_law_web", "_law_other", "_law_row", "_law_more", "_law_move"]
  dLTold : DefF K mg "_law_told" sLTold ["_law_which", "_law_web", "_law_other", "_law_row", "_law_more", "_law_move"]
  dLaw : DefF K mg "law" sLaw ["_law_script"]
end KX
set_option Elab.async false
set_option linter.all false
set_option maxRecDepth 100000
set_option maxHeartbeats 4000000
namespace KX
open PySem PySem.Spec PyProof.Rows L2 Evl RZ Sg
section
variable {P : Program} {w : World} {K : PySem.W.Frag} {mg : Str → Option Value} {base : Heap}

/-! ### a cell of the script -/
def cellAt (ns : List Int) (k : Int) : Int := if k < (ns.length : Int) then ns.getD k.toNat 0 else 0
def spCell (K : PySem.W.Frag) : Sp := fun vs H Q _ => ∃ (a : Addr) (ns : List Int) (k : Int), vs = [.ref a, .int k] ∧ SqL K H a (ns.map V.int) ∧ 0 ≤ k ∧ ∀ H', Ex H H' → Q (.int (cellAt ns k)) H'
theorem ok_cell (T : Txt K mg) : FnOk P w K mg base CX0 1 T.dLCellAt.f T.dLCellAt.fd ["_law_script", "_law_k"] (spCell K) := by
  refine T.dLCellAt.F.ok scLCellAt (fun vs H Q E h => ?_) (fun cdv A outer s H vs Q E hr h => ?_)
  · obtain ⟨a, ns, k, rfl, _⟩ := h; rfl
  · obtain ⟨a, ns, k, rfl, hS, hk, q⟩ := h
    refine ⟨_, (pss_cons (ps_if (pt_cmpR op_lt (pv 1) (pe_callB (id := "len") (lenK K) (by rfl) T.z_len (by decide +kernel) (pa_cons (pv 0) pa_nil)) (nomark _)) (pss_one (ps_ret (pe_ix (ixK K) (pv 0) (pv 1) (fun _ _ => rfl)))) pss_nil) (pss_one (ps_ret pe_int))), ?_⟩
    refine q_when (b := decide (k < (ns.length : Int))) (et_test (ev_op (ev_var rfl) (ev_is (ev_len (ev_var rfl) hS) (by rw [List.length_map])) rv_I0)) (fun hb H1 e1 => ?_) (fun hb H1 e1 => ?_)
    · have hlt : k < (ns.length : Int) := of_decide_eq_true hb
      have hn : k.toNat < ns.length := by omega
      refine s_ret (ev_op (ev_var rfl) (ev_var rfl) (rv_ixL (ex_l e1 hS) (v := .int (cellAt ns k)) ?_)) (fun H2 e2 => q H2 (e1.trans e2))
      have ek : k = ((k.toNat : Nat) : Int) := by omega
      rw [ek]
      refine atI_nat ?_
      rw [List.getElem?_map, List.getElem?_eq_getElem hn]
      unfold cellAt
      rw [if_pos (by omega), Int.toNat_natCast, List.getD_eq_getElem?_getD, List.getElem?_eq_getElem hn]
      rfl
    · have hlt : ¬ k < (ns.length : Int) := of_decide_eq_false hb
      refine s_ret ev_c (fun H2 e2 => ?_)
      have := q H2 (e1.trans e2)
      unfold cellAt at this
      rw [if_neg hlt] at this
      exact this
theorem ev_cell {σ : L2.St} {H : Hp} {ta tb : TE} {a : Addr} {ns : List Int} {k : Int} {E : XK} (ha : Ev ta σ H (.ref a)) (hb : Ev tb σ H (.int k)) (hS : SqL K H a (ns.map V.int)) (hk : 0 ≤ k) : Ev (tCall (spCell K) [] E (tCons ta (tCons tb tNil))) σ H (.int (cellAt ns k)) :=
  ev_call (ea_cons ha (ea_cons hb ea_nil)) fun H1 e Q q E => ⟨a, ns, k, rfl, ex_l e hS, hk, q⟩
end
end KX
set_option Elab.async false
set_option linter.all false
set_option maxRecDepth 100000
set_option maxHeartbeats 4000000
namespace KX
open PySem PySem.Spec PyProof.Rows L2 Evl RZ Sg
section
variable {P : Program} {w : World} {K : PySem.W.Frag} {mg : Str → Option Value} {base : Heap}

/-! ### mixed -/
def mixA (c : Int) : Int := (c % 1000000007 + 17) * 48271 % 2147483647
def mixB (x k : Int) : Int := (x + k) * (k * k + 16807) % 2147483629
def mixed (c k : Int) : Int := mixB (mixA c) k * 69621 % 2147483647 / 7
theorem mixed_nn (c k : Int) : 0 ≤ mixed c k := by unfold mixed; omega
def spMixed : Sp := fun vs H Q _ => ∃ (c k : Int), vs = [.int c, .int k] ∧ 0 ≤ k ∧ k ≤ 100000 ∧ ∀ H', Ex H H' → Q (.int (mixed c k)) H'
theorem ok_mixed (T : Txt K mg) : FnOk P w K mg base CX0 1 T.dLMixed.f T.dLMixed.fd ["_law_cell", "_law_k"] spMixed := by
  refine T.dLMixed.F.ok scLMixed (fun vs H Q E h => ?_) (fun cdv A outer s H vs Q E hr h => ?_)
  · obtain ⟨c, k, rfl, _⟩ := h; rfl
  · obtain ⟨c, k, rfl, hk, hk2, q⟩ := h
    refine ⟨_, (pss_cons (ps_set (i := 2) scLMixed.nd rfl (.inl rfl) (pe_op op_mod (pe_op op_mul (pe_op op_add (pe_op op_mod (pv 0) pe_int) pe_int) pe_int) pe_int)) (pss_cons (ps_set (i := 2) scLMixed.nd rfl (.inl rfl) (pe_op op_mod (pe_op op_mul (pe_op op_add (pv 2) (pv 1)) (pe_op op_add (pe_op op_mul (pv 1) (pv 1)) pe_int)) pe_int)) (pss_one (ps_ret (pe_op op_fdiv (pe_op op_mod (pe_op op_mul (pv 2) pe_int) pe_int) pe_int))))), ?_⟩
    refine q_asg (v := .int (mixA c)) (ev_op (ev_op (ev_op (ev_op (ev_var rfl) ev_c (rv_I (by decide))) ev_c rv_I0) ev_c (rv_I (.inr (by decide)))) ev_c (rv_I (by decide))) (fun H1 e1 => ?_)
    have hA : 0 ≤ mixA c ∧ mixA c < 2147483647 := by unfold mixA; omega
    have hkk : k * k ≤ 100000 * 100000 := Int.mul_le_mul hk2 hk2 hk (by omega)
    have hk0 : 0 ≤ k * k := Int.mul_nonneg hk hk
    refine q_asg (v := .int (mixB (mixA c) k)) (ev_op (ev_op (ev_op (ev_var rfl) (ev_var rfl) rv_I0) (ev_op (ev_op (ev_var rfl) (ev_var rfl) (rv_I (.inl (by constructor <;> omega)))) ev_c rv_I0) (rv_I (.inl (by constructor <;> omega)))) ev_c (rv_I (by decide))) (fun H2 e2 => ?_)
    exact s_ret (ev_op (ev_op (ev_op (ev_var rfl) ev_c (rv_I (.inr (by decide)))) ev_c (rv_I (by decide))) ev_c (rv_I (by constructor <;> decide))) (fun H3 e3 => q H3 ((e1.trans e2).trans e3))
theorem ev_mixed {σ : L2.St} {H : Hp} {ta tb : TE} {c k : Int} {E : XK} (ha : Ev ta σ H (.int c)) (hb : Ev tb σ H (.int k)) (hk : 0 ≤ k) (hk2 : k ≤ 100000) : Ev (tCall spMixed [] E (tCons ta (tCons tb tNil))) σ H (.int (mixed c k)) :=
  ev_call (ea_cons ha (ea_cons hb ea_nil)) fun H1 e Q q E => ⟨c, k, rfl, hk, hk2, q⟩
end
end KX
set_option Elab.async false
set_option linter.all false
set_option maxRecDepth 100000
set_option maxHeartbeats 4000000
namespace KX
open PySem PySem.Spec PyProof.Rows L2 Evl RZ Sg
section
variable {P : Program} {w : World} {K : PySem.W.Frag} {mg : Str → Option Value} {base : Heap}

/-! ### an order -/
def spOrder : Sp := fun vs H Q _ => ∃ (c : Int) (m : Nat), vs = [.int c, .int m] ∧ m ≤ 1000 ∧ ∀ v H', Ex H H' → RL (Order m) v H H' → Q v H'
def InvO (H0 : Hp) (c : Int) (m i : Nat) (σ : L2.St) (H : Hp) : Prop := ∃ (p q : Addr) (O L : List Nat) (y : Option V), σ = [some (.int c), some (.int m), some (.ref p), some (.ref q), y] ∧ Ex H0 H ∧ H0 p = none ∧ H0 q = none ∧ p ≠ q ∧
  H p = some (.lst (nl L)) ∧ H q = some (.lst (nl O)) ∧ O.length = i ∧ i + L.length = m ∧ (O ++ L).Nodup ∧ ∀ x ∈ O ++ L, x < m
theorem ok_order (T : Txt K mg) : FnOk P w K mg base CX0 2 T.dLOrderBy.f T.dLOrderBy.fd ["_law_cell", "_law_many"] spOrder := by
  have GLMixed : FnOk P w K mg base CX0 _ T.dLMixed.f T.dLMixed.fd _ spMixed := ok_mixed T
  refine T.dLOrderBy.F.ok scLOrderBy (fun vs H Q E h => ?_) (fun cdv A outer s H vs Q E hr h => ?_)
  · obtain ⟨c, k, rfl, _⟩ := h; rfl
  · obtain ⟨c, m, rfl, hm, q⟩ := h
    refine ⟨_, (pss_cons (ps_set (i := 2) scLOrderBy.nd rfl (.inl rfl) (pe_listRg rfl (by rfl) T.z_list (prg_1 (by rfl) T.z_range (pv 1)))) (pss_cons (ps_set (i := 3) scLOrderBy.nd rfl (.inl rfl) (pe_lst pa_nil)) (pss_cons (ps_for PassesOwn.never rfl (pi_range1 (by rfl) T.z_range (pa_cons (pv 1) pa_nil)) (pg_name (i := 4) scLOrderBy.nd rfl (.inl rfl)) (pss_one (ps_expr (pe_bm PySem.F.plainAttrs_list PySem.F.slot_list_append PySem.F.type_list_append mt_append (pv 3) (pa_cons (pe_bm PySem.F.plainAttrs_list PySem.F.slot_list_pop PySem.F.type_list_pop mt_popAt (pv 2) (pa_cons (pe_op op_mod (pe_call GLMixed (hr.mono (by decide)) (by rfl) T.dLMixed.g T.dLMixed.F.kp T.dLMixed.b .nil pass0 (pa_cons (pv 0) (pa_cons (pv 4) pa_nil))) (pe_callB (id := "len") (lenK K) (by rfl) T.z_len (by decide +kernel) (pa_cons (pv 2) pa_nil))) pa_nil)) pa_nil))))) (pss_one (ps_ret (pv 3)))))), ?_⟩
    refine q_asgL (el_rg1 (ev_var rfl) ⟨by omega, by omega⟩) (fun p H1 hp e1 h1 => ?_)
    refine q_asgL (el_lst ea_nil (Nat.zero_le _)) (fun r H2 hr2 e2 h2 => ?_)
    refine q_forR1 (n := (m : Int)) (ea_cons (ev_var rfl) ea_nil) ⟨by omega, by omega⟩ (InvO H c m) (fun H3 e3 => ?_) (fun i σ' H' hi hI => ?_) (fun σ' H' hI => ?_)
    · have hne : p ≠ r := ne_of_none h1 hr2
      refine ⟨p, r, [], List.range m, none, rfl, (e1.trans e2).trans e3, hp, fresh_back e1 hr2, hne, ?_, e3 _ _ h2, rfl, ?_, ?_, ?_⟩
      · have := e3 _ _ (e2 _ _ h1)
        rw [Int.toNat_natCast] at this
        exact this
      · rw [List.length_range, Nat.zero_add]
      · exact List.nodup_range
      · intro x hx; exact List.mem_range.mp hx
    · obtain ⟨p', r', O, L, y, rfl, ex, f1, f2, hne, g1, g2, lO, lL, nd, hb⟩ := hI
      have hL : 0 < L.length := by omega
      have hLi : (0 : Int) < (L.length : Int) := by omega
      have hmx : 0 ≤ mixed c i % (L.length : Int) ∧ mixed c i % (L.length : Int) < (L.length : Int) := ⟨Int.emod_nonneg _ (by omega), Int.emod_lt_of_pos _ hLi⟩
      obtain ⟨j, hj⟩ : ∃ j : Nat, mixed c i % (L.length : Int) = (j : Int) := ⟨(mixed c i % (L.length : Int)).toNat, by omega⟩
      have jl : j < L.length := by omega
      refine s_appPop (ys := nl L) g2 (ev_var rfl) g1 (ev_var rfl) (j := j) ?_ (nl_get (List.getElem?_eq_getElem jl)) (by rw [nl_len]; omega) (by rw [nl_len]; omega) hne.symm (fun H4 e4 => ?_)
      · rw [← hj]
        exact ev_op (ev_mixed (ev_var rfl) (ev_var rfl) (by omega) (by omega)) (ev_is (ev_len (ev_var rfl) (sq_of g1)) (by rw [nl_len])) (rv_I hLi)
      · obtain ⟨n1, n2⟩ := order_step nd hb (List.getElem?_eq_getElem jl)
        refine ⟨p', r', O ++ [L[j]], L.eraseIdx j, some (.int i), rfl, ((ex.trans e4).mut f1).mut f2, f1, f2, hne, ?_, ?_, ?_, ?_, n1, n2⟩
        · rw [upd_ne hne, upd_same, nl_erase]
        · rw [upd_same, nl_app]; rfl
        · rw [List.length_append, lO]; rfl
        · rw [List.length_eraseIdx_of_lt jl]; omega
    · obtain ⟨p', r', O, L, y, rfl, ex, f1, f2, hne, g1, g2, lO, lL, nd, hb⟩ := hI
      rw [Int.toNat_natCast] at lO lL
      have e0 : L = [] := List.eq_nil_of_length_eq_zero (by omega)
      subst e0
      rw [List.append_nil] at nd hb
      exact s_ret (ev_var rfl) (fun H5 e5 => q _ _ (ex.trans e5) ⟨r', O, rfl, f2, e5 _ _ g2, nd, by omega, hb⟩)
theorem er_order {σ : L2.St} {H : Hp} {ta tb : TE} {c : Int} {m : Nat} {E : XK} (ha : Ev ta σ H (.int c)) (hb : Ev tb σ H (.int m)) (hm : m ≤ 1000) : EvR (tCall spOrder [] E (tCons ta (tCons tb tNil))) σ H (RL (Order m)) :=
  er_call (ea_cons ha (ea_cons hb ea_nil)) (fun H1 e Q q => ⟨c, m, rfl, hm, q⟩) fun v H0 H1 H2 e h => h.back e
/-! ### a web -/
def spWebBy (K : PySem.W.Frag) : Sp := fun vs H Q _ => ∃ (a : Addr) (ns : List Int) (k : Int), vs = [.ref a, .int k] ∧ SqL K H a (ns.map V.int) ∧ 0 ≤ k ∧ ∀ v H', Ex H H' → RW (fun w => GoodWeb w ∧ Acyc w ∧ w.length ≤ 40) v H H' → Q v H'
def InvW (H0 : Hp) (a : Addr) (k : Int) (m : Nat) (th : Int) (po : Addr) (o : List Nat) (kk jj : Nat) (y6 : Option V) (σ : L2.St) (H : Hp) : Prop := ∃ (wa : Addr) (ps : List Addr) (w : List (List Nat)) (y7 y8 : Option V), σ = [some (.ref a), some (.int k), some (.int m), some (.ref po), some (.int th), some (.ref wa), y6, y7, y8] ∧ Ex H0 H ∧
  H po = some (.lst (nl o)) ∧ WebAt H wa ps w ∧ NewAt H0 wa ps ∧ po ≠ wa ∧ po ∉ ps ∧ H0 po = none ∧ Filling o m kk jj w
theorem InvW.put {H0 H1 : Hp} {a : Addr} {k : Int} {m : Nat} {th : Int} {po : Addr} {o : List Nat} {kk' jj' : Nat} {y6 : Option V} {wa : Addr} {ps : List Addr} {w : List (List Nat)} {y7 y8 : Option V} (ex : Ex H0 H1) (hoo : H1 po = some (.lst (nl o))) (hw : WebAt H1 wa ps w) (nw : NewAt H0 wa ps) (n1 : po ≠ wa) (n2 : po ∉ ps) (fpo : H0 po = none)
    {x : Nat} {p : Addr} (hp : ps[x]? = some p) (r : List Nat) (fil : Filling o m kk' jj' (w.set x r)) : InvW H0 a k m th po o kk' jj' y6 [some (.ref a), some (.int k), some (.int m), some (.ref po), some (.int th), some (.ref wa), y6, y7, y8] (upd H1 p (.lst (nl r))) := by
  have pm : p ∈ ps := List.mem_of_getElem? hp
  refine ⟨wa, ps, _, y7, y8, rfl, ex.mut (nw.row p pm), ?_, hw.set nw.nd nw.na hp r, nw, n1, n2, fpo, fil⟩
  rw [upd_ne (fun e => n2 (by rw [e]; exact pm))]
  exact hoo
theorem ok_webBy (T : Txt K mg) : FnOk P w K mg base CX0 3 T.dLWebBy.f T.dLWebBy.fd ["_law_script", "_law_at"] (spWebBy K) := by
  have GLMixed : FnOk P w K mg base CX0 _ T.dLMixed.f T.dLMixed.fd _ spMixed := ok_mixed T
  have GLCellAt : FnOk P w K mg base CX0 _ T.dLCellAt.f T.dLCellAt.fd _ (spCell K) := ok_cell T
  have GLOrderBy : FnOk P w K mg base CX0 _ T.dLOrderBy.f T.dLOrderBy.fd _ spOrder := ok_order T
  refine T.dLWebBy.F.ok scLWebBy (fun vs H Q E h => ?_) (fun cdv A outer s H vs Q E hr h => ?_)
  · obtain ⟨a, ns, k, rfl, _⟩ := h; rfl
  · obtain ⟨a, ns, k, rfl, hS, hk, q⟩ := h
    refine ⟨_, (pss_cons (ps_set (i := 2) scLWebBy.nd rfl (.inl rfl) (pe_op op_add pe_int (pe_op op_mod (pe_call GLCellAt (hr.mono (by decide)) (by rfl) T.dLCellAt.g T.dLCellAt.F.kp T.dLCellAt.b .nil pass0 (pa_cons (pv 0) (pa_cons (pv 1) pa_nil))) pe_int))) (pss_cons (ps_if (pt_cmpR op_eq (pe_op op_mod (pe_call GLCellAt (hr.mono (by decide)) (by rfl) T.dLCellAt.g T.dLCellAt.F.kp T.dLCellAt.b .nil pass0 (pa_cons (pv 0) (pa_cons (pe_op op_add (pv 1) pe_int) pa_nil))) pe_int) pe_int (nomark _)) (pss_one (ps_set (i := 2) scLWebBy.nd rfl (.inl rfl) (pe_op op_add pe_int (pe_op op_mod (pe_call GLCellAt (hr.mono (by decide)) (by rfl) T.dLCellAt.g T.dLCellAt.F.kp T.dLCellAt.b .nil pass0 (pa_cons (pv 0) (pa_cons (pv 1) pa_nil))) pe_int)))) pss_nil) (pss_cons (ps_set (i := 3) scLWebBy.nd rfl (.inl rfl) (pe_call GLOrderBy (hr.mono (by decide)) (by rfl) T.dLOrderBy.g T.dLOrderBy.F.kp T.dLOrderBy.b .nil pass0 (pa_cons (pe_call GLCellAt (hr.mono (by decide)) (by rfl) T.dLCellAt.g T.dLCellAt.F.kp T.dLCellAt.b .nil pass0 (pa_cons (pv 0) (pa_cons (pe_op op_add (pv 1) pe_int) pa_nil))) (pa_cons (pv 2) pa_nil)))) (pss_cons (ps_set (i := 4) scLWebBy.nd rfl (.inl rfl) (pe_op op_add pe_int (pe_op op_mod (pe_op op_fdiv (pe_call GLCellAt (hr.mono (by decide)) (by rfl) T.dLCellAt.g T.dLCellAt.F.kp T.dLCellAt.b .nil pass0 (pa_cons (pv 0) (pa_cons (pe_op op_add (pv 1) pe_int) pa_nil))) pe_int) pe_int))) (pss_cons (ps_setLc (i := 5) (own := [("_law_spot", 8)]) (g := gName 8) (by rfl) scLWebBy.nd rfl rfl (sw_true rfl rfl rfl (by decide +kernel)) (piK K (pv 3)) (blkOk_by (own := [("_law_spot", 8)]) (N := nLWebBy) (sc := defScope sLWebBy) (by decide +kernel)) (fun _ _ _ _ _ => pg_name (i := 8) scLWebBy.nd rfl (Or.inl rfl)) (fun _ _ _ _ _ => pts_nil) (fun _ _ _ _ _ => (pe_lst pa_nil))) (pss_cons (ps_for PassesOwn.never rfl (pi_range1 (by rfl) T.z_range (pa_cons (pv 2) pa_nil)) (pg_name (i := 6) scLWebBy.nd rfl (.inl rfl)) (pss_cons (ps_for PassesOwn.never rfl (pi_range1 (by rfl) T.z_range (pa_cons (pv 6) pa_nil)) (pg_name (i := 7) scLWebBy.nd rfl (.inl rfl)) (pss_one (ps_if (pt_cmpR op_eq (pe_op op_mod (pe_call GLMixed (hr.mono (by decide)) (by rfl) T.dLMixed.g T.dLMixed.F.kp T.dLMixed.b .nil pass0 (pa_cons (pe_call GLCellAt (hr.mono (by decide)) (by rfl) T.dLCellAt.g T.dLCellAt.F.kp T.dLCellAt.b .nil pass0 (pa_cons (pv 0) (pa_cons (pe_op op_add (pv 1) pe_int) pa_nil))) (pa_cons (pe_op op_add (pe_op op_mul pe_int (pv 6)) (pv 7)) pa_nil))) (pv 4)) pe_int (nomark _)) (pss_one (ps_expr (pe_bm PySem.F.plainAttrs_list PySem.F.slot_list_append PySem.F.type_list_append mt_append (pe_ix (ixK K) (pv 5) (pe_ix (ixK K) (pv 3) (pv 6) (fun _ _ => rfl)) (fun _ _ => rfl)) (pa_cons (pe_ix (ixK K) (pv 3) (pv 7) (fun _ _ => rfl)) pa_nil)))) pss_nil))) (pss_one (ps_if (pt_cmpR op_eq (pe_op op_mod (pe_call GLMixed (hr.mono (by decide)) (by rfl) T.dLMixed.g T.dLMixed.F.kp T.dLMixed.b .nil pass0 (pa_cons (pe_call GLCellAt (hr.mono (by decide)) (by rfl) T.dLCellAt.g T.dLCellAt.F.kp T.dLCellAt.b .nil pass0 (pa_cons (pv 0) (pa_cons (pe_op op_add (pv 1) pe_int) pa_nil))) (pa_cons (pe_op op_add (pe_op op_mul pe_int (pv 6)) pe_int) pa_nil))) pe_int) pe_int (nomark _)) (pss_one (ps_expr (pe_bm0 PySem.F.plainAttrs_list PySem.F.slot_list_reverse PySem.F.type_list_reverse mt_reverse (pe_ix (ixK K) (pv 5) (pe_ix (ixK K) (pv 3) (pv 6) (fun _ _ => rfl)) (fun _ _ => rfl))))) pss_nil)))) (pss_one (ps_ret (pv 5))))))))), ?_⟩
    refine q_asg (v := .int (1 + cellAt ns k % 9)) (ev_op ev_c (ev_op (ev_cell (ev_var rfl) (ev_var rfl) hS hk) ev_c (rv_I (by decide))) rv_I0) (fun H1 e1 => ?_)
    have hS1 := ex_l e1 hS
    obtain ⟨m, hm, hm1, hm2⟩ : ∃ m : Nat, (if decide (cellAt ns (k + 1) % 8 = 1) = true then 10 + cellAt ns k % 31 else 1 + cellAt ns k % 9) = (m : Int) ∧ 1 ≤ m ∧ m ≤ 40 := by
      refine ⟨(if decide (cellAt ns (k + 1) % 8 = 1) = true then 10 + cellAt ns k % 31 else 1 + cellAt ns k % 9).toNat, ?_, ?_, ?_⟩ <;> split <;> omega
    refine q_ifAsg (b := decide (cellAt ns (k + 1) % 8 = 1)) (v := .int m) (et_test (ev_is (ev_op (ev_op (ev_cell (ev_var rfl) (ev_op (ev_var rfl) ev_c rv_I0) hS1 (by omega)) ev_c (rv_I (by decide))) ev_c (rv_eq rfl)) (by simp))) (fun hb => ?_) (fun hb => ?_) (fun H2 e2 => ?_)
    · rw [hb, if_pos rfl] at hm
      rw [← hm]
      exact ev_op ev_c (ev_op (ev_cell (ev_var rfl) (ev_var rfl) hS1 hk) ev_c (rv_I (by decide))) rv_I0
    · rw [hb, if_neg Bool.false_ne_true] at hm
      rw [← hm]
      rfl
    · have hS2 := ex_l e2 hS1
      refine q_asgR (er_order (m := m) (ev_cell (ev_var rfl) (ev_op (ev_var rfl) ev_c rv_I0) hS2 (by omega)) (ev_var rfl) (by omega)) (fun v H3 e3 r3 => ?_)
      obtain ⟨po, o, rfl, fo, ho, hO⟩ := r3
      have hS3 := ex_l e3 hS2
      have e03 := (e1.trans e2).trans e3
      refine q_asg (v := .int (1 + cellAt ns (k + 1) / 8 % 4)) (ev_op ev_c (ev_op (ev_op (ev_cell (ev_var rfl) (ev_op (ev_var rfl) ev_c rv_I0) hS3 (by omega)) ev_c (rv_I (by constructor <;> decide))) ev_c (rv_I (by decide))) rv_I0) (fun H4 e4 => ?_)
      have ho4 := e4 _ _ ho
      have hth : 0 < 1 + cellAt ns (k + 1) / 8 % 4 := by omega
      generalize 1 + cellAt ns (k + 1) / 8 % 4 = th at hth
      have lo : (nl o).length = m := by rw [nl_len]; exact hO.2.1
      refine q_asgR (er_lcWL (xs := nl o) (fun _ => nl []) (ev_var rfl) (sq_of ho4) (by rw [lo]; omega) (fun x => rfl) (fun i x H5 e5 hx => el_lst ea_nil (Nat.zero_le _))) (fun v H5 e5 r5 => ?_)
      obtain ⟨wa, ps, w0, rfl, hw0, nw0, ew0⟩ := RRows.web r5
      rw [lo] at ew0
      have e05 := (e03.trans e4).trans e5
      have ap := (WebAt.apart hw0 (q := po))
      have hS5 := ex_l (e4.trans e5) hS3
      have npo : po ≠ wa ∧ po ∉ ps := ⟨(ne_of_none ho4 nw0.top), fun hm => (ne_of_none ho4 (nw0.row po hm)) rfl⟩
      refine q_forR1 (n := (m : Int)) (ea_cons (ev_var rfl) ea_nil) ⟨by omega, by omega⟩ (fun i σ H' => ∃ y6, InvW H a k m th po o i 0 y6 σ H') (fun H6 e6 => ?_) (fun i σ' H' hi hI => ?_) (fun σ' H' hI => ?_)
      · exact ⟨none, wa, ps, w0, none, none, rfl, e05.trans e6, e6 _ _ (e5 _ _ ho4), hw0.mono e6, nw0.back (e03.trans e4), npo.1, npo.2, fresh_back (e1.trans e2) fo, by rw [ew0]; exact Filling.start⟩
      · obtain ⟨y6, wa, ps, w, y7, y8, rfl, ex, hoo, hw, nw, n1, n2, fpo, fil⟩ := hI
        have im : i < m := by omega
        obtain ⟨ok, hok, okm, iok⟩ := hO.at im
        refine q_forR1 (n := (i : Int)) (ea_cons (ev_var rfl) ea_nil) ⟨by omega, by omega⟩ (fun j => InvW H a k m th po o i j (some (.int i))) (fun H6 e6 => ?_) (fun j σ2 H2 hj hJ => ?_) (fun σ2 H2 hJ => ?_)
        · exact ⟨wa, ps, w, y7, y8, rfl, ex.trans e6, e6 _ _ hoo, hw.mono e6, nw, n1, n2, fpo, fil⟩
        · obtain ⟨wa, ps, w, y7, y8, rfl, ex, hoo, hw, nw, n1, n2, fpo, fil⟩ := hJ
          have hS' := ex_l ex hS
          obtain ⟨oj, hoj, ojm, ioj⟩ := hO.at (show j < m by omega)
          have okl : ok < w.length := by rw [fil.len]; exact okm
          obtain ⟨p, hp, hpr, hrow⟩ := hw.at okl
          refine s_when (b := decide (mixed (cellAt ns (k + 3)) (64 * i + j) % th = 0)) (et_test (ev_is (ev_op (ev_op (ev_mixed (ev_cell (ev_var rfl) (ev_op (ev_var rfl) ev_c rv_I0) hS' (by omega)) (ev_op (ev_op ev_c (ev_var rfl) (rv_I (.inl (by constructor <;> decide)))) (ev_var rfl) rv_I0) (by omega) (by omega)) (ev_var rfl) (rv_I hth)) ev_c (rv_eq rfl)) (by simp))) (fun hb H3 e3 => ?_) (fun hb H3 e3 => ?_)
          · refine s_app (e3 _ _ hrow) (ev_op (ev_var rfl) (ev_op (ev_var rfl) (ev_var rfl) (rv_ixL (sq_of (e3 _ _ hoo)) (nl_at hok))) (rv_ixL (hw.mono e3).seq (atI_nat hpr))) (ev_op (ev_var rfl) (ev_var rfl) (rv_ixL (sq_of (e3 _ _ hoo)) (nl_at hoj))) (by rw [nl_len]; have := nd_len (l' := List.range m) (fil.nd _ _ (List.getElem?_eq_getElem okl)) (fun x hx => List.mem_range.mpr (fil.lt _ _ (List.getElem?_eq_getElem okl) x hx).1); rw [List.length_range] at this; omega) (fun H4 e4 => ?_)
            have := InvW.put (y6 := some (.int i)) (y7 := some (.int j)) (y8 := y8) (k := k) (th := th) (a := a) (ex.trans (e3.trans e4)) ((e3.trans e4) _ _ hoo) (hw.mono (e3.trans e4)) nw n1 n2 fpo hp _ (fil.app hO im (by omega) hok hoj (List.getElem?_eq_getElem okl))
            rw [nl_app] at this
            exact this
          · exact ⟨wa, ps, w, some (.int j), y8, rfl, ex.trans e3, e3 _ _ hoo, hw.mono e3, nw, n1, n2, fpo, fil.skip⟩
        · obtain ⟨wa, ps, w, y7, y8, rfl, ex, hoo, hw, nw, n1, n2, fpo, fil⟩ := hJ
          have hS' := ex_l ex hS
          have okl : ok < w.length := by rw [fil.len]; exact okm
          obtain ⟨p, hp, hpr, hrow⟩ := hw.at okl
          refine s_when (b := decide (mixed (cellAt ns (k + 3)) (7 * i + 5) % 3 = 0)) (et_test (ev_is (ev_op (ev_op (ev_mixed (ev_cell (ev_var rfl) (ev_op (ev_var rfl) ev_c rv_I0) hS' (by omega)) (ev_op (ev_op ev_c (ev_var rfl) (rv_I (.inl (by constructor <;> decide)))) ev_c rv_I0) (by omega) (by omega)) ev_c (rv_I (by decide))) ev_c (rv_eq rfl)) (by simp))) (fun hb H3 e3 => ?_) (fun hb H3 e3 => ?_)
          · refine s_rev (e3 _ _ hrow) (ev_op (ev_var rfl) (ev_op (ev_var rfl) (ev_var rfl) (rv_ixL (sq_of (e3 _ _ hoo)) (nl_at hok))) (rv_ixL (hw.mono e3).seq (atI_nat hpr))) (fun H4 e4 => ?_)
            have := InvW.put (y6 := some (.int i)) (y7 := y7) (y8 := y8) (k := k) (th := th) (a := a) (ex.trans (e3.trans e4)) ((e3.trans e4) _ _ hoo) (hw.mono (e3.trans e4)) nw n1 n2 fpo hp _ (fil.rev (List.getElem?_eq_getElem okl)).next
            rw [← nl_rev] at this
            exact ⟨_, this⟩
          · exact ⟨_, wa, ps, w, y7, y8, rfl, ex.trans e3, e3 _ _ hoo, hw.mono e3, nw, n1, n2, fpo, fil.next⟩
      · obtain ⟨y6, wa, ps, w, y7, y8, rfl, ex, hoo, hw, nw, n1, n2, fpo, fil⟩ := hI
        obtain ⟨g1, g2, g3⟩ := fil.good hO hm1
        exact s_ret (ev_var rfl) (fun H5 e5 => q _ _ (ex.trans e5) ⟨wa, ps, w, rfl, hw.mono e5, nw, g1, g2, by omega⟩)
theorem er_webBy {σ : L2.St} {H : Hp} {ta tb : TE} {a : Addr} {ns : List Int} {k : Int} {E : XK} (ha : Ev ta σ H (.ref a)) (hb : Ev tb σ H (.int k)) (hS : SqL K H a (ns.map V.int)) (hk : 0 ≤ k) : EvR (tCall (spWebBy K) [] E (tCons ta (tCons tb tNil))) σ H (RW (fun w => GoodWeb w ∧ Acyc w ∧ w.length ≤ 40)) :=
  er_call (ea_cons ha (ea_cons hb ea_nil)) (fun H1 e Q q => ⟨a, ns, k, rfl, ex_l e hS, hk, q⟩) fun v H0 H1 H2 e h => h.back e
/-! ### a copy -/
def spCopied : Sp := fun vs H Q _ => ∃ (a : Addr) (ps : List Addr) (w : List (List Nat)), vs = [.ref a] ∧ WebAt H a ps w ∧ w.length ≤ 1000 ∧ ∀ v H', Ex H H' → RW (fun w' => w' = w) v H H' → Q v H'
theorem ok_copied (T : Txt K mg) : FnOk P w K mg base CX0 1 T.dLCopied.f T.dLCopied.fd ["_law_web"] spCopied := by
  refine T.dLCopied.F.ok scLCopied (fun vs H Q E h => ?_) (fun cdv A outer s H vs Q E hr h => ?_)
  · obtain ⟨a, ps, w, rfl, _⟩ := h; rfl
  · obtain ⟨a, ps, w, rfl, hw, hl, q⟩ := h
    refine ⟨_, (pss_one (ps_ret (pe_lc (own := [("_law_spot", 1)]) (g := gName 1) (by rfl) scLCopied.nd (piK K (pv 0)) (blkOk_by (own := [("_law_spot", 1)]) (N := nLCopied) (sc := defScope sLCopied) (by decide +kernel)) (fun _ _ _ _ _ => pg_name (i := 1) scLCopied.nd rfl (Or.inl rfl)) (fun _ _ _ _ _ => pts_nil) (fun _ _ _ _ _ => (pe_callTy (T := "list") (listK K) (by rfl) T.z_list (by decide +kernel) (pa_cons (pv 1) pa_nil)))))), ?_⟩
    refine s_retR (er_lcWL (K := K) (xs := ps.map V.ref) (fun i => nl (w.getD i [])) (ev_var rfl) hw.seq (by rw [hw.rlen]; omega) (fun x => rfl) (fun i x H5 e5 hx => ?_)) (fun v H5 e5 r5 => ?_)
    · rw [List.getElem?_map] at hx
      cases e : ps[i]? with
      | none => rw [e] at hx; cases hx
      | some p =>
        rw [e] at hx
        cases hx
        have il : i < w.length := by rw [← hw.len]; exact (List.getElem?_eq_some_iff.mp e).1
        have hr := hw.row i p _ e (List.getElem?_eq_getElem il)
        have ed : w.getD i [] = w[i] := by rw [List.getD_eq_getElem?_getD, List.getElem?_eq_getElem il]; rfl
        rw [ed]
        exact el_list (K := K) (ev_var rfl) (sq_of (e5 _ _ hr))
    · obtain ⟨wa, ps', w0, rfl, hw0, nw0, ew0⟩ := RRows.web r5
      refine q _ _ e5 ⟨wa, ps', w0, rfl, hw0, nw0, ?_⟩
      rw [ew0, hw.rlen]
      refine List.ext_getElem? fun i => ?_
      rw [List.getElem?_map]
      by_cases hi : i < w.length
      · rw [List.getElem?_range hi, List.getElem?_eq_getElem hi]
        show some (w.getD i []) = _
        rw [List.getD_eq_getElem?_getD, List.getElem?_eq_getElem hi]; rfl
      · rw [List.getElem?_eq_none (by rw [List.length_range]; omega), List.getElem?_eq_none (by omega)]; rfl
theorem er_copied {σ : L2.St} {H : Hp} {ta : TE} {a : Addr} {ps : List Addr} {w : List (List Nat)} {E : XK} (ha : Ev ta σ H (.ref a)) (hw : WebAt H a ps w) (hl : w.length ≤ 1000) : EvR (tCall spCopied [] E (tCons ta tNil)) σ H (RW (fun w' => w' = w)) :=
  er_call (ea_cons ha ea_nil) (fun H1 e Q q => ⟨a, ps, w, rfl, hw.mono e, hl, q⟩) fun v H0 H1 H2 e h => h.back e
end
end KX
set_option Elab.async false
set_option linter.all false
set_option maxRecDepth 100000
set_option maxHeartbeats 4000000
namespace KX
open PySem PySem.Spec PyProof.Rows L2 Evl RZ Sg
section
variable {P : Program} {w : World} {K : PySem.W.Frag} {mg : Str → Option Value} {base : Heap}

/-! ### a place: of anything -/
def spPlace (K : PySem.W.Frag) : Sp := fun vs H Q _ => ∃ (x : V) (m : Int), vs = [x, .int m] ∧ ((∃ z : Int, x = .int z ∧ ∀ H', Ex H H' → Q (.bl (decide (0 ≤ z) && decide (z < m))) H') ∨ (∃ T, T ≠ "int" ∧ (∀ H', Ex H H' → TyB K H' x T) ∧ ∀ H', Ex H H' → Q (.bl false) H'))
theorem ok_place (T : Txt K mg) : FnOk P w K mg base CX0 1 T.dIsPlace.f T.dIsPlace.fd ["thing", "many"] (spPlace K) := by
  refine T.dIsPlace.F.ok scIsPlace (fun vs H Q E h => ?_) (fun cdv A outer s H vs Q E hr h => ?_)
  · obtain ⟨x, m, rfl, _⟩ := h; rfl
  · obtain ⟨x, m, rfl, h⟩ := h
    refine ⟨_, (pss_one (ps_ret (pe_and (pe_cmpR op_isTyB (pe_callTy (T := "type") (typK K) (by rfl) T.z_type (by decide +kernel) (pa_cons (pv 0) pa_nil)) (pe_bltn (v := .ty "int") (by rfl) T.z_int (by decide +kernel) rfl) (nomark _)) (pe_one (pe_chain op_le op_lt pe_int (pv 0) (pv 1)))))), ?_⟩
    rcases h with ⟨z, rfl, q⟩ | ⟨ty, hne, hty, q⟩
    · refine s_ret (ev_is (ev_andV (ev_op (ev_type (K := K) (T := "int") (ev_var rfl) (fun H1 e => .int _)) ev_c rv_isTy) (fun _ => ev_chain (a := decide (0 ≤ z)) (b := decide (z < m)) ev_c (ev_var rfl) rv_I0 (fun _ => ⟨_, ev_var rfl, rv_I0⟩))) (by simp)) (fun H3 e3 => q H3 e3)
    · refine s_ret (ev_is (ev_andV (b := false) (ev_op (ev_type (K := K) (T := ty) (ev_var rfl) hty) ev_c rv_isTy) (fun hb => absurd (of_decide_eq_true hb) hne)) (by simp)) (fun H3 e3 => q H3 e3)
theorem ev_place {σ : L2.St} {H : Hp} {ta tb : TE} {z m : Int} {E : XK} (ha : Ev ta σ H (.int z)) (hb : Ev tb σ H (.int m)) : Ev (tCall (spPlace K) [] E (tCons ta (tCons tb tNil))) σ H (.bl (decide (0 ≤ z) && decide (z < m))) :=
  ev_call (ea_cons ha (ea_cons hb ea_nil)) fun H1 e Q q E => ⟨_, m, rfl, .inl ⟨z, rfl, q⟩⟩
theorem ev_placeNo {σ : L2.St} {H : Hp} {ta tb : TE} {x : V} {m : Int} {ty : String} {E : XK} (ha : Ev ta σ H x) (hb : Ev tb σ H (.int m)) (hne : ty ≠ "int") (ht : ∀ H', Ex H H' → TyB K H' x ty) : Ev (tCall (spPlace K) [] E (tCons ta (tCons tb tNil))) σ H (.bl false) :=
  ev_call (ea_cons ha (ea_cons hb ea_nil)) fun H1 e Q q E => ⟨x, m, rfl, .inr ⟨ty, hne, fun H' e' => ht H' (e.trans e'), q⟩⟩
/-! ### what is a web -/
def spIsSpot : Sp := fun vs H Q _ => ∃ (a : Addr) (r : List Nat) (m : Nat), vs = [.ref a, .int m] ∧ H a = some (.lst (nl r)) ∧ r.Nodup ∧ (∀ x ∈ r, x < m) ∧ r.length ≤ 4000 ∧ ∀ H', Ex H H' → Q (.bl true) H'
theorem ok_isSpot (T : Txt K mg) : FnOk P w K mg base CX0 2 T.dIsSpot.f T.dIsSpot.fd ["thing", "many"] spIsSpot := by
  have GIsPlace : FnOk P w K mg base CX0 _ T.dIsPlace.f T.dIsPlace.fd _ (spPlace K) := ok_place T
  refine T.dIsSpot.F.ok scIsSpot (fun vs H Q E h => ?_) (fun cdv A outer s H vs Q E hr h => ?_)
  · obtain ⟨a, r, m, rfl, _⟩ := h; rfl
  · obtain ⟨a, r, m, rfl, hp, nd, hb, hl, q⟩ := h
    refine ⟨_, (pss_cons (ps_if (pt_cmpR op_notTyB (pe_callTy (T := "type") (typK K) (by rfl) T.z_type (by decide +kernel) (pa_cons (pv 0) pa_nil)) (pe_bltn (v := .ty "list") (by rfl) T.z_list (by decide +kernel) rfl) (nomark _)) (pss_one (ps_ret pe_bl)) pss_nil) (pss_cons (ps_for PassesOwn.never rfl (piK K (pv 0)) (pg_name (i := 2) scIsSpot.nd rfl (.inl rfl)) (pss_one (ps_if (pt_not (pt_val (pe_call GIsPlace (hr.mono (by decide)) (by rfl) T.dIsPlace.g T.dIsPlace.F.kp T.dIsPlace.b .nil pass0 (pa_cons (pv 2) (pa_cons (pv 1) pa_nil))))) (pss_one (ps_ret pe_bl)) pss_nil))) (pss_one (ps_ret (pe_cmpR op_eq (lenSetK K (by rfl) T.z_len (by rfl) T.z_set (pv 0)) (pe_callB (id := "len") (lenK K) (by rfl) T.z_len (by decide +kernel) (pa_cons (pv 0) pa_nil)) (nomark _)))))), ?_⟩
    refine q_when (b := false) (et_test (ev_is (ev_op (ev_type (T := "list") (ev_var rfl) (fun H1 e => .lst (sq_of (e _ _ hp)))) ev_c rv_notTy) (by simp))) (fun hb => nomatch hb) (fun _ H1 e1 => ?_)
    refine q_forLn (ev_var rfl) (sq_of (e1 _ _ hp)) (fun i σ H' => ∃ y, σ = [some (.ref a), some (.int m), y] ∧ Ex H H') (fun H2 e2 => ⟨none, rfl, e1.trans e2⟩) (fun i σ' H' _ hI => ?_) (fun i x σ' H' hx hI => ?_) (fun σ' H' hI => ?_)
    · obtain ⟨y, rfl, ex⟩ := hI
      exact sq_of (ex _ _ hp)
    · obtain ⟨y, rfl, ex⟩ := hI
      obtain ⟨v, hv, rfl⟩ := nl_of_get hx
      have hvm := hb v (List.mem_of_getElem? hv)
      refine s_when (b := false) (et_is (et_not (et_B (ev_place (z := (v : Int)) (m := (m : Int)) (ev_var rfl) (ev_var rfl)))) (by
        rw [decide_eq_true (show (0 : Int) ≤ (v : Int) by omega), decide_eq_true (show (v : Int) < (m : Int) by omega)]
        simp)) (fun hb => nomatch hb) (fun _ H3 e3 => ?_)
      exact ⟨some (ni v), rfl, ex.trans e3⟩
    · obtain ⟨y, rfl, ex⟩ := hI
      refine s_ret (ev_is (ev_op (ev_lenSet (ev_var rfl) (sq_of (ex _ _ hp)) nd hl) (ev_is (ev_len (ev_var rfl) (sq_of (ex _ _ hp))) (by rw [nl_len])) (rv_eq rfl)) (by simp)) (fun H3 e3 => q H3 (ex.trans e3))
theorem ev_isSpot {σ : L2.St} {H : Hp} {ta tb : TE} {a : Addr} {r : List Nat} {m : Nat} {E : XK} (ha : Ev ta σ H (.ref a)) (hb : Ev tb σ H (.int m)) (hp : H a = some (.lst (nl r))) (nd : r.Nodup) (hlt : ∀ x ∈ r, x < m) (hl : r.length ≤ 4000) : Ev (tCall spIsSpot [] E (tCons ta (tCons tb tNil))) σ H (.bl true) :=
  ev_call (ea_cons ha (ea_cons hb ea_nil)) fun H1 e Q q E => ⟨a, r, m, rfl, e _ _ hp, nd, hlt, hl, q⟩
def spIsWeb : Sp := fun vs H Q _ => ∃ (a : Addr) (ps : List Addr) (w : List (List Nat)), vs = [.ref a] ∧ WebAt H a ps w ∧ GoodWeb w ∧ w.length ≤ 200 ∧ ∀ H', Ex H H' → Q (.bl true) H'
theorem ok_isWeb (T : Txt K mg) : FnOk P w K mg base CX0 3 T.dIsWeb.f T.dIsWeb.fd ["thing"] spIsWeb := by
  have GIsSpot : FnOk P w K mg base CX0 _ T.dIsSpot.f T.dIsSpot.fd _ spIsSpot := ok_isSpot T
  refine T.dIsWeb.F.ok scIsWeb (fun vs H Q E h => ?_) (fun cdv A outer s H vs Q E hr h => ?_)
  · obtain ⟨a, ps, w, rfl, _⟩ := h; rfl
  · obtain ⟨a, ps, w, rfl, hw, g, hl, q⟩ := h
    refine ⟨_, (pss_cons (ps_if (PW.pt (pw_or (pt_cmpR op_notTyB (pe_callTy (T := "type") (typK K) (by rfl) T.z_type (by decide +kernel) (pa_cons (pv 0) pa_nil)) (pe_bltn (v := .ty "list") (by rfl) T.z_list (by decide +kernel) rfl) (nomark _)) (pw_or1 (pt_not (pt_chain op_le op_le pe_int (pe_callB (id := "len") (lenK K) (by rfl) T.z_len (by decide +kernel) (pa_cons (pv 0) pa_nil)) (pe_glob (v := .int 200) (by rfl) T.gMOSTSPOTS ⟨_, rfl⟩)))))) (pss_one (ps_ret pe_bl)) pss_nil) (pss_cons (ps_for PassesOwn.never rfl (piK K (pv 0)) (pg_name (i := 1) scIsWeb.nd rfl (.inl rfl)) (pss_one (ps_if (pt_not (pt_val (pe_call GIsSpot (hr.mono (by decide)) (by rfl) T.dIsSpot.g T.dIsSpot.F.kp T.dIsSpot.b .nil pass0 (pa_cons (pv 1) (pa_cons (pe_callB (id := "len") (lenK K) (by rfl) T.z_len (by decide +kernel) (pa_cons (pv 0) pa_nil)) pa_nil))))) (pss_one (ps_ret pe_bl)) pss_nil))) (pss_one (ps_ret pe_bl)))), ?_⟩
    have hg := g.pos
    have hlen : ∀ {σ : L2.St} {H1 : Hp}, Ex H H1 → σ[0]? = some (some (.ref a)) → Ev (tCB (rLenS K) (tCons (tVar 0) tNil)) σ H1 (.int (w.length : Int)) := fun {σ H1} e h => ev_is (ev_len (ev_var h) (hw.mono e).seq) (by rw [hw.rlen])
    refine q_when (b := false) (et_is (et_or (et_test (ev_op (ev_type (T := "list") (ev_var rfl) (fun H1 e => .lst (hw.mono e).seq)) ev_c rv_notTy)) (fun _ => et_not (et_test (ev_chain (a := decide ((1 : Int) ≤ (w.length : Int))) (b := decide ((w.length : Int) ≤ (200 : Int))) ev_c (hlen (Ex.refl H) rfl) rv_I0 (fun _ => ⟨_, ev_c, rv_I0⟩))))) (by
        rw [decide_eq_true (show (1 : Int) ≤ (w.length : Int) by omega), decide_eq_true (show (w.length : Int) ≤ (200 : Int) by omega)]
        simp)) (fun hb => nomatch hb) (fun _ H1 e1 => ?_)
    refine q_forLn (ev_var rfl) (hw.mono e1).seq (fun i σ H' => ∃ y, σ = [some (.ref a), y] ∧ Ex H H') (fun H2 e2 => ⟨none, rfl, e1.trans e2⟩) (fun i σ' H' _ hI => ?_) (fun i x σ' H' hx hI => ?_) (fun σ' H' hI => ?_)
    · obtain ⟨y, rfl, ex⟩ := hI
      exact (hw.mono ex).seq
    · obtain ⟨y, rfl, ex⟩ := hI
      have il : i < w.length := by
        have := (List.getElem?_eq_some_iff.mp hx).1
        rw [hw.rlen] at this; exact this
      obtain ⟨p, hp, hpr, hrow⟩ := (hw.mono ex).at il
      rw [hpr] at hx; cases hx
      have gi := List.getElem?_eq_getElem il
      refine s_when (b := false) (et_not (et_B (ev_isSpot (ev_var rfl) (hlen ex rfl) hrow (g.nd _ _ gi) (g.lt _ _ gi) (by have := good_len g gi; omega)))) (fun hb => nomatch hb) (fun _ H3 e3 => ⟨_, rfl, ex.trans e3⟩)
    · obtain ⟨y, rfl, ex⟩ := hI
      exact s_ret ev_c (fun H3 e3 => q H3 (ex.trans e3))
theorem ev_isWeb {σ : L2.St} {H : Hp} {ta : TE} {a : Addr} {ps : List Addr} {w : List (List Nat)} {E : XK} (ha : Ev ta σ H (.ref a)) (hw : WebAt H a ps w) (g : GoodWeb w) (hl : w.length ≤ 200) : Ev (tCall spIsWeb [] E (tCons ta tNil)) σ H (.bl true) :=
  ev_call (ea_cons ha ea_nil) fun H1 e Q q E => ⟨a, ps, w, rfl, hw.mono e, g, hl, q⟩
def spCheck : Sp := fun vs H Q _ => ∃ (a : Addr) (ps : List Addr) (w : List (List Nat)), vs = [.ref a] ∧ WebAt H a ps w ∧ GoodWeb w ∧ w.length ≤ 200 ∧ ∀ H', Ex H H' → Q .non H'
theorem ok_check (T : Txt K mg) : FnOk P w K mg base CX0 4 T.dCheckWeb.f T.dCheckWeb.fd ["thing"] spCheck := by
  have GIsWeb : FnOk P w K mg base CX0 _ T.dIsWeb.f T.dIsWeb.fd _ spIsWeb := ok_isWeb T
  refine T.dCheckWeb.F.ok scCheckWeb (fun vs H Q E h => ?_) (fun cdv A outer s H vs Q E hr h => ?_)
  · obtain ⟨a, ps, w, rfl, _⟩ := h; rfl
  · obtain ⟨a, ps, w, rfl, hw, g, hl, q⟩ := h
    refine ⟨_, (pss_one (ps_if (pt_not (pt_val (pe_call GIsWeb (hr.mono (by decide)) (by rfl) T.dIsWeb.g T.dIsWeb.F.kp T.dIsWeb.b .nil pass0 (pa_cons (pv 0) pa_nil)))) (pss_one ps_never) pss_nil)), ?_⟩
    exact s_when (b := false) (et_not (et_B (ev_isWeb (ev_var rfl) hw g hl))) (fun hb => nomatch hb) (fun _ H1 e1 => q H1 e1)
theorem ev_check {σ : L2.St} {H : Hp} {ta : TE} {a : Addr} {ps : List Addr} {w : List (List Nat)} {E : XK} (ha : Ev ta σ H (.ref a)) (hw : WebAt H a ps w) (g : GoodWeb w) (hl : w.length ≤ 200) : Ev (tCall spCheck [] E (tCons ta tNil)) σ H .non :=
  ev_call (ea_cons ha ea_nil) fun H1 e Q q E => ⟨a, ps, w, rfl, hw.mono e, g, hl, q⟩
end
end KX
set_option Elab.async false
set_option linter.all false
set_option maxRecDepth 100000
set_option maxHeartbeats 4000000
namespace KX
open PySem PySem.Spec PyProof.Rows L2 Evl RZ Sg
section
variable {P : Program} {w : World} {K : PySem.W.Frag} {mg : Str → Option Value} {base : Heap}

/-! ### sources -/
def spSources : Sp := fun vs H Q _ => ∃ (a : Addr) (ps : List Addr) (w : List (List Nat)), vs = [.ref a] ∧ WebAt H a ps w ∧ GoodWeb w ∧ w.length ≤ 200 ∧ ∀ v H', Ex H H' → RW (SrcOf w) v H H' → Q v H'
def InvS (H0 : Hp) (a : Addr) (w : List (List Nat)) (i t : Nat) (y2 : Option V) (σ : L2.St) (H : Hp) : Prop := ∃ (sa : Addr) (sp : List Addr) (s : List (List Nat)) (y3 y4 : Option V), σ = [some (.ref a), some (.ref sa), y2, y3, y4] ∧ Ex H0 H ∧ WebAt H sa sp s ∧ NewAt H0 sa sp ∧ Src w i t s
theorem ok_sources (T : Txt K mg) : FnOk P w K mg base CX0 1 T.dSources.f T.dSources.fd ["web"] spSources := by
  refine T.dSources.F.ok scSources (fun vs H Q E h => ?_) (fun cdv A outer s H vs Q E hr h => ?_)
  · obtain ⟨a, ps, w, rfl, _⟩ := h; rfl
  · obtain ⟨a, ps, w, rfl, hw, g, hl, q⟩ := h
    refine ⟨_, (pss_cons (ps_setLc (i := 1) (own := [("_", 4)]) (g := gName 4) (by rfl) scSources.nd rfl rfl (sw_true rfl rfl rfl (by decide +kernel)) (piK K (pv 0)) (blkOk_by (own := [("_", 4)]) (N := nSources) (sc := defScope sSources) (by decide +kernel)) (fun _ _ _ _ _ => pg_name (i := 4) scSources.nd rfl (Or.inl rfl)) (fun _ _ _ _ _ => pts_nil) (fun _ _ _ _ _ => (pe_lst pa_nil))) (pss_cons (ps_for PassesOwn.never rfl (pi_range1 (by rfl) T.z_range (pa_cons (pe_callB (id := "len") (lenK K) (by rfl) T.z_len (by decide +kernel) (pa_cons (pv 0) pa_nil)) pa_nil)) (pg_name (i := 2) scSources.nd rfl (.inl rfl)) (pss_one (ps_for PassesOwn.never rfl (piK K (pe_ix (ixK K) (pv 0) (pv 2) (fun _ _ => rfl))) (pg_name (i := 3) scSources.nd rfl (.inl rfl)) (pss_one (ps_expr (pe_bm PySem.F.plainAttrs_list PySem.F.slot_list_append PySem.F.type_list_append mt_append (pe_ix (ixK K) (pv 1) (pv 3) (fun _ _ => rfl)) (pa_cons (pv 2) pa_nil))))))) (pss_one (ps_ret (pv 1))))), ?_⟩
    refine q_asgR (er_lcWL (K := K) (xs := ps.map V.ref) (fun i => nl []) (ev_var rfl) hw.seq (by rw [hw.rlen]; omega) (fun x => rfl) (fun i x H5 e5 hx => el_lst ea_nil (Nat.zero_le _))) (fun v H1 e1 r1 => ?_)
    obtain ⟨sa, sp, s0, rfl, hs0, ns0, es0⟩ := RRows.web r1
    rw [hw.rlen] at es0
    refine q_forR1 (n := (w.length : Int)) (ea_cons (ev_wlen (ev_var rfl) (hw.mono e1)) ea_nil) ⟨by omega, by omega⟩ (fun i σ H' => ∃ y2, InvS H a w i 0 y2 σ H') (fun H2 e2 => ?_) (fun i σ' H' hi hI => ?_) (fun σ' H' hI => ?_)
    · exact ⟨none, sa, sp, s0, none, none, rfl, e1.trans e2, hs0.mono e2, ns0, by rw [es0]; exact Src.start w⟩
    · obtain ⟨y2, sa, sp, s1, y3, y4, rfl, ex, hs, ns, src⟩ := hI
      have il : i < w.length := by omega
      obtain ⟨p, hp, hpr, hrow⟩ := web_row (K := K) (hw.mono ex) il
      have hrow0 : H p = some (.lst (nl (row w i))) := by
        obtain ⟨p', hp', _, h'⟩ := web_row (K := K) hw il
        rw [hp] at hp'; cases hp'; exact h'
      refine s_forLn (ev_op (ev_var rfl) (ev_var rfl) (rv_ixL (hw.mono ex).seq (atI_nat hpr))) (sq_of hrow) (fun t => InvS H a w i t (some (.int i))) (fun H2 e2 => ⟨sa, sp, s1, y3, y4, rfl, ex.trans e2, hs.mono e2, ns, src⟩) (fun t σ2 H2 _ hJ => ?_) (fun t x σ2 H2 hx hJ => ?_) (fun σ2 H2 hJ => ?_)
      · obtain ⟨_, _, _, _, _, _, ex2, _⟩ := hJ
        exact sq_of (ex2 _ _ hrow0)
      · obtain ⟨sa, sp, s1, y3, y4, rfl, ex2, hs, ns, src⟩ := hJ
        obtain ⟨j, hj, rfl⟩ := nl_of_get hx
        have jl : j < s1.length := by rw [src.len]; exact g.rlt (List.mem_of_getElem? hj)
        obtain ⟨q1, hq1, hq1r, hq1row⟩ := hs.at jl
        have gj := List.getElem?_eq_getElem jl
        refine s_app hq1row (ev_op (ev_var rfl) (ev_var rfl) (rv_ixL hs.seq (atI_nat hq1r))) (ev_var rfl) (by
          rw [nl_len]
          have := nd_len (l' := List.range w.length) (src.nd _ _ gj) (fun x hx => List.mem_range.mpr (by
            rcases (src.mem _ _ gj x).mp hx with z | z <;> omega))
          rw [List.length_range] at this
          omega) (fun H3 e3 => ?_)
        have := (hs.mono e3).set ns.nd ns.na hq1 (s1[j] ++ [i])
        rw [nl_app] at this
        exact ⟨sa, sp, _, _, _, rfl, (ex2.trans e3).mut (ns.row _ (List.mem_of_getElem? hq1)), this, ns, src.step g hj gj⟩
      · obtain ⟨sa, sp, s1, y3, y4, rfl, ex2, hs, ns, src⟩ := hJ
        rw [nl_len] at src
        exact ⟨_, sa, sp, s1, y3, y4, rfl, ex2, hs, ns, src.next⟩
    · obtain ⟨y2, sa, sp, s1, y3, y4, rfl, ex, hs, ns, src⟩ := hI
      rw [Int.toNat_natCast] at src
      exact s_ret (ev_var rfl) (fun H3 e3 => q _ _ (ex.trans e3) ⟨sa, sp, s1, rfl, hs.mono e3, ns, src.done⟩)
theorem er_sources {σ : L2.St} {H : Hp} {ta : TE} {a : Addr} {ps : List Addr} {w : List (List Nat)} {E : XK} (ha : Ev ta σ H (.ref a)) (hw : WebAt H a ps w) (g : GoodWeb w) (hl : w.length ≤ 200) : EvR (tCall spSources [] E (tCons ta tNil)) σ H (RW (SrcOf w)) :=
  er_call (ea_cons ha ea_nil) (fun H1 e Q q => ⟨a, ps, w, rfl, hw.mono e, g, hl, q⟩) fun v H0 H1 H2 e h => h.back e
/-! ### the spots from which all play ends -/
def spEnded : Sp := fun vs H Q _ => ∃ (a : Addr) (ps : List Addr) (w : List (List Nat)), vs = [.ref a] ∧ WebAt H a ps w ∧ GoodWeb w ∧ w.length ≤ 200 ∧ ∀ v H', Ex H H' → RL (Ended w) v H H' → Q v H'
def InvE (H0 : Hp) (a sa : Addr) (k : Nat) (y5 y6 : Option V) (e wt : List Nat) (σ : L2.St) (H : Hp) : Prop := ∃ (wa ea : Addr) (y7 : Option V), σ = [some (.ref a), some (.ref sa), some (.ref wa), some (.ref ea), some (.int k), y5, y6, y7] ∧ Ex H0 H ∧ H wa = some (.lst (nl wt)) ∧ H ea = some (.lst (nl e)) ∧ wa ≠ ea ∧ H0 wa = none ∧ H0 ea = none
theorem ok_ended (T : Txt K mg) : FnOk P w K mg base CX0 2 T.dEndedSpots.f T.dEndedSpots.fd ["web"] spEnded := by
  have GSources : FnOk P w K mg base CX0 _ T.dSources.f T.dSources.fd _ spSources := ok_sources T
  refine T.dEndedSpots.F.ok scEndedSpots (fun vs H Q E h => ?_) (fun cdv A outer s H vs Q E hr h => ?_)
  · obtain ⟨a, ps, w, rfl, _⟩ := h; rfl
  · obtain ⟨a, ps, w, rfl, hw, g, hl, q⟩ := h
    refine ⟨_, (pss_cons (ps_set (i := 1) scEndedSpots.nd rfl (.inl rfl) (pe_call GSources (hr.mono (by decide)) (by rfl) T.dSources.g T.dSources.F.kp T.dSources.b .nil pass0 (pa_cons (pv 0) pa_nil))) (pss_cons (ps_set (i := 2) scEndedSpots.nd rfl (.inr rfl) (pe_lc (own := [("moves", 7)]) (g := gName 7) (by rfl) scEndedSpots.nd (piK K (pv 0)) (blkOk_by (own := [("moves", 7)]) (N := nEndedSpots) (sc := defScope sEndedSpots) (by decide +kernel)) (fun _ _ _ _ _ => pg_name (i := 7) scEndedSpots.nd rfl (Or.inl rfl)) (fun _ _ _ _ _ => pts_nil) (fun _ _ _ _ _ => (pe_callB (id := "len") (lenK K) (by rfl) T.z_len (by decide +kernel) (pa_cons (pv 7) pa_nil))))) (pss_cons (ps_setLc (i := 3) (own := [("spot", 5)]) (g := gName 5) (by rfl) scEndedSpots.nd rfl rfl (sw_true rfl rfl rfl (by decide +kernel)) (pi_range1 (by rfl) T.z_range (pa_cons (pe_callB (id := "len") (lenK K) (by rfl) T.z_len (by decide +kernel) (pa_cons (pv 0) pa_nil)) pa_nil)) (blkOk_by (own := [("spot", 5)]) (N := nEndedSpots) (sc := defScope sEndedSpots) (by decide +kernel)) (fun _ _ _ _ _ => pg_name (i := 5) scEndedSpots.nd rfl (Or.inl rfl)) (fun _ _ _ _ _ => (pts_one (pt_cmpR op_eq (pe_ix (ixK K) (pv 2) (pv 5) (fun _ _ => rfl)) pe_int (nomark _)))) (fun _ _ _ _ _ => (pv 5))) (pss_cons (ps_set (i := 4) scEndedSpots.nd rfl (.inl rfl) pe_int) (pss_cons (ps_while PassesOwn.never (pt_cmpR op_lt (pv 4) (pe_callB (id := "len") (lenK K) (by rfl) T.z_len (by decide +kernel) (pa_cons (pv 3) pa_nil)) (nomark _)) (pss_cons (ps_set (i := 5) scEndedSpots.nd rfl (.inl rfl) (pe_ix (ixK K) (pv 3) (pv 4) (fun _ _ => rfl))) (pss_cons (ps_for PassesOwn.never rfl (piK K (pe_ix (ixK K) (pv 1) (pv 5) (fun _ _ => rfl))) (pg_name (i := 6) scEndedSpots.nd rfl (.inl rfl)) (pss_cons (ps_augS (pv 2) (pv 6) (getK K) pe_int ip_sub set_list) (pss_one (ps_if (pt_cmpR op_eq (pe_ix (ixK K) (pv 2) (pv 6) (fun _ _ => rfl)) pe_int (nomark _)) (pss_one (ps_expr (pe_bm PySem.F.plainAttrs_list PySem.F.slot_list_append PySem.F.type_list_append mt_append (pv 3) (pa_cons (pv 6) pa_nil)))) pss_nil)))) (pss_one (ps_aug (i := 4) scEndedSpots.nd rfl (.inl rfl) pe_int ip_add))))) (pss_one (ps_ret (pv 3)))))))), ?_⟩
    refine q_asgR (er_sources (ev_var rfl) hw g hl) (fun v Hs es rs => ?_)
    obtain ⟨sa, sp, ss, rfl, hss, nss, src⟩ := rs
    have hws := hw.mono es
    -- waiting
    refine q_asgL (el_lcL (fun _ => true) (fun i => ni (row w i).length) (ev_var rfl) hws.seq (by rw [hws.rlen]; omega) (fun x => rfl) (fun i x H1 e1 hx H2 e2 Q q => q H2 (Ex.refl H2)) (fun i x H1 e1 hx _ => ?_)) (fun wa H1 n1 e1 h1 => ?_)
    · have il : i < w.length := by
        have := (List.getElem?_eq_some_iff.mp hx).1
        rw [hws.rlen] at this; exact this
      obtain ⟨p, hp, hpr, hrow⟩ := web_row (K := K) (hws.mono e1) il
      rw [hpr] at hx; cases hx
      exact ev_llen (ev_var rfl) (sq_of hrow)
    · rw [given_all, hws.rlen] at h1
      have h1' : H1 wa = some (.lst (nl ((List.range w.length).map fun x => (row w x).length))) := by
        rw [h1]
        show some (HO.lst _) = some (HO.lst ((_ : List Nat).map ni))
        rw [List.map_map]; rfl
      -- ended
      refine q_asgL (el_lcR1 (n := (w.length : Int)) (fun i => decide ((row w i).length = 0)) (fun i => ni i) (ea_cons (ev_wlen (ev_var rfl) (hws.mono e1)) ea_nil) ⟨by omega, by omega⟩ (fun x => rfl) (fun i H2 e2 hi => ?_) (fun i H2 e2 hi _ => ev_var rfl)) (fun ea H2 n2 e2 h2 => ?_)
      · have il : i < w.length := by omega
        have hg : ((List.range w.length).map fun x => (row w x).length)[i]? = some (row w i).length := by
          rw [List.getElem?_map, List.getElem?_range il]; rfl
        refine et_test (ev_is (ev_op (ev_op (ev_var rfl) (ev_var rfl) (rv_ixL (sq_of (e2 _ _ h1')) (nl_at hg))) ev_c (rv_eq rfl)) ?_)
        rw [dec_int]
        show V.bl (((row w i).length : Int) == 0) = _
        congr 1
        by_cases z : (row w i).length = 0
        · rw [z]; rfl
        · rw [decide_eq_false z]; exact beq_eq_false_iff_ne.mpr (by omega)
      · have h2' : H2 ea = some (.lst (nl ((List.range w.length).filter fun x => decide ((row w x).length = 0)))) := by
          rw [h2, Int.toNat_natCast]; rfl
        refine q_asg (v := .int 0) ev_c (fun H3 e3 => ?_)
        have hne : wa ≠ ea := ne_of_none h1 n2
        refine q_while (fun m σ H' => ∃ (k : Nat) (y5 y6 : Option V) (e wt : List Nat), m = w.length - k ∧ Kn w k e wt ∧ InvE Hs a sa k y5 y6 e wt σ H') w.length ⟨0, none, none, _, _, rfl, Kn.start g, wa, ea, none, rfl, (e1.trans e2).trans e3, e3 _ _ (e2 _ _ h1'), e3 _ _ h2', hne, n1, fresh_back e1 n2⟩ (fun m σ' H' hW => ?_)
        obtain ⟨k, y5, y6, e, wt, rfl, kn, wa, ea, y7, rfl, ex, hwa, hea, hne, f1, f2⟩ := hW
        refine ⟨decide (k < e.length), et_test (ev_is (ev_op (ev_var rfl) (ev_llen (ev_var rfl) (sq_of hea)) rv_I0) (by simp)), fun hb H4 e4 => ?_, fun hb H4 e4 => ?_⟩
        · have kl : k < e.length := of_decide_eq_true hb
          have hen := kn.len_le
          obtain ⟨s, hs⟩ : ∃ s, e[k]? = some s := ⟨e[k], List.getElem?_eq_getElem kl⟩
          have sl : s < w.length := kn.lt s (List.mem_of_getElem? hs)
          refine ⟨fun σ2 H2 => ∃ (y5 y6 : Option V) (e wt : List Nat), Kn w (k + 1) e wt ∧ InvE Hs a sa ((k + 1 : Nat)) y5 y6 e wt σ2 H2, fun σ2 H2 hN => ?_, ?_⟩
          · obtain ⟨y5, y6, e', wt', kn', hI⟩ := hN
            have := kn'.kle
            have := kn'.len_le
            exact ⟨w.length - (k + 1), by omega, k + 1, y5, y6, e', wt', rfl, kn', hI⟩
          · refine q_asg (v := ni s) (ev_op (ev_var rfl) (ev_var rfl) (rv_ixL (sq_of (e4 _ _ hea)) (nl_at hs))) (fun H5 e5 => ?_)
            have sls : s < ss.length := by rw [src.1]; exact sl
            obtain ⟨p, hp, hpr, hrow⟩ := hss.at sls
            have gs := List.getElem?_eq_getElem sls
            have srcs := src.2 s _ gs
            have e45 := ex.trans (e4.trans e5)
            have dl : (e.take k).length = k := by rw [List.length_take]; omega
            refine q_forLn (ev_op (ev_var rfl) (ev_var rfl) (rv_ixL (hss.mono e45).seq (atI_nat hpr))) (sq_of (e45 _ _ hrow)) (fun i σ H' => ∃ (y6 : Option V) (e' wt' : List Nat), Inn w (e.take k) s (ss[s].take i) e' wt' ∧ InvE Hs a sa k (some (ni s)) y6 e' wt' σ H')
              (fun H6 e6 => ⟨y6, e, wt, by rw [List.take_zero]; exact kn.inn hs, wa, ea, y7, rfl, e45.trans e6, e6 _ _ (e5 _ _ (e4 _ _ hwa)), e6 _ _ (e5 _ _ (e4 _ _ hea)), hne, f1, f2⟩) (fun i σ' H' _ hI => ?_) (fun i xv σ' H' hxv hI => ?_) (fun σ' H' hI => ?_)
            · obtain ⟨_, _, _, _, _, _, _, _, ex2, _⟩ := hI
              exact sq_of (ex2 _ _ hrow)
            · obtain ⟨y6, e', wt', inn, wa, ea, y7, rfl, ex2, hwa, hea, hne, f1, f2⟩ := hI
              obtain ⟨x, hx, rfl⟩ := nl_of_get hxv
              have xm := (srcs.2 x).mp (List.mem_of_getElem? hx)
              have xn : x ∉ ss[s].take i := fun hm => by
                obtain ⟨t, ht, et⟩ := List.getElem_of_mem hm
                have ti : t < i := by rw [List.length_take] at ht; omega
                have h3 : ss[s][t]? = some x := by rw [← List.getElem?_take_of_lt ti, List.getElem?_eq_getElem ht, et]
                have := nd_ix srcs.1 h3 hx
                omega
              obtain ⟨c, hc1, hc2, hc3, hc4⟩ := inn.step g xm.1 xm.2 xn
              have tk : ss[s].take (i + 1) = ss[s].take i ++ [x] := by rw [List.take_add_one, hx]; rfl
              have xl : x < wt'.length := (List.getElem?_eq_some_iff.mp hc1).1
              refine q_augL (K := K) hwa (ev_var rfl) (ev_var rfl) (j := x) (nl_get hc1) ev_c (fun H6 e6 => ?_)
              have hset : ((nl wt').set x (.int (((c + 1 : Nat) : Int) - 1))) = nl (wt'.set x c) := by
                rw [show (((c + 1 : Nat) : Int) - 1) = (c : Int) by omega]
                exact List.map_set.symm
              rw [hset]
              have hwa6 : (upd H6 wa (.lst (nl (wt'.set x c)))) wa = some (.lst (nl (wt'.set x c))) := upd_same
              have hea6 : (upd H6 wa (.lst (nl (wt'.set x c)))) ea = some (.lst (nl e')) := by rw [upd_ne hne.symm]; exact e6 _ _ hea
              have ex6 : Ex Hs (upd H6 wa (.lst (nl (wt'.set x c)))) := (ex2.trans e6).mut f1
              refine s_when (b := decide (c = 0)) (et_test (ev_is (ev_op (ev_op (ev_var rfl) (ev_var rfl) (rv_ixL (sq_of hwa6) (nl_at (List.getElem?_set_self xl)))) ev_c (rv_eq rfl)) ?_)) (fun hb H7 e7 => ?_) (fun hb H7 e7 => ?_)
              · rw [dec_int]
                show V.bl ((c : Int) == 0) = _
                congr 1
                by_cases z : c = 0
                · rw [z]; rfl
                · rw [decide_eq_false z]; exact beq_eq_false_iff_ne.mpr (by omega)
              · have z : c = 0 := of_decide_eq_true hb
                have i3 := hc3 z
                refine s_app (e7 _ _ hea6) (ev_var rfl) (ev_var rfl) (by
                  rw [nl_len]
                  have := nd_len (l' := List.range w.length) inn.nd (fun x hx => List.mem_range.mpr (inn.lt x hx))
                  rw [List.length_range] at this
                  omega) (fun H8 e8 => ?_)
                refine ⟨some (ni x), e' ++ [x], wt'.set x c, by rw [tk]; exact i3, wa, ea, y7, rfl, (ex6.trans (e7.trans e8)).mut f2, ?_, ?_, hne, f1, f2⟩
                · rw [upd_ne hne]; exact e8 _ _ (e7 _ _ hwa6)
                · rw [upd_same, nl_app]; rfl
              · have z : c ≠ 0 := of_decide_eq_false hb
                exact ⟨some (ni x), e', wt'.set x c, by rw [tk]; exact hc4 z, wa, ea, y7, rfl, ex6.trans e7, e7 _ _ hwa6, e7 _ _ hea6, hne, f1, f2⟩
            · obtain ⟨y6, e', wt', inn, wa, ea, y7, rfl, ex2, hwa, hea, hne, f1, f2⟩ := hI
              rw [nl_len, List.take_length] at inn
              have kn' := inn.kn (fun x hx => by rw [srcs.2 x]; exact ⟨fun z => z.2, fun z => ⟨hx, z⟩⟩)
              rw [dl] at kn'
              refine s_aug (a := (k : Int)) rfl ev_c (fun H6 e6 => ?_)
              exact ⟨some (ni s), y6, e', wt', kn', wa, ea, y7, rfl, ex2.trans e6, e6 _ _ hwa, e6 _ _ hea, hne, f1, f2⟩
        · have kl : ¬ k < e.length := of_decide_eq_false hb
          have : k = e.length := by have := kn.kle; omega
          subst this
          exact s_ret (ev_var rfl) (fun H5 e5 => q _ _ ((es.trans ex).trans (e4.trans e5)) ⟨ea, e, rfl, fresh_back es f2, e5 _ _ (e4 _ _ hea), kn.done⟩)
theorem er_ended {σ : L2.St} {H : Hp} {ta : TE} {a : Addr} {ps : List Addr} {w : List (List Nat)} {E : XK} (ha : Ev ta σ H (.ref a)) (hw : WebAt H a ps w) (g : GoodWeb w) (hl : w.length ≤ 200) : EvR (tCall spEnded [] E (tCons ta tNil)) σ H (RL (Ended w)) :=
  er_call (ea_cons ha ea_nil) (fun H1 e Q q => ⟨a, ps, w, rfl, hw.mono e, g, hl, q⟩) fun v H0 H1 H2 e h => h.back e
end
end KX
set_option Elab.async false
set_option linter.all false
set_option maxRecDepth 100000
set_option maxHeartbeats 4000000
namespace KX
open PySem PySem.Spec PyProof.Rows L2 Evl RZ Sg
section
variable {P : Program} {w : World} {K : PySem.W.Frag} {mg : Str → Option Value} {base : Heap}

/-! ### a ring is told, or none -/
def spRing : Sp := fun vs H Q _ => ∃ (a : Addr) (ps : List Addr) (w : List (List Nat)), vs = [.ref a] ∧ WebAt H a ps w ∧ GoodWeb w ∧ w.length ≤ 200 ∧ ∀ v H', Ex H H' → ((v = .non ∧ Acyc w) ∨ RL (IsRing w) v H H') → Q v H'
theorem ok_ring (T : Txt K mg) : FnOk P w K mg base CX0 5 T.dRingIn.f T.dRingIn.fd ["web"] spRing := by
  have GCheckWeb : FnOk P w K mg base CX0 _ T.dCheckWeb.f T.dCheckWeb.fd _ spCheck := ok_check T
  have GEndedSpots : FnOk P w K mg base CX0 _ T.dEndedSpots.f T.dEndedSpots.fd _ spEnded := ok_ended T
  refine T.dRingIn.F.ok scRingIn (fun vs H Q E h => ?_) (fun cdv A outer s H vs Q E hr h => ?_)
  · obtain ⟨a, ps, w, rfl, _⟩ := h; rfl
  · obtain ⟨a, ps, w, rfl, hw, g, hl, q⟩ := h
    refine ⟨_, (pss_cons (ps_expr (pe_call GCheckWeb (hr.mono (by decide)) (by rfl) T.dCheckWeb.g T.dCheckWeb.F.kp T.dCheckWeb.b .nil pass0 (pa_cons (pv 0) pa_nil))) (pss_cons (ps_set (i := 1) scRingIn.nd rfl (.inr rfl) (pe_op op_rep (pe_lst (pa_cons pe_bl pa_nil)) (pe_callB (id := "len") (lenK K) (by rfl) T.z_len (by decide +kernel) (pa_cons (pv 0) pa_nil)))) (pss_cons (ps_for PassesOwn.never rfl (piK K (pe_call GEndedSpots (hr.mono (by decide)) (by rfl) T.dEndedSpots.g T.dEndedSpots.F.kp T.dEndedSpots.b .nil pass0 (pa_cons (pv 0) pa_nil))) (pg_name (i := 2) scRingIn.nd rfl (.inl rfl)) (pss_one (ps_asg pe_bl (pg_sub (pv 1) (pv 2) set_list)))) (pss_cons (ps_if (pt_cmpR (niK K) pe_bl (pv 1) (by rfl)) (pss_one (ps_ret pe_non)) pss_nil) (pss_cons (ps_set (i := 3) scRingIn.nd rfl (.inl rfl) (pe_lst pa_nil)) (pss_cons (ps_set (i := 2) scRingIn.nd rfl (.inl rfl) (pe_bm PySem.F.plainAttrs_list PySem.F.slot_list_index PySem.F.type_list_index (idxK K) (pv 1) (pa_cons pe_bl pa_nil))) (pss_cons (ps_while PassesOwn.never (pt_cmpR (niK K) (pv 2) (pv 3) (by rfl)) (pss_cons (ps_expr (pe_bm PySem.F.plainAttrs_list PySem.F.slot_list_append PySem.F.type_list_append mt_append (pv 3) (pa_cons (pv 2) pa_nil))) (pss_cons (ps_setLc (i := 4) (own := [("move", 5)]) (g := gName 5) (by rfl) scRingIn.nd rfl rfl (sw_true rfl rfl rfl (by decide +kernel)) (piK K (pe_ix (ixK K) (pv 0) (pv 2) (fun _ _ => rfl))) (blkOk_by (own := [("move", 5)]) (N := nRingIn) (sc := defScope sRingIn) (by decide +kernel)) (fun _ _ _ _ _ => pg_name (i := 5) scRingIn.nd rfl (Or.inl rfl)) (fun _ _ _ _ _ => (pts_one (pt_not (pt_val (pe_ix (ixK K) (pv 1) (pv 5) (fun _ _ => rfl)))))) (fun _ _ _ _ _ => (pv 5))) (pss_one (ps_set (i := 2) scRingIn.nd rfl (.inl rfl) (pe_ix (ixK K) (pv 4) pe_int (fun _ _ => rfl))))))) (pss_one (ps_ret (pe_slice (slK K) (pv 3) (po_some (pe_bm PySem.F.plainAttrs_list PySem.F.slot_list_index PySem.F.type_list_index (idxK K) (pv 3) (pa_cons (pv 2) pa_nil))) po_none)))))))))), ?_⟩
    refine q_drop (ev_check (ev_var rfl) hw g hl) (fun H1 e1 => ?_)
    refine q_asgL (el_rep (el_lst (ea_cons ev_c ea_nil) (by decide)) (ev_wlen (ev_var rfl) (hw.mono e1)) ⟨by omega, by omega⟩ (by decide)) (fun ea H2 n2 e2 h2 => ?_)
    rw [Int.toNat_natCast, mask_start] at h2
    have e12 := e1.trans e2
    have fe : H ea = none := fresh_back e1 n2
    refine q_forE (er_ended (ev_var rfl) (hw.mono e12) g hl) (fun v H3 e3 r3 => ?_)
    obtain ⟨la, e, rfl, n3, h3, en⟩ := r3
    have hne : la ≠ ea := fun z => (ne_of_none h2 n3) z.symm
    have fl : H la = none := fresh_back e12 n3
    refine ⟨la, nl e, fun i σ H' => ∃ y2, σ = [some (.ref a), some (.ref ea), y2, none, none, none] ∧ Ex H H' ∧ H' la = some (.lst (nl e)) ∧ H' ea = some (.lst (bll (mask w.length (e.take i)))), rfl, sq_of h3, ⟨none, rfl, e12.trans e3, h3, e3 _ _ h2⟩, fun i σ' H' _ hI => ?_, fun i x σ' H' hx hI => ?_, fun σ' H' hI => ?_⟩
    · obtain ⟨y2, _, _, h, _⟩ := hI
      exact sq_of h
    · obtain ⟨y2, rfl, ex, hla, hea⟩ := hI
      obtain ⟨t, ht, rfl⟩ := nl_of_get hx
      have tl := en.lt t (List.mem_of_getElem? ht)
      refine s_setL (j := t) hea ev_c (ev_var rfl) (ev_var rfl) (by rw [List.length_map, mask_len]; exact tl) (fun H4 e4 => ?_)
      refine ⟨_, rfl, (ex.trans e4).mut fe, ?_, ?_⟩
      · rw [upd_ne hne]; exact e4 _ _ hla
      · rw [upd_same, mask_set _ tl, List.take_add_one, ht]; rfl
    · obtain ⟨y2, rfl, ex, hla, hea⟩ := hI
      rw [nl_len, List.take_length] at hea
      refine q_when (b := !decide (false ∈ mask w.length e)) (et_test (ev_op ev_c (ev_var rfl) (rv_niB (sq_of hea)))) (fun hb H4 e4 => ?_) (fun hb H4 e4 => ?_)
      · have hno : ¬ false ∈ mask w.length e := by simpa using hb
        refine s_ret ev_c (fun H5 e5 => q _ _ (ex.trans (e4.trans e5)) (.inl ⟨rfl, en.acyc fun x hx => ?_⟩))
        exact Classical.byContradiction fun z => hno (mask_false.mpr ⟨x, hx, z⟩)
      · have hyes : false ∈ mask w.length e := by simpa using hb
        refine q_asgL (el_lst ea_nil (Nat.zero_le _)) (fun pa H5 n5 e5 h5 => ?_)
        have e45 := e4.trans e5
        obtain ⟨j, hj, hjn⟩ := first_at hyes
        have jl : j < w.length := by have := (List.getElem?_eq_some_iff.mp hj).1; rw [mask_len] at this; exact this
        have je : j ∉ e := by
          rw [mask_at _ jl] at hj
          exact of_decide_eq_false (Option.some.inj hj)
        refine q_asg (v := ni j) (ev_indexB (ev_var rfl) ev_c (sq_of (e45 _ _ hea)) hj hjn) (fun H6 e6 => ?_)
        have e46 := e45.trans e6
        have fp : H pa = none := fresh_back (ex.trans e4) n5
        have hpe : pa ≠ ea := fun z => (ne_of_none (e4 _ _ hea) n5) z.symm
        refine q_while (fun m σ H' => ∃ (wk : List Nat) (t : Nat) (y4 y5 : Option V), m = w.length - wk.length ∧ Walk w e wk t ∧ σ = [some (.ref a), some (.ref ea), some (ni t), some (.ref pa), y4, y5] ∧ Ex H H' ∧ H' ea = some (.lst (bll (mask w.length e))) ∧ H' pa = some (.lst (nl wk))) w.length
          ⟨[], j, none, none, rfl, ⟨List.nodup_nil, fun x hx => by rw [List.nil_append] at hx; rw [List.mem_singleton.mp hx]; exact ⟨jl, je⟩, fun i x hx => by simp at hx⟩, rfl, ex.trans e46, e46 _ _ hea, e6 _ _ h5⟩ (fun m σ' H' hW => ?_)
        obtain ⟨wk, t, y4, y5, rfl, wa, rfl, ex2, hea2, hpa⟩ := hW
        have tw := wa.lt t (List.mem_append_right _ List.mem_cons_self)
        refine ⟨!decide (t ∈ wk), et_test (ev_op (ev_var rfl) (ev_var rfl) (rv_niN (sq_of hpa))), fun hb H7 e7 => ?_, fun hb H7 e7 => ?_⟩
        · have tn : t ∉ wk := by simpa using hb
          have wl := wa.len_lt' tn
          refine ⟨fun σ2 H2 => ∃ (t' : Nat) (y4 y5 : Option V), Walk w e (wk ++ [t]) t' ∧ σ2 = [some (.ref a), some (.ref ea), some (ni t'), some (.ref pa), y4, y5] ∧ Ex H H2 ∧ H2 ea = some (.lst (bll (mask w.length e))) ∧ H2 pa = some (.lst (nl (wk ++ [t]))), fun σ2 H2 hN => ?_, ?_⟩
          · obtain ⟨t', y4, y5, wa', rfl, ex3, h1, h2⟩ := hN
            exact ⟨w.length - (wk ++ [t]).length, by rw [List.length_append]; simp; omega, wk ++ [t], t', y4, y5, rfl, wa', rfl, ex3, h1, h2⟩
          · refine q_app (e7 _ _ hpa) (ev_var rfl) (ev_var rfl) (by rw [nl_len]; omega) (fun H8 e8 => ?_)
            have hea8 : (upd H8 pa (.lst (nl wk ++ [ni t]))) ea = some (.lst (bll (mask w.length e))) := by rw [upd_ne hpe.symm]; exact e8 _ _ (e7 _ _ hea2)
            have hpa8 : (upd H8 pa (.lst (nl wk ++ [ni t]))) pa = some (.lst (nl (wk ++ [t]))) := by rw [upd_same, nl_app]; rfl
            have ex8 : Ex H (upd H8 pa (.lst (nl wk ++ [ni t]))) := (ex2.trans (e7.trans e8)).mut fp
            generalize upd H8 pa (.lst (nl wk ++ [ni t])) = H9 at hea8 hpa8 ex8
            obtain ⟨p, hp, hpr, hrow⟩ := web_row (K := K) (hw.mono ex8) tw.1
            refine q_asgL (el_lcL (xs := nl (row w t)) (fun i => !decide ((row w t).getD i 0 ∈ e)) (fun i => ni ((row w t).getD i 0)) (ev_op (ev_var rfl) (ev_var rfl) (rv_ixL (hw.mono ex8).seq (atI_nat hpr))) (sq_of hrow) (by rw [nl_len]; have := good_len g (row_at tw.1); omega) (fun x => rfl) (fun i x H1 e1 hx => ?_) (fun i x H1 e1 hx _ => ?_)) (fun oa Ha na ea' ha => ?_)
            · obtain ⟨y, hy, rfl⟩ := nl_of_get hx
              have yl := g.rlt (List.mem_of_getElem? hy)
              rw [getD_of hy]
              exact et_not (et_B (ev_op (ev_var rfl) (ev_var rfl) (rv_ixL (sq_of (e1 _ _ hea8)) (atI_nat (bll_get (mask_at e yl))))))
            · obtain ⟨y, hy, rfl⟩ := nl_of_get hx
              rw [getD_of hy]
              exact ev_var rfl
            · rw [nl_len, given_filter (row w t) (fun m => !decide (m ∈ e))] at ha
              obtain ⟨m, hm1, hm2⟩ := en.out t tw.1 tw.2
              have hmem : m ∈ (row w t).filter (fun m => !decide (m ∈ e)) := List.mem_filter.mpr ⟨hm1, by simp [hm2]⟩
              obtain ⟨f, fs, hf⟩ : ∃ f fs, (row w t).filter (fun m => !decide (m ∈ e)) = f :: fs := by
                cases hq : (row w t).filter (fun m => !decide (m ∈ e)) with
                | nil => rw [hq] at hmem; exact absurd hmem (by simp)
                | cons f fs => exact ⟨f, fs, rfl⟩
              have hfm : f ∈ (row w t).filter (fun m => !decide (m ∈ e)) := by rw [hf]; exact List.mem_cons_self
              have hf1 := (List.mem_filter.mp hfm).1
              have hf2 : f ∉ e := by simpa using (List.mem_filter.mp hfm).2
              rw [hf] at ha
              refine s_asg (v := ni f) (ev_op (ev_var rfl) ev_c (rv_ixL (sq_of ha) (atI_nat (j := 0) rfl))) (fun Hb eb => ?_)
              exact ⟨f, _, _, wa.step tn hf1 (g.rlt hf1) hf2, rfl, ex8.trans (ea'.trans eb), eb _ _ (ea' _ _ hea8), eb _ _ (ea' _ _ hpa8)⟩
        · have tn : t ∈ wk := by simpa using hb
          obtain ⟨jj, hjj, hjn⟩ := first_at tn
          refine s_retL (el_sl (ev_var rfl) (eo_some (ev_indexN (ev_var rfl) (ev_var rfl) (sq_of (e7 _ _ hpa)) hjj hjn)) eo_none (sq_of (e7 _ _ hpa))) (fun ra Ha na ea' ha => ?_)
          rw [cut_from] at ha
          exact q _ _ (ex2.trans (e7.trans ea')) (.inr ⟨ra, _, rfl, fresh_back (ex2.trans e7) na, ha, wa.ring hjj⟩)
theorem er_ring {σ : L2.St} {H : Hp} {ta : TE} {a : Addr} {ps : List Addr} {w : List (List Nat)} {E : XK} (ha : Ev ta σ H (.ref a)) (hw : WebAt H a ps w) (g : GoodWeb w) (hl : w.length ≤ 200) : EvR (tCall spRing [] E (tCons ta tNil)) σ H (fun v H0 H1 => (v = .non ∧ Acyc w) ∨ RL (IsRing w) v H0 H1) :=
  er_call (ea_cons ha ea_nil) (fun H1 e Q q => ⟨a, ps, w, rfl, hw.mono e, g, hl, q⟩) fun v H0 H1 H2 e h => h.imp id fun z => z.back e
end
end KX
set_option Elab.async false
set_option linter.all false
set_option maxRecDepth 100000
set_option maxHeartbeats 4000000
namespace KX
open PySem PySem.Spec PyProof.Rows L2 Evl RZ Sg
section
variable {P : Program} {w : World} {K : PySem.W.Frag} {mg : Str → Option Value} {base : Heap}

/-! ### a game is asked for -/
def spGame : Sp := fun vs H Q _ => ∃ (a : Addr) (ps : List Addr) (w : List (List Nat)), vs = [.ref a] ∧ WebAt H a ps w ∧ GoodWeb w ∧ w.length ≤ 200 ∧ Acyc w ∧ ∀ H', Ex H H' → Q .non H'
theorem ev_ringNo {σ : L2.St} {H : Hp} {ta : TE} {a : Addr} {ps : List Addr} {w : List (List Nat)} {E : XK} (ha : Ev ta σ H (.ref a)) (hw : WebAt H a ps w) (g : GoodWeb w) (hl : w.length ≤ 200) (ac : Acyc w) : Ev (tCall spRing [] E (tCons ta tNil)) σ H .non :=
  ev_ofR (er_ring ha hw g hl) fun v H0 H1 e r => by
    rcases r with r | ⟨_, _, _, _, _, h⟩
    · exact r.1
    · exact absurd ac h.no
theorem ok_game (T : Txt K mg) : FnOk P w K mg base CX0 6 T.dCheckGame.f T.dCheckGame.fd ["thing"] spGame := by
  have GRingIn : FnOk P w K mg base CX0 _ T.dRingIn.f T.dRingIn.fd _ spRing := ok_ring T
  refine T.dCheckGame.F.ok scCheckGame (fun vs H Q E h => ?_) (fun cdv A outer s H vs Q E hr h => ?_)
  · obtain ⟨a, ps, w, rfl, _⟩ := h; rfl
  · obtain ⟨a, ps, w, rfl, hw, g, hl, ac, q⟩ := h
    refine ⟨_, (pss_one (ps_if (pt_cmpR op_notN (pe_call GRingIn (hr.mono (by decide)) (by rfl) T.dRingIn.g T.dRingIn.F.kp T.dRingIn.b .nil pass0 (pa_cons (pv 0) pa_nil)) pe_non (nomark _)) (pss_one ps_never) pss_nil)), ?_⟩
    exact s_when (b := false) (et_test (ev_is (ev_op (ev_ringNo (ev_var rfl) hw g hl ac) ev_c rv_notN) (by simp))) (fun hb => nomatch hb) (fun _ H1 e1 => q H1 e1)
theorem ev_game {σ : L2.St} {H : Hp} {ta : TE} {a : Addr} {ps : List Addr} {w : List (List Nat)} {E : XK} (ha : Ev ta σ H (.ref a)) (hw : WebAt H a ps w) (g : GoodWeb w) (hl : w.length ≤ 200) (ac : Acyc w) : Ev (tCall spGame [] E (tCons ta tNil)) σ H .non :=
  ev_call (ea_cons ha ea_nil) fun H1 e Q q E => ⟨a, ps, w, rfl, hw.mono e, g, hl, ac, q⟩
theorem rep_flat {α : Type} (n : Nat) (x : α) : (List.replicate n [x]).flatten = List.replicate n x := by
  induction n with
  | zero => rfl
  | succ n ih => rw [List.replicate_succ, List.replicate_succ, List.flatten_cons, ih]; rfl
theorem rep_zero (n : Nat) : (List.replicate n [V.int 0]).flatten = nl (List.replicate n 0) := by
  rw [rep_flat]
  show _ = List.map _ _
  rw [List.map_replicate]
  rfl
end
end KX
set_option Elab.async false
set_option linter.all false
set_option maxRecDepth 100000
set_option maxHeartbeats 4000000
namespace KX
open PySem PySem.Spec PyProof.Rows L2 Evl RZ Sg
section
variable {P : Program} {w : World} {K : PySem.W.Frag} {mg : Str → Option Value} {base : Heap}

theorem mex_ex (l : List Nat) : ∃ n, IsMex l n := by
  have key : ∀ f k, (∀ j, j < k → j ∈ l) → l.length ≤ k + f → ∃ n, IsMex l n := by
    intro f
    induction f with
    | zero =>
      intro k h hl
      by_cases hk : k ∈ l
      · have := nd_len (l := List.range (k + 1)) (l' := l) List.nodup_range fun x hx => by
          have hx' := List.mem_range.mp hx
          by_cases e : x = k
          · rw [e]; exact hk
          · exact h x (by omega)
        rw [List.length_range] at this
        omega
      · exact ⟨k, hk, h⟩
    | succ f ih =>
      intro k h hl
      by_cases hk : k ∈ l
      · exact ih (k + 1) (fun j hj => by
          by_cases e : j = k
          · rw [e]; exact hk
          · exact h j (by omega)) (by omega)
      · exact ⟨k, hk, h⟩
  exact key l.length 0 (fun j hj => absurd hj (by omega)) (by omega)
/-! ### the least number that is missing -/
def spLeast (K : PySem.W.Frag) : Sp := fun vs H Q _ => ∃ (a : Addr) (l : List Nat) (n : Nat), vs = [.ref a] ∧ SqL K H a (nl l) ∧ l.length ≤ 4000 ∧ IsMex l n ∧ ∀ H', Ex H H' → Q (ni n) H'
theorem ok_least (T : Txt K mg) : FnOk P w K mg base CX0 1 T.dLeastMissing.f T.dLeastMissing.fd ["numbers"] (spLeast K) := by
  refine T.dLeastMissing.F.ok scLeastMissing (fun vs H Q E h => ?_) (fun cdv A outer s H vs Q E hr h => ?_)
  · obtain ⟨a, l, n, rfl, _⟩ := h; rfl
  · obtain ⟨a, l, n, rfl, hS, hl, hm, q⟩ := h
    refine ⟨_, (pss_cons (ps_set (i := 1) scLeastMissing.nd rfl (.inl rfl) (pe_callTy (T := "set") (setNK K P w (by rfl)) (by rfl) T.z_set (by decide +kernel) (pa_cons (pv 0) pa_nil))) (pss_cons (ps_set (i := 2) scLeastMissing.nd rfl (.inl rfl) pe_int) (pss_cons (ps_while PassesOwn.never (pt_cmpR (inNK P w) (pv 2) (pv 1) (by rfl)) (pss_one (ps_aug (i := 2) scLeastMissing.nd rfl (.inl rfl) pe_int ip_add))) (pss_one (ps_ret (pv 2)))))), ?_⟩
    refine q_asgSet (ev_var rfl) hS hl (fun p H1 n1 e1 h1 => ?_)
    refine q_asg (v := ni 0) ev_c (fun H2 e2 => ?_)
    have hn := hm.len
    refine q_while (fun m σ H' => ∃ k, m = n - k ∧ k ≤ n ∧ σ = [some (.ref a), some (.ref p), some (ni k)] ∧ Ex H2 H') n ⟨0, rfl, Nat.zero_le _, rfl, Ex.refl _⟩ (fun m σ' H' hW => ?_)
    obtain ⟨k, rfl, hk, rfl, ex⟩ := hW
    refine ⟨decide (k ∈ l), et_test (ev_op (ev_var rfl) (ev_var rfl) (rv_inS (ex _ _ (e2 _ _ h1)))), fun hb H3 e3 => ?_, fun hb H3 e3 => ?_⟩
    · have kin : k ∈ l := of_decide_eq_true hb
      have kn : k < n := Nat.lt_of_le_of_ne hk fun e => hm.out (by rw [← e]; exact kin)
      refine ⟨fun σ2 H4 => σ2 = [some (.ref a), some (.ref p), some (ni (k + 1))] ∧ Ex H2 H4, fun σ2 H4 hN => ⟨n - (k + 1), by omega, k + 1, rfl, by omega, hN.1, hN.2⟩, ?_⟩
      exact s_aug (a := (k : Int)) rfl ev_c (fun H4 e4 => ⟨rfl, (ex.trans e3).trans e4⟩)
    · have kout : k ∉ l := of_decide_eq_false hb
      have kn : k = n := Nat.le_antisymm hk (Nat.le_of_not_lt fun z => kout (hm.low k z))
      subst kn
      exact s_ret (ev_var rfl) (fun H4 e4 => q H4 (((e1.trans e2).trans ex).trans (e3.trans e4)))
theorem ev_leastL {σ : L2.St} {H : Hp} {ta : TE} {l : List Nat} {n : Nat} {E : XK} (ha : EvL ta σ H (nl l)) (hl : l.length ≤ 4000) (hm : IsMex l n) : Ev (tCall (spLeast K) [] E (tCons ta tNil)) σ H (ni n) :=
  ev_callL ha fun p H1 e hp h1 H2 e2 Q q E => ⟨p, l, n, rfl, sq_of (e2 _ _ h1), hl, hm, q⟩
/-! ### the numbers of the spots -/
def spNums : Sp := fun vs H Q _ => ∃ (a : Addr) (ps : List Addr) (w : List (List Nat)), vs = [.ref a] ∧ WebAt H a ps w ∧ GoodWeb w ∧ w.length ≤ 200 ∧ Acyc w ∧ ∀ v H', Ex H H' → RL (Nums w) v H H' → Q v H'
theorem ok_nums (T : Txt K mg) : FnOk P w K mg base CX0 7 T.dNumbersOf.f T.dNumbersOf.fd ["web"] spNums := by
  have GCheckGame : FnOk P w K mg base CX0 _ T.dCheckGame.f T.dCheckGame.fd _ spGame := ok_game T
  have GEndedSpots : FnOk P w K mg base CX0 _ T.dEndedSpots.f T.dEndedSpots.fd _ spEnded := ok_ended T
  have GLeastMissing : FnOk P w K mg base CX0 _ T.dLeastMissing.f T.dLeastMissing.fd _ (spLeast K) := ok_least T
  refine T.dNumbersOf.F.ok scNumbersOf (fun vs H Q E h => ?_) (fun cdv A outer s H vs Q E hr h => ?_)
  · obtain ⟨a, ps, w, rfl, _⟩ := h; rfl
  · obtain ⟨a, ps, w, rfl, hw, g, hl, ac, q⟩ := h
    refine ⟨_, (pss_cons (ps_expr (pe_call GCheckGame (hr.mono (by decide)) (by rfl) T.dCheckGame.g T.dCheckGame.F.kp T.dCheckGame.b .nil pass0 (pa_cons (pv 0) pa_nil))) (pss_cons (ps_set (i := 1) scNumbersOf.nd rfl (.inr rfl) (pe_op op_rep (pe_lst (pa_cons pe_int pa_nil)) (pe_callB (id := "len") (lenK K) (by rfl) T.z_len (by decide +kernel) (pa_cons (pv 0) pa_nil)))) (pss_cons (ps_for PassesOwn.never rfl (piK K (pe_call GEndedSpots (hr.mono (by decide)) (by rfl) T.dEndedSpots.g T.dEndedSpots.F.kp T.dEndedSpots.b .nil pass0 (pa_cons (pv 0) pa_nil))) (pg_name (i := 2) scNumbersOf.nd rfl (.inl rfl)) (pss_one (ps_asg (pe_call GLeastMissing (hr.mono (by decide)) (by rfl) T.dLeastMissing.g T.dLeastMissing.F.kp T.dLeastMissing.b .nil pass0 (pa_cons (pe_lc (own := [("move", 3)]) (g := gName 3) (by rfl) scNumbersOf.nd (piK K (pe_ix (ixK K) (pv 0) (pv 2) (fun _ _ => rfl))) (blkOk_by (own := [("move", 3)]) (N := nNumbersOf) (sc := defScope sNumbersOf) (by decide +kernel)) (fun _ _ _ _ _ => pg_name (i := 3) scNumbersOf.nd rfl (Or.inl rfl)) (fun _ _ _ _ _ => pts_nil) (fun _ _ _ _ _ => (pe_ix (ixK K) (pv 1) (pv 3) (fun _ _ => rfl)))) pa_nil)) (pg_sub (pv 1) (pv 2) set_list)))) (pss_one (ps_ret (pv 1)))))), ?_⟩
    refine q_drop (ev_game (ev_var rfl) hw g hl ac) (fun H1 e1 => ?_)
    refine q_asgL (el_rep (el_lst (ea_cons ev_c ea_nil) (by decide)) (ev_wlen (ev_var rfl) (hw.mono e1)) ⟨by omega, by omega⟩ (by decide)) (fun na H2 n2 e2 h2 => ?_)
    rw [Int.toNat_natCast, rep_zero] at h2
    have e12 := e1.trans e2
    have fn : H na = none := fresh_back e1 n2
    refine q_forE (er_ended (ev_var rfl) (hw.mono e12) g hl) (fun v H3 e3 r3 => ?_)
    obtain ⟨la, e, rfl, n3, h3, en⟩ := r3
    have hne : la ≠ na := fun z => (ne_of_none h2 n3) z.symm
    refine ⟨la, nl e, fun i σ H' => ∃ y2 gs, σ = [some (.ref a), some (.ref na), y2, none] ∧ Ex H H' ∧ H' la = some (.lst (nl e)) ∧ H' na = some (.lst (nl gs)) ∧ Part IsMex w e i gs, rfl, sq_of h3, ⟨none, _, rfl, e12.trans e3, h3, e3 _ _ h2, Part.start _ w e⟩, fun i σ' H' _ hI => ?_, fun i x σ' H' hx hI => ?_, fun σ' H' hI => ?_⟩
    · obtain ⟨y2, gs, _, _, h, _⟩ := hI
      exact sq_of h
    · obtain ⟨y2, gs, rfl, ex, hla, hna, part⟩ := hI
      obtain ⟨t, ht, rfl⟩ := nl_of_get hx
      have tl := en.lt t (List.mem_of_getElem? ht)
      obtain ⟨n, hn⟩ := mex_ex (ahead w gs t)
      obtain ⟨p, hp, hpr, hrow⟩ := web_row (K := K) (hw.mono ex) tl
      have rlen := good_len g (row_at tl)
      refine s_setL (j := t) (v := ni n) hna (ev_leastL (l := ahead w gs t) (el_is (el_lcL (xs := nl (row w t)) (fun _ => true) (fun i => ni (gx gs ((row w t).getD i 0))) (ev_op (ev_var rfl) (ev_var rfl) (rv_ixL (hw.mono ex).seq (atI_nat hpr))) (sq_of hrow) (by rw [nl_len]; omega) (fun x => rfl) (fun i x H1 e1 hx => et_yes) (fun i x H4 e4 hx _ => ?_)) (by rw [nl_len, given_nl]; rfl)) (by rw [ahead_len]; omega) hn) (ev_var rfl) (ev_var rfl) (by rw [nl_len, part.len]; exact tl) (fun H4 e4 => ?_)
      · obtain ⟨m, hm, rfl⟩ := nl_of_get hx
        rw [getD_of hm]
        have ml := g.rlt (List.mem_of_getElem? hm)
        exact ev_op (ev_var rfl) (ev_var rfl) (rv_ixL (sq_of (e4 _ _ hna)) (nl_at (gx_get (by rw [part.len]; exact ml))))
      · refine ⟨_, gs.set t n, rfl, (ex.trans e4).mut fn, ?_, ?_, part.step en ht hn⟩
        · rw [upd_ne hne]; exact e4 _ _ hla
        · rw [upd_same]
          show some (HO.lst ((List.map ni gs).set t (ni n))) = some (HO.lst (List.map ni (gs.set t n)))
          rw [List.map_set]
    · obtain ⟨y2, gs, rfl, ex, hla, hna, part⟩ := hI
      rw [nl_len] at part
      exact s_ret (ev_var rfl) (fun H5 e5 => q _ _ (ex.trans e5) ⟨na, gs, rfl, fn, e5 _ _ hna, part.done en g ac⟩)
theorem er_nums {σ : L2.St} {H : Hp} {ta : TE} {a : Addr} {ps : List Addr} {w : List (List Nat)} {E : XK} (ha : Ev ta σ H (.ref a)) (hw : WebAt H a ps w) (g : GoodWeb w) (hl : w.length ≤ 200) (ac : Acyc w) : EvR (tCall spNums [] E (tCons ta tNil)) σ H (RL (Nums w)) :=
  er_call (ea_cons ha ea_nil) (fun H1 e Q q => ⟨a, ps, w, rfl, hw.mono e, g, hl, ac, q⟩) fun v H0 H1 H2 e h => h.back e
end
end KX
set_option Elab.async false
set_option linter.all false
set_option maxRecDepth 100000
set_option maxHeartbeats 4000000
namespace KX
open PySem PySem.Spec PyProof.Rows L2 Evl RZ Sg
section
variable {P : Program} {w : World} {K : PySem.W.Frag} {mg : Str → Option Value} {base : Heap}

/-! ### the lengths of the spots -/
def spLens : Sp := fun vs H Q _ => ∃ (a : Addr) (ps : List Addr) (w : List (List Nat)), vs = [.ref a] ∧ WebAt H a ps w ∧ GoodWeb w ∧ w.length ≤ 200 ∧ Acyc w ∧ ∀ v H', Ex H H' → RL (Lens w) v H H' → Q v H'
theorem ok_lens (T : Txt K mg) : FnOk P w K mg base CX0 7 T.dLengthsOf.f T.dLengthsOf.fd ["web"] spLens := by
  have GCheckGame : FnOk P w K mg base CX0 _ T.dCheckGame.f T.dCheckGame.fd _ spGame := ok_game T
  have GEndedSpots : FnOk P w K mg base CX0 _ T.dEndedSpots.f T.dEndedSpots.fd _ spEnded := ok_ended T
  refine T.dLengthsOf.F.ok scLengthsOf (fun vs H Q E h => ?_) (fun cdv A outer s H vs Q E hr h => ?_)
  · obtain ⟨a, ps, w, rfl, _⟩ := h; rfl
  · obtain ⟨a, ps, w, rfl, hw, g, hl, ac, q⟩ := h
    refine ⟨_, (pss_cons (ps_expr (pe_call GCheckGame (hr.mono (by decide)) (by rfl) T.dCheckGame.g T.dCheckGame.F.kp T.dCheckGame.b .nil pass0 (pa_cons (pv 0) pa_nil))) (pss_cons (ps_set (i := 1) scLengthsOf.nd rfl (.inr rfl) (pe_op op_rep (pe_lst (pa_cons pe_int pa_nil)) (pe_callB (id := "len") (lenK K) (by rfl) T.z_len (by decide +kernel) (pa_cons (pv 0) pa_nil)))) (pss_cons (ps_for PassesOwn.never rfl (piK K (pe_call GEndedSpots (hr.mono (by decide)) (by rfl) T.dEndedSpots.g T.dEndedSpots.F.kp T.dEndedSpots.b .nil pass0 (pa_cons (pv 0) pa_nil))) (pg_name (i := 2) scLengthsOf.nd rfl (.inl rfl)) (pss_one (ps_asg (pe_callBK (maxdK K (by rfl)) (by rfl) T.z_max (by decide +kernel) (pa_cons (pe_lc (own := [("move", 3)]) (g := gName 3) (by rfl) scLengthsOf.nd (piK K (pe_ix (ixK K) (pv 0) (pv 2) (fun _ _ => rfl))) (blkOk_by (own := [("move", 3)]) (N := nLengthsOf) (sc := defScope sLengthsOf) (by decide +kernel)) (fun _ _ _ _ _ => pg_name (i := 3) scLengthsOf.nd rfl (Or.inl rfl)) (fun _ _ _ _ _ => pts_nil) (fun _ _ _ _ _ => (pe_op op_add (pe_ix (ixK K) (pv 1) (pv 3) (fun _ _ => rfl)) pe_int))) pa_nil) (pk_cons pe_int pk_nil)) (pg_sub (pv 1) (pv 2) set_list)))) (pss_one (ps_ret (pv 1)))))), ?_⟩
    refine q_drop (ev_game (ev_var rfl) hw g hl ac) (fun H1 e1 => ?_)
    refine q_asgL (el_rep (el_lst (ea_cons ev_c ea_nil) (by decide)) (ev_wlen (ev_var rfl) (hw.mono e1)) ⟨by omega, by omega⟩ (by decide)) (fun na H2 n2 e2 h2 => ?_)
    rw [Int.toNat_natCast, rep_zero] at h2
    have e12 := e1.trans e2
    have fn : H na = none := fresh_back e1 n2
    refine q_forE (er_ended (ev_var rfl) (hw.mono e12) g hl) (fun v H3 e3 r3 => ?_)
    obtain ⟨la, e, rfl, n3, h3, en⟩ := r3
    have hne : la ≠ na := fun z => (ne_of_none h2 n3) z.symm
    refine ⟨la, nl e, fun i σ H' => ∃ y2 gs, σ = [some (.ref a), some (.ref na), y2, none] ∧ Ex H H' ∧ H' la = some (.lst (nl e)) ∧ H' na = some (.lst (nl gs)) ∧ Part IsLen w e i gs, rfl, sq_of h3, ⟨none, _, rfl, e12.trans e3, h3, e3 _ _ h2, Part.start _ w e⟩, fun i σ' H' _ hI => ?_, fun i x σ' H' hx hI => ?_, fun σ' H' hI => ?_⟩
    · obtain ⟨y2, gs, _, _, h, _⟩ := hI
      exact sq_of h
    · obtain ⟨y2, gs, rfl, ex, hla, hna, part⟩ := hI
      obtain ⟨t, ht, rfl⟩ := nl_of_get hx
      have tl := en.lt t (List.mem_of_getElem? ht)
      obtain ⟨p, hp, hpr, hrow⟩ := web_row (K := K) (hw.mono ex) tl
      have rlen := good_len g (row_at tl)
      refine s_setL (j := t) (v := ni (mx ((ahead w gs t).map (· + 1)))) hna (ev_maxd (el_is (el_lcL (xs := nl (row w t)) (fun _ => true) (fun i => ni (gx gs ((row w t).getD i 0) + 1)) (ev_op (ev_var rfl) (ev_var rfl) (rv_ixL (hw.mono ex).seq (atI_nat hpr))) (sq_of hrow) (by rw [nl_len]; omega) (fun x => rfl) (fun i x H1 e1 hx => et_yes) (fun i x H4 e4 hx _ => ?_)) (by rw [nl_len, given_nl (row w t) (fun m => gx gs m + 1)]; unfold ahead; rw [List.map_map]; rfl)) (fun H1 e1 => ev_c)) (ev_var rfl) (ev_var rfl) (by rw [nl_len, part.len]; exact tl) (fun H4 e4 => ?_)
      · obtain ⟨m, hm, rfl⟩ := nl_of_get hx
        rw [getD_of hm]
        have ml := g.rlt (List.mem_of_getElem? hm)
        exact ev_op (ev_op (ev_var rfl) (ev_var rfl) (rv_ixL (sq_of (e4 _ _ hna)) (nl_at (gx_get (by rw [part.len]; exact ml))))) ev_c rv_I0
      · refine ⟨_, gs.set t (mx ((ahead w gs t).map (· + 1))), rfl, (ex.trans e4).mut fn, ?_, ?_, part.step en ht rfl⟩
        · rw [upd_ne hne]; exact e4 _ _ hla
        · rw [upd_same]
          show some (HO.lst ((List.map ni gs).set t (ni _))) = some (HO.lst (List.map ni (gs.set t _)))
          rw [List.map_set]
    · obtain ⟨y2, gs, rfl, ex, hla, hna, part⟩ := hI
      rw [nl_len] at part
      exact s_ret (ev_var rfl) (fun H5 e5 => q _ _ (ex.trans e5) ⟨na, gs, rfl, fn, e5 _ _ hna, part.done en g ac⟩)
theorem er_lens {σ : L2.St} {H : Hp} {ta : TE} {a : Addr} {ps : List Addr} {w : List (List Nat)} {E : XK} (ha : Ev ta σ H (.ref a)) (hw : WebAt H a ps w) (g : GoodWeb w) (hl : w.length ≤ 200) (ac : Acyc w) : EvR (tCall spLens [] E (tCons ta tNil)) σ H (RL (Lens w)) :=
  er_call (ea_cons ha ea_nil) (fun H1 e Q q => ⟨a, ps, w, rfl, hw.mono e, g, hl, ac, q⟩) fun v H0 H1 H2 e h => h.back e
end
end KX
set_option Elab.async false
set_option linter.all false
set_option maxRecDepth 100000
set_option maxHeartbeats 4000000
namespace KX
open PySem PySem.Spec PyProof.Rows L2 Evl RZ Sg
section
variable {P : Program} {w : World} {K : PySem.W.Frag} {mg : Str → Option Value} {base : Heap}

/-- moves that show the number of the spot s -/
structure ShowsIt (w : List (List Nat)) (g : List Nat) (s : Nat) (r : List Nat) : Prop where
  len : r.length = gx g s
  at' : ∀ k m, r[k]? = some m → m ∈ row w s ∧ gx g m = k
def spShown : Sp := fun vs H Q _ => ∃ (a : Addr) (ps : List Addr) (w : List (List Nat)) (s : Nat), vs = [.ref a, .int s] ∧ WebAt H a ps w ∧ GoodWeb w ∧ w.length ≤ 200 ∧ Acyc w ∧ s < w.length ∧ ∀ v H', Ex H H' → RL (fun r => ∃ g, Nums w g ∧ ShowsIt w g s r) v H H' → Q v H'
theorem ok_shown (T : Txt K mg) : FnOk P w K mg base CX0 8 T.dShownMoves.f T.dShownMoves.fd ["web", "spot"] spShown := by
  have GNumbersOf : FnOk P w K mg base CX0 _ T.dNumbersOf.f T.dNumbersOf.fd _ spNums := ok_nums T
  refine T.dShownMoves.F.ok scShownMoves (fun vs H Q E h => ?_) (fun cdv A outer s H vs Q E hr h => ?_)
  · obtain ⟨a, ps, w, s, rfl, _⟩ := h; rfl
  · obtain ⟨a, ps, w, t, rfl, hw, g, hl, ac, tl, q⟩ := h
    refine ⟨_, (pss_cons (ps_set (i := 2) scShownMoves.nd rfl (.inr rfl) (pe_call GNumbersOf (hr.mono (by decide)) (by rfl) T.dNumbersOf.g T.dNumbersOf.F.kp T.dNumbersOf.b .nil pass0 (pa_cons (pv 0) pa_nil))) (pss_cons (ps_set (i := 3) scShownMoves.nd rfl (.inr rfl) (pe_dc (own := [("move", 4)]) (g := gName 4) (by rfl) scShownMoves.nd (piK K (pe_ix (ixK K) (pv 0) (pv 1) (fun _ _ => rfl))) (blkOk_by (own := [("move", 4)]) (N := nShownMoves) (sc := defScope sShownMoves) (by decide +kernel)) (fun _ _ _ _ _ => pg_name (i := 4) scShownMoves.nd rfl (Or.inl rfl)) (fun _ _ _ _ _ => pts_nil) (fun _ _ _ _ _ => (pe_ix (ixK K) (pv 2) (pv 4) (fun _ _ => rfl))) (fun _ _ _ _ _ => (pv 4)))) (pss_one (ps_ret (pe_lc (own := [("number", 5)]) (g := gName 5) (by rfl) scShownMoves.nd (pi_range1 (by rfl) T.z_range (pa_cons (pe_ix (ixK K) (pv 2) (pv 1) (fun _ _ => rfl)) pa_nil)) (blkOk_by (own := [("number", 5)]) (N := nShownMoves) (sc := defScope sShownMoves) (by decide +kernel)) (fun _ _ _ _ _ => pg_name (i := 5) scShownMoves.nd rfl (Or.inl rfl)) (fun _ _ _ _ _ => pts_nil) (fun _ _ _ _ _ => (pe_dget (u1 hr.units) (pv 3) (pv 5) (fun _ _ => rfl)))))))), ?_⟩
    refine q_asgR (er_nums (ev_var rfl) hw g hl ac) (fun v H1 e1 r1 => ?_)
    obtain ⟨na, gs, rfl, nn, hn, nu⟩ := r1
    obtain ⟨p, hp, hpr, hrow⟩ := web_row (K := K) (hw.mono e1) tl
    have rlen := good_len g (row_at tl)
    refine q_asgR (er_dcL (K := K) (ys := nl (row w t)) (fun i => (gx gs ((row w t).getD i 0) : Int)) (fun i => ni ((row w t).getD i 0)) (ev_op (ev_var rfl) (ev_var rfl) (rv_ixL (hw.mono e1).seq (atI_nat hpr))) (sq_of hrow) (by rw [nl_len]; omega) (fun x => rfl) (fun i x H4 e4 hx => ?_) (fun i x H4 e4 hx => ?_)) (fun v H2 e2 r2 => ?_)
    · obtain ⟨m, hm, rfl⟩ := nl_of_get hx
      rw [getD_of hm]
      have ml := g.rlt (List.mem_of_getElem? hm)
      exact ev_op (ev_var rfl) (ev_var rfl) (rv_ixL (sq_of (e4 _ _ hn)) (nl_at (gx_get (by rw [nu.len]; exact ml))))
    · obtain ⟨m, hm, rfl⟩ := nl_of_get hx
      rw [getD_of hm]
      exact ev_var rfl
    · obtain ⟨da, kvs, rfl, nd, hd, sh⟩ := r2
      rw [nl_len] at sh
      have gt := gx_get (g := gs) (i := t) (by rw [nu.len]; exact tl)
      have key : ∀ k, k < gx gs t → ∃ m, valV kvs (.inl (k : Int)) = some (ni m) ∧ m ∈ row w t ∧ gx gs m = k := fun k hk => by
        obtain ⟨m, hm, em⟩ := nu.to tl hk
        obtain ⟨i, il, ei⟩ := List.getElem_of_mem hm
        have hi := getD_of (List.getElem?_eq_getElem il)
        rw [ei] at hi
        obtain ⟨v, hv⟩ := sh.has i il
        have hv' := hv
        rw [hi, em] at hv
        obtain ⟨i', il', h1, h2⟩ := sh.is _ v hv
        refine ⟨(row w t).getD i' 0, by rw [hv, h2], ?_, Int.ofNat_inj.mp h1⟩
        rw [getD_of (List.getElem?_eq_getElem il')]
        exact List.getElem_mem il'
      let mv : Nat → Nat := fun k => if h : k < gx gs t then (key k h).choose else 0
      have mv1 : ∀ k, k < gx gs t → valV kvs (.inl (k : Int)) = some (ni (mv k)) ∧ mv k ∈ row w t ∧ gx gs (mv k) = k := fun k hk => by
        show valV kvs (.inl (k : Int)) = some (ni (if h : k < gx gs t then (key k h).choose else 0)) ∧ (if h : k < gx gs t then (key k h).choose else 0) ∈ row w t ∧ gx gs (if h : k < gx gs t then (key k h).choose else 0) = k
        rw [dif_pos hk]
        exact (key k hk).choose_spec
      have gle := nu.le g t
      refine s_retL (el_is (el_lcR1 (n := (gx gs t : Int)) (fun _ => true) (fun k => ni (mv k)) (ea_cons (ev_op (ev_var rfl) (ev_var rfl) (rv_ixL (sq_of (e2 _ _ hn)) (nl_at gt))) ea_nil) ⟨by omega, by omega⟩ (fun x => rfl) (fun k H1 e1 hx => et_yes) (fun k H4 e4 hk _ => ?_)) (show _ = nl ((List.range (gx gs t)).map mv) by
        rw [Int.toNat_natCast, given_all]
        show _ = List.map _ _
        rw [List.map_map]; rfl)) (fun ra H3 n3 e3 h3 => ?_)
      · exact ev_dget (k := (k : Int)) (ev_var rfl) (ev_var rfl) (e4 _ _ hd) (mv1 k (by omega)).1
      · refine q _ _ ((e1.trans e2).trans e3) ⟨ra, _, rfl, fresh_back (e1.trans e2) n3, h3, gs, nu, by rw [List.length_map, List.length_range], fun k m hkm => ?_⟩
        rw [List.getElem?_map] at hkm
        by_cases hk : k < gx gs t
        · rw [List.getElem?_range hk] at hkm
          have : mv k = m := Option.some.inj hkm
          rw [← this]
          exact (mv1 k hk).2
        · rw [List.getElem?_eq_none (by rw [List.length_range]; omega)] at hkm
          cases hkm
theorem er_shown {σ : L2.St} {H : Hp} {ta tb : TE} {a : Addr} {ps : List Addr} {w : List (List Nat)} {s : Nat} {E : XK} (ha : Ev ta σ H (.ref a)) (hb : Ev tb σ H (ni s)) (hw : WebAt H a ps w) (g : GoodWeb w) (hl : w.length ≤ 200) (ac : Acyc w) (sl : s < w.length) : EvR (tCall spShown [] E (tCons ta (tCons tb tNil))) σ H (RL (fun r => ∃ g, Nums w g ∧ ShowsIt w g s r)) :=
  er_call (ea_cons ha (ea_cons hb ea_nil)) (fun H1 e Q q => ⟨a, ps, w, s, rfl, hw.mono e, g, hl, ac, sl, q⟩) fun v H0 H1 H2 e h => h.back e
end
end KX
set_option Elab.async false
set_option linter.all false
set_option maxRecDepth 100000
set_option maxHeartbeats 4000000
namespace KX
open PySem PySem.Spec PyProof.Rows L2 Evl RZ Sg
section
variable {P : Program} {w : World} {K : PySem.W.Frag} {mg : Str → Option Value} {base : Heap}

/-! ### the program's own laying over -/
def spLaid (K : PySem.W.Frag) : Sp := fun vs H Q _ => ∃ (a : Addr) (l : List Nat), vs = [.ref a] ∧ SqL K H a (nl l) ∧ ∀ H', Ex H H' → Q (ni (xs l)) H'
theorem ok_laid (T : Txt K mg) : FnOk P w K mg base CX0 1 T.dLaidOver.f T.dLaidOver.fd ["numbers"] (spLaid K) := by
  refine T.dLaidOver.F.ok scLaidOver (fun vs H Q E h => ?_) (fun cdv A outer s H vs Q E hr h => ?_)
  · obtain ⟨a, l, rfl, _⟩ := h; rfl
  · obtain ⟨a, l, rfl, hS, q⟩ := h
    refine ⟨_, (pss_cons (ps_set (i := 1) scLaidOver.nd rfl (.inl rfl) pe_int) (pss_cons (ps_for PassesOwn.never rfl (piK K (pv 0)) (pg_name (i := 2) scLaidOver.nd rfl (.inl rfl)) (pss_one (ps_set (i := 1) scLaidOver.nd rfl (.inl rfl) (pe_op op_xor (pv 1) (pv 2))))) (pss_one (ps_ret (pv 1))))), ?_⟩
    refine q_asg (v := ni 0) ev_c (fun H1 e1 => ?_)
    refine q_forLn (ev_var rfl) (ex_l e1 hS) (fun i σ H' => ∃ y, σ = [some (.ref a), some (ni (xs (l.take i))), y] ∧ Ex H H') (fun H2 e2 => ⟨none, rfl, e1.trans e2⟩) (fun i σ' H' _ hI => ?_) (fun i x σ' H' hx hI => ?_) (fun σ' H' hI => ?_)
    · obtain ⟨y, rfl, ex⟩ := hI
      exact ex_l ex hS
    · obtain ⟨y, rfl, ex⟩ := hI
      obtain ⟨n, hn, rfl⟩ := nl_of_get hx
      refine s_asg (v := ni (xs (l.take i) ^^^ n)) (ev_op (ev_var rfl) (ev_var rfl) rv_xor) (fun H2 e2 => ⟨some (ni n), ?_, ex.trans e2⟩)
      have : xs (l.take (i + 1)) = xs (l.take i) ^^^ n := by
        rw [List.take_add_one, hn]
        show xs (l.take i ++ [n]) = _
        rw [xs_app, xs_cons, xs_nil, Nat.xor_zero]
      rw [this]
      rfl
    · obtain ⟨y, rfl, ex⟩ := hI
      rw [nl_len, List.take_length]
      exact s_ret (ev_var rfl) (fun H3 e3 => q H3 (ex.trans e3))
theorem ev_laid {σ : L2.St} {H : Hp} {ta : TE} {a : Addr} {l : List Nat} {E : XK} (ha : Ev ta σ H (.ref a)) (hS : SqL K H a (nl l)) : Ev (tCall (spLaid K) [] E (tCons ta tNil)) σ H (ni (xs l)) :=
  ev_call (ea_cons ha ea_nil) fun H1 e Q q E => ⟨a, l, rfl, ex_l e hS, q⟩
theorem ev_laidL {σ : L2.St} {H : Hp} {ta : TE} {l : List Nat} {E : XK} (ha : EvL ta σ H (nl l)) : Ev (tCall (spLaid K) [] E (tCons ta tNil)) σ H (ni (xs l)) :=
  ev_callL ha fun p H1 e hp h1 H2 e2 Q q E => ⟨p, l, rfl, sq_of (e2 _ _ h1), q⟩
end
end KX
set_option Elab.async false
set_option linter.all false
set_option maxRecDepth 100000
set_option maxHeartbeats 4000000
namespace KX
open PySem PySem.Spec PyProof.Rows L2 Evl RZ Sg
section
variable {P : Program} {w : World} {K : PySem.W.Frag} {mg : Str → Option Value} {base : Heap}

/-! ### rows -/
structure GoodRow (w : List (List Nat)) (r : List Nat) : Prop where
  len : r.length ≤ 24
  lt : ∀ x ∈ r, x < w.length
def spIsRow : Sp := fun vs H Q _ => ∃ (a t : Addr) (ps : List Addr) (w : List (List Nat)) (r : List Nat), vs = [.ref a, .ref t] ∧ WebAt H a ps w ∧ H t = some (.lst (nl r)) ∧ GoodRow w r ∧ ∀ H', Ex H H' → Q (.bl true) H'
theorem ok_isRow (T : Txt K mg) : FnOk P w K mg base CX0 2 T.dIsRow.f T.dIsRow.fd ["web", "thing"] spIsRow := by
  have GIsPlace : FnOk P w K mg base CX0 _ T.dIsPlace.f T.dIsPlace.fd _ (spPlace K) := ok_place T
  refine T.dIsRow.F.ok scIsRow (fun vs H Q E h => ?_) (fun cdv A outer s H vs Q E hr h => ?_)
  · obtain ⟨a, t, ps, w, r, rfl, _⟩ := h; rfl
  · obtain ⟨a, t, ps, w, r, rfl, hw, ht, gr, q⟩ := h
    refine ⟨_, (pss_cons (ps_if (PW.pt (pw_or (pt_cmpR op_notTyB (pe_callTy (T := "type") (typK K) (by rfl) T.z_type (by decide +kernel) (pa_cons (pv 1) pa_nil)) (pe_bltn (v := .ty "list") (by rfl) T.z_list (by decide +kernel) rfl) (nomark _)) (pw_or1 (pt_cmpR op_gt (pe_callB (id := "len") (lenK K) (by rfl) T.z_len (by decide +kernel) (pa_cons (pv 1) pa_nil)) (pe_glob (v := .int 24) (by rfl) T.gMOSTGAMES ⟨_, rfl⟩) (nomark _))))) (pss_one (ps_ret pe_bl)) pss_nil) (pss_cons (ps_for PassesOwn.never rfl (piK K (pv 1)) (pg_name (i := 2) scIsRow.nd rfl (.inl rfl)) (pss_one (ps_if (pt_not (pt_val (pe_call GIsPlace (hr.mono (by decide)) (by rfl) T.dIsPlace.g T.dIsPlace.F.kp T.dIsPlace.b .nil pass0 (pa_cons (pv 2) (pa_cons (pe_callB (id := "len") (lenK K) (by rfl) T.z_len (by decide +kernel) (pa_cons (pv 0) pa_nil)) pa_nil))))) (pss_one (ps_ret pe_bl)) pss_nil))) (pss_one (ps_ret pe_bl)))), ?_⟩
    have gl := gr.len
    refine q_when (b := false) (et_is (et_or (et_test (ev_op (ev_type (T := "list") (ev_var rfl) (fun H1 e => .lst (sq_of (e _ _ ht)))) ev_c rv_notTy)) (fun _ => et_test (ev_op (ev_llen (K := K) (ev_var rfl) (sq_of ht)) ev_c rv_I0))) (by simp; omega)) (fun hb => nomatch hb) (fun _ H1 e1 => ?_)
    refine q_forLn (ev_var rfl) (sq_of (e1 _ _ ht)) (fun i σ H' => ∃ y, σ = [some (.ref a), some (.ref t), y] ∧ Ex H H') (fun H2 e2 => ⟨none, rfl, e1.trans e2⟩) (fun i σ' H' _ hI => ?_) (fun i x σ' H' hx hI => ?_) (fun σ' H' hI => ?_)
    · obtain ⟨y, rfl, ex⟩ := hI
      exact sq_of (ex _ _ ht)
    · obtain ⟨y, rfl, ex⟩ := hI
      obtain ⟨v, hv, rfl⟩ := nl_of_get hx
      have vl := gr.lt v (List.mem_of_getElem? hv)
      refine s_when (b := false) (et_is (et_not (et_B (ev_place (z := (v : Int)) (m := (w.length : Int)) (ev_var rfl) (ev_wlen (K := K) (ev_var rfl) (hw.mono ex))))) (by
        rw [decide_eq_true (show (0 : Int) ≤ (v : Int) by omega), decide_eq_true (show (v : Int) < (w.length : Int) by omega)]
        simp)) (fun hb => nomatch hb) (fun _ H3 e3 => ⟨_, rfl, ex.trans e3⟩)
    · obtain ⟨y, rfl, ex⟩ := hI
      exact s_ret ev_c (fun H3 e3 => q H3 (ex.trans e3))
theorem ev_isRow {σ : L2.St} {H : Hp} {ta tb : TE} {a t : Addr} {ps : List Addr} {w : List (List Nat)} {r : List Nat} {E : XK} (ha : Ev ta σ H (.ref a)) (hb : Ev tb σ H (.ref t)) (hw : WebAt H a ps w) (ht : H t = some (.lst (nl r))) (gr : GoodRow w r) : Ev (tCall spIsRow [] E (tCons ta (tCons tb tNil))) σ H (.bl true) :=
  ev_call (ea_cons ha (ea_cons hb ea_nil)) fun H1 e Q q E => ⟨a, t, ps, w, r, rfl, hw.mono e, e _ _ ht, gr, q⟩
def spCheckRow : Sp := fun vs H Q _ => ∃ (a t : Addr) (ps : List Addr) (w : List (List Nat)) (r : List Nat), vs = [.ref a, .ref t] ∧ WebAt H a ps w ∧ H t = some (.lst (nl r)) ∧ GoodRow w r ∧ ∀ H', Ex H H' → Q .non H'
theorem ok_checkRow (T : Txt K mg) : FnOk P w K mg base CX0 3 T.dCheckRow.f T.dCheckRow.fd ["web", "thing"] spCheckRow := by
  have GIsRow : FnOk P w K mg base CX0 _ T.dIsRow.f T.dIsRow.fd _ spIsRow := ok_isRow T
  refine T.dCheckRow.F.ok scCheckRow (fun vs H Q E h => ?_) (fun cdv A outer s H vs Q E hr h => ?_)
  · obtain ⟨a, t, ps, w, r, rfl, _⟩ := h; rfl
  · obtain ⟨a, t, ps, w, r, rfl, hw, ht, gr, q⟩ := h
    refine ⟨_, (pss_one (ps_if (pt_not (pt_val (pe_call GIsRow (hr.mono (by decide)) (by rfl) T.dIsRow.g T.dIsRow.F.kp T.dIsRow.b .nil pass0 (pa_cons (pv 0) (pa_cons (pv 1) pa_nil))))) (pss_one ps_never) pss_nil)), ?_⟩
    exact s_when (b := false) (et_not (et_B (ev_isRow (ev_var rfl) (ev_var rfl) hw ht gr))) (fun hb => nomatch hb) (fun _ H1 e1 => q H1 e1)
theorem ev_checkRow {σ : L2.St} {H : Hp} {ta tb : TE} {a t : Addr} {ps : List Addr} {w : List (List Nat)} {r : List Nat} {E : XK} (ha : Ev ta σ H (.ref a)) (hb : Ev tb σ H (.ref t)) (hw : WebAt H a ps w) (ht : H t = some (.lst (nl r))) (gr : GoodRow w r) : Ev (tCall spCheckRow [] E (tCons ta (tCons tb tNil))) σ H .non :=
  ev_call (ea_cons ha (ea_cons hb ea_nil)) fun H1 e Q q E => ⟨a, t, ps, w, r, rfl, hw.mono e, e _ _ ht, gr, q⟩
/-- a web without rings, its numbers -/
structure Game (w : List (List Nat)) (g : List Nat) : Prop where
  gw : GoodWeb w
  ac : Acyc w
  le : w.length ≤ 200
  nu : Nums w g
theorem Game.is {w : List (List Nat)} {g h : List Nat} (a : Game w g) (b : Nums w h) : h = g := Nums.uniq a.gw a.ac b a.nu
def spRowNum : Sp := fun vs H Q _ => ∃ (a t : Addr) (ps : List Addr) (w : List (List Nat)) (g r : List Nat), vs = [.ref a, .ref t] ∧ WebAt H a ps w ∧ H t = some (.lst (nl r)) ∧ Game w g ∧ GoodRow w r ∧ ∀ H', Ex H H' → Q (ni (rn g r)) H'
theorem ok_rowNum (T : Txt K mg) : FnOk P w K mg base CX0 8 T.dRowNumber.f T.dRowNumber.fd ["web", "row"] spRowNum := by
  have GNumbersOf : FnOk P w K mg base CX0 _ T.dNumbersOf.f T.dNumbersOf.fd _ spNums := ok_nums T
  have GCheckRow : FnOk P w K mg base CX0 _ T.dCheckRow.f T.dCheckRow.fd _ spCheckRow := ok_checkRow T
  have GLaidOver : FnOk P w K mg base CX0 _ T.dLaidOver.f T.dLaidOver.fd _ (spLaid K) := ok_laid T
  refine T.dRowNumber.F.ok scRowNumber (fun vs H Q E h => ?_) (fun cdv A outer s H vs Q E hr h => ?_)
  · obtain ⟨a, t, ps, w, g, r, rfl, _⟩ := h; rfl
  · obtain ⟨a, t, ps, w, g, r, rfl, hw, ht, ga, gr, q⟩ := h
    refine ⟨_, (pss_cons (ps_set (i := 2) scRowNumber.nd rfl (.inr rfl) (pe_call GNumbersOf (hr.mono (by decide)) (by rfl) T.dNumbersOf.g T.dNumbersOf.F.kp T.dNumbersOf.b .nil pass0 (pa_cons (pv 0) pa_nil))) (pss_cons (ps_expr (pe_call GCheckRow (hr.mono (by decide)) (by rfl) T.dCheckRow.g T.dCheckRow.F.kp T.dCheckRow.b .nil pass0 (pa_cons (pv 0) (pa_cons (pv 1) pa_nil)))) (pss_one (ps_ret (pe_call GLaidOver (hr.mono (by decide)) (by rfl) T.dLaidOver.g T.dLaidOver.F.kp T.dLaidOver.b .nil pass0 (pa_cons (pe_lc (own := [("spot", 3)]) (g := gName 3) (by rfl) scRowNumber.nd (piK K (pv 1)) (blkOk_by (own := [("spot", 3)]) (N := nRowNumber) (sc := defScope sRowNumber) (by decide +kernel)) (fun _ _ _ _ _ => pg_name (i := 3) scRowNumber.nd rfl (Or.inl rfl)) (fun _ _ _ _ _ => pts_nil) (fun _ _ _ _ _ => (pe_ix (ixK K) (pv 2) (pv 3) (fun _ _ => rfl)))) pa_nil)))))), ?_⟩
    refine q_asgR (er_nums (ev_var rfl) hw ga.gw ga.le ga.ac) (fun v H1 e1 r1 => ?_)
    obtain ⟨na, g', rfl, nn, hn, nu⟩ := r1
    have := ga.is nu
    subst this
    refine q_drop (ev_checkRow (ev_var rfl) (ev_var rfl) (hw.mono e1) (e1 _ _ ht) gr) (fun H2 e2 => ?_)
    have ht2 := e2 _ _ (e1 _ _ ht)
    have gl := gr.len
    refine s_ret (ev_laidL (l := r.map (gx g')) (el_is (el_lcL (xs := nl r) (fun _ => true) (fun i => ni (gx g' (r.getD i 0))) (ev_var rfl) (sq_of ht2) (by rw [nl_len]; omega) (fun x => rfl) (fun i x H1 e1 hx => et_yes) (fun i x H4 e4 hx _ => ?_)) (by rw [nl_len, given_nl]))) (fun H3 e3 => q H3 ((e1.trans e2).trans e3))
    obtain ⟨m, hm, rfl⟩ := nl_of_get hx
    rw [getD_of hm]
    exact ev_op (ev_var rfl) (ev_var rfl) (rv_ixL (sq_of (e4 _ _ (e2 _ _ hn))) (nl_at (gx_get (by rw [nu.len]; exact gr.lt m (List.mem_of_getElem? hm)))))
theorem ev_rowNum {σ : L2.St} {H : Hp} {ta tb : TE} {a t : Addr} {ps : List Addr} {w : List (List Nat)} {g r : List Nat} {E : XK} (ha : Ev ta σ H (.ref a)) (hb : Ev tb σ H (.ref t)) (hw : WebAt H a ps w) (ht : H t = some (.lst (nl r))) (ga : Game w g) (gr : GoodRow w r) : Ev (tCall spRowNum [] E (tCons ta (tCons tb tNil))) σ H (ni (rn g r)) :=
  ev_call (ea_cons ha (ea_cons hb ea_nil)) fun H1 e Q q E => ⟨a, t, ps, w, g, r, rfl, hw.mono e, e _ _ ht, ga, gr, q⟩
def spLost : Sp := fun vs H Q _ => ∃ (a t : Addr) (ps : List Addr) (w : List (List Nat)) (g r : List Nat), vs = [.ref a, .ref t] ∧ WebAt H a ps w ∧ H t = some (.lst (nl r)) ∧ Game w g ∧ GoodRow w r ∧ ∀ H', Ex H H' → Q (.bl (decide (rn g r = 0))) H'
theorem ok_lost (T : Txt K mg) : FnOk P w K mg base CX0 9 T.dIsLost.f T.dIsLost.fd ["web", "row"] spLost := by
  have GRowNumber : FnOk P w K mg base CX0 _ T.dRowNumber.f T.dRowNumber.fd _ spRowNum := ok_rowNum T
  refine T.dIsLost.F.ok scIsLost (fun vs H Q E h => ?_) (fun cdv A outer s H vs Q E hr h => ?_)
  · obtain ⟨a, t, ps, w, g, r, rfl, _⟩ := h; rfl
  · obtain ⟨a, t, ps, w, g, r, rfl, hw, ht, ga, gr, q⟩ := h
    refine ⟨_, (pss_one (ps_ret (pe_cmpR op_eq (pe_call GRowNumber (hr.mono (by decide)) (by rfl) T.dRowNumber.g T.dRowNumber.F.kp T.dRowNumber.b .nil pass0 (pa_cons (pv 0) (pa_cons (pv 1) pa_nil))) pe_int (nomark _)))), ?_⟩
    exact s_ret (ev_is (ev_op (ev_rowNum (ev_var rfl) (ev_var rfl) hw ht ga gr) ev_c (rv_eq rfl)) (by rw [dec_int, ← dec_nat]; rfl)) (fun H3 e3 => q H3 e3)
theorem ev_lost {σ : L2.St} {H : Hp} {ta tb : TE} {a t : Addr} {ps : List Addr} {w : List (List Nat)} {g r : List Nat} {E : XK} (ha : Ev ta σ H (.ref a)) (hb : Ev tb σ H (.ref t)) (hw : WebAt H a ps w) (ht : H t = some (.lst (nl r))) (ga : Game w g) (gr : GoodRow w r) : Ev (tCall spLost [] E (tCons ta (tCons tb tNil))) σ H (.bl (decide (rn g r = 0))) :=
  ev_call (ea_cons ha (ea_cons hb ea_nil)) fun H1 e Q q E => ⟨a, t, ps, w, g, r, rfl, hw.mono e, e _ _ ht, ga, gr, q⟩
theorem ev_lostL {σ : L2.St} {H : Hp} {ta tb : TE} {a : Addr} {ps : List Addr} {w : List (List Nat)} {g r : List Nat} {E : XK} (ha : Ev ta σ H (.ref a)) (hb : EvL tb σ H (nl r)) (hw : WebAt H a ps w) (ga : Game w g) (gr : GoodRow w r) : Ev (tCall spLost [] E (tCons ta (tCons tb tNil))) σ H (.bl (decide (rn g r = 0))) :=
  ev_callR2 (vs := []) ha (EvL.new hb) (fun H1 e => ea_nil) fun v H0 H1 H2 e0 e1 hv e2 => by
    obtain ⟨p, rfl, _, h1⟩ := hv
    exact fun H3 e3 Q q E => ⟨a, p, ps, w, g, r, rfl, hw.mono ((e0.trans e1).trans (e2.trans e3)), (e2.trans e3) _ _ h1, ga, gr, q⟩
end
end KX
set_option Elab.async false
set_option linter.all false
set_option maxRecDepth 100000
set_option maxHeartbeats 4000000
namespace KX
open PySem PySem.Spec PyProof.Rows L2 Evl RZ Sg
section
variable {P : Program} {w : World} {K : PySem.W.Frag} {mg : Str → Option Value} {base : Heap}

/-! ### moves in a row -/
def spMoves : Sp := fun vs H Q _ => ∃ (a t : Addr) (ps : List Addr) (w : List (List Nat)) (g r : List Nat), vs = [.ref a, .ref t] ∧ WebAt H a ps w ∧ H t = some (.lst (nl r)) ∧ Game w g ∧ GoodRow w r ∧ ∀ v H', Ex H H' → RM (fun ms => ms = mvs w r) v H H' → Q v H'
theorem ok_moves (T : Txt K mg) : FnOk P w K mg base CX0 7 T.dMovesIn.f T.dMovesIn.fd ["web", "row"] spMoves := by
  have GCheckGame : FnOk P w K mg base CX0 _ T.dCheckGame.f T.dCheckGame.fd _ spGame := ok_game T
  have GCheckRow : FnOk P w K mg base CX0 _ T.dCheckRow.f T.dCheckRow.fd _ spCheckRow := ok_checkRow T
  refine T.dMovesIn.F.ok scMovesIn (fun vs H Q E h => ?_) (fun cdv A outer s H vs Q E hr h => ?_)
  · obtain ⟨a, t, ps, w, g, r, rfl, _⟩ := h; rfl
  · obtain ⟨a, t, ps, w, g, r, rfl, hw, ht, ga, gr, q⟩ := h
    refine ⟨_, (pss_cons (ps_expr (pe_call GCheckGame (hr.mono (by decide)) (by rfl) T.dCheckGame.g T.dCheckGame.F.kp T.dCheckGame.b .nil pass0 (pa_cons (pv 0) pa_nil))) (pss_cons (ps_expr (pe_call GCheckRow (hr.mono (by decide)) (by rfl) T.dCheckRow.g T.dCheckRow.F.kp T.dCheckRow.b .nil pass0 (pa_cons (pv 0) (pa_cons (pv 1) pa_nil)))) (pss_one (ps_ret (pe_lc2 (own := [("place", 2), ("spot", 3)]) (vs1 := [3]) (g := gName 2) (g1 := gName 3) (by rfl) scMovesIn.nd (pi_range1 (by rfl) T.z_range (pa_cons (pe_callB (id := "len") (lenK K) (by rfl) T.z_len (by decide +kernel) (pa_cons (pv 1) pa_nil)) pa_nil)) (blkOk_by (own := [("place", 2), ("spot", 3)]) (N := nMovesIn) (sc := defScope sMovesIn) (by decide +kernel)) (by decide) (fun _ _ _ _ _ => pg_name (i := 2) scMovesIn.nd rfl (Or.inl rfl)) (fun _ _ _ _ _ => pts_nil) (fun _ _ _ _ _ => (piK K (pe_callB (id := "sorted") (sortK K) (by rfl) T.z_sorted (by decide +kernel) (pa_cons (pe_ix (ixK K) (pv 0) (pe_ix (ixK K) (pv 1) (pv 2) (fun _ _ => rfl)) (fun _ _ => rfl)) pa_nil)))) (fun _ _ _ _ _ => pg_name (i := 3) scMovesIn.nd rfl (Or.inl rfl)) (fun _ _ _ _ _ => pts_nil) (fun _ _ _ _ _ => (pe_tup (pa_cons (pv 2) (pa_cons (pv 3) pa_nil))))))))), ?_⟩
    refine q_drop (ev_game (ev_var rfl) hw ga.gw ga.le ga.ac) (fun H1 e1 => ?_)
    refine q_drop (ev_checkRow (ev_var rfl) (ev_var rfl) (hw.mono e1) (e1 _ _ ht) gr) (fun H2 e2 => ?_)
    have hw2 := hw.mono (e1.trans e2)
    have ht2 := (e1.trans e2) _ _ ht
    have gl := gr.len
    have gle := ga.le
    refine s_retR (er_lc2 (xs := nl (List.range r.length)) (fun i => nl (up w (gx r i))) (fun i k => tupO (i, gx (up w (gx r i)) k)) (ei_rng (ea_cons (ev_llen (K := K) (ev_var rfl) (sq_of ht2)) ea_nil) (by omega)) (by rw [nl_len, List.length_range]; omega) (fun i hi => by rw [nl_len]; have := up_len w (gx r i); omega) (fun i x H3 e3 hx => ?_) (fun x => rfl) (fun x y => rfl) (fun i k x y H3 e3 hx hy => ?_)) (fun v H3 e3 r3 => ?_)
    · obtain ⟨i', hi', rfl⟩ := nl_of_get hx
      have il : i < r.length := by
        have := (List.getElem?_eq_some_iff.mp hi').1
        rwa [List.length_range] at this
      rw [List.getElem?_range il] at hi'
      cases hi'
      have gi := gx_get (g := r) il
      have sl := gr.lt _ (List.mem_of_getElem? gi)
      obtain ⟨p, hp, hpr, hrow⟩ := web_row (K := K) (hw2.mono e3) sl
      refine ei2_R (er_sorted (ev_op (ev_var rfl) (ev_op (ev_var rfl) (ev_var rfl) (rv_ixL (sq_of (e3 _ _ ht2)) (nl_at gi))) (rv_ixL (hw2.mono e3).seq (atI_nat hpr))) (sq_of hrow)) (fun v H0 H1 hv => ?_)
      obtain ⟨b, l, rfl, h0, h1, hl⟩ := hv
      rw [up_sorted ga.gw hl] at h1
      exact ⟨b, rfl, h0, h1⟩
    · obtain ⟨i', hi', rfl⟩ := nl_of_get hx
      have il : i < r.length := by
        have := (List.getElem?_eq_some_iff.mp hi').1
        rwa [List.length_range] at this
      rw [List.getElem?_range il] at hi'
      cases hi'
      obtain ⟨z, hz, rfl⟩ := nl_of_get hy
      rw [gx_of hz]
      exact en_U (eu_tup (ea_cons (ev_var rfl) (ea_cons (ev_var rfl) ea_nil)) (show 2 ≤ 100000 by decide))
    · rw [nl_len, List.length_range, mvs_pre] at r3
      exact q _ _ ((e1.trans e2).trans e3) (RM.back (e1.trans e2) r3.mv)
theorem er_moves {σ : L2.St} {H : Hp} {ta tb : TE} {a t : Addr} {ps : List Addr} {w : List (List Nat)} {g r : List Nat} {E : XK} (ha : Ev ta σ H (.ref a)) (hb : Ev tb σ H (.ref t)) (hw : WebAt H a ps w) (ht : H t = some (.lst (nl r))) (ga : Game w g) (gr : GoodRow w r) : EvR (tCall spMoves [] E (tCons ta (tCons tb tNil))) σ H (RM (fun ms => ms = mvs w r)) :=
  er_call (ea_cons ha (ea_cons hb ea_nil)) (fun H1 e Q q => ⟨a, t, ps, w, g, r, rfl, hw.mono e, e _ _ ht, ga, gr, q⟩) fun v H0 H1 H2 e h => h.back e
end
end KX
set_option Elab.async false
set_option linter.all false
set_option maxRecDepth 100000
set_option maxHeartbeats 4000000
namespace KX
open PySem PySem.Spec PyProof.Rows L2 Evl RZ Sg
section
variable {P : Program} {w : World} {K : PySem.W.Frag} {mg : Str → Option Value} {base : Heap}

/-! ### good moves -/
def good (w : List (List Nat)) (g r : List Nat) : List (Nat × Nat) := (mvs w r).filter fun m => decide (rn g (r.set m.1 m.2) = 0)
def spGood : Sp := fun vs H Q _ => ∃ (a t : Addr) (ps : List Addr) (w : List (List Nat)) (g r : List Nat), vs = [.ref a, .ref t] ∧ WebAt H a ps w ∧ H t = some (.lst (nl r)) ∧ Game w g ∧ GoodRow w r ∧ ∀ v H', Ex H H' → RM (fun ms => ms = good w g r) v H H' → Q v H'
theorem ok_good (T : Txt K mg) : FnOk P w K mg base CX0 9 T.dGoodMoves.f T.dGoodMoves.fd ["web", "row"] spGood := by
  have GRowNumber : FnOk P w K mg base CX0 _ T.dRowNumber.f T.dRowNumber.fd _ spRowNum := ok_rowNum T
  have GNumbersOf : FnOk P w K mg base CX0 _ T.dNumbersOf.f T.dNumbersOf.fd _ spNums := ok_nums T
  have GMovesIn : FnOk P w K mg base CX0 _ T.dMovesIn.f T.dMovesIn.fd _ spMoves := ok_moves T
  have GLaidOver : FnOk P w K mg base CX0 _ T.dLaidOver.f T.dLaidOver.fd _ (spLaid K) := ok_laid T
  refine T.dGoodMoves.F.ok scGoodMoves (fun vs H Q E h => ?_) (fun cdv A outer s H vs Q E hr h => ?_)
  · obtain ⟨a, t, ps, w, g, r, rfl, _⟩ := h; rfl
  · obtain ⟨a, t, ps, w, g, r, rfl, hw, ht, ga, gr, q⟩ := h
    refine ⟨_, (pss_cons (ps_set (i := 2) scGoodMoves.nd rfl (.inr rfl) (pe_call GRowNumber (hr.mono (by decide)) (by rfl) T.dRowNumber.g T.dRowNumber.F.kp T.dRowNumber.b .nil pass0 (pa_cons (pv 0) (pa_cons (pv 1) pa_nil)))) (pss_cons (ps_set (i := 3) scGoodMoves.nd rfl (.inr rfl) (pe_call GNumbersOf (hr.mono (by decide)) (by rfl) T.dNumbersOf.g T.dNumbersOf.F.kp T.dNumbersOf.b .nil pass0 (pa_cons (pv 0) pa_nil))) (pss_one (ps_ret (pe_lc (own := [("place", 4), ("spot", 5)]) (by rfl) scGoodMoves.nd (piK K (pe_call GMovesIn (hr.mono (by decide)) (by rfl) T.dMovesIn.g T.dMovesIn.F.kp T.dMovesIn.b .nil pass0 (pa_cons (pv 0) (pa_cons (pv 1) pa_nil)))) (blkOk_by (own := [("place", 4), ("spot", 5)]) (N := nGoodMoves) (sc := defScope sGoodMoves) (by decide +kernel)) (fun _ _ _ _ _ => (pgTK K (n := 2) (pgs_cons (pg_name (i := 4) scGoodMoves.nd rfl (Or.inl rfl)) (pgs_cons (pg_name (i := 5) scGoodMoves.nd rfl (Or.inl rfl)) pgs_nil)))) (fun _ _ _ _ _ => (pts_one (pt_cmpR op_eq (pe_call GLaidOver (hr.mono (by decide)) (by rfl) T.dLaidOver.g T.dLaidOver.F.kp T.dLaidOver.b .nil pass0 (pa_cons (pe_lst (pa_cons (pv 2) (pa_cons (pe_ix (ixK K) (pv 3) (pe_ix (ixK K) (pv 1) (pv 4) (fun _ _ => rfl)) (fun _ _ => rfl)) (pa_cons (pe_ix (ixK K) (pv 3) (pv 5) (fun _ _ => rfl)) pa_nil)))) pa_nil)) pe_int (nomark _)))) (fun _ _ _ _ _ => (pe_tup (pa_cons (pv 4) (pa_cons (pv 5) pa_nil))))))))), ?_⟩
    refine q_asg (v := ni (rn g r)) (ev_rowNum (ev_var rfl) (ev_var rfl) hw ht ga gr) (fun H1 e1 => ?_)
    refine q_asgR (er_nums (ev_var rfl) (hw.mono e1) ga.gw ga.le ga.ac) (fun v H2 e2 r2 => ?_)
    obtain ⟨na, g', rfl, nn, hn, nu⟩ := r2
    have := ga.is nu
    subst this
    have e12 := e1.trans e2
    have gl := gr.len
    have gle := ga.le
    have ml := mvs_len w r
    have ml2 : (mvs w r).length ≤ 24 * 200 := Nat.le_trans ml (Nat.mul_le_mul gl gle)
    refine s_retR (er_lcB (R := RM (fun ms => ms = mvs w r)) (S := RM (fun ms => ms = good w g' r)) (er_moves (ev_var rfl) (ev_var rfl) (hw.mono e12) (e12 _ _ ht) ga gr) (fun v G0 G1 a0 a1 r1 => ?_) (fun v G0 G1 G2 e hs => hs.back e)) (fun v H3 e3 r3 => q _ _ (e12.trans e3) (r3.back e12))
    obtain ⟨xa, ts, ms, rfl, _, hm, rfl⟩ := r1
    refine er_lcMv (K := K) (fun m => decide (rn g' (r.set m.1 m.2) = 0)) ev_c hm (by omega) (fun x y => rfl) (fun m G2 a2 hmm => ?_) (fun m G2 a2 hmm _ => en_U (eu_tup (ea_cons (ev_var rfl) (ea_cons (ev_var rfl) ea_nil)) (show 2 ≤ 100000 by decide)))
    have im := (mvs_mem ga.gw).mp (show (m.1, m.2) ∈ mvs w r from hmm)
    have gi := gx_get (g := r) im.1
    have sl := gr.lt _ (List.mem_of_getElem? gi)
    have xl := ga.gw.rlt im.2
    have eg := (a0.trans a1).trans a2
    have hn' := eg _ _ hn
    have ht' := (e12.trans eg) _ _ ht
    refine et_test (ev_is (ev_op (ev_laidL (l := [rn g' r, gx g' (gx r m.1), gx g' m.2]) (el_lst (ea_cons (ev_var rfl) (ea_cons (ev_op (ev_var rfl) (ev_op (ev_var rfl) (ev_var rfl) (rv_ixL (sq_of ht') (nl_at gi))) (rv_ixL (sq_of hn') (nl_at (gx_get (by rw [nu.len]; exact sl))))) (ea_cons (ev_op (ev_var rfl) (ev_var rfl) (rv_ixL (sq_of hn') (nl_at (gx_get (by rw [nu.len]; exact xl))))) ea_nil))) (show 3 ≤ 100000 by decide))) ev_c (rv_eq rfl)) ?_)
    rw [dec_int, rn_set m.2 gi]
    have : xs [rn g' r, gx g' (gx r m.1), gx g' m.2] = rn g' r ^^^ gx g' (gx r m.1) ^^^ gx g' m.2 := by
      rw [xs_cons, xs_cons, xs_cons, xs_nil, Nat.xor_zero, Nat.xor_assoc]
    rw [this, ← dec_nat]
    rfl
theorem er_good {σ : L2.St} {H : Hp} {ta tb : TE} {a t : Addr} {ps : List Addr} {w : List (List Nat)} {g r : List Nat} {E : XK} (ha : Ev ta σ H (.ref a)) (hb : Ev tb σ H (.ref t)) (hw : WebAt H a ps w) (ht : H t = some (.lst (nl r))) (ga : Game w g) (gr : GoodRow w r) : EvR (tCall spGood [] E (tCons ta (tCons tb tNil))) σ H (RM (fun ms => ms = good w g r)) :=
  er_call (ea_cons ha (ea_cons hb ea_nil)) (fun H1 e Q q => ⟨a, t, ps, w, g, r, rfl, hw.mono e, e _ _ ht, ga, gr, q⟩) fun v H0 H1 H2 e h => h.back e
end
end KX
set_option Elab.async false
set_option linter.all false
set_option maxRecDepth 100000
set_option maxHeartbeats 4000000
namespace KX
open PySem PySem.Spec PyProof.Rows L2 Evl RZ Sg
section
variable {P : Program} {w : World} {K : PySem.W.Frag} {mg : Str → Option Value} {base : Heap}

/-! ### a row that parts -/
def spParting : Sp := fun vs H Q _ => ∃ (a t u : Addr) (ps : List Addr) (w : List (List Nat)) (g r s : List Nat), vs = [.ref a, .ref t, .ref u] ∧ WebAt H a ps w ∧ H t = some (.lst (nl r)) ∧ H u = some (.lst (nl s)) ∧ Game w g ∧ GoodRow w r ∧ GoodRow w s ∧ ∀ v H', Ex H H' → ((v = .non ∧ rn g r = rn g s) ∨ (rn g r ≠ rn g s ∧ RL (fun z => z = r) v H H')) → Q v H'
theorem ok_parting (T : Txt K mg) : FnOk P w K mg base CX0 9 T.dPartingRow.f T.dPartingRow.fd ["web", "one", "other"] spParting := by
  have GRowNumber : FnOk P w K mg base CX0 _ T.dRowNumber.f T.dRowNumber.fd _ spRowNum := ok_rowNum T
  refine T.dPartingRow.F.ok scPartingRow (fun vs H Q E h => ?_) (fun cdv A outer s H vs Q E hr h => ?_)
  · obtain ⟨a, t, u, ps, w, g, r, s, rfl, _⟩ := h; rfl
  · obtain ⟨a, t, u, ps, w, g, r, s', rfl, hw, ht, hu, ga, gr, gs, q⟩ := h
    refine ⟨_, (pss_cons (ps_if (pt_cmpR op_eq (pe_call GRowNumber (hr.mono (by decide)) (by rfl) T.dRowNumber.g T.dRowNumber.F.kp T.dRowNumber.b .nil pass0 (pa_cons (pv 0) (pa_cons (pv 1) pa_nil))) (pe_call GRowNumber (hr.mono (by decide)) (by rfl) T.dRowNumber.g T.dRowNumber.F.kp T.dRowNumber.b .nil pass0 (pa_cons (pv 0) (pa_cons (pv 2) pa_nil))) (nomark _)) (pss_one (ps_ret pe_non)) pss_nil) (pss_one (ps_ret (pe_callTy (T := "list") (listK K) (by rfl) T.z_list (by decide +kernel) (pa_cons (pv 1) pa_nil))))), ?_⟩
    refine q_when (b := decide (rn g r = rn g s')) (et_test (ev_is (ev_op (ev_rowNum (ev_var rfl) (ev_var rfl) hw ht ga gr) (ev_rowNum (ev_var rfl) (ev_var rfl) hw hu ga gs) (rv_eq rfl)) (by rw [dec_int, ← dec_nat]; rfl))) (fun hb H1 e1 => ?_) (fun hb H1 e1 => ?_)
    · exact s_ret ev_c (fun H2 e2 => q _ _ (e1.trans e2) (.inl ⟨rfl, of_decide_eq_true hb⟩))
    · exact s_retL (el_list (K := K) (ev_var rfl) (sq_of (e1 _ _ ht))) (fun p H2 n2 e2 h2 => q _ _ (e1.trans e2) (.inr ⟨of_decide_eq_false hb, p, r, rfl, fresh_back e1 n2, h2, rfl⟩))
theorem er_parting {σ : L2.St} {H : Hp} {ta tb tc : TE} {a t u : Addr} {ps : List Addr} {w : List (List Nat)} {g r s : List Nat} {E : XK} (h1 : Ev ta σ H (.ref a)) (h2 : Ev tb σ H (.ref t)) (h3 : Ev tc σ H (.ref u)) (hw : WebAt H a ps w) (ht : H t = some (.lst (nl r))) (hu : H u = some (.lst (nl s))) (ga : Game w g) (gr : GoodRow w r) (gs : GoodRow w s) : EvR (tCall spParting [] E (tCons ta (tCons tb (tCons tc tNil)))) σ H (fun v H0 H1 => (v = .non ∧ rn g r = rn g s) ∨ (rn g r ≠ rn g s ∧ RL (fun z => z = r) v H0 H1)) :=
  er_call (ea_cons h1 (ea_cons h2 (ea_cons h3 ea_nil))) (fun H1 e Q q => ⟨a, t, u, ps, w, g, r, s, rfl, hw.mono e, e _ _ ht, e _ _ hu, ga, gr, gs, q⟩) fun v H0 H1 H2 e h => h.imp id fun z => ⟨z.1, z.2.back e⟩
end
end KX
set_option Elab.async false
set_option linter.all false
set_option maxRecDepth 100000
set_option maxHeartbeats 4000000
namespace KX
open PySem PySem.Spec PyProof.Rows L2 Evl RZ Sg
section
variable {P : Program} {w : World} {K : PySem.W.Frag} {mg : Str → Option Value} {base : Heap}

/-! ### webs of webs -/
def spCount : Sp := fun vs H Q _ => ∃ (m : Int), vs = [.int m] ∧ m ≤ 200 ∧ ∀ H', Ex H H' → Q .non H'
theorem ok_count (T : Txt K mg) : FnOk P w K mg base CX0 1 T.dCheckCount.f T.dCheckCount.fd ["many"] spCount := by
  refine T.dCheckCount.F.ok scCheckCount (fun vs H Q E h => ?_) (fun cdv A outer s H vs Q E hr h => ?_)
  · obtain ⟨m, rfl, _⟩ := h; rfl
  · obtain ⟨m, rfl, hm, q⟩ := h
    refine ⟨_, (pss_one (ps_if (pt_cmpR op_gt (pv 0) (pe_glob (v := .int 200) (by rfl) T.gMOSTSPOTS ⟨_, rfl⟩) (nomark _)) (pss_one ps_never) pss_nil)), ?_⟩
    exact s_when (b := false) (et_test (ev_is (ev_op (ev_var rfl) ev_c rv_I0) (by congr 1; exact decide_eq_false (by omega)))) (fun hb => nomatch hb) (fun _ H1 e1 => q H1 e1)
theorem ev_count {σ : L2.St} {H : Hp} {ta : TE} {m : Int} {E : XK} (ha : Ev ta σ H (.int m)) (hm : m ≤ 200) : Ev (tCall spCount [] E (tCons ta tNil)) σ H .non :=
  ev_call (ea_cons ha ea_nil) fun H1 e Q q E => ⟨m, rfl, hm, q⟩
def spJoined : Sp := fun vs H Q _ => ∃ (a b : Addr) (ps qs : List Addr) (w v : List (List Nat)), vs = [.ref a, .ref b] ∧ WebAt H a ps w ∧ WebAt H b qs v ∧ GoodWeb w ∧ GoodWeb v ∧ w.length + v.length ≤ 200 ∧ ∀ x H', Ex H H' → RW (fun u => u = joinW w v) x H H' → Q x H'
theorem ok_joined (T : Txt K mg) : FnOk P w K mg base CX0 5 T.dJoinedWebs.f T.dJoinedWebs.fd ["one", "other"] spJoined := by
  have GCheckWeb : FnOk P w K mg base CX0 _ T.dCheckWeb.f T.dCheckWeb.fd _ spCheck := ok_check T
  have GCheckCount : FnOk P w K mg base CX0 _ T.dCheckCount.f T.dCheckCount.fd _ spCount := ok_count T
  refine T.dJoinedWebs.F.ok scJoinedWebs (fun vs H Q E h => ?_) (fun cdv A outer s H vs Q E hr h => ?_)
  · obtain ⟨a, b, ps, qs, w, v, rfl, _⟩ := h; rfl
  · obtain ⟨a, b, ps, qs, w, v, rfl, hw, hv, gw, gv, hl, q⟩ := h
    refine ⟨_, (pss_cons (ps_expr (pe_call GCheckWeb (hr.mono (by decide)) (by rfl) T.dCheckWeb.g T.dCheckWeb.F.kp T.dCheckWeb.b .nil pass0 (pa_cons (pv 0) pa_nil))) (pss_cons (ps_expr (pe_call GCheckWeb (hr.mono (by decide)) (by rfl) T.dCheckWeb.g T.dCheckWeb.F.kp T.dCheckWeb.b .nil pass0 (pa_cons (pv 1) pa_nil))) (pss_cons (ps_expr (pe_call GCheckCount (hr.mono (by decide)) (by rfl) T.dCheckCount.g T.dCheckCount.F.kp T.dCheckCount.b .nil pass0 (pa_cons (pe_op op_add (pe_callB (id := "len") (lenK K) (by rfl) T.z_len (by decide +kernel) (pa_cons (pv 0) pa_nil)) (pe_callB (id := "len") (lenK K) (by rfl) T.z_len (by decide +kernel) (pa_cons (pv 1) pa_nil))) pa_nil))) (pss_cons (ps_set (i := 2) scJoinedWebs.nd rfl (.inr rfl) (pe_callB (id := "len") (lenK K) (by rfl) T.z_len (by decide +kernel) (pa_cons (pv 0) pa_nil))) (pss_one (ps_ret (pe_op op_cat (pe_lc (own := [("moves", 3)]) (g := gName 3) (by rfl) scJoinedWebs.nd (piK K (pv 0)) (blkOk_by (own := [("moves", 3)]) (N := nJoinedWebs) (sc := defScope sJoinedWebs) (by decide +kernel)) (fun _ _ _ _ _ => pg_name (i := 3) scJoinedWebs.nd rfl (Or.inl rfl)) (fun _ _ _ _ _ => pts_nil) (fun _ _ _ _ _ => (pe_callTy (T := "list") (listK K) (by rfl) T.z_list (by decide +kernel) (pa_cons (pv 3) pa_nil)))) (pe_lc (own := [("moves", 3)]) (g := gName 3) (by rfl) scJoinedWebs.nd (piK K (pv 1)) (blkOk_by (own := [("moves", 3)]) (N := nJoinedWebs) (sc := defScope sJoinedWebs) (by decide +kernel)) (fun _ _ _ _ _ => pg_name (i := 3) scJoinedWebs.nd rfl (Or.inl rfl)) (fun _ _ _ _ _ => pts_nil) (fun _ _ _ _ _ => (pe_lc (own := [("move", 4)]) (g := gName 4) (by rfl) scJoinedWebs.nd (piK K (pv 3)) (blkOk_by (own := [("move", 4)]) (N := nJoinedWebs) (sc := relS _ (defScope sJoinedWebs)) (by decide +kernel)) (fun _ _ _ _ _ => pg_name (i := 4) scJoinedWebs.nd rfl (Or.inl rfl)) (fun _ _ _ _ _ => pts_nil) (fun _ _ _ _ _ => (pe_op op_add (pv 4) (pv 2))))))))))))), ?_⟩
    refine q_drop (ev_check (ev_var rfl) hw gw (by omega)) (fun H1 e1 => ?_)
    refine q_drop (ev_check (ev_var rfl) (hv.mono e1) gv (by omega)) (fun H2 e2 => ?_)
    have e12 := e1.trans e2
    refine q_drop (ev_count (m := (w.length : Int) + (v.length : Int)) (ev_op (ev_wlen (K := K) (ev_var rfl) (hw.mono e12)) (ev_wlen (K := K) (ev_var rfl) (hv.mono e12)) rv_I0) (by omega)) (fun H3 e3 => ?_)
    have e13 := e12.trans e3
    refine q_asg (v := ni w.length) (ev_wlen (K := K) (ev_var rfl) (hw.mono e13)) (fun H4 e4 => ?_)
    have e14 := e13.trans e4
    have hw4 := hw.mono e14
    have hv4 := hv.mono e14
    refine s_retR (er_catWW (P := fun u => u = w) (Q := fun u => u = v.map fun r => r.map (· + w.length)) (er_weak (er_lcWL (K := K) (xs := ps.map V.ref) (fun i => nl (row w i)) (ev_var rfl) hw4.seq (by rw [hw4.rlen]; omega) (fun x => rfl) (fun i x H5 e5 hx => ?_)) (fun x G0 G1 a0 a1 r => ?_)) (fun G g0 => er_weak (er_lcWL (K := K) (xs := qs.map V.ref) (fun i => nl ((row v i).map (· + w.length))) (ev_var rfl) (hv4.mono g0).seq (by rw [hv4.rlen]; omega) (fun x => rfl) (fun i x H5 e5 hx => ?_)) (fun x G0 G1 a0 a1 r => ?_)) (fun w1 v1 h1 h2 => by rw [h1, h2, List.length_map]; omega)) (fun x H5 e5 r5 => ?_)
    · have il : i < w.length := by
        have := (List.getElem?_eq_some_iff.mp hx).1
        rw [hw4.rlen] at this; exact this
      obtain ⟨p, hp, hpr, hrow⟩ := web_row (K := K) (hw4.mono e5) il
      rw [hpr] at hx; cases hx
      exact el_list (K := K) (ev_var rfl) (sq_of hrow)
    · refine (RRows.web r).to fun u hu => ?_
      rw [hu, hw4.rlen]
      refine web_ext (by rw [List.length_map, List.length_range]) fun i hi => ?_
      rw [List.length_map, List.length_range] at hi
      exact row_get (by rw [List.getElem?_map, List.getElem?_range hi]; rfl)
    · have il : i < v.length := by
        have := (List.getElem?_eq_some_iff.mp hx).1
        rw [hv4.rlen] at this; exact this
      obtain ⟨p, hp, hpr, hrow⟩ := web_row (K := K) ((hv4.mono g0).mono e5) il
      rw [hpr] at hx; cases hx
      have rl := good_len gv (row_at il)
      refine el_is (el_lcL (K := K) (xs := nl (row v i)) (fun _ => true) (fun k => ni ((fun n => n + w.length) ((row v i).getD k 0))) (ev_var rfl) (sq_of hrow) (by rw [nl_len]; omega) (fun x => rfl) (fun k x H1 e1 hx => et_yes) (fun k x H6 e6 hx _ => ?_)) (by rw [nl_len, given_nl (row v i) (fun n => n + w.length)])
      obtain ⟨n, hn, rfl⟩ := nl_of_get hx
      rw [getD_of hn]
      exact ev_op (ev_var rfl) (ev_var rfl) rv_I0
    · refine (RRows.web r).to fun u hu => ?_
      rw [hu, hv4.rlen]
      refine web_ext (by rw [List.length_map, List.length_range, List.length_map]) fun i hi => ?_
      rw [List.length_map, List.length_range] at hi
      have h1 : row ((List.range v.length).map fun i => (row v i).map (· + w.length)) i = (row v i).map (· + w.length) := row_get (by rw [List.getElem?_map, List.getElem?_range hi]; rfl)
      have h2 : row (v.map fun r => r.map (· + w.length)) i = (row v i).map (· + w.length) := row_get (by rw [List.getElem?_map, row_at hi]; rfl)
      exact h1.trans h2.symm
    · refine q _ _ (e14.trans e5) ((r5.back e14).to fun u hu => ?_)
      obtain ⟨w1, w2, rfl, rfl, rfl⟩ := hu
      rfl
theorem er_joined {σ : L2.St} {H : Hp} {ta tb : TE} {a b : Addr} {ps qs : List Addr} {w v : List (List Nat)} {E : XK} (ha : Ev ta σ H (.ref a)) (hb : Ev tb σ H (.ref b)) (hw : WebAt H a ps w) (hv : WebAt H b qs v) (gw : GoodWeb w) (gv : GoodWeb v) (hl : w.length + v.length ≤ 200) : EvR (tCall spJoined [] E (tCons ta (tCons tb tNil))) σ H (RW (fun u => u = joinW w v)) :=
  er_call (ea_cons ha (ea_cons hb ea_nil)) (fun H1 e Q q => ⟨a, b, ps, qs, w, v, rfl, hw.mono e, hv.mono e, gw, gv, hl, q⟩) fun v H0 H1 H2 e h => h.back e
/-! ### paired, whatever the webs -/
def pairB (w v : List (List Nat)) (i k : Nat) : List Nat := (row w i).map fun n => n * v.length + k
def pairT (w v : List (List Nat)) (i k t : Nat) : List Nat := pairB w v i k ++ (((row v k).take t).filter fun b => !decide (i * v.length + b ∈ pairB w v i k)).map fun b => i * v.length + b
theorem pairT_succ {w v : List (List Nat)} {i k t n : Nat} (hn : (row v k)[t]? = some n) : pairT w v i k (t + 1) = if i * v.length + n ∈ pairB w v i k then pairT w v i k t else pairT w v i k t ++ [i * v.length + n] := by
  unfold pairT
  rw [List.take_add_one, hn]
  show _ ++ List.map _ (List.filter _ (_ ++ [n])) = _
  rw [List.filter_append, List.map_append]
  by_cases h : i * v.length + n ∈ pairB w v i k
  · rw [if_pos h, List.filter_cons, decide_eq_true h]
    show _ ++ (_ ++ List.map _ (if false = true then _ else List.filter _ [])) = _
    rw [if_neg Bool.false_ne_true, List.filter_nil, List.map_nil, List.append_nil]
  · rw [if_neg h, List.filter_cons, decide_eq_false h]
    show _ ++ (_ ++ List.map _ (if true = true then _ else _)) = _
    rw [if_pos rfl, List.append_assoc]; rfl
theorem pairT_mem {w v : List (List Nat)} {i k t n : Nat} (nd : (row v k).Nodup) (hn : (row v k)[t]? = some n) : i * v.length + n ∈ pairT w v i k t ↔ i * v.length + n ∈ pairB w v i k := by
  unfold pairT
  refine ⟨fun h => (List.mem_append.mp h).elim id fun z => ?_, fun h => List.mem_append_left _ h⟩
  obtain ⟨b, hb, e⟩ := List.mem_map.mp z
  have hb' := (List.mem_filter.mp hb).1
  have eb : b = n := by omega
  subst eb
  obtain ⟨j, hj, ej⟩ := List.getElem_of_mem hb'
  have jt : j < t := by rw [List.length_take] at hj; omega
  have : (row v k)[j]? = some b := by rw [← List.getElem?_take_of_lt jt, List.getElem?_eq_getElem hj, ej]
  have := nd_at nd this hn
  omega
theorem pairT_len {w v : List (List Nat)} {i k t : Nat} : (pairT w v i k t).length ≤ (row w i).length + (row v k).length := by
  unfold pairT pairB
  rw [List.length_append, List.length_map, List.length_map]
  have h1 := List.length_filter_le (fun b => !decide (i * v.length + b ∈ (row w i).map fun n => n * v.length + k)) ((row v k).take t)
  rw [List.length_take] at h1
  omega
def spPMoves : Sp := fun vs H Q _ => ∃ (a b : Addr) (i k : Nat) (ps qs : List Addr) (w v : List (List Nat)), vs = [.ref a, .ref b, .int i, .int k] ∧ WebAt H a ps w ∧ WebAt H b qs v ∧ GoodWeb w ∧ GoodWeb v ∧ w.length ≤ 200 ∧ v.length ≤ 200 ∧ i < w.length ∧ k < v.length ∧ ∀ x H', Ex H H' → RL (fun r => r = pairT w v i k (row v k).length) x H H' → Q x H'
theorem ok_pmoves (T : Txt K mg) : FnOk P w K mg base CX0 1 T.dPairedMoves.f T.dPairedMoves.fd ["one", "other", "left", "right"] spPMoves := by
  refine T.dPairedMoves.F.ok scPairedMoves (fun vs H Q E h => ?_) (fun cdv A outer s H vs Q E hr h => ?_)
  · obtain ⟨a, b, i, k, ps, qs, w, v, rfl, _⟩ := h; rfl
  · obtain ⟨a, b, i, k, ps, qs, w, v, rfl, hw, hv, gw, gv, wl, vl, il, kl, q⟩ := h
    refine ⟨_, (pss_cons (ps_set (i := 4) scPairedMoves.nd rfl (.inr rfl) (pe_callB (id := "len") (lenK K) (by rfl) T.z_len (by decide +kernel) (pa_cons (pv 1) pa_nil))) (pss_cons (ps_setLc (i := 5) (own := [("move", 6)]) (g := gName 6) (by rfl) scPairedMoves.nd rfl rfl (sw_true rfl rfl rfl (by decide +kernel)) (piK K (pe_ix (ixK K) (pv 0) (pv 2) (fun _ _ => rfl))) (blkOk_by (own := [("move", 6)]) (N := nPairedMoves) (sc := defScope sPairedMoves) (by decide +kernel)) (fun _ _ _ _ _ => pg_name (i := 6) scPairedMoves.nd rfl (Or.inl rfl)) (fun _ _ _ _ _ => pts_nil) (fun _ _ _ _ _ => (pe_op op_add (pe_op op_mul (pv 6) (pv 4)) (pv 3)))) (pss_cons (ps_for PassesOwn.never rfl (piK K (pe_ix (ixK K) (pv 1) (pv 3) (fun _ _ => rfl))) (pg_name (i := 6) scPairedMoves.nd rfl (.inl rfl)) (pss_cons (ps_set (i := 7) scPairedMoves.nd rfl (.inl rfl) (pe_op op_add (pe_op op_mul (pv 2) (pv 4)) (pv 6))) (pss_one (ps_if (pt_cmpR (niK K) (pv 7) (pv 5) (by rfl)) (pss_one (ps_expr (pe_bm PySem.F.plainAttrs_list PySem.F.slot_list_append PySem.F.type_list_append mt_append (pv 5) (pa_cons (pv 7) pa_nil)))) pss_nil)))) (pss_one (ps_ret (pv 5)))))), ?_⟩
    refine q_asg (v := ni v.length) (ev_wlen (K := K) (ev_var rfl) hv) (fun H1 e1 => ?_)
    obtain ⟨p, hp, hpr, hrow⟩ := web_row (K := K) (hw.mono e1) il
    have rl := good_len gw (row_at il)
    refine q_asgL (el_is (el_lcL (xs := nl (row w i)) (fun _ => true) (fun j => ni ((fun n => n * v.length + k) ((row w i).getD j 0))) (ev_op (ev_var rfl) (ev_var rfl) (rv_ixL (hw.mono e1).seq (atI_nat hpr))) (sq_of hrow) (by rw [nl_len]; omega) (fun x => rfl) (fun j x H2 e2 hx => et_yes) (fun j x H2 e2 hx _ => ?_)) (by rw [nl_len, given_nl (row w i) (fun n => n * v.length + k)])) (fun m H2 n2 e2 h2 => ?_)
    · obtain ⟨n, hn, rfl⟩ := nl_of_get hx
      rw [getD_of hn]
      have nlt := gw.rlt (List.mem_of_getElem? hn)
      exact ev_op (ev_op (ev_var rfl) (ev_var rfl) (rv_I (.inl (by constructor <;> omega)))) (ev_var rfl) rv_I0
    have e12 := e1.trans e2
    obtain ⟨p2, hp2, hpr2, hrow2⟩ := web_row (K := K) (hv.mono e12) kl
    have hrow0 : H p2 = some (.lst (nl (row v k))) := by
      obtain ⟨p', hp', _, h'⟩ := web_row (K := K) hv kl
      rw [hp2] at hp'; cases hp'; exact h'
    have rl2 := good_len gv (row_at kl)
    have nm : H m = none := fresh_back e1 n2
    refine q_forLn (ev_op (ev_var rfl) (ev_var rfl) (rv_ixL (hv.mono e12).seq (atI_nat hpr2))) (sq_of hrow2) (fun t σ H' => ∃ y6 y7, σ = [some (.ref a), some (.ref b), some (ni i), some (ni k), some (ni v.length), some (.ref m), y6, y7] ∧ Ex H H' ∧ H' m = some (.lst (nl (pairT w v i k t)))) (fun H3 e3 => ⟨_, _, rfl, e12.trans e3, by unfold pairT pairB; rw [List.take_zero, List.filter_nil, List.map_nil, List.append_nil]; exact e3 _ _ h2⟩) (fun t σ' H' _ hI => ?_) (fun t x σ' H' hx hI => ?_) (fun σ' H' hI => ?_)
    · obtain ⟨y6, y7, rfl, ex, _⟩ := hI
      exact sq_of (ex _ _ hrow0)
    · obtain ⟨y6, y7, rfl, ex, hm⟩ := hI
      obtain ⟨n, hn, rfl⟩ := nl_of_get hx
      have nlt := gv.rlt (List.mem_of_getElem? hn)
      refine q_asg (v := ni (i * v.length + n)) (ev_op (ev_op (ev_var rfl) (ev_var rfl) (rv_I (.inl (by constructor <;> omega)))) (ev_var rfl) rv_I0) (fun H3 e3 => ?_)
      have mi := pairT_mem (w := w) (i := i) (gv.rnd k) hn
      have ms := pairT_succ (w := w) (i := i) hn
      have tl := pairT_len (w := w) (v := v) (i := i) (k := k) (t := t)
      refine s_when (b := !decide (i * v.length + n ∈ pairT w v i k t)) (et_test (ev_op (ev_var rfl) (ev_var rfl) (rv_niN (sq_of (e3 _ _ hm))))) (fun hb H4 e4 => ?_) (fun hb H4 e4 => ?_)
      · have hno : i * v.length + n ∉ pairT w v i k t := by simpa using hb
        refine s_app (e4 _ _ (e3 _ _ hm)) (ev_var rfl) (ev_var rfl) (by rw [nl_len]; omega) (fun H5 e5 => ⟨_, _, rfl, (ex.trans (e3.trans (e4.trans e5))).mut nm, ?_⟩)
        rw [upd_same, ms, if_neg (fun z => hno (mi.mpr z))]
        exact congrArg (fun x => some (HO.lst x)) (nl_app _ [i * v.length + n]).symm
      · have hyes : i * v.length + n ∈ pairT w v i k t := by simpa using hb
        refine ⟨_, _, rfl, ex.trans (e3.trans e4), ?_⟩
        rw [ms, if_pos (mi.mp hyes)]
        exact e4 _ _ (e3 _ _ hm)
    · obtain ⟨y6, y7, rfl, ex, hm⟩ := hI
      rw [nl_len] at hm
      exact s_ret (ev_var rfl) (fun H5 e5 => q _ _ (ex.trans e5) ⟨m, _, rfl, nm, e5 _ _ hm, rfl⟩)
def spPaired : Sp := fun vs H Q _ => ∃ (a b : Addr) (ps qs : List Addr) (w v : List (List Nat)), vs = [.ref a, .ref b] ∧ WebAt H a ps w ∧ WebAt H b qs v ∧ GoodWeb w ∧ GoodWeb v ∧ w.length ≤ 200 ∧ v.length ≤ 200 ∧ w.length * v.length ≤ 200 ∧ ∀ x H', Ex H H' → Q x H'
theorem ok_paired (T : Txt K mg) : FnOk P w K mg base CX0 5 T.dPairedWeb.f T.dPairedWeb.fd ["one", "other"] spPaired := by
  have GCheckWeb : FnOk P w K mg base CX0 _ T.dCheckWeb.f T.dCheckWeb.fd _ spCheck := ok_check T
  have GCheckCount : FnOk P w K mg base CX0 _ T.dCheckCount.f T.dCheckCount.fd _ spCount := ok_count T
  have GPairedMoves : FnOk P w K mg base CX0 _ T.dPairedMoves.f T.dPairedMoves.fd _ spPMoves := ok_pmoves T
  refine T.dPairedWeb.F.ok scPairedWeb (fun vs H Q E h => ?_) (fun cdv A outer s H vs Q E hr h => ?_)
  · obtain ⟨a, b, ps, qs, w, v, rfl, _⟩ := h; rfl
  · obtain ⟨a, b, ps, qs, w, v, rfl, hw, hv, gw, gv, wl, vl, prod, q⟩ := h
    refine ⟨_, (pss_cons (ps_expr (pe_call GCheckWeb (hr.mono (by decide)) (by rfl) T.dCheckWeb.g T.dCheckWeb.F.kp T.dCheckWeb.b .nil pass0 (pa_cons (pv 0) pa_nil))) (pss_cons (ps_expr (pe_call GCheckWeb (hr.mono (by decide)) (by rfl) T.dCheckWeb.g T.dCheckWeb.F.kp T.dCheckWeb.b .nil pass0 (pa_cons (pv 1) pa_nil))) (pss_cons (ps_expr (pe_call GCheckCount (hr.mono (by decide)) (by rfl) T.dCheckCount.g T.dCheckCount.F.kp T.dCheckCount.b .nil pass0 (pa_cons (pe_op op_mul (pe_callB (id := "len") (lenK K) (by rfl) T.z_len (by decide +kernel) (pa_cons (pv 0) pa_nil)) (pe_callB (id := "len") (lenK K) (by rfl) T.z_len (by decide +kernel) (pa_cons (pv 1) pa_nil))) pa_nil))) (pss_one (ps_ret (pe_lc2 (own := [("left", 2), ("right", 3)]) (vs1 := [3]) (g := gName 2) (g1 := gName 3) (by rfl) scPairedWeb.nd (pi_range1 (by rfl) T.z_range (pa_cons (pe_callB (id := "len") (lenK K) (by rfl) T.z_len (by decide +kernel) (pa_cons (pv 0) pa_nil)) pa_nil)) (blkOk_by (own := [("left", 2), ("right", 3)]) (N := nPairedWeb) (sc := defScope sPairedWeb) (by decide +kernel)) (by decide) (fun _ _ _ _ _ => pg_name (i := 2) scPairedWeb.nd rfl (Or.inl rfl)) (fun _ _ _ _ _ => pts_nil) (fun _ _ _ _ _ => (pi_range1 (by rfl) T.z_range (pa_cons (pe_callB (id := "len") (lenK K) (by rfl) T.z_len (by decide +kernel) (pa_cons (pv 1) pa_nil)) pa_nil))) (fun _ _ _ _ _ => pg_name (i := 3) scPairedWeb.nd rfl (Or.inl rfl)) (fun _ _ _ _ _ => pts_nil) (fun _ _ _ _ _ => (pe_call GPairedMoves (hr.mono (by decide)) (by rfl) T.dPairedMoves.g T.dPairedMoves.F.kp T.dPairedMoves.b .nil pass0 (pa_cons (pv 0) (pa_cons (pv 1) (pa_cons (pv 2) (pa_cons (pv 3) pa_nil)))))))))))), ?_⟩
    refine q_drop (ev_check (ev_var rfl) hw gw (by omega)) (fun H1 e1 => ?_)
    refine q_drop (ev_check (ev_var rfl) (hv.mono e1) gv (by omega)) (fun H2 e2 => ?_)
    have e12 := e1.trans e2
    refine q_drop (ev_count (m := (w.length : Int) * (v.length : Int)) (ev_op (ev_wlen (K := K) (ev_var rfl) (hw.mono e12)) (ev_wlen (K := K) (ev_var rfl) (hv.mono e12)) (rv_I (.inl (by constructor <;> omega)))) (by
      have : ((w.length * v.length : Nat) : Int) = (w.length : Int) * (v.length : Int) := Int.natCast_mul _ _
      omega)) (fun H3 e3 => ?_)
    have e13 := e12.trans e3
    have hw3 := hw.mono e13
    have hv3 := hv.mono e13
    refine s_retR (er_lc2 (xs := nl (List.range w.length)) (fun i => nl (List.range v.length)) (fun i k => .lst (nl (pairT w v i k (row v k).length))) (ei_rng (ea_cons (ev_wlen (K := K) (ev_var rfl) hw3) ea_nil) (by omega)) (by rw [nl_len, List.length_range]; omega) (fun i hi => by rw [nl_len, List.length_range]; omega) (fun i x H4 e4 hx => ei2_rng (ea_cons (ev_wlen (K := K) (ev_var rfl) (hv3.mono e4)) ea_nil) (by omega)) (fun x => rfl) (fun x y => rfl) (fun i k x y H4 e4 hx hy => ?_)) (fun x H4 e4 r4 => q _ _ (e13.trans e4))
    obtain ⟨i', hi', rfl⟩ := nl_of_get hx
    have il : i < w.length := by
      have := (List.getElem?_eq_some_iff.mp hi').1
      rwa [List.length_range] at this
    rw [List.getElem?_range il] at hi'
    cases hi'
    obtain ⟨k', hk', rfl⟩ := nl_of_get hy
    have kl : k < v.length := by
      have := (List.getElem?_eq_some_iff.mp hk').1
      rwa [List.length_range] at this
    rw [List.getElem?_range kl] at hk'
    cases hk'
    exact fun H5 e5 Q q => er_call (σ := [some (.ref a), some (.ref b), some (ni i), some (ni k)]) (R := RL (fun r => r = pairT w v i k (row v k).length)) (ea_cons (ev_var rfl) (ea_cons (ev_var rfl) (ea_cons (ev_var rfl) (ea_cons (ev_var rfl) ea_nil)))) (fun H6 e6 Q q => ⟨a, b, i, k, ps, qs, w, v, rfl, hw3.mono (e4.trans e6), hv3.mono (e4.trans e6), gw, gv, wl, vl, il, kl, q⟩) (fun v H0 H1 H2 e h => h.back e) H5 e5 Q fun v H6 e6 r6 => by
      obtain ⟨z, l, rfl, hz, hl, rfl⟩ := r6
      exact q z H6 hz e6 hl
end
end KX
set_option Elab.async false
set_option linter.all false
set_option maxRecDepth 100000
set_option maxHeartbeats 4000000
namespace KX
open PySem PySem.Spec PyProof.Rows L2 Evl RZ Sg
section
variable {P : Program} {w : World} {K : PySem.W.Frag} {mg : Str → Option Value} {base : Heap}

/-! ### what is no web -/
/-- no place among m -/
def PlaceNo (K : PySem.W.Frag) (H : Hp) (x : V) (m : Int) : Prop := (∃ z : Int, x = .int z ∧ (decide (0 ≤ z) && decide (z < m)) = false) ∨ ∃ T, T ≠ "int" ∧ ∀ H', Ex H H' → TyB K H' x T
theorem PlaceNo.mono {K : PySem.W.Frag} {H H1 : Hp} {x : V} {m : Int} (h : PlaceNo K H x m) (e : Ex H H1) : PlaceNo K H1 x m := h.imp id fun ⟨T, h1, h2⟩ => ⟨T, h1, fun H' e' => h2 H' (e.trans e')⟩
theorem ev_placeN {σ : L2.St} {H : Hp} {ta tb : TE} {x : V} {m : Int} {E : XK} (ha : Ev ta σ H x) (hb : Ev tb σ H (.int m)) (h : PlaceNo K H x m) : Ev (tCall (spPlace K) [] E (tCons ta (tCons tb tNil))) σ H (.bl false) := by
  rcases h with ⟨z, rfl, hz⟩ | ⟨T, hT, hty⟩
  · exact ev_is (ev_place ha hb) (by rw [hz])
  · exact ev_placeNo ha hb hT hty
def AnyTy (K : PySem.W.Frag) (H : Hp) (x : V) (T : String) : Prop := ∀ H', Ex H H' → TyB K H' x T
inductive SpotIs (K : PySem.W.Frag) (H : Hp) (m : Nat) : V → Bool → Prop where
  | no {x : V} {T : String} (h : T ≠ "list") (ht : AnyTy K H x T) : SpotIs K H m x false
  | bad {a : Addr} {xs : List V} {i : Nat} {x : V} (h : H a = some (.lst xs)) (hx : xs[i]? = some x) (pl : ∀ j, j < i → ∃ n : Nat, xs[j]? = some (ni n) ∧ n < m) (no : PlaceNo K H x m) : SpotIs K H m (.ref a) false
  | nums {a : Addr} {r : List Nat} (h : H a = some (.lst (nl r))) (lt : ∀ x ∈ r, x < m) (hl : r.length ≤ 4000) {b : Bool} (hb : b = decide r.Nodup) : SpotIs K H m (.ref a) b
theorem SpotIs.mono {H H1 : Hp} {m : Nat} {x : V} {b : Bool} (h : SpotIs K H m x b) (e : Ex H H1) : SpotIs K H1 m x b := by
  cases h with
  | no h ht => exact .no h fun H' e' => ht H' (e.trans e')
  | bad h hx pl no => exact .bad (e _ _ h) hx pl (no.mono e)
  | nums h lt hl hb => exact .nums (e _ _ h) lt hl hb
theorem nd_int (r : List Nat) : decide (r.map fun n : Nat => (n : Int)).Nodup = decide r.Nodup := by
  refine decide_eq_decide.mpr ⟨fun h => ?_, fun h => h.map _ fun _ _ hne z => hne (Int.ofNat_inj.mp z)⟩
  exact List.Pairwise.of_map (fun n : Nat => (n : Int)) (fun a b hne z => hne (by rw [z])) h
def spSpotU (K : PySem.W.Frag) : Sp := fun vs H Q _ => ∃ (x : V) (m : Nat) (b : Bool), vs = [x, .int m] ∧ SpotIs K H m x b ∧ ∀ H', Ex H H' → Q (.bl b) H'
theorem ok_spotU (T : Txt K mg) : FnOk P w K mg base CX0 2 T.dIsSpot.f T.dIsSpot.fd ["thing", "many"] (spSpotU K) := by
  have GIsPlace : FnOk P w K mg base CX0 _ T.dIsPlace.f T.dIsPlace.fd _ (spPlace K) := ok_place T
  refine T.dIsSpot.F.ok scIsSpot (fun vs H Q E h => ?_) (fun cdv A outer s H vs Q E hr h => ?_)
  · obtain ⟨x, m, b, rfl, _⟩ := h; rfl
  · obtain ⟨x, m, b, rfl, hp, q⟩ := h
    refine ⟨_, (pss_cons (ps_if (pt_cmpR op_notTyB (pe_callTy (T := "type") (typK K) (by rfl) T.z_type (by decide +kernel) (pa_cons (pv 0) pa_nil)) (pe_bltn (v := .ty "list") (by rfl) T.z_list (by decide +kernel) rfl) (nomark _)) (pss_one (ps_ret pe_bl)) pss_nil) (pss_cons (ps_for PassesOwn.never rfl (piK K (pv 0)) (pg_name (i := 2) scIsSpot.nd rfl (.inl rfl)) (pss_one (ps_if (pt_not (pt_val (pe_call GIsPlace (hr.mono (by decide)) (by rfl) T.dIsPlace.g T.dIsPlace.F.kp T.dIsPlace.b .nil pass0 (pa_cons (pv 2) (pa_cons (pv 1) pa_nil))))) (pss_one (ps_ret pe_bl)) pss_nil))) (pss_one (ps_ret (pe_cmpR op_eq (lenSetXK K (by rfl) T.z_len (by rfl) T.z_set (pv 0)) (pe_callB (id := "len") (lenK K) (by rfl) T.z_len (by decide +kernel) (pa_cons (pv 0) pa_nil)) (nomark _)))))), ?_⟩
    cases hp with
    | @no x ty hne ht =>
      exact q_when (b := true) (et_test (ev_is (ev_op (ev_type (T := ty) (ev_var rfl) (fun H1 e => ht H1 e)) ev_c rv_notTy) (by simp [hne]))) (fun _ H1 e1 => s_ret ev_c (fun H2 e2 => q H2 (e1.trans e2))) (fun hb => nomatch hb)
    | @bad a xs i x hp hx pl no =>
      refine q_when (b := false) (et_test (ev_is (ev_op (ev_type (T := "list") (ev_var rfl) (fun H1 e => .lst (sq_of (e _ _ hp)))) ev_c rv_notTy) (by simp))) (fun hb => nomatch hb) (fun _ H1 e1 => ?_)
      refine q_forLn (ev_var rfl) (sq_of (e1 _ _ hp)) (fun j σ H' => j ≤ i ∧ ∃ y, σ = [some (.ref a), some (.int m), y] ∧ Ex H H') (fun H2 e2 => ⟨Nat.zero_le _, none, rfl, e1.trans e2⟩) (fun j σ' H' _ hI => ?_) (fun j z σ' H' hz hI => ?_) (fun σ' H' hI => ?_)
      · obtain ⟨_, y, rfl, ex⟩ := hI
        exact sq_of (ex _ _ hp)
      · obtain ⟨ji, y, rfl, ex⟩ := hI
        by_cases je : j = i
        · subst je
          rw [hx] at hz; cases hz
          exact s_when (b := true) (et_not (et_B (ev_placeN (ev_var rfl) (ev_var rfl) (no.mono ex)))) (fun _ H3 e3 => s_ret ev_c (fun H4 e4 => q H4 (ex.trans (e3.trans e4)))) (fun hb => nomatch hb)
        · obtain ⟨n, hn, nm⟩ := pl j (by omega)
          rw [hn] at hz; cases hz
          refine s_when (b := false) (et_is (et_not (et_B (ev_place (z := (n : Int)) (m := (m : Int)) (ev_var rfl) (ev_var rfl)))) (by
            rw [decide_eq_true (show (0 : Int) ≤ (n : Int) by omega), decide_eq_true (show (n : Int) < (m : Int) by omega)]
            simp)) (fun hb => nomatch hb) (fun _ H3 e3 => ⟨by omega, _, rfl, ex.trans e3⟩)
      · obtain ⟨ji, _⟩ := hI
        have := (List.getElem?_eq_some_iff.mp hx).1
        omega
    | @nums a r hp hb hl b hbd =>
      refine q_when (b := false) (et_test (ev_is (ev_op (ev_type (T := "list") (ev_var rfl) (fun H1 e => .lst (sq_of (e _ _ hp)))) ev_c rv_notTy) (by simp))) (fun hb => nomatch hb) (fun _ H1 e1 => ?_)
      refine q_forLn (ev_var rfl) (sq_of (e1 _ _ hp)) (fun i σ H' => ∃ y, σ = [some (.ref a), some (.int m), y] ∧ Ex H H') (fun H2 e2 => ⟨none, rfl, e1.trans e2⟩) (fun i σ' H' _ hI => ?_) (fun i x σ' H' hx hI => ?_) (fun σ' H' hI => ?_)
      · obtain ⟨y, rfl, ex⟩ := hI
        exact sq_of (ex _ _ hp)
      · obtain ⟨y, rfl, ex⟩ := hI
        obtain ⟨v, hv, rfl⟩ := nl_of_get hx
        have hvm := hb v (List.mem_of_getElem? hv)
        refine s_when (b := false) (et_is (et_not (et_B (ev_place (z := (v : Int)) (m := (m : Int)) (ev_var rfl) (ev_var rfl)))) (by
          rw [decide_eq_true (show (0 : Int) ≤ (v : Int) by omega), decide_eq_true (show (v : Int) < (m : Int) by omega)]
          simp)) (fun hb => nomatch hb) (fun _ H3 e3 => ⟨_, rfl, ex.trans e3⟩)
      · obtain ⟨y, rfl, ex⟩ := hI
        have hs := sq_of (K := K) (ex _ _ hp)
        rw [nl_int] at hs
        refine s_ret (ev_is (ev_lenSetEq (ns := r.map fun n : Nat => (n : Int)) (ev_var rfl) hs (by rw [List.length_map]; exact hl) (ev_is (ev_len (ev_var rfl) hs) (by rw [List.length_map, List.length_map]))) ?_) (fun H3 e3 => q H3 (ex.trans e3))
        rw [nd_int, hbd]
theorem ev_spotU {σ : L2.St} {H : Hp} {ta tb : TE} {x : V} {m : Nat} {b : Bool} {E : XK} (ha : Ev ta σ H x) (hb : Ev tb σ H (.int m)) (hp : SpotIs K H m x b) : Ev (tCall (spSpotU K) [] E (tCons ta (tCons tb tNil))) σ H (.bl b) :=
  ev_call (ea_cons ha (ea_cons hb ea_nil)) fun H1 e Q q E => ⟨x, m, b, rfl, hp.mono e, q⟩
/-- what is no web -/
inductive WebNo (K : PySem.W.Frag) (H : Hp) : V → Prop where
  | no {x : V} {T : String} (h : T ≠ "list") (ht : AnyTy K H x T) : WebNo K H x
  | len {a : Addr} {xs : List V} (h : H a = some (.lst xs)) (hl : ¬ (1 ≤ xs.length ∧ xs.length ≤ 200)) : WebNo K H (.ref a)
  | bad {a : Addr} {xs : List V} {i : Nat} {x : V} (h : H a = some (.lst xs)) (hl : 1 ≤ xs.length ∧ xs.length ≤ 200) (hx : xs[i]? = some x) (pl : ∀ j y, j < i → xs[j]? = some y → SpotIs K H xs.length y true) (no : SpotIs K H xs.length x false) : WebNo K H (.ref a)
theorem WebNo.mono {H H1 : Hp} {x : V} (h : WebNo K H x) (e : Ex H H1) : WebNo K H1 x := by
  cases h with
  | no h ht => exact .no h fun H' e' => ht H' (e.trans e')
  | len h hl => exact .len (e _ _ h) hl
  | bad h hl hx pl no => exact .bad (e _ _ h) hl hx (fun j y h1 h2 => (pl j y h1 h2).mono e) (no.mono e)
def spIsWebN (K : PySem.W.Frag) : Sp := fun vs H Q _ => ∃ (x : V), vs = [x] ∧ WebNo K H x ∧ ∀ H', Ex H H' → Q (.bl false) H'
theorem ok_isWebN (T : Txt K mg) : FnOk P w K mg base CX0 3 T.dIsWeb.f T.dIsWeb.fd ["thing"] (spIsWebN K) := by
  have GIsSpot : FnOk P w K mg base CX0 _ T.dIsSpot.f T.dIsSpot.fd _ (spSpotU K) := ok_spotU T
  refine T.dIsWeb.F.ok scIsWeb (fun vs H Q E h => ?_) (fun cdv A outer s H vs Q E hr h => ?_)
  · obtain ⟨x, rfl, _⟩ := h; rfl
  · obtain ⟨x, rfl, hp, q⟩ := h
    refine ⟨_, (pss_cons (ps_if (PW.pt (pw_or (pt_cmpR op_notTyB (pe_callTy (T := "type") (typK K) (by rfl) T.z_type (by decide +kernel) (pa_cons (pv 0) pa_nil)) (pe_bltn (v := .ty "list") (by rfl) T.z_list (by decide +kernel) rfl) (nomark _)) (pw_or1 (pt_not (pt_chain op_le op_le pe_int (pe_callB (id := "len") (lenK K) (by rfl) T.z_len (by decide +kernel) (pa_cons (pv 0) pa_nil)) (pe_glob (v := .int 200) (by rfl) T.gMOSTSPOTS ⟨_, rfl⟩)))))) (pss_one (ps_ret pe_bl)) pss_nil) (pss_cons (ps_for PassesOwn.never rfl (piK K (pv 0)) (pg_name (i := 1) scIsWeb.nd rfl (.inl rfl)) (pss_one (ps_if (pt_not (pt_val (pe_call GIsSpot (hr.mono (by decide)) (by rfl) T.dIsSpot.g T.dIsSpot.F.kp T.dIsSpot.b .nil pass0 (pa_cons (pv 1) (pa_cons (pe_callB (id := "len") (lenK K) (by rfl) T.z_len (by decide +kernel) (pa_cons (pv 0) pa_nil)) pa_nil))))) (pss_one (ps_ret pe_bl)) pss_nil))) (pss_one (ps_ret pe_bl)))), ?_⟩
    cases hp with
    | @no x ty hne ht =>
      exact q_when (b := true) (et_is (et_or (b := false) (et_test (ev_op (ev_type (T := ty) (ev_var rfl) (fun H1 e => ht H1 e)) ev_c rv_notTy)) (fun hb => absurd (by simpa using hb) hne)) (by simp [hne])) (fun _ H1 e1 => s_ret ev_c (fun H2 e2 => q H2 (e1.trans e2))) (fun hb => nomatch hb)
    | @len a xs hp hl =>
      refine q_when (b := true) (et_is (et_or (et_test (ev_op (ev_type (T := "list") (ev_var rfl) (fun H1 e => .lst (sq_of (e _ _ hp)))) ev_c rv_notTy)) (fun _ => et_not (et_test (ev_chain (a := decide ((1 : Int) ≤ (xs.length : Int))) (b := decide ((xs.length : Int) ≤ (200 : Int))) ev_c (ev_len (K := K) (ev_var rfl) (sq_of hp)) rv_I0 (fun _ => ⟨_, ev_c, rv_I0⟩))))) (by
        by_cases h1 : 1 ≤ xs.length
        · rw [decide_eq_false (show ¬ (xs.length : Int) ≤ (200 : Int) by omega)]
          simp
        · rw [decide_eq_false (show ¬ (1 : Int) ≤ (xs.length : Int) by omega)]
          simp)) (fun _ H1 e1 => s_ret ev_c (fun H2 e2 => q H2 (e1.trans e2))) (fun hb => nomatch hb)
    | @bad a xs i x hp hl hx pl no =>
      refine q_when (b := false) (et_is (et_or (et_test (ev_op (ev_type (T := "list") (ev_var rfl) (fun H1 e => .lst (sq_of (e _ _ hp)))) ev_c rv_notTy)) (fun _ => et_not (et_test (ev_chain (a := decide ((1 : Int) ≤ (xs.length : Int))) (b := decide ((xs.length : Int) ≤ (200 : Int))) ev_c (ev_len (K := K) (ev_var rfl) (sq_of hp)) rv_I0 (fun _ => ⟨_, ev_c, rv_I0⟩))))) (by
        rw [decide_eq_true (show (1 : Int) ≤ (xs.length : Int) by omega), decide_eq_true (show (xs.length : Int) ≤ (200 : Int) by omega)]
        simp)) (fun hb => nomatch hb) (fun _ H1 e1 => ?_)
      refine q_forLn (ev_var rfl) (sq_of (e1 _ _ hp)) (fun j σ H' => j ≤ i ∧ ∃ y, σ = [some (.ref a), y] ∧ Ex H H') (fun H2 e2 => ⟨Nat.zero_le _, none, rfl, e1.trans e2⟩) (fun j σ' H' _ hI => ?_) (fun j z σ' H' hz hI => ?_) (fun σ' H' hI => ?_)
      · obtain ⟨_, y, rfl, ex⟩ := hI
        exact sq_of (ex _ _ hp)
      · obtain ⟨ji, y, rfl, ex⟩ := hI
        by_cases je : j = i
        · subst je
          rw [hx] at hz; cases hz
          exact s_when (b := true) (et_not (et_B (ev_spotU (ev_var rfl) (ev_len (K := K) (ev_var rfl) (sq_of (ex _ _ hp))) (no.mono ex)))) (fun _ H3 e3 => s_ret ev_c (fun H4 e4 => q H4 (ex.trans (e3.trans e4)))) (fun hb => nomatch hb)
        · exact s_when (b := false) (et_not (et_B (ev_spotU (ev_var rfl) (ev_len (K := K) (ev_var rfl) (sq_of (ex _ _ hp))) ((pl j z (by omega) hz).mono ex)))) (fun hb => nomatch hb) (fun _ H3 e3 => ⟨by omega, _, rfl, ex.trans e3⟩)
      · obtain ⟨ji, _⟩ := hI
        have := (List.getElem?_eq_some_iff.mp hx).1
        omega
theorem ev_isWebN {σ : L2.St} {H : Hp} {ta : TE} {x : V} {E : XK} (ha : Ev ta σ H x) (hp : WebNo K H x) : Ev (tCall (spIsWebN K) [] E (tCons ta tNil)) σ H (.bl false) :=
  ev_call (ea_cons ha ea_nil) fun H1 e Q q E => ⟨x, rfl, hp.mono e, q⟩
def spCheckN (K : PySem.W.Frag) (C : Addr) : Sp := fun vs H _ E => ∃ (x : V), vs = [x] ∧ WebNo K H x ∧ ∀ H', Ex H H' → E (.ref C) none H'
theorem ok_checkN (T : Txt K mg) : FnOk P w K mg base (L2.CX P w) 4 T.dCheckWeb.f T.dCheckWeb.fd ["thing"] (spCheckN K T.cNoWeb) := by
  have GIsWeb : FnOk P w K mg base CX0 _ T.dIsWeb.f T.dIsWeb.fd _ (spIsWebN K) := ok_isWebN T
  refine T.dCheckWeb.F.okX scCheckWeb (fun vs H Q E h => ?_) (fun cdv A outer s H vs Q E hr h => ?_)
  · obtain ⟨x, rfl, _⟩ := h; rfl
  · obtain ⟨x, rfl, hp, q⟩ := h
    refine ⟨_, (pss_one (ps_if (pt_not (pt_val (pe_call GIsWeb (hr.mono (by decide)) (by rfl) T.dIsWeb.g T.dIsWeb.F.kp T.dIsWeb.b .nil pass0 (pa_cons (pv 0) pa_nil)))) (pss_one (ps_raise rfl (takes_of rfl rfl rfl rfl) (pmk_own PySem.F.excBase_ValueError T.xNoWeb.x T.gcNoWeb T.xNoWeb.k (raises_own T.xNoWeb.b T.xNoWeb.t) (by exact rfl)))) pss_nil)), ?_⟩
    exact s_when (b := true) (et_not (et_B (ev_isWebN (ev_var rfl) hp))) (fun _ H1 e1 => q H1 e1) (fun hb => nomatch hb)
theorem ok_ringN (T : Txt K mg) : FnOk P w K mg base (L2.CX P w) 5 T.dRingIn.f T.dRingIn.fd ["web"] (spCheckN K T.cNoWeb) := by
  have GCheckWebN : FnOk P w K mg base (L2.CX P w) _ T.dCheckWeb.f T.dCheckWeb.fd _ (spCheckN K T.cNoWeb) := ok_checkN T
  refine T.dRingIn.F.okX scRingIn (fun vs H Q E h => ?_) (fun cdv A outer s H vs Q E hr h => ?_)
  · obtain ⟨x, rfl, _⟩ := h; rfl
  · obtain ⟨x, rfl, hp, q⟩ := h
    refine ⟨_, (pss_cons (ps_expr (pe_callS GCheckWebN (hr.mono (by decide)) (by rfl) T.dCheckWeb.g T.dCheckWeb.F.kp T.dCheckWeb.b (fun σ => passAt (takes_of rfl rfl rfl rfl) σ) (pa_cons (pv 0) pa_nil))) pss_never), ?_⟩
    exact q_rfDrop (rf_call (ea_cons (ev_var rfl) ea_nil) (fun H1 e1 Q' => ⟨x, rfl, hp.mono e1, fun H2 e2 => q H2 (e1.trans e2)⟩))
/-! ### what is no game -/
/-- at x is no web (C: NoWeb), or a web with a ring (C: Ringed) -/
def RefG (T : Txt K mg) (H : Hp) (x : V) (C : Addr) : Prop := (C = T.cNoWeb ∧ WebNo K H x) ∨ (C = T.cRinged ∧ ∃ a ps w, x = .ref a ∧ WebAt H a ps w ∧ GoodWeb w ∧ w.length ≤ 200 ∧ ¬ Acyc w)
theorem RefG.mono {T : Txt K mg} {H H1 : Hp} {x : V} {C : Addr} (h : RefG T H x C) (e : Ex H H1) : RefG T H1 x C :=
  h.imp (fun ⟨h1, h2⟩ => ⟨h1, h2.mono e⟩) (fun ⟨h1, a, ps, w, h2, h3, h4⟩ => ⟨h1, a, ps, w, h2, h3.mono e, h4⟩)
def spGameN (T : Txt K mg) : Sp := fun vs H _ E => ∃ (x : V) (C : Addr), vs = [x] ∧ RefG T H x C ∧ ∀ H', Ex H H' → E (.ref C) none H'
theorem ok_gameN (T : Txt K mg) : FnOk P w K mg base (L2.CX P w) 6 T.dCheckGame.f T.dCheckGame.fd ["thing"] (spGameN T) := by
  have GRingInU : FnOk P w K mg base (L2.CX P w) _ T.dRingIn.f T.dRingIn.fd _ (fun vs H Q E => spRing vs H Q E ∨ spCheckN K T.cNoWeb vs H Q E) := fnok_or (fnok_cx (ok_ring T)) (ok_ringN T)
  refine T.dCheckGame.F.okX scCheckGame (fun vs H Q E h => ?_) (fun cdv A outer s H vs Q E hr h => ?_)
  · obtain ⟨x, C, rfl, _⟩ := h; rfl
  · obtain ⟨x, C, rfl, hp, q⟩ := h
    refine ⟨_, (pss_one (ps_if (pt_cmpR op_notN (pe_callS GRingInU (hr.mono (by decide)) (by rfl) T.dRingIn.g T.dRingIn.F.kp T.dRingIn.b (fun σ => passAt (takes_of rfl rfl rfl rfl) σ) (pa_cons (pv 0) pa_nil)) pe_non (nomark _)) (pss_one (ps_raise rfl (takes_of rfl rfl rfl rfl) (pmk_own PySem.F.excBase_ValueError T.xRinged.x T.gcRinged T.xRinged.k (raises_own T.xRinged.b T.xRinged.t) (by exact rfl)))) pss_nil)), ?_⟩
    rcases hp with ⟨rfl, hp⟩ | ⟨rfl, a, ps, w, rfl, hw, gw, hl, nac⟩
    · exact s_rfIf (rf_test (rf_op1 (rf_call (ea_cons (ev_var rfl) ea_nil) (fun H1 e1 Q' => .inr ⟨x, rfl, hp.mono e1, fun H2 e2 => q H2 (e1.trans e2)⟩))))
    · refine s_when (b := true) (et_test (ev_opR1 (R := RL (IsRing w)) (er_callS (ea_cons (ev_var rfl) ea_nil) (fun H1 e1 Q' q' => .inl ⟨a, ps, w, rfl, hw.mono e1, gw, hl, fun v H2 e2 h => q' v H2 e2 (h.elim (fun z => absurd z.2 nac) id)⟩) (fun v H0 H1 H2 e h => h.back e)) (fun H1 e1 => ev_c) (fun v H0 H1 H2 e0 e1 r e2 => ?_))) (fun _ H1 e1 => q H1 e1) (fun hb => nomatch hb)
      obtain ⟨p, l, rfl, _⟩ := r
      exact rv_notN
theorem rf_game {T : Txt K mg} {σ : L2.St} {H : Hp} {ta : TE} {x : V} {C : Addr} {E : L2.St → XK} (ha : Ev ta σ H x) (hp : RefG T H x C) (q : ∀ H', Ex H H' → E σ (.ref C) none H') : Rf (tCallS (spGameN T) E (tCons ta tNil)) σ H :=
  rf_call (ea_cons ha ea_nil) fun H1 e1 Q => ⟨x, C, rfl, hp.mono e1, fun H2 e2 => q H2 (e1.trans e2)⟩
end
end KX
set_option Elab.async false
set_option linter.all false
set_option maxRecDepth 100000
set_option maxHeartbeats 4000000
namespace KX
open PySem PySem.Spec PyProof.Rows L2 Evl RZ Sg
section
variable {P : Program} {w : World} {K : PySem.W.Frag} {mg : Str → Option Value} {base : Heap}

/-! ### rows that are none -/
inductive RowNo (K : PySem.W.Frag) (H : Hp) (m : Nat) : V → Prop where
  | no {x : V} {T : String} (h : T ≠ "list") (ht : AnyTy K H x T) : RowNo K H m x
  | len {a : Addr} {xs : List V} (h : H a = some (.lst xs)) (hl : ¬ xs.length ≤ 24) : RowNo K H m (.ref a)
  | bad {a : Addr} {xs : List V} {i : Nat} {x : V} (h : H a = some (.lst xs)) (hl : xs.length ≤ 24) (hx : xs[i]? = some x) (pl : ∀ j, j < i → ∃ n : Nat, xs[j]? = some (ni n) ∧ n < m) (no : PlaceNo K H x m) : RowNo K H m (.ref a)
theorem RowNo.mono {H H1 : Hp} {m : Nat} {x : V} (h : RowNo K H m x) (e : Ex H H1) : RowNo K H1 m x := by
  cases h with
  | no h ht => exact .no h fun H' e' => ht H' (e.trans e')
  | len h hl => exact .len (e _ _ h) hl
  | bad h hl hx pl no => exact .bad (e _ _ h) hl hx pl (no.mono e)
def spIsRowN (K : PySem.W.Frag) : Sp := fun vs H Q _ => ∃ (a : Addr) (ps : List Addr) (w : List (List Nat)) (x : V), vs = [.ref a, x] ∧ WebAt H a ps w ∧ RowNo K H w.length x ∧ ∀ H', Ex H H' → Q (.bl false) H'
theorem ok_isRowN (T : Txt K mg) : FnOk P w K mg base CX0 2 T.dIsRow.f T.dIsRow.fd ["web", "thing"] (spIsRowN K) := by
  have GIsPlace : FnOk P w K mg base CX0 _ T.dIsPlace.f T.dIsPlace.fd _ (spPlace K) := ok_place T
  refine T.dIsRow.F.ok scIsRow (fun vs H Q E h => ?_) (fun cdv A outer s H vs Q E hr h => ?_)
  · obtain ⟨a, ps, w, x, rfl, _⟩ := h; rfl
  · obtain ⟨a, ps, w, x, rfl, hw, hp, q⟩ := h
    refine ⟨_, (pss_cons (ps_if (PW.pt (pw_or (pt_cmpR op_notTyB (pe_callTy (T := "type") (typK K) (by rfl) T.z_type (by decide +kernel) (pa_cons (pv 1) pa_nil)) (pe_bltn (v := .ty "list") (by rfl) T.z_list (by decide +kernel) rfl) (nomark _)) (pw_or1 (pt_cmpR op_gt (pe_callB (id := "len") (lenK K) (by rfl) T.z_len (by decide +kernel) (pa_cons (pv 1) pa_nil)) (pe_glob (v := .int 24) (by rfl) T.gMOSTGAMES ⟨_, rfl⟩) (nomark _))))) (pss_one (ps_ret pe_bl)) pss_nil) (pss_cons (ps_for PassesOwn.never rfl (piK K (pv 1)) (pg_name (i := 2) scIsRow.nd rfl (.inl rfl)) (pss_one (ps_if (pt_not (pt_val (pe_call GIsPlace (hr.mono (by decide)) (by rfl) T.dIsPlace.g T.dIsPlace.F.kp T.dIsPlace.b .nil pass0 (pa_cons (pv 2) (pa_cons (pe_callB (id := "len") (lenK K) (by rfl) T.z_len (by decide +kernel) (pa_cons (pv 0) pa_nil)) pa_nil))))) (pss_one (ps_ret pe_bl)) pss_nil))) (pss_one (ps_ret pe_bl)))), ?_⟩
    cases hp with
    | @no x ty hne ht =>
      exact q_when (b := true) (et_is (et_or (b := false) (et_test (ev_op (ev_type (T := ty) (ev_var rfl) (fun H1 e => ht H1 e)) ev_c rv_notTy)) (fun hb => absurd (by simpa using hb) hne)) (by simp [hne])) (fun _ H1 e1 => s_ret ev_c (fun H2 e2 => q H2 (e1.trans e2))) (fun hb => nomatch hb)
    | @len t xs hp hl =>
      exact q_when (b := true) (et_is (et_or (et_test (ev_op (ev_type (T := "list") (ev_var rfl) (fun H1 e => .lst (sq_of (e _ _ hp)))) ev_c rv_notTy)) (fun _ => et_test (ev_op (ev_len (K := K) (ev_var rfl) (sq_of hp)) ev_c rv_I0))) (by simp; omega)) (fun _ H1 e1 => s_ret ev_c (fun H2 e2 => q H2 (e1.trans e2))) (fun hb => nomatch hb)
    | @bad t xs i x hp hl hx pl no =>
      refine q_when (b := false) (et_is (et_or (et_test (ev_op (ev_type (T := "list") (ev_var rfl) (fun H1 e => .lst (sq_of (e _ _ hp)))) ev_c rv_notTy)) (fun _ => et_test (ev_op (ev_len (K := K) (ev_var rfl) (sq_of hp)) ev_c rv_I0))) (by simp; omega)) (fun hb => nomatch hb) (fun _ H1 e1 => ?_)
      refine q_forLn (ev_var rfl) (sq_of (e1 _ _ hp)) (fun j σ H' => j ≤ i ∧ ∃ y, σ = [some (.ref a), some (.ref t), y] ∧ Ex H H') (fun H2 e2 => ⟨Nat.zero_le _, none, rfl, e1.trans e2⟩) (fun j σ' H' _ hI => ?_) (fun j z σ' H' hz hI => ?_) (fun σ' H' hI => ?_)
      · obtain ⟨_, y, rfl, ex⟩ := hI
        exact sq_of (ex _ _ hp)
      · obtain ⟨ji, y, rfl, ex⟩ := hI
        by_cases je : j = i
        · subst je
          rw [hx] at hz; cases hz
          exact s_when (b := true) (et_not (et_B (ev_placeN (ev_var rfl) (ev_wlen (K := K) (ev_var rfl) (hw.mono ex)) (no.mono ex)))) (fun _ H3 e3 => s_ret ev_c (fun H4 e4 => q H4 (ex.trans (e3.trans e4)))) (fun hb => nomatch hb)
        · obtain ⟨n, hn, nm⟩ := pl j (by omega)
          rw [hn] at hz; cases hz
          refine s_when (b := false) (et_is (et_not (et_B (ev_place (z := (n : Int)) (m := (w.length : Int)) (ev_var rfl) (ev_wlen (K := K) (ev_var rfl) (hw.mono ex))))) (by
            rw [decide_eq_true (show (0 : Int) ≤ (n : Int) by omega), decide_eq_true (show (n : Int) < (w.length : Int) by omega)]
            simp)) (fun hb => nomatch hb) (fun _ H3 e3 => ⟨by omega, _, rfl, ex.trans e3⟩)
      · obtain ⟨ji, _⟩ := hI
        have := (List.getElem?_eq_some_iff.mp hx).1
        omega
theorem ev_isRowN {σ : L2.St} {H : Hp} {ta tb : TE} {a : Addr} {ps : List Addr} {w : List (List Nat)} {x : V} {E : XK} (ha : Ev ta σ H (.ref a)) (hb : Ev tb σ H x) (hw : WebAt H a ps w) (hp : RowNo K H w.length x) : Ev (tCall (spIsRowN K) [] E (tCons ta (tCons tb tNil))) σ H (.bl false) :=
  ev_call (ea_cons ha (ea_cons hb ea_nil)) fun H1 e Q q E => ⟨a, ps, w, x, rfl, hw.mono e, hp.mono e, q⟩
def spCheckRowN (K : PySem.W.Frag) (C : Addr) : Sp := fun vs H _ E => ∃ (a : Addr) (ps : List Addr) (w : List (List Nat)) (x : V), vs = [.ref a, x] ∧ WebAt H a ps w ∧ RowNo K H w.length x ∧ ∀ H', Ex H H' → E (.ref C) none H'
theorem ok_checkRowN (T : Txt K mg) : FnOk P w K mg base (L2.CX P w) 3 T.dCheckRow.f T.dCheckRow.fd ["web", "thing"] (spCheckRowN K T.cNoRow) := by
  have GIsRow : FnOk P w K mg base CX0 _ T.dIsRow.f T.dIsRow.fd _ (spIsRowN K) := ok_isRowN T
  refine T.dCheckRow.F.okX scCheckRow (fun vs H Q E h => ?_) (fun cdv A outer s H vs Q E hr h => ?_)
  · obtain ⟨a, ps, w, x, rfl, _⟩ := h; rfl
  · obtain ⟨a, ps, w, x, rfl, hw, hp, q⟩ := h
    refine ⟨_, (pss_one (ps_if (pt_not (pt_val (pe_call GIsRow (hr.mono (by decide)) (by rfl) T.dIsRow.g T.dIsRow.F.kp T.dIsRow.b .nil pass0 (pa_cons (pv 0) (pa_cons (pv 1) pa_nil))))) (pss_one (ps_raise rfl (takes_of rfl rfl rfl rfl) (SkE.pmk_own1 PySem.F.excBase_ValueError T.xNoRow.x T.gcNoRow T.xNoRow.k (raises_own T.xNoRow.b T.xNoRow.t) (by exact rfl) (pe_joined (.cons pe_str (.cons (pe_fmt (pe_glob (v := .int 24) (by rfl) T.gMOSTGAMES ⟨_, rfl⟩)) (.cons pe_str .nil))))))) pss_nil)), ?_⟩
    refine s_when (b := true) (et_not (et_B (ev_isRowN (ev_var rfl) (ev_var rfl) hw hp))) (fun _ H1 e1 => ?_) (fun hb => nomatch hb)
    exact ⟨_, rfl, by rw [sizeLine_eq]; decide +kernel, .inr ⟨24, rfl, by decide +kernel, _, rfl, by rw [sizeLine_eq]; decide +kernel, _, rfl, by rw [sizeLine_eq]; decide +kernel, q H1 e1⟩⟩
/-! ### what refuses a web, or a row -/
def RefR (T : Txt K mg) (H : Hp) (x y : V) (C : Addr) : Prop := RefG T H x C ∨ (C = T.cNoRow ∧ ∃ a ps w g, x = .ref a ∧ WebAt H a ps w ∧ Game w g ∧ RowNo K H w.length y)
theorem RefR.mono {T : Txt K mg} {H H1 : Hp} {x y : V} {C : Addr} (h : RefR T H x y C) (e : Ex H H1) : RefR T H1 x y C :=
  h.imp (fun h => h.mono e) (fun ⟨h1, a, ps, w, g, h2, h3, h4, h5⟩ => ⟨h1, a, ps, w, g, h2, h3.mono e, h4, h5.mono e⟩)
theorem ok_numsN (T : Txt K mg) : FnOk P w K mg base (L2.CX P w) 7 T.dNumbersOf.f T.dNumbersOf.fd ["web"] (spGameN T) := by
  have GCheckGameN : FnOk P w K mg base (L2.CX P w) _ T.dCheckGame.f T.dCheckGame.fd _ (spGameN T) := ok_gameN T
  refine T.dNumbersOf.F.okX scNumbersOf (fun vs H Q E h => ?_) (fun cdv A outer s H vs Q E hr h => ?_)
  · obtain ⟨x, C, rfl, _⟩ := h; rfl
  · obtain ⟨x, C, rfl, hp, q⟩ := h
    refine ⟨_, (pss_cons (ps_expr (pe_callS GCheckGameN (hr.mono (by decide)) (by rfl) T.dCheckGame.g T.dCheckGame.F.kp T.dCheckGame.b (fun σ => passAt (takes_of rfl rfl rfl rfl) σ) (pa_cons (pv 0) pa_nil))) pss_never), ?_⟩
    exact q_rfDrop (rf_game (ev_var rfl) hp q)
theorem ok_lensN (T : Txt K mg) : FnOk P w K mg base (L2.CX P w) 7 T.dLengthsOf.f T.dLengthsOf.fd ["web"] (spGameN T) := by
  have GCheckGameN : FnOk P w K mg base (L2.CX P w) _ T.dCheckGame.f T.dCheckGame.fd _ (spGameN T) := ok_gameN T
  refine T.dLengthsOf.F.okX scLengthsOf (fun vs H Q E h => ?_) (fun cdv A outer s H vs Q E hr h => ?_)
  · obtain ⟨x, C, rfl, _⟩ := h; rfl
  · obtain ⟨x, C, rfl, hp, q⟩ := h
    refine ⟨_, (pss_cons (ps_expr (pe_callS GCheckGameN (hr.mono (by decide)) (by rfl) T.dCheckGame.g T.dCheckGame.F.kp T.dCheckGame.b (fun σ => passAt (takes_of rfl rfl rfl rfl) σ) (pa_cons (pv 0) pa_nil))) pss_never), ?_⟩
    exact q_rfDrop (rf_game (ev_var rfl) hp q)
def spShownN (T : Txt K mg) : Sp := fun vs H _ E => ∃ (x y : V) (C : Addr), vs = [x, y] ∧ RefG T H x C ∧ ∀ H', Ex H H' → E (.ref C) none H'
theorem ok_shownN (T : Txt K mg) : FnOk P w K mg base (L2.CX P w) 8 T.dShownMoves.f T.dShownMoves.fd ["web", "spot"] (spShownN T) := by
  have GNumbersOfN : FnOk P w K mg base (L2.CX P w) _ T.dNumbersOf.f T.dNumbersOf.fd _ (spGameN T) := ok_numsN T
  refine T.dShownMoves.F.okX scShownMoves (fun vs H Q E h => ?_) (fun cdv A outer s H vs Q E hr h => ?_)
  · obtain ⟨x, y, C, rfl, _⟩ := h; rfl
  · obtain ⟨x, y, C, rfl, hp, q⟩ := h
    refine ⟨_, (pss_cons (ps_set (i := 2) scShownMoves.nd rfl (.inr rfl) (pe_callS GNumbersOfN (hr.mono (by decide)) (by rfl) T.dNumbersOf.g T.dNumbersOf.F.kp T.dNumbersOf.b (fun σ => passAt (takes_of rfl rfl rfl rfl) σ) (pa_cons (pv 0) pa_nil))) pss_never), ?_⟩
    exact q_rfAsg (rf_game (ev_var rfl) hp q)
def spRowN (T : Txt K mg) : Sp := fun vs H _ E => ∃ (x y : V) (C : Addr), vs = [x, y] ∧ RefR T H x y C ∧ ∀ H', Ex H H' → E (.ref C) none H'
theorem ok_movesN (T : Txt K mg) : FnOk P w K mg base (L2.CX P w) 7 T.dMovesIn.f T.dMovesIn.fd ["web", "row"] (spRowN T) := by
  have GCheckGameU : FnOk P w K mg base (L2.CX P w) _ T.dCheckGame.f T.dCheckGame.fd _ (fun vs H Q E => spGame vs H Q E ∨ spGameN T vs H Q E) := fnok_or (fnok_cx (ok_game T)) (ok_gameN T)
  have GCheckRowN : FnOk P w K mg base (L2.CX P w) _ T.dCheckRow.f T.dCheckRow.fd _ (spCheckRowN K T.cNoRow) := ok_checkRowN T
  refine T.dMovesIn.F.okX scMovesIn (fun vs H Q E h => ?_) (fun cdv A outer s H vs Q E hr h => ?_)
  · obtain ⟨x, y, C, rfl, _⟩ := h; rfl
  · obtain ⟨x, y, C, rfl, hp, q⟩ := h
    refine ⟨_, (pss_cons (ps_expr (pe_callS GCheckGameU (hr.mono (by decide)) (by rfl) T.dCheckGame.g T.dCheckGame.F.kp T.dCheckGame.b (fun σ => passAt (takes_of rfl rfl rfl rfl) σ) (pa_cons (pv 0) pa_nil))) (pss_cons (ps_expr (pe_callS GCheckRowN (hr.mono (by decide)) (by rfl) T.dCheckRow.g T.dCheckRow.F.kp T.dCheckRow.b (fun σ => passAt (takes_of rfl rfl rfl rfl) σ) (pa_cons (pv 0) (pa_cons (pv 1) pa_nil)))) pss_never)), ?_⟩
    rcases hp with hp | ⟨rfl, a, ps, w, g, rfl, hw, ga, rn⟩
    · exact q_rfDrop (rf_call (ea_cons (ev_var rfl) ea_nil) fun H1 e1 Q => .inr ⟨x, C, rfl, hp.mono e1, fun H2 e2 => q H2 (e1.trans e2)⟩)
    · refine q_drop (ev_callS (v := .non) (ea_cons (ev_var rfl) ea_nil) fun H1 e1 Q q' => .inl ⟨a, ps, w, rfl, hw.mono e1, ga.gw, ga.le, ga.ac, q'⟩) (fun H1 e1 => ?_)
      exact q_rfDrop (rf_call (ea_cons (ev_var rfl) (ea_cons (ev_var rfl) ea_nil)) fun H2 e2 Q => ⟨a, ps, w, y, rfl, hw.mono (e1.trans e2), rn.mono (e1.trans e2), fun H3 e3 => q H3 ((e1.trans e2).trans e3)⟩)
theorem ok_rowNumN (T : Txt K mg) : FnOk P w K mg base (L2.CX P w) 8 T.dRowNumber.f T.dRowNumber.fd ["web", "row"] (spRowN T) := by
  have GNumbersOfU : FnOk P w K mg base (L2.CX P w) _ T.dNumbersOf.f T.dNumbersOf.fd _ (fun vs H Q E => spNums vs H Q E ∨ spGameN T vs H Q E) := fnok_or (fnok_cx (ok_nums T)) (ok_numsN T)
  have GCheckRowN : FnOk P w K mg base (L2.CX P w) _ T.dCheckRow.f T.dCheckRow.fd _ (spCheckRowN K T.cNoRow) := ok_checkRowN T
  refine T.dRowNumber.F.okX scRowNumber (fun vs H Q E h => ?_) (fun cdv A outer s H vs Q E hr h => ?_)
  · obtain ⟨x, y, C, rfl, _⟩ := h; rfl
  · obtain ⟨x, y, C, rfl, hp, q⟩ := h
    refine ⟨_, (pss_cons (ps_set (i := 2) scRowNumber.nd rfl (.inr rfl) (pe_callS GNumbersOfU (hr.mono (by decide)) (by rfl) T.dNumbersOf.g T.dNumbersOf.F.kp T.dNumbersOf.b (fun σ => passAt (takes_of rfl rfl rfl rfl) σ) (pa_cons (pv 0) pa_nil))) (pss_cons (ps_expr (pe_callS GCheckRowN (hr.mono (by decide)) (by rfl) T.dCheckRow.g T.dCheckRow.F.kp T.dCheckRow.b (fun σ => passAt (takes_of rfl rfl rfl rfl) σ) (pa_cons (pv 0) (pa_cons (pv 1) pa_nil)))) pss_never)), ?_⟩
    rcases hp with hp | ⟨rfl, a, ps, w, g, rfl, hw, ga, rn⟩
    · exact q_rfAsg (rf_call (ea_cons (ev_var rfl) ea_nil) fun H1 e1 Q => .inr ⟨x, C, rfl, hp.mono e1, fun H2 e2 => q H2 (e1.trans e2)⟩)
    · refine q_asgR (er_callS (R := RL (Nums w)) (ea_cons (ev_var rfl) ea_nil) (fun H1 e1 Q q' => .inl ⟨a, ps, w, rfl, hw.mono e1, ga.gw, ga.le, ga.ac, q'⟩) (fun v H0 H1 H2 e h => h.back e)) (fun v H1 e1 _ => ?_)
      exact q_rfDrop (rf_call (ea_cons (ev_var rfl) (ea_cons (ev_var rfl) ea_nil)) fun H2 e2 Q => ⟨a, ps, w, y, rfl, hw.mono (e1.trans e2), rn.mono (e1.trans e2), fun H3 e3 => q H3 ((e1.trans e2).trans e3)⟩)
theorem ok_lostN (T : Txt K mg) : FnOk P w K mg base (L2.CX P w) 9 T.dIsLost.f T.dIsLost.fd ["web", "row"] (spRowN T) := by
  have GRowNumberN : FnOk P w K mg base (L2.CX P w) _ T.dRowNumber.f T.dRowNumber.fd _ (spRowN T) := ok_rowNumN T
  refine T.dIsLost.F.okX scIsLost (fun vs H Q E h => ?_) (fun cdv A outer s H vs Q E hr h => ?_)
  · obtain ⟨x, y, C, rfl, _⟩ := h; rfl
  · obtain ⟨x, y, C, rfl, hp, q⟩ := h
    refine ⟨_, (pss_one (ps_ret (pe_cmpR op_eq (pe_callS GRowNumberN (hr.mono (by decide)) (by rfl) T.dRowNumber.g T.dRowNumber.F.kp T.dRowNumber.b (fun σ => passAt (takes_of rfl rfl rfl rfl) σ) (pa_cons (pv 0) (pa_cons (pv 1) pa_nil))) pe_int (nomark _)))), ?_⟩
    exact s_rfRet (rf_op1 (rf_call (ea_cons (ev_var rfl) (ea_cons (ev_var rfl) ea_nil)) fun H1 e1 Q => ⟨x, y, C, rfl, hp.mono e1, fun H2 e2 => q H2 (e1.trans e2)⟩))
theorem ok_goodN (T : Txt K mg) : FnOk P w K mg base (L2.CX P w) 9 T.dGoodMoves.f T.dGoodMoves.fd ["web", "row"] (spRowN T) := by
  have GRowNumberN : FnOk P w K mg base (L2.CX P w) _ T.dRowNumber.f T.dRowNumber.fd _ (spRowN T) := ok_rowNumN T
  refine T.dGoodMoves.F.okX scGoodMoves (fun vs H Q E h => ?_) (fun cdv A outer s H vs Q E hr h => ?_)
  · obtain ⟨x, y, C, rfl, _⟩ := h; rfl
  · obtain ⟨x, y, C, rfl, hp, q⟩ := h
    refine ⟨_, (pss_cons (ps_set (i := 2) scGoodMoves.nd rfl (.inr rfl) (pe_callS GRowNumberN (hr.mono (by decide)) (by rfl) T.dRowNumber.g T.dRowNumber.F.kp T.dRowNumber.b (fun σ => passAt (takes_of rfl rfl rfl rfl) σ) (pa_cons (pv 0) (pa_cons (pv 1) pa_nil)))) pss_never), ?_⟩
    exact q_rfAsg (rf_call (ea_cons (ev_var rfl) (ea_cons (ev_var rfl) ea_nil)) fun H1 e1 Q => ⟨x, y, C, rfl, hp.mono e1, fun H2 e2 => q H2 (e1.trans e2)⟩)
/-- two rows -/
def RefP (T : Txt K mg) (H : Hp) (x y z : V) (C : Addr) : Prop := RefR T H x y C ∨ (C = T.cNoRow ∧ ∃ a t ps w g r, x = .ref a ∧ y = .ref t ∧ WebAt H a ps w ∧ H t = some (.lst (nl r)) ∧ Game w g ∧ GoodRow w r ∧ RowNo K H w.length z)
def spPartingN (T : Txt K mg) : Sp := fun vs H _ E => ∃ (x y z : V) (C : Addr), vs = [x, y, z] ∧ RefP T H x y z C ∧ ∀ H', Ex H H' → E (.ref C) none H'
theorem ok_partingN (T : Txt K mg) : FnOk P w K mg base (L2.CX P w) 9 T.dPartingRow.f T.dPartingRow.fd ["web", "one", "other"] (spPartingN T) := by
  have GRowNumberU : FnOk P w K mg base (L2.CX P w) _ T.dRowNumber.f T.dRowNumber.fd _ (fun vs H Q E => spRowNum vs H Q E ∨ spRowN T vs H Q E) := fnok_or (fnok_cx (ok_rowNum T)) (ok_rowNumN T)
  refine T.dPartingRow.F.okX scPartingRow (fun vs H Q E h => ?_) (fun cdv A outer s H vs Q E hr h => ?_)
  · obtain ⟨x, y, z, C, rfl, _⟩ := h; rfl
  · obtain ⟨x, y, z, C, rfl, hp, q⟩ := h
    refine ⟨_, (pss_cons (ps_if (pt_cmpR op_eq (pe_callS GRowNumberU (hr.mono (by decide)) (by rfl) T.dRowNumber.g T.dRowNumber.F.kp T.dRowNumber.b (fun σ => passAt (takes_of rfl rfl rfl rfl) σ) (pa_cons (pv 0) (pa_cons (pv 1) pa_nil))) (pe_callS GRowNumberU (hr.mono (by decide)) (by rfl) T.dRowNumber.g T.dRowNumber.F.kp T.dRowNumber.b (fun σ => passAt (takes_of rfl rfl rfl rfl) σ) (pa_cons (pv 0) (pa_cons (pv 2) pa_nil))) (nomark _)) (pss_one (ps_ret pe_non)) pss_nil) pss_never), ?_⟩
    rcases hp with hp | ⟨rfl, a, t, ps, w, g, r, rfl, rfl, hw, ht, ga, gr, no⟩
    · exact q_rfIf (rf_test (rf_op1 (rf_call (ea_cons (ev_var rfl) (ea_cons (ev_var rfl) ea_nil)) fun H1 e1 Q => .inr ⟨x, y, C, rfl, hp.mono e1, fun H2 e2 => q H2 (e1.trans e2)⟩)))
    · refine q_rfIf (rf_test (rf_op2 (x := ni (rn g r)) (ev_callS (ea_cons (ev_var rfl) (ea_cons (ev_var rfl) ea_nil)) fun H1 e1 Q q' => .inl ⟨a, t, ps, w, g, r, rfl, hw.mono e1, e1 _ _ ht, ga, gr, q'⟩) (rf_call (ea_cons (ev_var rfl) (ea_cons (ev_var rfl) ea_nil)) fun H1 e1 Q => .inr ⟨.ref a, z, T.cNoRow, rfl, .inr ⟨rfl, a, ps, w, g, rfl, hw.mono e1, ga, no.mono e1⟩, fun H2 e2 => q H2 (e1.trans e2)⟩)))
end
end KX
set_option Elab.async false
set_option linter.all false
set_option maxRecDepth 100000
set_option maxHeartbeats 4000000
namespace KX
open PySem PySem.Spec PyProof.Rows L2 Evl RZ Sg
section
variable {P : Program} {w : World} {K : PySem.W.Frag} {mg : Str → Option Value} {base : Heap}

/-! ### what is no move -/
inductive MoveNo (K : PySem.W.Frag) (H : Hp) (m n : Nat) : V → Prop where
  | no {x : V} {T : String} (h : T ≠ "tuple") (ht : AnyTy K H x T) : MoveNo K H m n x
  | len {u : Addr} {xs : List V} (h : H u = some (.tup xs)) (hl : xs.length ≠ 2) : MoveNo K H m n (.ref u)
  | pl {u : Addr} {x y : V} (h : H u = some (.tup [x, y])) (no : PlaceNo K H x m) : MoveNo K H m n (.ref u)
  | sp {u : Addr} {i : Nat} {y : V} (h : H u = some (.tup [ni i, y])) (no : PlaceNo K H y n) : MoveNo K H m n (.ref u)
theorem MoveNo.mono {H H1 : Hp} {m n : Nat} {x : V} (h : MoveNo K H m n x) (e : Ex H H1) : MoveNo K H1 m n x := by
  cases h with
  | no h ht => exact .no h fun H' e' => ht H' (e.trans e')
  | len h hl => exact .len (e _ _ h) hl
  | pl h no => exact .pl (e _ _ h) (no.mono e)
  | sp h no => exact .sp (e _ _ h) (no.mono e)
def spIsMoveN (K : PySem.W.Frag) : Sp := fun vs H Q _ => ∃ (a t : Addr) (z : V) (ps : List Addr) (w : List (List Nat)) (r : List Nat), vs = [.ref a, .ref t, z] ∧ WebAt H a ps w ∧ H t = some (.lst (nl r)) ∧ MoveNo K H r.length w.length z ∧ ∀ H', Ex H H' → Q (.bl false) H'
theorem ok_isMoveN (T : Txt K mg) : FnOk P w K mg base CX0 2 T.dIsMove.f T.dIsMove.fd ["web", "row", "thing"] (spIsMoveN K) := by
  have GIsPlace : FnOk P w K mg base CX0 _ T.dIsPlace.f T.dIsPlace.fd _ (spPlace K) := ok_place T
  refine T.dIsMove.F.ok scIsMove (fun vs H Q E h => ?_) (fun cdv A outer s H vs Q E hr h => ?_)
  · obtain ⟨a, t, z, ps, w, r, rfl, _⟩ := h; rfl
  · obtain ⟨a, t, z, ps, w, r, rfl, hw, ht, hp, q⟩ := h
    refine ⟨_, (pss_cons (ps_if (PW.pt (pw_or (pt_cmpR op_notTyB (pe_callTy (T := "type") (typK K) (by rfl) T.z_type (by decide +kernel) (pa_cons (pv 2) pa_nil)) (pe_bltn (v := .ty "tuple") (by rfl) T.z_tuple (by decide +kernel) rfl) (nomark _)) (pw_or1 (pt_cmpR op_ne (pe_callB (id := "len") (lenK K) (by rfl) T.z_len (by decide +kernel) (pa_cons (pv 2) pa_nil)) pe_int (nomark _))))) (pss_one (ps_ret pe_bl)) pss_nil) (pss_cons (ps_asg (pv 2) (pg_tup (by rfl) (pgs_cons (pg_name (i := 3) scIsMove.nd rfl (.inl rfl)) (pgs_cons (pg_name (i := 4) scIsMove.nd rfl (.inl rfl)) pgs_nil)))) (pss_one (ps_ret (pe_and (pe_call GIsPlace (hr.mono (by decide)) (by rfl) T.dIsPlace.g T.dIsPlace.F.kp T.dIsPlace.b .nil pass0 (pa_cons (pv 3) (pa_cons (pe_callB (id := "len") (lenK K) (by rfl) T.z_len (by decide +kernel) (pa_cons (pv 1) pa_nil)) pa_nil))) (pe_and (pe_call GIsPlace (hr.mono (by decide)) (by rfl) T.dIsPlace.g T.dIsPlace.F.kp T.dIsPlace.b .nil pass0 (pa_cons (pv 4) (pa_cons (pe_callB (id := "len") (lenK K) (by rfl) T.z_len (by decide +kernel) (pa_cons (pv 0) pa_nil)) pa_nil))) (pe_one (pe_cmpR (inK K) (pv 4) (pe_ix (ixK K) (pv 0) (pe_ix (ixK K) (pv 1) (pv 3) (fun _ _ => rfl)) (fun _ _ => rfl)) (by rfl))))))))), ?_⟩
    cases hp with
    | @no x ty hne hty =>
      exact q_when (b := true) (et_is (et_or (b := false) (et_test (ev_op (ev_type (T := ty) (ev_var rfl) (fun H1 e => hty H1 e)) ev_c rv_notTy)) (fun hb => absurd (by simpa using hb) hne)) (by simp [hne])) (fun _ H1 e1 => s_ret ev_c (fun H2 e2 => q H2 (e1.trans e2))) (fun hb => nomatch hb)
    | @len u xs hu hl =>
      exact q_when (b := true) (et_is (et_or (et_test (ev_op (ev_type (K := K) (T := "tuple") (ev_var rfl) (fun H1 e => .tup (st_of (e _ _ hu)))) ev_c rv_notTy)) (fun _ => et_test (ev_op (ev_tlen (K := K) (ev_var rfl) (st_of hu)) ev_c (rv_ne rfl)))) (by
        have : decide (V.int (xs.length : Int) = V.int 2) = false := decide_eq_false fun z => hl (by injection z; omega)
        rw [this]; simp)) (fun _ H1 e1 => s_ret ev_c (fun H2 e2 => q H2 (e1.trans e2))) (fun hb => nomatch hb)
    | @pl u x y hu no =>
      refine q_when (b := false) (et_is (et_or (et_test (ev_op (ev_type (K := K) (T := "tuple") (ev_var rfl) (fun H1 e => .tup (st_of (e _ _ hu)))) ev_c rv_notTy)) (fun _ => et_test (ev_op (ev_tlen (K := K) (ev_var rfl) (st_of hu)) ev_c (rv_ne rfl)))) (by simp)) (fun hb => nomatch hb) (fun _ H1 e1 => ?_)
      refine q_unp2 (K := K) (ev_var rfl) (st_of (e1 _ _ hu)) (fun H2 e2 => ?_)
      have e12 := e1.trans e2
      exact s_ret (ev_is (ev_andV (b := false) (ev_placeN (m := (r.length : Int)) (ev_var rfl) (ev_llen (K := K) (ev_var rfl) (sq_of (e12 _ _ ht))) (no.mono e12)) (fun hb => nomatch hb)) rfl) (fun H3 e3 => q H3 (e12.trans e3))
    | @sp u i y hu no =>
      refine q_when (b := false) (et_is (et_or (et_test (ev_op (ev_type (K := K) (T := "tuple") (ev_var rfl) (fun H1 e => .tup (st_of (e _ _ hu)))) ev_c rv_notTy)) (fun _ => et_test (ev_op (ev_tlen (K := K) (ev_var rfl) (st_of hu)) ev_c (rv_ne rfl)))) (by simp)) (fun hb => nomatch hb) (fun _ H1 e1 => ?_)
      refine q_unp2 (K := K) (ev_var rfl) (st_of (e1 _ _ hu)) (fun H2 e2 => ?_)
      have e12 := e1.trans e2
      exact s_ret (ev_is (ev_andV (b := false) (ev_place (z := (i : Int)) (m := (r.length : Int)) (ev_var rfl) (ev_llen (K := K) (ev_var rfl) (sq_of (e12 _ _ ht)))) (fun _ => ev_is (ev_andV (b := false) (ev_placeN (m := (w.length : Int)) (ev_var rfl) (ev_wlen (K := K) (ev_var rfl) (hw.mono e12)) (no.mono e12)) (fun hb => nomatch hb)) rfl)) (by simp)) (fun H3 e3 => q H3 (e12.trans e3))
theorem ev_isMoveN {σ : L2.St} {H : Hp} {ta tb tc : TE} {a t : Addr} {z : V} {ps : List Addr} {w : List (List Nat)} {r : List Nat} {E : XK} (h1 : Ev ta σ H (.ref a)) (h2 : Ev tb σ H (.ref t)) (h3 : Ev tc σ H z) (hw : WebAt H a ps w) (ht : H t = some (.lst (nl r))) (hp : MoveNo K H r.length w.length z) : Ev (tCall (spIsMoveN K) [] E (tCons ta (tCons tb (tCons tc tNil)))) σ H (.bl false) :=
  ev_call (ea_cons h1 (ea_cons h2 (ea_cons h3 ea_nil))) fun H1 e Q q E => ⟨a, t, z, ps, w, r, rfl, hw.mono e, e _ _ ht, hp.mono e, q⟩
def RefM (T : Txt K mg) (H : Hp) (x y z : V) (C : Addr) : Prop := RefR T H x y C ∨ (C = T.cNoMove ∧ ∃ a t ps w g r, x = .ref a ∧ y = .ref t ∧ WebAt H a ps w ∧ H t = some (.lst (nl r)) ∧ Game w g ∧ GoodRow w r ∧ MoveNo K H r.length w.length z)
def spPlayedN (T : Txt K mg) : Sp := fun vs H _ E => ∃ (x y z : V) (C : Addr), vs = [x, y, z] ∧ RefM T H x y z C ∧ ∀ H', Ex H H' → E (.ref C) none H'
theorem ok_playedN (T : Txt K mg) : FnOk P w K mg base (L2.CX P w) 7 T.dPlayed.f T.dPlayed.fd ["web", "row", "move"] (spPlayedN T) := by
  have GCheckGameU : FnOk P w K mg base (L2.CX P w) _ T.dCheckGame.f T.dCheckGame.fd _ (fun vs H Q E => spGame vs H Q E ∨ spGameN T vs H Q E) := fnok_or (fnok_cx (ok_game T)) (ok_gameN T)
  have GCheckRowU : FnOk P w K mg base (L2.CX P w) _ T.dCheckRow.f T.dCheckRow.fd _ (fun vs H Q E => spCheckRow vs H Q E ∨ spCheckRowN K T.cNoRow vs H Q E) := fnok_or (fnok_cx (ok_checkRow T)) (ok_checkRowN T)
  have GIsMove : FnOk P w K mg base CX0 _ T.dIsMove.f T.dIsMove.fd _ (spIsMoveN K) := ok_isMoveN T
  refine T.dPlayed.F.okX scPlayed (fun vs H Q E h => ?_) (fun cdv A outer s H vs Q E hr h => ?_)
  · obtain ⟨x, y, z, C, rfl, _⟩ := h; rfl
  · obtain ⟨x, y, z, C, rfl, hp, q⟩ := h
    refine ⟨_, (pss_cons (ps_expr (pe_callS GCheckGameU (hr.mono (by decide)) (by rfl) T.dCheckGame.g T.dCheckGame.F.kp T.dCheckGame.b (fun σ => passAt (takes_of rfl rfl rfl rfl) σ) (pa_cons (pv 0) pa_nil))) (pss_cons (ps_expr (pe_callS GCheckRowU (hr.mono (by decide)) (by rfl) T.dCheckRow.g T.dCheckRow.F.kp T.dCheckRow.b (fun σ => passAt (takes_of rfl rfl rfl rfl) σ) (pa_cons (pv 0) (pa_cons (pv 1) pa_nil)))) (pss_cons (ps_if (pt_not (pt_val (pe_call GIsMove (hr.mono (by decide)) (by rfl) T.dIsMove.g T.dIsMove.F.kp T.dIsMove.b .nil pass0 (pa_cons (pv 0) (pa_cons (pv 1) (pa_cons (pv 2) pa_nil)))))) (pss_one (ps_raise rfl (takes_of rfl rfl rfl rfl) (pmk_own PySem.F.excBase_ValueError T.xNoMove.x T.gcNoMove T.xNoMove.k (raises_own T.xNoMove.b T.xNoMove.t) (by exact rfl)))) pss_nil) (pss_cons (ps_asg (pv 2) (pg_tup (by rfl) (pgs_cons (pg_name (i := 4) scPlayed.nd rfl (.inl rfl)) (pgs_cons (pg_name (i := 5) scPlayed.nd rfl (.inl rfl)) pgs_nil)))) (pss_cons (ps_set (i := 3) scPlayed.nd rfl (.inl rfl) (pe_callTy (T := "list") (listK K) (by rfl) T.z_list (by decide +kernel) (pa_cons (pv 1) pa_nil))) (pss_cons (ps_asg (pv 5) (pg_sub (pv 3) (pv 4) set_list)) (pss_one (ps_ret (pv 3))))))))), ?_⟩
    rcases hp with (hp | ⟨rfl, a, ps, w, g, rfl, hw, ga, rn⟩) | ⟨rfl, a, t, ps, w, g, r, rfl, rfl, hw, ht, ga, gr, no⟩
    · exact q_rfDrop (rf_call (ea_cons (ev_var rfl) ea_nil) fun H1 e1 Q => .inr ⟨x, C, rfl, hp.mono e1, fun H2 e2 => q H2 (e1.trans e2)⟩)
    · refine q_drop (ev_callS (v := .non) (ea_cons (ev_var rfl) ea_nil) fun H1 e1 Q q' => .inl ⟨a, ps, w, rfl, hw.mono e1, ga.gw, ga.le, ga.ac, q'⟩) (fun H1 e1 => ?_)
      exact q_rfDrop (rf_call (ea_cons (ev_var rfl) (ea_cons (ev_var rfl) ea_nil)) fun H2 e2 Q => .inr ⟨a, ps, w, y, rfl, hw.mono (e1.trans e2), rn.mono (e1.trans e2), fun H3 e3 => q H3 ((e1.trans e2).trans e3)⟩)
    · refine q_drop (ev_callS (v := .non) (ea_cons (ev_var rfl) ea_nil) fun H1 e1 Q q' => .inl ⟨a, ps, w, rfl, hw.mono e1, ga.gw, ga.le, ga.ac, q'⟩) (fun H1 e1 => ?_)
      refine q_drop (ev_callS (v := .non) (ea_cons (ev_var rfl) (ea_cons (ev_var rfl) ea_nil)) fun H2 e2 Q q' => .inl ⟨a, t, ps, w, r, rfl, hw.mono (e1.trans e2), (e1.trans e2) _ _ ht, gr, q'⟩) (fun H2 e2 => ?_)
      have e12 := e1.trans e2
      exact q_when (b := true) (et_not (et_B (b := false) (ev_isMoveN (ev_var rfl) (ev_var rfl) (ev_var rfl) (hw.mono e12) (e12 _ _ ht) (no.mono e12)))) (fun _ H3 e3 => q H3 (e12.trans e3)) (fun hb => nomatch hb)
/-! ### joined, paired -/
def spCountN (C : Addr) : Sp := fun vs H _ E => ∃ (m : Int), vs = [.int m] ∧ 200 < m ∧ m ≤ 400 ∧ ∀ H', Ex H H' → E (.ref C) none H'
theorem many_text : ∀ k : Fin 401, (((Str.empty ++ ("a web has at most " : Str)) ++ (toString (200 : Int) : Str) ++ (" spots, not " : Str)) ++ (toString ((k.val : Nat) : Int) : Str)).length ≤ 1000 ∧ ((k.val : Nat) : Int).natAbs.log2 < 1920 := by decide +kernel
theorem ok_countN (T : Txt K mg) : FnOk P w K mg base (L2.CX P w) 1 T.dCheckCount.f T.dCheckCount.fd ["many"] (spCountN T.cTooMany) := by
  refine T.dCheckCount.F.okX scCheckCount (fun vs H Q E h => ?_) (fun cdv A outer s H vs Q E hr h => ?_)
  · obtain ⟨m, rfl, _⟩ := h; rfl
  · obtain ⟨m, rfl, hm, hm2, q⟩ := h
    refine ⟨_, (pss_one (ps_if (pt_cmpR op_gt (pv 0) (pe_glob (v := .int 200) (by rfl) T.gMOSTSPOTS ⟨_, rfl⟩) (nomark _)) (pss_one (ps_raise rfl (takes_of rfl rfl rfl rfl) (SkE.pmk_own1 PySem.F.excBase_ValueError T.xTooMany.x T.gcTooMany T.xTooMany.k (raises_own T.xTooMany.b T.xTooMany.t) (by exact rfl) (pe_joined (.cons pe_str (.cons (pe_fmt (pe_glob (v := .int 200) (by rfl) T.gMOSTSPOTS ⟨_, rfl⟩)) (.cons pe_str (.cons (pe_fmt (pv 0)) .nil)))))))) pss_nil)), ?_⟩
    refine s_when (b := true) (et_test (ev_is (ev_op (ev_var rfl) ev_c rv_I0) (by congr 1; exact decide_eq_true (by omega)))) (fun _ H1 e1 => ?_) (fun hb => nomatch hb)
    obtain ⟨k, rfl⟩ : ∃ k : Fin 401, m = ((k.val : Nat) : Int) := ⟨⟨m.toNat, by omega⟩, by simp; omega⟩
    obtain ⟨h1, h2⟩ := many_text k
    have sl : (1000 : Nat) ≤ sizeLine := by rw [sizeLine_eq]; omega
    exact ⟨_, rfl, by rw [sizeLine_eq]; decide +kernel, .inr ⟨200, rfl, by decide +kernel, _, rfl, by rw [sizeLine_eq]; decide +kernel, _, rfl, by rw [sizeLine_eq]; decide +kernel, _, rfl, .inr ⟨_, rfl, h2, _, rfl, Nat.le_trans h1 sl, q H1 e1⟩⟩⟩
def RefJ (T : Txt K mg) (H : Hp) (x y : V) (n : Nat → Nat → Nat) (C : Addr) : Prop := (C = T.cNoWeb ∧ WebNo K H x) ∨ (∃ a ps w, x = .ref a ∧ WebAt H a ps w ∧ GoodWeb w ∧ w.length ≤ 200 ∧ ((C = T.cNoWeb ∧ WebNo K H y) ∨ (C = T.cTooMany ∧ ∃ b qs v, y = .ref b ∧ WebAt H b qs v ∧ GoodWeb v ∧ v.length ≤ 200 ∧ 200 < n w.length v.length ∧ n w.length v.length ≤ 400)))
def spJoinN (T : Txt K mg) (n : Nat → Nat → Nat) : Sp := fun vs H _ E => ∃ (x y : V) (C : Addr), vs = [x, y] ∧ RefJ T H x y n C ∧ ∀ H', Ex H H' → E (.ref C) none H'
theorem ok_joinedN (T : Txt K mg) : FnOk P w K mg base (L2.CX P w) 5 T.dJoinedWebs.f T.dJoinedWebs.fd ["one", "other"] (spJoinN T (fun a b => a + b)) := by
  have GCheckWebU : FnOk P w K mg base (L2.CX P w) _ T.dCheckWeb.f T.dCheckWeb.fd _ (fun vs H Q E => spCheck vs H Q E ∨ spCheckN K T.cNoWeb vs H Q E) := fnok_or (fnok_cx (ok_check T)) (ok_checkN T)
  have GCheckCountN : FnOk P w K mg base (L2.CX P w) _ T.dCheckCount.f T.dCheckCount.fd _ (spCountN T.cTooMany) := ok_countN T
  refine T.dJoinedWebs.F.okX scJoinedWebs (fun vs H Q E h => ?_) (fun cdv A outer s H vs Q E hr h => ?_)
  · obtain ⟨x, y, C, rfl, _⟩ := h; rfl
  · obtain ⟨x, y, C, rfl, hp, q⟩ := h
    refine ⟨_, (pss_cons (ps_expr (pe_callS GCheckWebU (hr.mono (by decide)) (by rfl) T.dCheckWeb.g T.dCheckWeb.F.kp T.dCheckWeb.b (fun σ => passAt (takes_of rfl rfl rfl rfl) σ) (pa_cons (pv 0) pa_nil))) (pss_cons (ps_expr (pe_callS GCheckWebU (hr.mono (by decide)) (by rfl) T.dCheckWeb.g T.dCheckWeb.F.kp T.dCheckWeb.b (fun σ => passAt (takes_of rfl rfl rfl rfl) σ) (pa_cons (pv 1) pa_nil))) (pss_cons (ps_expr (pe_callS GCheckCountN (hr.mono (by decide)) (by rfl) T.dCheckCount.g T.dCheckCount.F.kp T.dCheckCount.b (fun σ => passAt (takes_of rfl rfl rfl rfl) σ) (pa_cons (pe_op op_add (pe_callB (id := "len") (lenK K) (by rfl) T.z_len (by decide +kernel) (pa_cons (pv 0) pa_nil)) (pe_callB (id := "len") (lenK K) (by rfl) T.z_len (by decide +kernel) (pa_cons (pv 1) pa_nil))) pa_nil))) pss_never))), ?_⟩
    rcases hp with ⟨rfl, hp⟩ | ⟨a, ps, w, rfl, hw, gw, wl, hp⟩
    · exact q_rfDrop (rf_call (ea_cons (ev_var rfl) ea_nil) fun H1 e1 Q => .inr ⟨x, rfl, hp.mono e1, fun H2 e2 => q H2 (e1.trans e2)⟩)
    · refine q_drop (ev_callS (v := .non) (ea_cons (ev_var rfl) ea_nil) fun H1 e1 Q q' => .inl ⟨a, ps, w, rfl, hw.mono e1, gw, wl, q'⟩) (fun H1 e1 => ?_)
      rcases hp with ⟨rfl, hp⟩ | ⟨rfl, b, qs, v, rfl, hv, gv, vl, n1, n2⟩
      · exact q_rfDrop (rf_call (ea_cons (ev_var rfl) ea_nil) fun H2 e2 Q => .inr ⟨y, rfl, hp.mono (e1.trans e2), fun H3 e3 => q H3 ((e1.trans e2).trans e3)⟩)
      · refine q_drop (ev_callS (v := .non) (ea_cons (ev_var rfl) ea_nil) fun H2 e2 Q q' => .inl ⟨b, qs, v, rfl, hv.mono (e1.trans e2), gv, vl, q'⟩) (fun H2 e2 => ?_)
        have e12 := e1.trans e2
        have n1 : 200 < w.length + v.length := n1
        have n2 : w.length + v.length ≤ 400 := n2
        exact q_rfDrop (rf_call (ea_cons (ev_op (ev_wlen (K := K) (ev_var rfl) (hw.mono e12)) (ev_wlen (K := K) (ev_var rfl) (hv.mono e12)) rv_I0) ea_nil) fun H3 e3 Q => ⟨_, rfl, by omega, by omega, fun H4 e4 => q H4 ((e12.trans e3).trans e4)⟩)
theorem ok_pairedN (T : Txt K mg) : FnOk P w K mg base (L2.CX P w) 5 T.dPairedWeb.f T.dPairedWeb.fd ["one", "other"] (spJoinN T (fun a b => a * b)) := by
  have GCheckWebU : FnOk P w K mg base (L2.CX P w) _ T.dCheckWeb.f T.dCheckWeb.fd _ (fun vs H Q E => spCheck vs H Q E ∨ spCheckN K T.cNoWeb vs H Q E) := fnok_or (fnok_cx (ok_check T)) (ok_checkN T)
  have GCheckCountN : FnOk P w K mg base (L2.CX P w) _ T.dCheckCount.f T.dCheckCount.fd _ (spCountN T.cTooMany) := ok_countN T
  refine T.dPairedWeb.F.okX scPairedWeb (fun vs H Q E h => ?_) (fun cdv A outer s H vs Q E hr h => ?_)
  · obtain ⟨x, y, C, rfl, _⟩ := h; rfl
  · obtain ⟨x, y, C, rfl, hp, q⟩ := h
    refine ⟨_, (pss_cons (ps_expr (pe_callS GCheckWebU (hr.mono (by decide)) (by rfl) T.dCheckWeb.g T.dCheckWeb.F.kp T.dCheckWeb.b (fun σ => passAt (takes_of rfl rfl rfl rfl) σ) (pa_cons (pv 0) pa_nil))) (pss_cons (ps_expr (pe_callS GCheckWebU (hr.mono (by decide)) (by rfl) T.dCheckWeb.g T.dCheckWeb.F.kp T.dCheckWeb.b (fun σ => passAt (takes_of rfl rfl rfl rfl) σ) (pa_cons (pv 1) pa_nil))) (pss_cons (ps_expr (pe_callS GCheckCountN (hr.mono (by decide)) (by rfl) T.dCheckCount.g T.dCheckCount.F.kp T.dCheckCount.b (fun σ => passAt (takes_of rfl rfl rfl rfl) σ) (pa_cons (pe_op op_mul (pe_callB (id := "len") (lenK K) (by rfl) T.z_len (by decide +kernel) (pa_cons (pv 0) pa_nil)) (pe_callB (id := "len") (lenK K) (by rfl) T.z_len (by decide +kernel) (pa_cons (pv 1) pa_nil))) pa_nil))) pss_never))), ?_⟩
    rcases hp with ⟨rfl, hp⟩ | ⟨a, ps, w, rfl, hw, gw, wl, hp⟩
    · exact q_rfDrop (rf_call (ea_cons (ev_var rfl) ea_nil) fun H1 e1 Q => .inr ⟨x, rfl, hp.mono e1, fun H2 e2 => q H2 (e1.trans e2)⟩)
    · refine q_drop (ev_callS (v := .non) (ea_cons (ev_var rfl) ea_nil) fun H1 e1 Q q' => .inl ⟨a, ps, w, rfl, hw.mono e1, gw, wl, q'⟩) (fun H1 e1 => ?_)
      rcases hp with ⟨rfl, hp⟩ | ⟨rfl, b, qs, v, rfl, hv, gv, vl, n1, n2⟩
      · exact q_rfDrop (rf_call (ea_cons (ev_var rfl) ea_nil) fun H2 e2 Q => .inr ⟨y, rfl, hp.mono (e1.trans e2), fun H3 e3 => q H3 ((e1.trans e2).trans e3)⟩)
      · refine q_drop (ev_callS (v := .non) (ea_cons (ev_var rfl) ea_nil) fun H2 e2 Q q' => .inl ⟨b, qs, v, rfl, hv.mono (e1.trans e2), gv, vl, q'⟩) (fun H2 e2 => ?_)
        have e12 := e1.trans e2
        have n1 : 200 < w.length * v.length := n1
        have n2 : w.length * v.length ≤ 400 := n2
        have cm : ((w.length * v.length : Nat) : Int) = (w.length : Int) * (v.length : Int) := Int.natCast_mul _ _
        exact q_rfDrop (rf_call (vs := [.int ((w.length : Int) * (v.length : Int))]) (ea_cons (ev_op (ev_wlen (K := K) (ev_var rfl) (hw.mono e12)) (ev_wlen (K := K) (ev_var rfl) (hv.mono e12)) (rv_I (.inl (by constructor <;> omega)))) ea_nil) fun H3 e3 Q => ⟨_, rfl, by omega, by omega, fun H4 e4 => q H4 ((e12.trans e3).trans e4)⟩)
end
end KX
set_option Elab.async false
set_option linter.all false
set_option maxRecDepth 100000
set_option maxHeartbeats 4000000
namespace KX
open PySem PySem.Spec PyProof.Rows L2 Evl RZ Sg
section
variable {P : Program} {w : World} {K : PySem.W.Frag} {mg : Str → Option Value} {base : Heap}

/-! ### what is asked, and how it ends -/
def IsWeb (H : Hp) (x : V) : Prop := ∃ a ps w, x = .ref a ∧ WebAt H a ps w ∧ GoodWeb w ∧ w.length ≤ 200
def IsGame (H : Hp) (x : V) : Prop := ∃ a ps w g, x = .ref a ∧ WebAt H a ps w ∧ Game w g
def IsGameRow (H : Hp) (x y : V) : Prop := ∃ a t ps w g r, x = .ref a ∧ y = .ref t ∧ WebAt H a ps w ∧ H t = some (.lst (nl r)) ∧ Game w g ∧ GoodRow w r
def IsGameRows (H : Hp) (x y z : V) : Prop := ∃ a t u ps w g r s, x = .ref a ∧ y = .ref t ∧ z = .ref u ∧ WebAt H a ps w ∧ H t = some (.lst (nl r)) ∧ H u = some (.lst (nl s)) ∧ Game w g ∧ GoodRow w r ∧ GoodRow w s
def IsTwo (H : Hp) (x y : V) (n : Nat → Nat → Nat) : Prop := ∃ a b ps qs w v, x = .ref a ∧ y = .ref b ∧ WebAt H a ps w ∧ WebAt H b qs v ∧ GoodWeb w ∧ GoodWeb v ∧ w.length ≤ 200 ∧ v.length ≤ 200 ∧ n w.length v.length ≤ 200
theorem IsWeb.mono {H H1 : Hp} {x : V} (h : IsWeb H x) (e : Ex H H1) : IsWeb H1 x := by
  obtain ⟨a, ps, w, h1, h2, h3⟩ := h
  exact ⟨a, ps, w, h1, h2.mono e, h3⟩
theorem IsGame.mono {H H1 : Hp} {x : V} (h : IsGame H x) (e : Ex H H1) : IsGame H1 x := by
  obtain ⟨a, ps, w, g, h1, h2, h3⟩ := h
  exact ⟨a, ps, w, g, h1, h2.mono e, h3⟩
theorem IsGameRow.mono {H H1 : Hp} {x y : V} (h : IsGameRow H x y) (e : Ex H H1) : IsGameRow H1 x y := by
  obtain ⟨a, t, ps, w, g, r, h1, h2, h3, h4, h5⟩ := h
  exact ⟨a, t, ps, w, g, r, h1, h2, h3.mono e, e _ _ h4, h5⟩
theorem IsGameRows.mono {H H1 : Hp} {x y z : V} (h : IsGameRows H x y z) (e : Ex H H1) : IsGameRows H1 x y z := by
  obtain ⟨a, t, u, ps, w, g, r, s, h1, h2, h3, h4, h5, h6, h7⟩ := h
  exact ⟨a, t, u, ps, w, g, r, s, h1, h2, h3, h4.mono e, e _ _ h5, e _ _ h6, h7⟩
theorem IsTwo.mono {H H1 : Hp} {x y : V} {n : Nat → Nat → Nat} (h : IsTwo H x y n) (e : Ex H H1) : IsTwo H1 x y n := by
  obtain ⟨a, b, ps, qs, w, v, h1, h2, h3, h4, h5⟩ := h
  exact ⟨a, b, ps, qs, w, v, h1, h2, h3.mono e, h4.mono e, h5⟩
theorem RefP.mono {T : Txt K mg} {H H1 : Hp} {x y z : V} {C : Addr} (h : RefP T H x y z C) (e : Ex H H1) : RefP T H1 x y z C :=
  h.imp (fun h => h.mono e) (fun ⟨h1, a, t, ps, w, g, r, h2, h3, h4, h5, h6, h7, h8⟩ => ⟨h1, a, t, ps, w, g, r, h2, h3, h4.mono e, e _ _ h5, h6, h7, h8.mono e⟩)
theorem RefM.mono {T : Txt K mg} {H H1 : Hp} {x y z : V} {C : Addr} (h : RefM T H x y z C) (e : Ex H H1) : RefM T H1 x y z C :=
  h.imp (fun h => h.mono e) (fun ⟨h1, a, t, ps, w, g, r, h2, h3, h4, h5, h6, h7, h8⟩ => ⟨h1, a, t, ps, w, g, r, h2, h3, h4.mono e, e _ _ h5, h6, h7, h8.mono e⟩)
theorem RefJ.mono {T : Txt K mg} {H H1 : Hp} {x y : V} {n : Nat → Nat → Nat} {C : Addr} (h : RefJ T H x y n C) (e : Ex H H1) : RefJ T H1 x y n C := by
  rcases h with ⟨h1, h2⟩ | ⟨a, ps, w, h1, h2, h3, h4, ⟨h5, h6⟩ | ⟨h5, b, qs, v, h6, h7, h8⟩⟩
  · exact .inl ⟨h1, h2.mono e⟩
  · exact .inr ⟨a, ps, w, h1, h2.mono e, h3, h4, .inl ⟨h5, h6.mono e⟩⟩
  · exact .inr ⟨a, ps, w, h1, h2.mono e, h3, h4, .inr ⟨h5, b, qs, v, h6, h7.mono e, h8⟩⟩
def Out1 (T : Txt K mg) (H : Hp) (k : Int) (x y : V) (o : Option Addr) : Prop :=
  (k = 0 ∧ ((o = some T.cNoWeb ∧ WebNo K H x) ∨ (o = none ∧ IsWeb H x))) ∨ ((1 ≤ k ∧ k ≤ 3) ∧ ((∃ C, o = some C ∧ RefG T H x C) ∨ (o = none ∧ IsGame H x))) ∨ ((4 ≤ k ∧ k ≤ 7) ∧ ((∃ C, o = some C ∧ RefR T H x y C) ∨ (o = none ∧ IsGameRow H x y)))
theorem Out1.mono {T : Txt K mg} {H H1 : Hp} {k : Int} {x y : V} {o : Option Addr} (h : Out1 T H k x y o) (e : Ex H H1) : Out1 T H1 k x y o := by
  rcases h with ⟨h0, ⟨h1, h2⟩ | ⟨h1, h2⟩⟩ | ⟨h0, ⟨C, h1, h2⟩ | ⟨h1, h2⟩⟩ | ⟨h0, ⟨C, h1, h2⟩ | ⟨h1, h2⟩⟩
  · exact .inl ⟨h0, .inl ⟨h1, h2.mono e⟩⟩
  · exact .inl ⟨h0, .inr ⟨h1, h2.mono e⟩⟩
  · exact .inr (.inl ⟨h0, .inl ⟨C, h1, h2.mono e⟩⟩)
  · exact .inr (.inl ⟨h0, .inr ⟨h1, h2.mono e⟩⟩)
  · exact .inr (.inr ⟨h0, .inl ⟨C, h1, h2.mono e⟩⟩)
  · exact .inr (.inr ⟨h0, .inr ⟨h1, h2.mono e⟩⟩)
/-- how it ends -/
def Fin (o : Option Addr) (H : Hp) (Q : VK) (E : XK) : Prop := (o = none → ∀ H', Ex H H' → Q .non H') ∧ ∀ C, o = some C → ∀ H', Ex H H' → E (.ref C) none H'
def spOne (T : Txt K mg) : Sp := fun vs H Q E => ∃ (k : Int) (x y : V) (o : Option Addr), vs = [.int k, x, y] ∧ Out1 T H k x y o ∧ Fin o H Q E
theorem s_end {D : Ends} {σ : L2.St} {H : Hp} {vs : List V} {sp : Sp} {E : L2.St → XK} {ta : TA} (h : EvA ta σ H vs) (k : ∀ H1, Ex H H1 → sp vs H1 (fun _ H2 => D.nx σ H2) (E σ)) : tDrop (tCallS sp E ta) D σ H := h H (Ex.refl H) _ k
theorem ok_one (T : Txt K mg) : FnOk P w K mg base (L2.CX P w) 10 T.dLAskedOne.f T.dLAskedOne.fd ["_law_which", "_law_web", "_law_row"] (spOne T) := by
  have GRingInU : FnOk P w K mg base (L2.CX P w) _ T.dRingIn.f T.dRingIn.fd _ (fun vs H Q E => spRing vs H Q E ∨ spCheckN K T.cNoWeb vs H Q E) := fnok_or (fnok_cx (ok_ring T)) (ok_ringN T)
  have GNumbersOfU : FnOk P w K mg base (L2.CX P w) _ T.dNumbersOf.f T.dNumbersOf.fd _ (fun vs H Q E => spNums vs H Q E ∨ spGameN T vs H Q E) := fnok_or (fnok_cx (ok_nums T)) (ok_numsN T)
  have GLengthsOfU : FnOk P w K mg base (L2.CX P w) _ T.dLengthsOf.f T.dLengthsOf.fd _ (fun vs H Q E => spLens vs H Q E ∨ spGameN T vs H Q E) := fnok_or (fnok_cx (ok_lens T)) (ok_lensN T)
  have GShownMovesU : FnOk P w K mg base (L2.CX P w) _ T.dShownMoves.f T.dShownMoves.fd _ (fun vs H Q E => spShown vs H Q E ∨ spShownN T vs H Q E) := fnok_or (fnok_cx (ok_shown T)) (ok_shownN T)
  have GMovesInU : FnOk P w K mg base (L2.CX P w) _ T.dMovesIn.f T.dMovesIn.fd _ (fun vs H Q E => spMoves vs H Q E ∨ spRowN T vs H Q E) := fnok_or (fnok_cx (ok_moves T)) (ok_movesN T)
  have GRowNumberU : FnOk P w K mg base (L2.CX P w) _ T.dRowNumber.f T.dRowNumber.fd _ (fun vs H Q E => spRowNum vs H Q E ∨ spRowN T vs H Q E) := fnok_or (fnok_cx (ok_rowNum T)) (ok_rowNumN T)
  have GIsLostU : FnOk P w K mg base (L2.CX P w) _ T.dIsLost.f T.dIsLost.fd _ (fun vs H Q E => spLost vs H Q E ∨ spRowN T vs H Q E) := fnok_or (fnok_cx (ok_lost T)) (ok_lostN T)
  have GGoodMovesU : FnOk P w K mg base (L2.CX P w) _ T.dGoodMoves.f T.dGoodMoves.fd _ (fun vs H Q E => spGood vs H Q E ∨ spRowN T vs H Q E) := fnok_or (fnok_cx (ok_good T)) (ok_goodN T)
  refine T.dLAskedOne.F.okX scLAskedOne (fun vs H Q E h => ?_) (fun cdv A outer s H vs Q E hr h => ?_)
  · obtain ⟨k, x, y, o, rfl, _⟩ := h; rfl
  · obtain ⟨k, x, y, o, rfl, hp, q1, q2⟩ := h
    refine ⟨_, (pss_one (ps_if (pt_cmpR op_eq (pv 0) pe_int (nomark _)) (pss_one (ps_expr (pe_callS GRingInU (hr.mono (by decide)) (by rfl) T.dRingIn.g T.dRingIn.F.kp T.dRingIn.b (fun σ => passAt (takes_of rfl rfl rfl rfl) σ) (pa_cons (pv 1) pa_nil)))) (pss_one (ps_if (pt_cmpR op_eq (pv 0) pe_int (nomark _)) (pss_one (ps_expr (pe_callS GNumbersOfU (hr.mono (by decide)) (by rfl) T.dNumbersOf.g T.dNumbersOf.F.kp T.dNumbersOf.b (fun σ => passAt (takes_of rfl rfl rfl rfl) σ) (pa_cons (pv 1) pa_nil)))) (pss_one (ps_if (pt_cmpR op_eq (pv 0) pe_int (nomark _)) (pss_one (ps_expr (pe_callS GLengthsOfU (hr.mono (by decide)) (by rfl) T.dLengthsOf.g T.dLengthsOf.F.kp T.dLengthsOf.b (fun σ => passAt (takes_of rfl rfl rfl rfl) σ) (pa_cons (pv 1) pa_nil)))) (pss_one (ps_if (pt_cmpR op_eq (pv 0) pe_int (nomark _)) (pss_one (ps_expr (pe_callS GShownMovesU (hr.mono (by decide)) (by rfl) T.dShownMoves.g T.dShownMoves.F.kp T.dShownMoves.b (fun σ => passAt (takes_of rfl rfl rfl rfl) σ) (pa_cons (pv 1) (pa_cons pe_int pa_nil))))) (pss_one (ps_if (pt_cmpR op_eq (pv 0) pe_int (nomark _)) (pss_one (ps_expr (pe_callS GMovesInU (hr.mono (by decide)) (by rfl) T.dMovesIn.g T.dMovesIn.F.kp T.dMovesIn.b (fun σ => passAt (takes_of rfl rfl rfl rfl) σ) (pa_cons (pv 1) (pa_cons (pv 2) pa_nil))))) (pss_one (ps_if (pt_cmpR op_eq (pv 0) pe_int (nomark _)) (pss_one (ps_expr (pe_callS GRowNumberU (hr.mono (by decide)) (by rfl) T.dRowNumber.g T.dRowNumber.F.kp T.dRowNumber.b (fun σ => passAt (takes_of rfl rfl rfl rfl) σ) (pa_cons (pv 1) (pa_cons (pv 2) pa_nil))))) (pss_one (ps_if (pt_cmpR op_eq (pv 0) pe_int (nomark _)) (pss_one (ps_expr (pe_callS GIsLostU (hr.mono (by decide)) (by rfl) T.dIsLost.g T.dIsLost.F.kp T.dIsLost.b (fun σ => passAt (takes_of rfl rfl rfl rfl) σ) (pa_cons (pv 1) (pa_cons (pv 2) pa_nil))))) (pss_one (ps_expr (pe_callS GGoodMovesU (hr.mono (by decide)) (by rfl) T.dGoodMoves.g T.dGoodMoves.F.kp T.dGoodMoves.b (fun σ => passAt (takes_of rfl rfl rfl rfl) σ) (pa_cons (pv 1) (pa_cons (pv 2) pa_nil))))))))))))))))))), ?_⟩
    have is : ∀ {j : Int} {H1 : Hp}, EvT (tTest (tOp rEq (tVar 0) (tC (.int j)))) [some (.int k), some x, some y] H1 (decide (k = j)) := fun {j H1} => et_test (ev_is (ev_op (ev_var rfl) ev_c (rv_eq rfl)) (by rw [dec_int]; congr 1))
    have g13 : 1 ≤ k → k ≤ 3 → (∃ C, o = some C ∧ RefG T H x C) ∨ (o = none ∧ IsGame H x) := fun h1 h2 => by
      rcases hp with ⟨h, _⟩ | ⟨_, h⟩ | ⟨h, _⟩
      · omega
      · exact h
      · omega
    have g47 : 4 ≤ k → (∃ C, o = some C ∧ RefR T H x y C) ∨ (o = none ∧ IsGameRow H x y) := fun h1 => by
      rcases hp with ⟨h, _⟩ | ⟨h, _⟩ | ⟨_, h⟩
      · omega
      · omega
      · exact h
    refine s_if is (fun hb H1 e1 => ?_) (fun hb0 H1 e1 => ?_)
    · have hk := of_decide_eq_true hb
      subst hk
      rcases hp with ⟨_, ⟨ho, h⟩ | ⟨ho, h⟩⟩ | ⟨h, _⟩ | ⟨h, _⟩
      · exact s_end (ea_cons (ev_var rfl) ea_nil) fun H2 e2 => .inr ⟨x, rfl, h.mono (e1.trans e2), fun H3 e3 => q2 _ ho H3 ((e1.trans e2).trans e3)⟩
      · obtain ⟨a, ps, w, rfl, hw, gw, wl⟩ := h
        exact s_end (ea_cons (ev_var rfl) ea_nil) fun H2 e2 => .inl ⟨a, ps, w, rfl, hw.mono (e1.trans e2), gw, wl, fun v H3 e3 _ => q1 ho H3 ((e1.trans e2).trans e3)⟩
      · omega
      · omega
    have n0 := of_decide_eq_false hb0
    have lo : 1 ≤ k := by
      rcases hp with ⟨h, _⟩ | ⟨h, _⟩ | ⟨h, _⟩ <;> omega
    clear hp
    refine s_if is (fun hb H2 e2 => ?_) (fun hb1 H2 e2 => ?_)
    · have hk := of_decide_eq_true hb
      have ex := e1.trans e2
      rcases g13 (by omega) (by omega) with ⟨C, ho, h⟩ | ⟨ho, a, ps, w, g, rfl, hw, ga⟩
      · exact s_end (ea_cons (ev_var rfl) ea_nil) fun H3 e3 => .inr ⟨x, C, rfl, h.mono (ex.trans e3), fun H4 e4 => q2 _ ho H4 ((ex.trans e3).trans e4)⟩
      · exact s_end (ea_cons (ev_var rfl) ea_nil) fun H3 e3 => .inl ⟨a, ps, w, rfl, hw.mono (ex.trans e3), ga.gw, ga.le, ga.ac, fun v H4 e4 _ => q1 ho H4 ((ex.trans e3).trans e4)⟩
    have n1 := of_decide_eq_false hb1
    refine s_if is (fun hb H3 e3 => ?_) (fun hb2 H3 e3 => ?_)
    · have hk := of_decide_eq_true hb
      have ex := (e1.trans e2).trans e3
      rcases g13 (by omega) (by omega) with ⟨C, ho, h⟩ | ⟨ho, a, ps, w, g, rfl, hw, ga⟩
      · exact s_end (ea_cons (ev_var rfl) ea_nil) fun H3 e3 => .inr ⟨x, C, rfl, h.mono (ex.trans e3), fun H4 e4 => q2 _ ho H4 ((ex.trans e3).trans e4)⟩
      · exact s_end (ea_cons (ev_var rfl) ea_nil) fun H3 e3 => .inl ⟨a, ps, w, rfl, hw.mono (ex.trans e3), ga.gw, ga.le, ga.ac, fun v H4 e4 _ => q1 ho H4 ((ex.trans e3).trans e4)⟩
    have n2 := of_decide_eq_false hb2
    refine s_if is (fun hb H4 e4 => ?_) (fun hb3 H4 e4 => ?_)
    · have hk := of_decide_eq_true hb
      have ex := (e1.trans e2).trans (e3.trans e4)
      rcases g13 (by omega) (by omega) with ⟨C, ho, h⟩ | ⟨ho, a, ps, w, g, rfl, hw, ga⟩
      · exact s_end (ea_cons (ev_var rfl) (ea_cons ev_c ea_nil)) fun H3 e3 => .inr ⟨x, _, C, rfl, h.mono (ex.trans e3), fun H4 e4 => q2 _ ho H4 ((ex.trans e3).trans e4)⟩
      · exact s_end (ea_cons (ev_var rfl) (ea_cons ev_c ea_nil)) fun H3 e3 => .inl ⟨a, ps, w, 0, rfl, hw.mono (ex.trans e3), ga.gw, ga.le, ga.ac, ga.gw.pos, fun v H4 e4 _ => q1 ho H4 ((ex.trans e3).trans e4)⟩
    have n3 := of_decide_eq_false hb3
    have g4 := g47 (by omega)
    have ex4 := (e1.trans e2).trans (e3.trans e4)
    clear g13 g47
    refine s_if is (fun hb H5 e5 => ?_) (fun hb4 H5 e5 => ?_)
    · have ex := ex4.trans e5
      rcases g4 with ⟨C, ho, h⟩ | ⟨ho, a, t, ps, w, g, r, rfl, rfl, hw, ht, ga, gr⟩
      · exact s_end (ea_cons (ev_var rfl) (ea_cons (ev_var rfl) ea_nil)) fun H3 e3 => .inr ⟨x, y, C, rfl, h.mono (ex.trans e3), fun H4 e4 => q2 _ ho H4 ((ex.trans e3).trans e4)⟩
      · exact s_end (ea_cons (ev_var rfl) (ea_cons (ev_var rfl) ea_nil)) fun H3 e3 => .inl ⟨a, t, ps, w, g, r, rfl, hw.mono (ex.trans e3), (ex.trans e3) _ _ ht, ga, gr, fun v H4 e4 _ => q1 ho H4 ((ex.trans e3).trans e4)⟩
    have ex5 := ex4.trans e5
    refine s_if is (fun hb H6 e6 => ?_) (fun hb5 H6 e6 => ?_)
    · have ex := ex5.trans e6
      rcases g4 with ⟨C, ho, h⟩ | ⟨ho, a, t, ps, w, g, r, rfl, rfl, hw, ht, ga, gr⟩
      · exact s_end (ea_cons (ev_var rfl) (ea_cons (ev_var rfl) ea_nil)) fun H3 e3 => .inr ⟨x, y, C, rfl, h.mono (ex.trans e3), fun H4 e4 => q2 _ ho H4 ((ex.trans e3).trans e4)⟩
      · exact s_end (ea_cons (ev_var rfl) (ea_cons (ev_var rfl) ea_nil)) fun H3 e3 => .inl ⟨a, t, ps, w, g, r, rfl, hw.mono (ex.trans e3), (ex.trans e3) _ _ ht, ga, gr, fun H4 e4 => q1 ho H4 ((ex.trans e3).trans e4)⟩
    have ex6 := ex5.trans e6
    refine s_if is (fun hb H7 e7 => ?_) (fun hb6 H7 e7 => ?_)
    · have ex := ex6.trans e7
      rcases g4 with ⟨C, ho, h⟩ | ⟨ho, a, t, ps, w, g, r, rfl, rfl, hw, ht, ga, gr⟩
      · exact s_end (ea_cons (ev_var rfl) (ea_cons (ev_var rfl) ea_nil)) fun H3 e3 => .inr ⟨x, y, C, rfl, h.mono (ex.trans e3), fun H4 e4 => q2 _ ho H4 ((ex.trans e3).trans e4)⟩
      · exact s_end (ea_cons (ev_var rfl) (ea_cons (ev_var rfl) ea_nil)) fun H3 e3 => .inl ⟨a, t, ps, w, g, r, rfl, hw.mono (ex.trans e3), (ex.trans e3) _ _ ht, ga, gr, fun H4 e4 => q1 ho H4 ((ex.trans e3).trans e4)⟩
    have ex := ex6.trans e7
    rcases g4 with ⟨C, ho, h⟩ | ⟨ho, a, t, ps, w, g, r, rfl, rfl, hw, ht, ga, gr⟩
    · exact s_end (ea_cons (ev_var rfl) (ea_cons (ev_var rfl) ea_nil)) fun H3 e3 => .inr ⟨x, y, C, rfl, h.mono (ex.trans e3), fun H4 e4 => q2 _ ho H4 ((ex.trans e3).trans e4)⟩
    · exact s_end (ea_cons (ev_var rfl) (ea_cons (ev_var rfl) ea_nil)) fun H3 e3 => .inl ⟨a, t, ps, w, g, r, rfl, hw.mono (ex.trans e3), (ex.trans e3) _ _ ht, ga, gr, fun v H4 e4 _ => q1 ho H4 ((ex.trans e3).trans e4)⟩
/-- .. of all twelve -/
def Out (T : Txt K mg) (H : Hp) (k : Int) (x x2 y z m : V) (o : Option Addr) : Prop :=
  (k < 8 ∧ Out1 T H k x y o) ∨ (k = 8 ∧ ∃ C, o = some C ∧ RefM T H x y m C) ∨ (k = 9 ∧ ((∃ C, o = some C ∧ RefP T H x y z C) ∨ (o = none ∧ IsGameRows H x y z))) ∨
  (k = 10 ∧ ((∃ C, o = some C ∧ RefJ T H x x2 (fun a b => a + b) C) ∨ (o = none ∧ IsTwo H x x2 (fun a b => a + b)))) ∨ (k = 11 ∧ ((∃ C, o = some C ∧ RefJ T H x x2 (fun a b => a * b) C) ∨ (o = none ∧ IsTwo H x x2 (fun a b => a * b))))
theorem Out.mono {T : Txt K mg} {H H1 : Hp} {k : Int} {x x2 y z m : V} {o : Option Addr} (h : Out T H k x x2 y z m o) (e : Ex H H1) : Out T H1 k x x2 y z m o := by
  rcases h with ⟨h0, h1⟩ | ⟨h0, C, h1, h2⟩ | ⟨h0, ⟨C, h1, h2⟩ | ⟨h1, h2⟩⟩ | ⟨h0, ⟨C, h1, h2⟩ | ⟨h1, h2⟩⟩ | ⟨h0, ⟨C, h1, h2⟩ | ⟨h1, h2⟩⟩
  · exact .inl ⟨h0, h1.mono e⟩
  · exact .inr (.inl ⟨h0, C, h1, h2.mono e⟩)
  · exact .inr (.inr (.inl ⟨h0, .inl ⟨C, h1, h2.mono e⟩⟩))
  · exact .inr (.inr (.inl ⟨h0, .inr ⟨h1, h2.mono e⟩⟩))
  · exact .inr (.inr (.inr (.inl ⟨h0, .inl ⟨C, h1, h2.mono e⟩⟩)))
  · exact .inr (.inr (.inr (.inl ⟨h0, .inr ⟨h1, h2.mono e⟩⟩)))
  · exact .inr (.inr (.inr (.inr ⟨h0, .inl ⟨C, h1, h2.mono e⟩⟩)))
  · exact .inr (.inr (.inr (.inr ⟨h0, .inr ⟨h1, h2.mono e⟩⟩)))
def spAsked (T : Txt K mg) : Sp := fun vs H Q E => ∃ (k : Int) (x x2 y z m : V) (o : Option Addr), vs = [.int k, x, x2, y, z, m] ∧ Out T H k x x2 y z m o ∧ Fin o H Q E
theorem ok_asked (T : Txt K mg) : FnOk P w K mg base (L2.CX P w) 11 T.dLAsked.f T.dLAsked.fd ["_law_which", "_law_web", "_law_other", "_law_row", "_law_more", "_law_move"] (spAsked T) := by
  have GAskedOne : FnOk P w K mg base (L2.CX P w) _ T.dLAskedOne.f T.dLAskedOne.fd _ (spOne T) := ok_one T
  have GPlayedN : FnOk P w K mg base (L2.CX P w) _ T.dPlayed.f T.dPlayed.fd _ (spPlayedN T) := ok_playedN T
  have GPartingRowU : FnOk P w K mg base (L2.CX P w) _ T.dPartingRow.f T.dPartingRow.fd _ (fun vs H Q E => spParting vs H Q E ∨ spPartingN T vs H Q E) := fnok_or (fnok_cx (ok_parting T)) (ok_partingN T)
  have GJoinedWebsU : FnOk P w K mg base (L2.CX P w) _ T.dJoinedWebs.f T.dJoinedWebs.fd _ (fun vs H Q E => spJoined vs H Q E ∨ spJoinN T (fun a b => a + b) vs H Q E) := fnok_or (fnok_cx (ok_joined T)) (ok_joinedN T)
  have GPairedWebU : FnOk P w K mg base (L2.CX P w) _ T.dPairedWeb.f T.dPairedWeb.fd _ (fun vs H Q E => spPaired vs H Q E ∨ spJoinN T (fun a b => a * b) vs H Q E) := fnok_or (fnok_cx (ok_paired T)) (ok_pairedN T)
  refine T.dLAsked.F.okX scLAsked (fun vs H Q E h => ?_) (fun cdv A outer s H vs Q E hr h => ?_)
  · obtain ⟨k, x, x2, y, z, m, o, rfl, _⟩ := h; rfl
  · obtain ⟨k, x, x2, y, z, m, o, rfl, hp, q1, q2⟩ := h
    refine ⟨_, (pss_one (ps_if (pt_cmpR op_lt (pv 0) pe_int (nomark _)) (pss_one (ps_expr (pe_callS GAskedOne (hr.mono (by decide)) (by rfl) T.dLAskedOne.g T.dLAskedOne.F.kp T.dLAskedOne.b (fun σ => passAt (takes_of rfl rfl rfl rfl) σ) (pa_cons (pv 0) (pa_cons (pv 1) (pa_cons (pv 3) pa_nil)))))) (pss_one (ps_if (pt_cmpR op_eq (pv 0) pe_int (nomark _)) (pss_one (ps_expr (pe_callS GPlayedN (hr.mono (by decide)) (by rfl) T.dPlayed.g T.dPlayed.F.kp T.dPlayed.b (fun σ => passAt (takes_of rfl rfl rfl rfl) σ) (pa_cons (pv 1) (pa_cons (pv 3) (pa_cons (pv 5) pa_nil)))))) (pss_one (ps_if (pt_cmpR op_eq (pv 0) pe_int (nomark _)) (pss_one (ps_expr (pe_callS GPartingRowU (hr.mono (by decide)) (by rfl) T.dPartingRow.g T.dPartingRow.F.kp T.dPartingRow.b (fun σ => passAt (takes_of rfl rfl rfl rfl) σ) (pa_cons (pv 1) (pa_cons (pv 3) (pa_cons (pv 4) pa_nil)))))) (pss_one (ps_if (pt_cmpR op_eq (pv 0) pe_int (nomark _)) (pss_one (ps_expr (pe_callS GJoinedWebsU (hr.mono (by decide)) (by rfl) T.dJoinedWebs.g T.dJoinedWebs.F.kp T.dJoinedWebs.b (fun σ => passAt (takes_of rfl rfl rfl rfl) σ) (pa_cons (pv 1) (pa_cons (pv 2) pa_nil))))) (pss_one (ps_expr (pe_callS GPairedWebU (hr.mono (by decide)) (by rfl) T.dPairedWeb.g T.dPairedWeb.F.kp T.dPairedWeb.b (fun σ => passAt (takes_of rfl rfl rfl rfl) σ) (pa_cons (pv 1) (pa_cons (pv 2) pa_nil))))))))))))), ?_⟩
    have is : ∀ {j : Int} {H1 : Hp}, EvT (tTest (tOp rEq (tVar 0) (tC (.int j)))) [some (.int k), some x, some x2, some y, some z, some m] H1 (decide (k = j)) := fun {j H1} => et_test (ev_is (ev_op (ev_var rfl) ev_c (rv_eq rfl)) (by rw [dec_int]; congr 1))
    refine s_if (b := decide (k < 8)) (et_test (ev_op (ev_var rfl) ev_c rv_I0)) (fun hb H1 e1 => ?_) (fun hb0 H1 e1 => ?_)
    · have hk := of_decide_eq_true hb
      have h1 : Out1 T H k x y o := by
        rcases hp with ⟨_, h⟩ | ⟨h, _⟩ | ⟨h, _⟩ | ⟨h, _⟩ | ⟨h, _⟩
        · exact h
        all_goals omega
      exact s_end (ea_cons (ev_var rfl) (ea_cons (ev_var rfl) (ea_cons (ev_var rfl) ea_nil))) fun H2 e2 => ⟨k, x, y, o, rfl, h1.mono (e1.trans e2), fun ho H3 e3 => q1 ho H3 ((e1.trans e2).trans e3), fun C ho H3 e3 => q2 C ho H3 ((e1.trans e2).trans e3)⟩
    have n0 := of_decide_eq_false hb0
    refine s_if is (fun hb H2 e2 => ?_) (fun hb1 H2 e2 => ?_)
    · have hk := of_decide_eq_true hb
      obtain ⟨C, ho, h⟩ : ∃ C, o = some C ∧ RefM T H x y m C := by
        rcases hp with ⟨h, _⟩ | ⟨_, h⟩ | ⟨h, _⟩ | ⟨h, _⟩ | ⟨h, _⟩
        · omega
        · exact h
        all_goals omega
      have ex := e1.trans e2
      exact s_end (ea_cons (ev_var rfl) (ea_cons (ev_var rfl) (ea_cons (ev_var rfl) ea_nil))) fun H3 e3 => ⟨x, y, m, C, rfl, h.mono (ex.trans e3), fun H4 e4 => q2 C ho H4 ((ex.trans e3).trans e4)⟩
    have n1 := of_decide_eq_false hb1
    refine s_if is (fun hb H3 e3 => ?_) (fun hb2 H3 e3 => ?_)
    · have hk := of_decide_eq_true hb
      have ex := (e1.trans e2).trans e3
      have h : (∃ C, o = some C ∧ RefP T H x y z C) ∨ (o = none ∧ IsGameRows H x y z) := by
        rcases hp with ⟨h, _⟩ | ⟨h, _⟩ | ⟨_, h⟩ | ⟨h, _⟩ | ⟨h, _⟩
        · omega
        · omega
        · exact h
        all_goals omega
      rcases h with ⟨C, ho, h⟩ | ⟨ho, a, t, u, ps, w, g, r, s', rfl, rfl, rfl, hw, ht, hu, ga, gr, gs⟩
      · exact s_end (ea_cons (ev_var rfl) (ea_cons (ev_var rfl) (ea_cons (ev_var rfl) ea_nil))) fun H3 e3 => .inr ⟨x, y, z, C, rfl, h.mono (ex.trans e3), fun H4 e4 => q2 C ho H4 ((ex.trans e3).trans e4)⟩
      · exact s_end (ea_cons (ev_var rfl) (ea_cons (ev_var rfl) (ea_cons (ev_var rfl) ea_nil))) fun H3 e3 => .inl ⟨a, t, u, ps, w, g, r, s', rfl, hw.mono (ex.trans e3), (ex.trans e3) _ _ ht, (ex.trans e3) _ _ hu, ga, gr, gs, fun v H4 e4 _ => q1 ho H4 ((ex.trans e3).trans e4)⟩
    have n2 := of_decide_eq_false hb2
    refine s_if is (fun hb H4 e4 => ?_) (fun hb3 H4 e4 => ?_)
    · have hk := of_decide_eq_true hb
      have ex := (e1.trans e2).trans (e3.trans e4)
      have h : (∃ C, o = some C ∧ RefJ T H x x2 (fun a b => a + b) C) ∨ (o = none ∧ IsTwo H x x2 (fun a b => a + b)) := by
        rcases hp with ⟨h, _⟩ | ⟨h, _⟩ | ⟨h, _⟩ | ⟨_, h⟩ | ⟨h, _⟩
        · omega
        · omega
        · omega
        · exact h
        · omega
      rcases h with ⟨C, ho, h⟩ | ⟨ho, a, b, ps, qs, w, v, rfl, rfl, hw, hv, gw, gv, wl, vl, hn⟩
      · exact s_end (ea_cons (ev_var rfl) (ea_cons (ev_var rfl) ea_nil)) fun H3 e3 => .inr ⟨x, x2, C, rfl, h.mono (ex.trans e3), fun H4 e4 => q2 C ho H4 ((ex.trans e3).trans e4)⟩
      · exact s_end (ea_cons (ev_var rfl) (ea_cons (ev_var rfl) ea_nil)) fun H3 e3 => .inl ⟨a, b, ps, qs, w, v, rfl, hw.mono (ex.trans e3), hv.mono (ex.trans e3), gw, gv, hn, fun v H4 e4 _ => q1 ho H4 ((ex.trans e3).trans e4)⟩
    have n3 := of_decide_eq_false hb3
    have ex := (e1.trans e2).trans (e3.trans e4)
    have h : (∃ C, o = some C ∧ RefJ T H x x2 (fun a b => a * b) C) ∨ (o = none ∧ IsTwo H x x2 (fun a b => a * b)) := by
      rcases hp with ⟨h, _⟩ | ⟨h, _⟩ | ⟨h, _⟩ | ⟨h, _⟩ | ⟨_, h⟩
      · omega
      · omega
      · omega
      · omega
      · exact h
    rcases h with ⟨C, ho, h⟩ | ⟨ho, a, b, ps, qs, w, v, rfl, rfl, hw, hv, gw, gv, wl, vl, hn⟩
    · exact s_end (ea_cons (ev_var rfl) (ea_cons (ev_var rfl) ea_nil)) fun H3 e3 => .inr ⟨x, x2, C, rfl, h.mono (ex.trans e3), fun H4 e4 => q2 C ho H4 ((ex.trans e3).trans e4)⟩
    · exact s_end (ea_cons (ev_var rfl) (ea_cons (ev_var rfl) ea_nil)) fun H3 e3 => .inl ⟨a, b, ps, qs, w, v, rfl, hw.mono (ex.trans e3), hv.mono (ex.trans e3), gw, gv, wl, vl, hn, fun v H4 e4 => q1 ho H4 ((ex.trans e3).trans e4)⟩
end
end KX
set_option Elab.async false
set_option linter.all false
set_option maxRecDepth 100000
set_option maxHeartbeats 4000000
namespace KX
open PySem PySem.Spec PyProof.Rows L2 Evl RZ Sg
section
variable {P : Program} {w : World} {K : PySem.W.Frag} {mg : Str → Option Value} {base : Heap}

/-! ### what is told of it -/
def textL : List Str := ["web", "ring", "row", "move", "many"]
structure ToldX (T : Txt K mg) (C : Addr) (s : Str) : Prop where
  x : ExcC K C
  m : PySem.W.exmOne K (.ref C) (.ref T.cGameError) = some true
  v : PySem.W.kitOne K (.ref C) (.type "ValueError") = some true
  k : ∃ b0 b1 b2 b3 b4 : Bool, PySem.W.kitOne K (.ref C) (.ref T.cNoWeb) = some b0 ∧ PySem.W.kitOne K (.ref C) (.ref T.cRinged) = some b1 ∧ PySem.W.kitOne K (.ref C) (.ref T.cNoRow) = some b2 ∧ PySem.W.kitOne K (.ref C) (.ref T.cNoMove) = some b3 ∧ PySem.W.kitOne K (.ref C) (.ref T.cTooMany) = some b4 ∧
    [b0, b1, b2, b3, b4, true].count true = 2 ∧ ∃ j : Nat, [b0, b1, b2, b3, b4, true][j]? = some true ∧ (∀ m y, m < j → [b0, b1, b2, b3, b4, true][m]? = some y → y ≠ true) ∧ (textL.map V.str)[j]? = some (.str s)
theorem told_at {bs : List Bool} {j : Nat} (h : (bs.take j).all (fun b => !b) = true) : ∀ m y, m < j → bs[m]? = some y → y ≠ true := fun m y hm hy e => by
  have : (bs.take j)[m]? = some y := by rw [List.getElem?_take_of_lt hm]; exact hy
  have := List.all_eq_true.mp h y (List.mem_of_getElem? this)
  rw [e] at this; cases this
theorem told_web (T : Txt K mg) : ToldX T T.cNoWeb "web" := ⟨T.xNoWeb.e, T.mNoWeb_GameError, T.kNoWeb_ValueError, true, false, false, false, false, T.kNoWeb_NoWeb, T.kNoWeb_Ringed, T.kNoWeb_NoRow, T.kNoWeb_NoMove, T.kNoWeb_TooMany, rfl, 0, rfl, told_at rfl, rfl⟩
theorem told_ring (T : Txt K mg) : ToldX T T.cRinged "ring" := ⟨T.xRinged.e, T.mRinged_GameError, T.kRinged_ValueError, false, true, false, false, false, T.kRinged_NoWeb, T.kRinged_Ringed, T.kRinged_NoRow, T.kRinged_NoMove, T.kRinged_TooMany, rfl, 1, rfl, told_at rfl, rfl⟩
theorem told_row (T : Txt K mg) : ToldX T T.cNoRow "row" := ⟨T.xNoRow.e, T.mNoRow_GameError, T.kNoRow_ValueError, false, false, true, false, false, T.kNoRow_NoWeb, T.kNoRow_Ringed, T.kNoRow_NoRow, T.kNoRow_NoMove, T.kNoRow_TooMany, rfl, 2, rfl, told_at rfl, rfl⟩
theorem told_move (T : Txt K mg) : ToldX T T.cNoMove "move" := ⟨T.xNoMove.e, T.mNoMove_GameError, T.kNoMove_ValueError, false, false, false, true, false, T.kNoMove_NoWeb, T.kNoMove_Ringed, T.kNoMove_NoRow, T.kNoMove_NoMove, T.kNoMove_TooMany, rfl, 3, rfl, told_at rfl, rfl⟩
theorem told_many (T : Txt K mg) : ToldX T T.cTooMany "many" := ⟨T.xTooMany.e, T.mTooMany_GameError, T.kTooMany_ValueError, false, false, false, false, true, T.kTooMany_NoWeb, T.kTooMany_Ringed, T.kTooMany_NoRow, T.kTooMany_NoMove, T.kTooMany_TooMany, rfl, 4, rfl, told_at rfl, rfl⟩
def Says (T : Txt K mg) (o : Option Addr) (s : Str) : Prop := (o = none ∧ s = "") ∨ ∃ C, o = some C ∧ ToldX T C s
def spTold (T : Txt K mg) : Sp := fun vs H Q _ => ∃ (k : Int) (x x2 y z m : V) (o : Option Addr) (s : Str), vs = [.int k, x, x2, y, z, m] ∧ Out T H k x x2 y z m o ∧ Says T o s ∧ ∀ H', Ex H H' → Q (.str s) H'
theorem ok_told (T : Txt K mg) : FnOk P w K mg base CX0 12 T.dLTold.f T.dLTold.fd ["_law_which", "_law_web", "_law_other", "_law_row", "_law_more", "_law_move"] (spTold T) := by
  have GAsked : FnOk P w K mg base (L2.CX P w) _ T.dLAsked.f T.dLAsked.fd _ (spAsked T) := ok_asked T
  refine T.dLTold.F.ok scLTold (fun vs H Q E h => ?_) (fun cdv A outer s H vs Q E hr h => ?_)
  · obtain ⟨k, x, x2, y, z, m, o, s, rfl, _⟩ := h; rfl
  · obtain ⟨k, x, x2, y, z, m, o, s', rfl, hp, hs, q⟩ := h
    refine ⟨_, (pss_cons (ps_try_as (i := 7) (Wout := fun _ _ _ _ => False) rfl rfl scLTold.nd rfl rfl ⟨rfl, by decide, Or.inl T.gcGameError⟩ takes0 (fun W pn xe tk _ => (pss_one (ps_expr (pe_callS GAsked (hr.mono (by decide)) (by rfl) T.dLAsked.g T.dLAsked.F.kp T.dLAsked.b (fun σ => passAt tk σ) (pa_cons (pv 0) (pa_cons (pv 1) (pa_cons (pv 2) (pa_cons (pv 3) (pa_cons (pv 4) (pa_cons (pv 5) pa_nil)))))))))) (fun a oe cls d pn hz hf => (pss_cons (ps_set (i := 6) scLTold.nd rfl (.inl rfl) (pe_lst (pa_cons (pe_callB (id := "isinstance") (call_isE' hz hf K) (by rfl) T.z_isinstance (by decide +kernel) (pa_cons (pv 7) (pa_cons (pe_glob (v := .ref T.cNoWeb) (by rfl) T.gcNoWeb rfl) pa_nil))) (pa_cons (pe_callB (id := "isinstance") (call_isE' hz hf K) (by rfl) T.z_isinstance (by decide +kernel) (pa_cons (pv 7) (pa_cons (pe_glob (v := .ref T.cRinged) (by rfl) T.gcRinged rfl) pa_nil))) (pa_cons (pe_callB (id := "isinstance") (call_isE' hz hf K) (by rfl) T.z_isinstance (by decide +kernel) (pa_cons (pv 7) (pa_cons (pe_glob (v := .ref T.cNoRow) (by rfl) T.gcNoRow rfl) pa_nil))) pa_nil))))) (pss_cons (ps_set (i := 6) scLTold.nd rfl (.inl rfl) (pe_op op_cat (pv 6) (pe_lst (pa_cons (pe_callB (id := "isinstance") (call_isE' hz hf K) (by rfl) T.z_isinstance (by decide +kernel) (pa_cons (pv 7) (pa_cons (pe_glob (v := .ref T.cNoMove) (by rfl) T.gcNoMove rfl) pa_nil))) (pa_cons (pe_callB (id := "isinstance") (call_isE' hz hf K) (by rfl) T.z_isinstance (by decide +kernel) (pa_cons (pv 7) (pa_cons (pe_glob (v := .ref T.cTooMany) (by rfl) T.gcTooMany rfl) pa_nil))) (pa_cons (pe_callB (id := "isinstance") (call_isE' hz hf K) (by rfl) T.z_isinstance (by decide +kernel) (pa_cons (pv 7) (pa_cons (pe_bltn (v := .ty "ValueError") (by rfl) T.z_ValueError (by decide +kernel) rfl) pa_nil))) pa_nil)))))) (pss_cons (ps_if (PW.pt (pw_or (pt_cmpR op_ne (pe_bmK K PySem.F.plainAttrs_list PySem.F.slot_list_count PySem.F.type_list_count (cntBK K) (pv 6) (pa_cons pe_bl pa_nil)) pe_int (nomark _)) (pw_or1 (pt_not (pt_val (pe_ix (ixK K) (pv 6) pe_int (fun _ _ => rfl))))))) (pss_one (ps_ret pe_str)) pss_nil) (pss_one (ps_ret (pe_ix (ixK K) (pe_lst (pa_cons pe_str (pa_cons pe_str (pa_cons pe_str (pa_cons pe_str (pa_cons pe_str pa_nil)))))) (pe_bmK K PySem.F.plainAttrs_list PySem.F.slot_list_index PySem.F.type_list_index (idxK K) (pv 6) (pa_cons pe_bl pa_nil)) (fun _ _ => rfl))))))))) (pss_one (ps_ret pe_str))), ?_⟩
    refine s_callX (ea_cons (ev_var rfl) (ea_cons (ev_var rfl) (ea_cons (ev_var rfl) (ea_cons (ev_var rfl) (ea_cons (ev_var rfl) (ea_cons (ev_var rfl) ea_nil)))))) (fun H1 e1 => ⟨k, x, x2, y, z, m, o, rfl, hp.mono e1, fun ho H2 e2 => ?_, fun C ho H2 e2 => ?_⟩)
    · rcases hs with ⟨_, rfl⟩ | ⟨C, hC, _⟩
      · exact s_ret (σ := []) (D := { nx := fun _ H' => Q .non H', rt := Q }) ev_c (fun H3 e3 => q H3 ((e1.trans e2).trans e3))
      · rw [ho] at hC; cases hC
    · rcases hs with ⟨hn, _⟩ | ⟨C', hC, tl⟩
      · rw [ho] at hn; cases hn
      rw [ho] at hC; cases hC
      obtain ⟨b0, b1, b2, b3, b4, k0, k1, k2, k3, k4, hc, j, hj, hn, hsj⟩ := tl.k
      refine ⟨true, tl.m, fun _ xa hx => ?_, fun hb => nomatch hb⟩
      have ex := e1.trans e2
      refine q_asgL (el_lst (ea_cons (ev_isE (ev_var rfl) ev_c tl.x k0) (ea_cons (ev_isE (ev_var rfl) ev_c tl.x k1) (ea_cons (ev_isE (ev_var rfl) ev_c tl.x k2) ea_nil))) (show 3 ≤ 100000 by decide)) (fun p H3 n3 e3 h3 => ?_)
      refine q_asgL (el_is (el_catVL (ev_var rfl) h3 (el_lst (ea_cons (ev_isE (ev_var rfl) ev_c tl.x k3) (ea_cons (ev_isE (ev_var rfl) ev_c tl.x k4) (ea_cons (ev_isET (ev_var rfl) ev_c tl.x tl.v) ea_nil))) (show 3 ≤ 100000 by decide)) (show 3 + 3 ≤ 100000 by decide)) (show _ = bll [b0, b1, b2, b3, b4, true] from rfl)) (fun p2 H4 n4 e4 h4 => ?_)
      refine q_when (b := false) (et_is (et_or (et_test (ev_op (ev_cntB (bs := [b0, b1, b2, b3, b4, true]) (ev_var rfl) ev_c (sq_of h4)) ev_c (rv_ne rfl))) (fun _ => et_not (et_B (b := true) (ev_op (ev_var rfl) ev_c (rv_ixL (sq_of h4) (atI_nat (j := 5) rfl)))))) (by rw [hc]; rfl)) (fun hb => nomatch hb) (fun _ H5 e5 => ?_)
      refine s_ret (ev_opR1 (EvL.new (el_is (el_lst (ea_cons ev_c (ea_cons ev_c (ea_cons ev_c (ea_cons ev_c (ea_cons ev_c ea_nil))))) (show 5 ≤ 100000 by decide)) (show _ = textL.map V.str from rfl))) (fun G1 a1 => ev_indexB (bs := [b0, b1, b2, b3, b4, true]) (ev_var rfl) ev_c (sq_of (a1 _ _ (e5 _ _ h4))) hj hn) (fun v G0 G1 G2 a0 a1 r a2 => ?_)) (fun H6 e6 => q H6 ((ex.trans (e3.trans e4)).trans (e5.trans e6)))
      obtain ⟨p3, rfl, _, h5⟩ := r
      exact rv_ixL (sq_of (a2 _ _ h5)) (atI_nat hsj)
theorem ev_told {T : Txt K mg} {σ : L2.St} {H : Hp} {ta tb tc td te tf : TE} {k : Int} {x x2 y z m : V} {o : Option Addr} {s : Str} {E : XK} (h1 : Ev ta σ H (.int k)) (h2 : Ev tb σ H x) (h3 : Ev tc σ H x2) (h4 : Ev td σ H y) (h5 : Ev te σ H z) (h6 : Ev tf σ H m) (hp : Out T H k x x2 y z m o) (hs : Says T o s) : Ev (tCall (spTold T) [] E (tCons ta (tCons tb (tCons tc (tCons td (tCons te (tCons tf tNil))))))) σ H (.str s) :=
  ev_call (ea_cons h1 (ea_cons h2 (ea_cons h3 (ea_cons h4 (ea_cons h5 (ea_cons h6 ea_nil)))))) fun H1 e Q q E => ⟨k, x, x2, y, z, m, o, s, rfl, hp.mono e, hs, q⟩
end
end KX
set_option Elab.async false
set_option linter.all false
set_option maxRecDepth 100000
set_option maxHeartbeats 4000000
namespace KX
open PySem PySem.Spec PyProof.Rows L2 Evl RZ Sg
section
variable {P : Program} {w : World} {K : PySem.W.Frag} {mg : Str → Option Value} {base : Heap}

/-! ### spoilt webs -/
theorem nat_mod (z : Int) {n : Nat} (hn : 0 < n) : ∃ k : Nat, z % (n : Int) = (k : Int) ∧ k < n := by
  refine ⟨(z % (n : Int)).toNat, ?_, ?_⟩
  · have := Int.emod_nonneg z (show (n : Int) ≠ 0 by omega); omega
  · have := Int.emod_lt_of_pos z (show (0 : Int) < (n : Int) by omega); omega
theorem big20 {m : Nat} (hm : m ≤ 1000) : ¬ ((10 : Int) ^ 20 < (m : Int)) := by
  have : (10 : Int) ^ 20 = 100000000000000000000 := by decide +kernel
  omega
theorem odd_no {H : Hp} {a p : Addr} {m i : Nat} {x : V} (hm : m ≤ 1000) (hp : H p = some (.lst (nl [0]))) (hx : (oddL m p)[i]? = some x) : PlaceNo K H x m := by
  have hi : i < 7 := (List.getElem?_eq_some_iff.mp hx).1
  match i, hi with
  | 0, _ => cases hx; exact .inl ⟨_, rfl, by rw [decide_eq_false (show ¬ ((m : Int) < (m : Int)) by omega), Bool.and_false]⟩
  | 1, _ => cases hx; exact .inl ⟨_, rfl, rfl⟩
  | 2, _ => cases hx; exact .inr ⟨"bool", by decide, fun H' e => .bl _⟩
  | 3, _ => cases hx; exact .inr ⟨"str", by decide, fun H' e => .str _⟩
  | 4, _ => cases hx; exact .inr ⟨"NoneType", by decide, fun H' e => .non⟩
  | 5, _ => cases hx; exact .inr ⟨"list", by decide, fun H' e => .lst (sq_of (e _ _ hp))⟩
  | 6, _ => cases hx; exact .inl ⟨_, rfl, by rw [decide_eq_false (big20 hm), Bool.and_false]⟩
theorem ins_at {α : Type} {xs : List α} {j : Nat} {x : α} (h : j ≤ xs.length) : (xs.take j ++ [x] ++ xs.drop j)[j]? = some x := by
  rw [List.append_assoc, List.getElem?_append_right (by rw [List.length_take]; omega), List.length_take, Nat.min_eq_left h, Nat.sub_self]; rfl
theorem ins_before {α : Type} {xs ys : List α} {j t : Nat} {x : α} (h : j ≤ xs.length) (ht : t < j) : (xs.take j ++ [x] ++ ys)[t]? = xs[t]? := by
  rw [List.append_assoc, List.getElem?_append_left (by rw [List.length_take]; omega), List.getElem?_take_of_lt ht]
theorem ins_len {α : Type} {xs : List α} {j : Nat} {x : α} (h : j ≤ xs.length) : (xs.take j ++ [x] ++ xs.drop j).length = xs.length + 1 := by
  rw [List.length_append, List.length_append, List.length_take, List.length_drop]; simp; omega
theorem webNo_at {H : Hp} {a : Addr} {xs : List V} {ps : List Addr} {w : List (List Nat)} {i : Nat} {x : V} (h : H a = some (.lst xs)) (hl : w.length ≤ xs.length ∧ xs.length ≤ 200) (hx : xs[i]? = some x) (il : i ≤ w.length) (hpre : ∀ j, j < i → xs[j]? = (ps.map V.ref)[j]?) (pl : ps.length = w.length)
    (hrow : ∀ j p r, j < i → ps[j]? = some p → w[j]? = some r → H p = some (.lst (nl r))) (gw : GoodWeb w) (no : SpotIs K H xs.length x false) : WebNo K H (.ref a) := by
  have gp := gw.pos
  refine .bad h ⟨by omega, hl.2⟩ hx (fun j y hj hy => ?_) no
  rw [hpre j hj] at hy
  have jl : j < ps.length := by omega
  have e1 := List.getElem?_eq_getElem jl
  have e2 := List.getElem?_eq_getElem (show j < w.length by omega)
  rw [List.getElem?_map, e1] at hy
  cases hy
  have gl := good_len gw e2
  exact .nums (hrow j _ _ hj e1 e2) (fun x hx => by have := gw.lt _ _ e2 x hx; omega) (by omega) (decide_eq_true (gw.nd _ _ e2)).symm
def spSpoilt (K : PySem.W.Frag) : Sp := fun vs H Q _ => ∃ (a : Addr) (c : Int) (ps : List Addr) (w : List (List Nat)), vs = [.ref a, .int c] ∧ WebAt H a ps w ∧ GoodWeb w ∧ w.length ≤ 40 ∧ ∀ v H', Ex H H' → WebNo K H' v → Q v H'
theorem ok_spoilt (T : Txt K mg) : FnOk P w K mg base CX0 2 T.dLSpoilt.f T.dLSpoilt.fd ["_law_web", "_law_cell"] (spSpoilt K) := by
  have GLCopied : FnOk P w K mg base CX0 _ T.dLCopied.f T.dLCopied.fd _ spCopied := ok_copied T
  refine T.dLSpoilt.F.ok scLSpoilt (fun vs H Q E h => ?_) (fun cdv A outer s H vs Q E hr h => ?_)
  · obtain ⟨a, c, ps, w, rfl, _⟩ := h; rfl
  · obtain ⟨a, c, ps, w, rfl, hw, gw, wl, q⟩ := h
    refine ⟨_, (pss_cons (ps_set (i := 2) scLSpoilt.nd rfl (.inl rfl) (pe_op op_mod (pe_op op_fdiv (pv 1) pe_int) (pe_callB (id := "len") (lenK K) (by rfl) T.z_len (by decide +kernel) (pa_cons (pv 0) pa_nil)))) (pss_cons (ps_set (i := 3) scLSpoilt.nd rfl (.inl rfl) (pe_lst (pa_cons (pe_callB (id := "len") (lenK K) (by rfl) T.z_len (by decide +kernel) (pa_cons (pv 0) pa_nil)) (pa_cons (pe_un un_neg pe_int) (pa_cons pe_bl (pa_cons pe_str (pa_cons pe_non (pa_cons (pe_lst (pa_cons pe_int pa_nil)) (pa_cons (pe_op op_pow pe_int pe_int) pa_nil))))))))) (pss_cons (ps_set (i := 4) scLSpoilt.nd rfl (.inl rfl) (pe_call GLCopied (hr.mono (by decide)) (by rfl) T.dLCopied.g T.dLCopied.F.kp T.dLCopied.b .nil pass0 (pa_cons (pv 0) pa_nil))) (pss_cons (ps_if (pt_cmpR op_lt (pe_op op_mod (pv 1) pe_int) pe_int (nomark _)) (pss_cons (ps_expr (pe_bm PySem.F.plainAttrs_list PySem.F.slot_list_insert PySem.F.type_list_insert insK (pe_ix (ixK K) (pv 4) (pv 2) (fun _ _ => rfl)) (pa_cons (pe_op op_mod (pe_op op_fdiv (pv 1) pe_int) (pe_op op_add (pe_callB (id := "len") (lenK K) (by rfl) T.z_len (by decide +kernel) (pa_cons (pe_ix (ixK K) (pv 4) (pv 2) (fun _ _ => rfl)) pa_nil)) pe_int)) (pa_cons (pe_ix (ixK K) (pv 3) (pe_op op_mod (pv 1) pe_int) (fun _ _ => rfl)) pa_nil)))) (pss_one (ps_ret (pv 4)))) pss_nil) (pss_cons (ps_if (pt_cmpR op_eq (pe_op op_mod (pv 1) pe_int) pe_int (nomark _)) (pss_cons (ps_set (i := 5) scLSpoilt.nd rfl (.inr rfl) (pe_op op_mod (pe_op op_mod (pe_op op_fdiv (pv 1) pe_int) pe_int) (pe_callB (id := "len") (lenK K) (by rfl) T.z_len (by decide +kernel) (pa_cons (pv 0) pa_nil)))) (pss_cons (ps_setLc (i := 6) (own := [("_law_spot", 8)]) (g := gName 8) (by rfl) scLSpoilt.nd rfl rfl (sw_true rfl rfl rfl (by decide +kernel)) (piK K (pe_ix (ixK K) (pv 4) (pv 2) (fun _ _ => rfl))) (blkOk_by (own := [("_law_spot", 8)]) (N := nLSpoilt) (sc := defScope sLSpoilt) (by decide +kernel)) (fun _ _ _ _ _ => pg_name (i := 8) scLSpoilt.nd rfl (Or.inl rfl)) (fun _ _ _ _ _ => (pts_one (pt_cmpR op_ne (pv 8) (pv 5) (nomark _)))) (fun _ _ _ _ _ => (pv 8))) (pss_cons (ps_set (i := 7) scLSpoilt.nd rfl (.inl rfl) (pe_op op_mod (pe_op op_fdiv (pv 1) pe_int) (pe_op op_add (pe_callB (id := "len") (lenK K) (by rfl) T.z_len (by decide +kernel) (pa_cons (pv 6) pa_nil)) pe_int))) (pss_one (ps_asg (pe_op op_cat (pe_op op_cat (pe_op op_cat (pe_lst (pa_cons (pv 5) pa_nil)) (pe_slice (slK K) (pv 6) po_none (po_some (pv 7)))) (pe_lst (pa_cons (pv 5) pa_nil))) (pe_slice (slK K) (pv 6) (po_some (pv 7)) po_none)) (pg_sub (pv 4) (pv 2) set_list)))))) pss_nil) (pss_cons (ps_if (pt_cmpR op_eq (pe_op op_mod (pv 1) pe_int) pe_int (nomark _)) (pss_one (ps_asg (pe_callTy (T := "tuple") (tupK K) (by rfl) T.z_tuple (by decide +kernel) (pa_cons (pe_ix (ixK K) (pv 4) (pv 2) (fun _ _ => rfl)) pa_nil)) (pg_sub (pv 4) (pv 2) set_list))) pss_nil) (pss_cons (ps_if (pt_cmpR op_eq (pe_op op_mod (pv 1) pe_int) pe_int (nomark _)) (pss_one (ps_asg pe_non (pg_sub (pv 4) (pv 2) set_list))) pss_nil) (pss_cons (ps_if (pt_cmpR op_eq (pe_op op_mod (pv 1) pe_int) pe_int (nomark _)) (pss_one (ps_expr (pe_bm PySem.F.plainAttrs_list PySem.F.slot_list_insert PySem.F.type_list_insert insK (pv 4) (pa_cons (pv 2) (pa_cons pe_int pa_nil))))) pss_nil) (pss_cons (ps_if (pt_cmpR op_eq (pe_op op_mod (pv 1) pe_int) pe_int (nomark _)) (pss_one (ps_ret (pe_lc (own := [("_law_k", 9)]) (g := gName 9) (by rfl) scLSpoilt.nd (pi_range1 (by rfl) T.z_range (pa_cons pe_int pa_nil)) (blkOk_by (own := [("_law_k", 9)]) (N := nLSpoilt) (sc := defScope sLSpoilt) (by decide +kernel)) (fun _ _ _ _ _ => pg_name (i := 9) scLSpoilt.nd rfl (Or.inl rfl)) (fun _ _ _ _ _ => pts_nil) (fun _ _ _ _ _ => (pe_lst pa_nil))))) pss_nil) (pss_one (ps_ret (pe_ifExp (pt_cmpR op_lt (pe_op op_mod (pv 1) pe_int) pe_int (nomark _)) (pv 4) (pe_ix (ixK K) (pe_lst (pa_cons (pe_lst pa_nil) (pa_cons pe_non (pa_cons (pe_callTy (T := "tuple") (tupK K) (by rfl) T.z_tuple (by decide +kernel) (pa_cons (pv 0) pa_nil)) (pa_cons pe_dnewK (pa_cons pe_str (pa_cons pe_int pa_nil))))))) (pe_op op_mod (pe_op op_fdiv (pv 1) pe_int) pe_int) (fun _ _ => rfl)))))))))))))), ?_⟩
    have gp := gw.pos
    obtain ⟨i, hi, il⟩ := nat_mod (c / 14) gp
    refine q_asg (v := ni i) (ev_is (ev_op (ev_op (ev_var rfl) ev_c (rv_I (by constructor <;> decide))) (ev_wlen (K := K) (ev_var rfl) hw) (rv_I (show (0 : Int) < (w.length : Int) by omega))) (by rw [hi])) (fun H1 e1 => ?_)
    refine q_asgR (er_odd (m := w.length) (ev_wlen (K := K) (ev_var rfl) (hw.mono e1)) (ev_un ev_c ru_neg) ev_c ev_c ev_c (el_lst (ea_cons ev_c ea_nil) (show 1 ≤ 100000 by decide)) (ev_op ev_c ev_c (rv_I (by refine ⟨by decide, by decide, by decide⟩)))) (fun v H2 e2 r2 => ?_)
    obtain ⟨oa, pz, rfl, ho, hz⟩ := r2
    refine q_asgR (er_copied (ev_var rfl) (hw.mono (e1.trans e2)) (by omega)) (fun v H3 e3 r3 => ?_)
    obtain ⟨ca, cps, cw, rfl, hcw, nw, ew⟩ := r3
    subst ew
    have ex3 := (e1.trans e2).trans e3
    have nz : ∀ p ∈ cps, p ≠ pz := fun p hp z => by
      have := nw.row p hp
      rw [z, hz] at this; cases this
    have nw := nw.back (e1.trans e2)
    have ho3 := e3 _ _ ho
    have hz3 := e3 _ _ hz
    clear ho hz e1 e2 e3
    have ipl : i < cps.length := by rw [hcw.len]; exact il
    obtain ⟨p, hp, hpr, hrow⟩ := web_row (K := K) hcw il
    have pin : p ∈ cps := List.mem_of_getElem? hp
    have pca : p ≠ ca := fun z => nw.na (by rw [← z]; exact pin)
    have rl := good_len gw (row_at il)
    have rlt : ∀ x ∈ row cw i, x < cw.length := fun x hx => gw.rlt hx
    have c1 : cps.length = cw.length := hcw.len
    have ml : (cps.map V.ref).length = cps.length := List.length_map _
    refine q_when (b := decide (c % 14 < 7)) (et_test (ev_op (ev_op (ev_var rfl) ev_c (rv_I (by decide))) ev_c rv_I0)) (fun hb H4 e4 => ?_) (fun hb H4 e4 => ?_)
    · have hb := of_decide_eq_true hb
      obtain ⟨m, hm, m7⟩ := nat_mod c (show 0 < 14 by decide)
      have m7 : m < 7 := by omega
      obtain ⟨j, hj, jl⟩ := nat_mod (c / 14) (show 0 < (row cw i).length + 1 by omega)
      obtain ⟨x, hx⟩ : ∃ x, (oddL cw.length pz)[m]? = some x := ⟨_, List.getElem?_eq_getElem (show m < (oddL cw.length pz).length from m7)⟩
      have hrow4 := e4 _ _ hrow
      refine q_ins (i := j) (y := x) hrow4 (ev_op (ev_var rfl) (ev_var rfl) (rv_ixL (hcw.mono e4).seq (atI_nat hpr))) (ev_is (ev_op (ev_op (ev_var rfl) ev_c (rv_I (by constructor <;> decide))) (ev_op (ev_llen (K := K) (ev_op (ev_var rfl) (ev_var rfl) (rv_ixL (hcw.mono e4).seq (atI_nat hpr))) (sq_of hrow4)) ev_c rv_I0) (rv_I (show (0 : Int) < ((row cw i).length : Int) + 1 by omega))) (by rw [← hj]; rfl)) (ev_op (ev_var rfl) (ev_is (ev_op (ev_var rfl) ev_c (rv_I (by decide))) (by rw [← hm]; rfl)) (rv_ixL (sq_of (e4 _ _ ho3)) (atI_nat hx))) (by rw [nl_len]; omega) (by omega) (fun H5 e5 => ?_)
      have e45 := e4.trans e5
      have exA : Ex H (upd H5 p (.lst ((nl (row cw i)).take j ++ [x] ++ (nl (row cw i)).drop j))) := (ex3.trans e45).mut (nw.row p pin)
      have xno : PlaceNo K (upd H5 p (.lst ((nl (row cw i)).take j ++ [x] ++ (nl (row cw i)).drop j))) x cw.length := by
        refine odd_no (a := ca) (p := pz) (by omega) ?_ hx
        rw [upd_ne (nz p pin).symm]
        exact e45 _ _ hz3
      have wno : WebNo K (upd H5 p (.lst ((nl (row cw i)).take j ++ [x] ++ (nl (row cw i)).drop j))) (.ref ca) := by
        refine webNo_at (xs := cps.map V.ref) (ps := cps) (w := cw) (i := i) (x := .ref p) (by rw [upd_ne pca.symm]; exact e45 _ _ hcw.top) ⟨by omega, by omega⟩ hpr (by omega) (fun _ _ => rfl) c1 (fun t pt r ht h1 h2 => ?_) gw ?_
        · rw [upd_ne (fun z => by
            subst z
            have := nd_at nw.nd h1 hp
            omega)]
          exact e45 _ _ (hcw.row t pt r h1 h2)
        · refine .bad (i := j) upd_same (ins_at (by rw [nl_len]; omega)) (fun t ht => ?_) (by rw [ml, c1]; exact xno)
          rw [ins_before (by rw [nl_len]; omega) ht]
          have tl : t < (row cw i).length := by omega
          exact ⟨(row cw i)[t], nl_get (List.getElem?_eq_getElem tl), by rw [ml, c1]; exact rlt _ (List.getElem_mem tl)⟩
      exact s_ret (ev_var rfl) (fun H6 e6 => q _ _ (exA.trans e6) (wno.mono e6))
    have hb := of_decide_eq_false hb
    have hM : c % 14 = 7 ∨ c % 14 = 8 ∨ c % 14 = 9 ∨ c % 14 = 10 ∨ c % 14 = 11 ∨ c % 14 = 12 ∨ c % 14 = 13 := by omega
    rcases hM with hM | hM | hM | hM | hM | hM | hM
    · -- 7
      refine q_when (b := true) (et_test (ev_is (ev_op (ev_op (ev_var rfl) ev_c (rv_I (by decide))) ev_c (rv_eq rfl)) (by rw [hM]; rfl))) (fun _ H5 e5 => ?_) (fun hb => nomatch hb)
      have ea : Ex H3 H5 := (e4.trans e5)
      have hca := ea _ _ hcw.top
      have hra := ea _ _ hrow
      obtain ⟨d, hd, dl⟩ := nat_mod (c / 14 % 7) gp
      refine q_asg (v := ni d) (ev_is (ev_op (ev_op (ev_op (ev_var rfl) ev_c (rv_I (by constructor <;> decide))) ev_c (rv_I (by decide))) (ev_wlen (K := K) (ev_var rfl) (hw.mono (ex3.trans ea))) (rv_I (show (0 : Int) < (cw.length : Int) by omega))) (by rw [hd])) (fun Ha eaa => ?_)
      have ea := ea.trans eaa
      have hca := eaa _ _ hca
      have hra := eaa _ _ hra
      refine q_asgL (el_is (ys := nl ((row cw i).filter fun x => !decide (x = d))) (el_lcL (xs := nl (row cw i)) (fun k => !decide ((row cw i).getD k 0 = d)) (fun k => ni ((row cw i).getD k 0)) (ev_op (ev_var rfl) (ev_var rfl) (rv_ixL (hcw.mono ea).seq (atI_nat hpr))) (sq_of hra) (by rw [nl_len]; omega) (fun x => rfl) (fun k x Hx ex hx => ?_) (fun k x Hx ex hx _ => ?_)) (by rw [nl_len]; exact given_filter (row cw i) (fun x => !decide (x = d)))) (fun ob Hb nb eb hb => ?_)
      · obtain ⟨z, hz, rfl⟩ := nl_of_get hx
        rw [getD_of hz]
        exact et_test (ev_is (ev_op (ev_var rfl) (ev_var rfl) (rv_ne rfl)) (by rw [dec_int, ← dec_nat]; rfl))
      · obtain ⟨z, hz, rfl⟩ := nl_of_get hx
        rw [getD_of hz]
        exact ev_var rfl
      have ol : ((row cw i).filter fun x => !decide (x = d)).length ≤ cw.length := Nat.le_trans (List.length_filter_le _ _) rl
      have olt : ∀ x ∈ (row cw i).filter (fun x => !decide (x = d)), x < cw.length := fun x hx => rlt x (List.mem_filter.mp hx).1
      generalize (row cw i).filter (fun x => !decide (x = d)) = O at hb ol olt
      obtain ⟨f, hf, fl⟩ := nat_mod (c / 98) (show 0 < O.length + 1 by omega)
      refine q_asg (v := ni f) (ev_is (ev_op (ev_op (ev_var rfl) ev_c (rv_I (by constructor <;> decide))) (ev_op (ev_llen (K := K) (ev_var rfl) (sq_of hb)) ev_c rv_I0) (rv_I (show (0 : Int) < (O.length : Int) + 1 by omega))) (congrArg V.int hf)) (fun Hc ec => ?_)
      have ea := ea.trans (eb.trans ec)
      have hca := (eb.trans ec) _ _ hca
      have hob := ec _ _ hb
      refine s_setN (o := .lst (nl ([d] ++ O.take f ++ [d] ++ O.drop f))) hca (el_is (el_cat (xs := nl ([d] ++ O.take f ++ [d])) (ys := nl (O.drop f)) (el_is (el_cat (xs := nl ([d] ++ O.take f)) (ys := nl [d]) (el_is (el_cat (xs := nl [d]) (ys := nl (O.take f)) (el_lst (ea_cons (ev_var rfl) ea_nil) (show 1 ≤ 100000 by decide)) (el_is (el_sl (ev_var rfl) eo_none (eo_some (ev_var rfl)) (sq_of hob)) (cut_to ni O f)) (by rw [nl_len, nl_len, List.length_take]; simp; omega)) (nl_app _ _).symm) (el_lst (ea_cons (ev_var rfl) ea_nil) (show 1 ≤ 100000 by decide)) (by rw [nl_len, nl_len, List.length_append, List.length_take]; simp; omega)) (nl_app _ _).symm) (el_is (el_sl (ev_var rfl) (eo_some (ev_var rfl)) eo_none (sq_of hob)) (cut_off ni O f)) (by rw [nl_len, nl_len, List.length_append, List.length_append, List.length_take, List.length_drop]; simp; omega)) (nl_app _ _).symm) (ev_var rfl) (ev_var rfl) (by omega) (fun b Hd nd ed hbb => ?_)
      have hb := hbb
      have eb := ed
      have nb := nd
      have exA : Ex H (upd Hd ca (.lst ((cps.map V.ref).set i (.ref b)))) := (ex3.trans (ea.trans eb)).mut nw.top
      have rws : ∀ (t : Nat) (pt : Addr) (r : List Nat), cps[t]? = some pt → cw[t]? = some r → (upd Hd ca (.lst ((cps.map V.ref).set i (.ref b)))) pt = some (.lst (nl r)) := fun t pt r h1 h2 => by
        rw [upd_ne (fun z => nw.na (by rw [← z]; exact List.mem_of_getElem? h1))]
        exact (ea.trans eb) _ _ (hcw.row t pt r h1 h2)
      have hb' : (upd Hd ca (.lst ((cps.map V.ref).set i (.ref b)))) b = some _ := (upd_ne (fun z => by rw [z, hca] at nb; cases nb)).trans hb
      have hxs : (upd Hd ca (.lst ((cps.map V.ref).set i (.ref b)))) ca = some (.lst ((cps.map V.ref).set i (.ref b))) := upd_same
      generalize upd Hd ca (.lst ((cps.map V.ref).set i (.ref b))) = HF at exA rws hxs hb'
      have wno : WebNo K HF (.ref ca) := by
        refine webNo_at (ps := cps) (w := cw) (i := i) hxs ⟨by rw [List.length_set]; omega, by rw [List.length_set]; omega⟩ (List.getElem?_set_self (by omega)) (by omega) (fun t ht => List.getElem?_set_ne (by omega)) c1 (fun t pt r _ h1 h2 => rws t pt r h1 h2) gw (.nums (r := [d] ++ O.take f ++ [d] ++ O.drop f) hb' (fun x hx => ?_) (by rw [List.length_append, List.length_append, List.length_append, List.length_take, List.length_drop]; simp; omega) (decide_eq_false fun nd => ?_).symm)
        · rw [List.length_set, ml, c1]
          simp only [List.mem_append, List.mem_singleton] at hx
          rcases hx with ((rfl | hx) | rfl) | hx
          · exact dl
          · exact olt x (List.mem_of_mem_take hx)
          · exact dl
          · exact olt x (List.mem_of_mem_drop hx)
        · have h1 : ([d] ++ O.take f ++ [d]).Nodup := (List.nodup_append.mp nd).1
          exact (List.nodup_append.mp h1).2.2 d (by simp) d (by simp) rfl
      refine q_when (b := false) (et_test (ev_is (ev_op (ev_op (ev_var rfl) ev_c (rv_I (by decide))) ev_c (rv_eq rfl)) (by rw [hM]; rfl))) (fun hb => nomatch hb) (fun _ H6 e6 => ?_)
      refine q_when (b := false) (et_test (ev_is (ev_op (ev_op (ev_var rfl) ev_c (rv_I (by decide))) ev_c (rv_eq rfl)) (by rw [hM]; rfl))) (fun hb => nomatch hb) (fun _ H7 e7 => ?_)
      refine q_when (b := false) (et_test (ev_is (ev_op (ev_op (ev_var rfl) ev_c (rv_I (by decide))) ev_c (rv_eq rfl)) (by rw [hM]; rfl))) (fun hb => nomatch hb) (fun _ H8 e8 => ?_)
      refine q_when (b := false) (et_test (ev_is (ev_op (ev_op (ev_var rfl) ev_c (rv_I (by decide))) ev_c (rv_eq rfl)) (by rw [hM]; rfl))) (fun hb => nomatch hb) (fun _ H9 e9 => ?_)
      have eF := ((((Ex.refl HF).trans e6).trans e7).trans e8).trans e9
      exact s_retR (er_if (R := fun v _ H1 => WebNo K H1 v) (b := true) (et_test (ev_is (ev_op (ev_op (ev_var rfl) ev_c (rv_I (by decide))) ev_c rv_I0) (by rw [hM]; rfl))) (fun _ => er_weak (er_of (ev_var rfl)) fun v G0 G1 a0 a1 r => by rw [r]; exact wno.mono (eF.trans (a0.trans a1))) (fun hb => nomatch hb) (fun v G0 G1 G2 _ r => r)) (fun v Hv ev rv => q _ _ (exA.trans (eF.trans ev)) rv)
    · -- 8
      refine q_when (b := false) (et_test (ev_is (ev_op (ev_op (ev_var rfl) ev_c (rv_I (by decide))) ev_c (rv_eq rfl)) (by rw [hM]; rfl))) (fun hb => nomatch hb) (fun _ H5 e5 => ?_)
      refine q_when (b := true) (et_test (ev_is (ev_op (ev_op (ev_var rfl) ev_c (rv_I (by decide))) ev_c (rv_eq rfl)) (by rw [hM]; rfl))) (fun _ H6 e6 => ?_) (fun hb => nomatch hb)
      have ea : Ex H3 H6 := ((e4.trans e5).trans e6)
      have hca := ea _ _ hcw.top
      have hra := ea _ _ hrow
      refine s_setN (o := .tup (nl (row cw i))) hca (eu_tupOf (ev_op (ev_var rfl) (ev_var rfl) (rv_ixL (hcw.mono ea).seq (atI_nat hpr))) (sq_of hra)) (ev_var rfl) (ev_var rfl) (by omega) (fun b H7 nb eb hb => ?_)
      have exA : Ex H (upd H7 ca (.lst ((cps.map V.ref).set i (.ref b)))) := (ex3.trans (ea.trans eb)).mut nw.top
      have rws : ∀ (t : Nat) (pt : Addr) (r : List Nat), cps[t]? = some pt → cw[t]? = some r → (upd H7 ca (.lst ((cps.map V.ref).set i (.ref b)))) pt = some (.lst (nl r)) := fun t pt r h1 h2 => by
        rw [upd_ne (fun z => nw.na (by rw [← z]; exact List.mem_of_getElem? h1))]
        exact (ea.trans eb) _ _ (hcw.row t pt r h1 h2)
      have hb' : (upd H7 ca (.lst ((cps.map V.ref).set i (.ref b)))) b = some _ := (upd_ne (fun z => by rw [z, hca] at nb; cases nb)).trans hb
      have hxs : (upd H7 ca (.lst ((cps.map V.ref).set i (.ref b)))) ca = some (.lst ((cps.map V.ref).set i (.ref b))) := upd_same
      generalize upd H7 ca (.lst ((cps.map V.ref).set i (.ref b))) = HF at exA rws hxs hb'
      have wno : WebNo K HF (.ref ca) := by
        refine webNo_at (ps := cps) (w := cw) (i := i) hxs ⟨by rw [List.length_set]; omega, by rw [List.length_set]; omega⟩ (List.getElem?_set_self (by omega)) (by omega) (fun t ht => List.getElem?_set_ne (by omega)) c1 (fun t pt r _ h1 h2 => rws t pt r h1 h2) gw (.no (T := "tuple") (by decide) (fun H' e' => .tup (st_of (e' _ _ hb'))))
      refine q_when (b := false) (et_test (ev_is (ev_op (ev_op (ev_var rfl) ev_c (rv_I (by decide))) ev_c (rv_eq rfl)) (by rw [hM]; rfl))) (fun hb => nomatch hb) (fun _ H8 e8 => ?_)
      refine q_when (b := false) (et_test (ev_is (ev_op (ev_op (ev_var rfl) ev_c (rv_I (by decide))) ev_c (rv_eq rfl)) (by rw [hM]; rfl))) (fun hb => nomatch hb) (fun _ H9 e9 => ?_)
      refine q_when (b := false) (et_test (ev_is (ev_op (ev_op (ev_var rfl) ev_c (rv_I (by decide))) ev_c (rv_eq rfl)) (by rw [hM]; rfl))) (fun hb => nomatch hb) (fun _ H10 e10 => ?_)
      have eF := (((Ex.refl HF).trans e8).trans e9).trans e10
      exact s_retR (er_if (R := fun v _ H1 => WebNo K H1 v) (b := true) (et_test (ev_is (ev_op (ev_op (ev_var rfl) ev_c (rv_I (by decide))) ev_c rv_I0) (by rw [hM]; rfl))) (fun _ => er_weak (er_of (ev_var rfl)) fun v G0 G1 a0 a1 r => by rw [r]; exact wno.mono (eF.trans (a0.trans a1))) (fun hb => nomatch hb) (fun v G0 G1 G2 _ r => r)) (fun v Hv ev rv => q _ _ (exA.trans (eF.trans ev)) rv)
    · -- 9
      refine q_when (b := false) (et_test (ev_is (ev_op (ev_op (ev_var rfl) ev_c (rv_I (by decide))) ev_c (rv_eq rfl)) (by rw [hM]; rfl))) (fun hb => nomatch hb) (fun _ H5 e5 => ?_)
      refine q_when (b := false) (et_test (ev_is (ev_op (ev_op (ev_var rfl) ev_c (rv_I (by decide))) ev_c (rv_eq rfl)) (by rw [hM]; rfl))) (fun hb => nomatch hb) (fun _ H6 e6 => ?_)
      refine q_when (b := true) (et_test (ev_is (ev_op (ev_op (ev_var rfl) ev_c (rv_I (by decide))) ev_c (rv_eq rfl)) (by rw [hM]; rfl))) (fun _ H7 e7 => ?_) (fun hb => nomatch hb)
      have ea : Ex H3 H7 := (((e4.trans e5).trans e6).trans e7)
      have hca := ea _ _ hcw.top
      have hra := ea _ _ hrow
      refine s_setL (v := .non) hca ev_c (ev_var rfl) (ev_var rfl) (by omega) (fun H8 eb => ?_)
      have exA : Ex H (upd H8 ca (.lst ((cps.map V.ref).set i .non))) := (ex3.trans (ea.trans eb)).mut nw.top
      have rws : ∀ (t : Nat) (pt : Addr) (r : List Nat), cps[t]? = some pt → cw[t]? = some r → (upd H8 ca (.lst ((cps.map V.ref).set i .non))) pt = some (.lst (nl r)) := fun t pt r h1 h2 => by
        rw [upd_ne (fun z => nw.na (by rw [← z]; exact List.mem_of_getElem? h1))]
        exact (ea.trans eb) _ _ (hcw.row t pt r h1 h2)
      have hxs : (upd H8 ca (.lst ((cps.map V.ref).set i .non))) ca = some (.lst ((cps.map V.ref).set i .non)) := upd_same
      generalize upd H8 ca (.lst ((cps.map V.ref).set i .non)) = HF at exA rws hxs
      have wno : WebNo K HF (.ref ca) := by
        refine webNo_at (ps := cps) (w := cw) (i := i) hxs ⟨by rw [List.length_set]; omega, by rw [List.length_set]; omega⟩ (List.getElem?_set_self (by omega)) (by omega) (fun t ht => List.getElem?_set_ne (by omega)) c1 (fun t pt r _ h1 h2 => rws t pt r h1 h2) gw (.no (T := "NoneType") (by decide) (fun H' e' => .non))
      refine q_when (b := false) (et_test (ev_is (ev_op (ev_op (ev_var rfl) ev_c (rv_I (by decide))) ev_c (rv_eq rfl)) (by rw [hM]; rfl))) (fun hb => nomatch hb) (fun _ H9 e9 => ?_)
      refine q_when (b := false) (et_test (ev_is (ev_op (ev_op (ev_var rfl) ev_c (rv_I (by decide))) ev_c (rv_eq rfl)) (by rw [hM]; rfl))) (fun hb => nomatch hb) (fun _ H10 e10 => ?_)
      have eF := ((Ex.refl HF).trans e9).trans e10
      exact s_retR (er_if (R := fun v _ H1 => WebNo K H1 v) (b := true) (et_test (ev_is (ev_op (ev_op (ev_var rfl) ev_c (rv_I (by decide))) ev_c rv_I0) (by rw [hM]; rfl))) (fun _ => er_weak (er_of (ev_var rfl)) fun v G0 G1 a0 a1 r => by rw [r]; exact wno.mono (eF.trans (a0.trans a1))) (fun hb => nomatch hb) (fun v G0 G1 G2 _ r => r)) (fun v Hv ev rv => q _ _ (exA.trans (eF.trans ev)) rv)
    · -- 10
      refine q_when (b := false) (et_test (ev_is (ev_op (ev_op (ev_var rfl) ev_c (rv_I (by decide))) ev_c (rv_eq rfl)) (by rw [hM]; rfl))) (fun hb => nomatch hb) (fun _ H5 e5 => ?_)
      refine q_when (b := false) (et_test (ev_is (ev_op (ev_op (ev_var rfl) ev_c (rv_I (by decide))) ev_c (rv_eq rfl)) (by rw [hM]; rfl))) (fun hb => nomatch hb) (fun _ H6 e6 => ?_)
      refine q_when (b := false) (et_test (ev_is (ev_op (ev_op (ev_var rfl) ev_c (rv_I (by decide))) ev_c (rv_eq rfl)) (by rw [hM]; rfl))) (fun hb => nomatch hb) (fun _ H7 e7 => ?_)
      refine q_when (b := true) (et_test (ev_is (ev_op (ev_op (ev_var rfl) ev_c (rv_I (by decide))) ev_c (rv_eq rfl)) (by rw [hM]; rfl))) (fun _ H8 e8 => ?_) (fun hb => nomatch hb)
      have ea : Ex H3 H8 := ((((e4.trans e5).trans e6).trans e7).trans e8)
      have hca := ea _ _ hcw.top
      have hra := ea _ _ hrow
      refine s_ins (i := i) (y := .int 5) hca (ev_var rfl) (ev_var rfl) ev_c (by omega) (by omega) (fun H9 eb => ?_)
      have exA : Ex H (upd H9 ca (.lst ((cps.map V.ref).take i ++ [.int 5] ++ (cps.map V.ref).drop i))) := (ex3.trans (ea.trans eb)).mut nw.top
      have rws : ∀ (t : Nat) (pt : Addr) (r : List Nat), cps[t]? = some pt → cw[t]? = some r → (upd H9 ca (.lst ((cps.map V.ref).take i ++ [.int 5] ++ (cps.map V.ref).drop i))) pt = some (.lst (nl r)) := fun t pt r h1 h2 => by
        rw [upd_ne (fun z => nw.na (by rw [← z]; exact List.mem_of_getElem? h1))]
        exact (ea.trans eb) _ _ (hcw.row t pt r h1 h2)
      have hxs : (upd H9 ca (.lst ((cps.map V.ref).take i ++ [.int 5] ++ (cps.map V.ref).drop i))) ca = some (.lst ((cps.map V.ref).take i ++ [.int 5] ++ (cps.map V.ref).drop i)) := upd_same
      generalize upd H9 ca (.lst ((cps.map V.ref).take i ++ [.int 5] ++ (cps.map V.ref).drop i)) = HF at exA rws hxs
      have wno : WebNo K HF (.ref ca) := by
        refine webNo_at (ps := cps) (w := cw) (i := i) (x := .int 5) hxs ⟨by rw [ins_len (by omega)]; omega, by rw [ins_len (by omega)]; omega⟩ (ins_at (by omega)) (by omega) (fun t ht => ins_before (by omega) ht) c1 (fun t pt r _ h1 h2 => rws t pt r h1 h2) gw (.no (T := "int") (by decide) (fun H' e' => .int _))
      refine q_when (b := false) (et_test (ev_is (ev_op (ev_op (ev_var rfl) ev_c (rv_I (by decide))) ev_c (rv_eq rfl)) (by rw [hM]; rfl))) (fun hb => nomatch hb) (fun _ H10 e10 => ?_)
      have eF := (Ex.refl HF).trans e10
      exact s_retR (er_if (R := fun v _ H1 => WebNo K H1 v) (b := true) (et_test (ev_is (ev_op (ev_op (ev_var rfl) ev_c (rv_I (by decide))) ev_c rv_I0) (by rw [hM]; rfl))) (fun _ => er_weak (er_of (ev_var rfl)) fun v G0 G1 a0 a1 r => by rw [r]; exact wno.mono (eF.trans (a0.trans a1))) (fun hb => nomatch hb) (fun v G0 G1 G2 _ r => r)) (fun v Hv ev rv => q _ _ (exA.trans (eF.trans ev)) rv)
    · -- 11
      refine q_when (b := false) (et_test (ev_is (ev_op (ev_op (ev_var rfl) ev_c (rv_I (by decide))) ev_c (rv_eq rfl)) (by rw [hM]; rfl))) (fun hb => nomatch hb) (fun _ H5 e5 => ?_)
      refine q_when (b := false) (et_test (ev_is (ev_op (ev_op (ev_var rfl) ev_c (rv_I (by decide))) ev_c (rv_eq rfl)) (by rw [hM]; rfl))) (fun hb => nomatch hb) (fun _ H6 e6 => ?_)
      refine q_when (b := false) (et_test (ev_is (ev_op (ev_op (ev_var rfl) ev_c (rv_I (by decide))) ev_c (rv_eq rfl)) (by rw [hM]; rfl))) (fun hb => nomatch hb) (fun _ H7 e7 => ?_)
      refine q_when (b := false) (et_test (ev_is (ev_op (ev_op (ev_var rfl) ev_c (rv_I (by decide))) ev_c (rv_eq rfl)) (by rw [hM]; rfl))) (fun hb => nomatch hb) (fun _ H8 e8 => ?_)
      refine q_when (b := true) (et_test (ev_is (ev_op (ev_op (ev_var rfl) ev_c (rv_I (by decide))) ev_c (rv_eq rfl)) (by rw [hM]; rfl))) (fun _ H9 e9 => ?_) (fun hb => nomatch hb)
      have ea : Ex H3 H9 := (((((e4.trans e5).trans e6).trans e7).trans e8).trans e9)
      have hca := ea _ _ hcw.top
      have hra := ea _ _ hrow
      refine s_retR (er_lcWR (n := 201) (fun _ => []) (ea_cons ev_c ea_nil) ⟨by omega, by omega⟩ (fun x => rfl) (fun t Ht et ht => el_lst ea_nil (Nat.zero_le _))) (fun v Hv ev rv => ?_)
      obtain ⟨D, qs, rfl, _, hl, ht, _⟩ := rv
      exact q _ _ (ex3.trans (ea.trans ev)) (.len ht (by rw [List.length_map, hl]; decide))
    · -- 12
      refine q_when (b := false) (et_test (ev_is (ev_op (ev_op (ev_var rfl) ev_c (rv_I (by decide))) ev_c (rv_eq rfl)) (by rw [hM]; rfl))) (fun hb => nomatch hb) (fun _ H5 e5 => ?_)
      refine q_when (b := false) (et_test (ev_is (ev_op (ev_op (ev_var rfl) ev_c (rv_I (by decide))) ev_c (rv_eq rfl)) (by rw [hM]; rfl))) (fun hb => nomatch hb) (fun _ H6 e6 => ?_)
      refine q_when (b := false) (et_test (ev_is (ev_op (ev_op (ev_var rfl) ev_c (rv_I (by decide))) ev_c (rv_eq rfl)) (by rw [hM]; rfl))) (fun hb => nomatch hb) (fun _ H7 e7 => ?_)
      refine q_when (b := false) (et_test (ev_is (ev_op (ev_op (ev_var rfl) ev_c (rv_I (by decide))) ev_c (rv_eq rfl)) (by rw [hM]; rfl))) (fun hb => nomatch hb) (fun _ H8 e8 => ?_)
      refine q_when (b := false) (et_test (ev_is (ev_op (ev_op (ev_var rfl) ev_c (rv_I (by decide))) ev_c (rv_eq rfl)) (by rw [hM]; rfl))) (fun hb => nomatch hb) (fun _ H9 e9 => ?_)
      have ea : Ex H3 H9 := (((((e4.trans e5).trans e6).trans e7).trans e8).trans e9)
      obtain ⟨j, hj, jl⟩ := nat_mod (c / 14) (show 0 < 6 by decide)
      refine s_retR (er_if (b := false) (et_test (ev_is (ev_op (ev_op (ev_var rfl) ev_c (rv_I (by decide))) ev_c rv_I0) (by rw [hM]; rfl))) (fun hb => nomatch hb) (fun _ => er_six (j := j) (el_lst ea_nil (Nat.zero_le _)) ev_c (eu_tupOf (ev_var rfl) (hw.mono (ex3.trans ea)).seq) ev_c ev_c (ev_is (ev_op (ev_op (ev_var rfl) ev_c (rv_I (by constructor <;> decide))) ev_c (rv_I (by decide))) (by rw [← hj]; rfl)) jl) (fun v G0 G1 G2 _ r => r)) (fun v Hv ev rv => q _ _ (ex3.trans (ea.trans ev)) ?_)
      rcases rv with ⟨b, rfl, h⟩ | rfl | ⟨b, xs, rfl, h⟩ | ⟨b, rfl, h⟩ | ⟨s, rfl⟩ | ⟨z, rfl⟩
      · exact .len h (by simp)
      · exact .no (T := "NoneType") (by decide) (fun H' e' => .non)
      · exact .no (T := "tuple") (by decide) (fun H' e' => .tup (st_of (e' _ _ h)))
      · exact .no (T := "dict") (by decide) (fun H' e' => .dK (e' _ _ h))
      · exact .no (T := "str") (by decide) (fun H' e' => .str _)
      · exact .no (T := "int") (by decide) (fun H' e' => .int _)
    · -- 13
      refine q_when (b := false) (et_test (ev_is (ev_op (ev_op (ev_var rfl) ev_c (rv_I (by decide))) ev_c (rv_eq rfl)) (by rw [hM]; rfl))) (fun hb => nomatch hb) (fun _ H5 e5 => ?_)
      refine q_when (b := false) (et_test (ev_is (ev_op (ev_op (ev_var rfl) ev_c (rv_I (by decide))) ev_c (rv_eq rfl)) (by rw [hM]; rfl))) (fun hb => nomatch hb) (fun _ H6 e6 => ?_)
      refine q_when (b := false) (et_test (ev_is (ev_op (ev_op (ev_var rfl) ev_c (rv_I (by decide))) ev_c (rv_eq rfl)) (by rw [hM]; rfl))) (fun hb => nomatch hb) (fun _ H7 e7 => ?_)
      refine q_when (b := false) (et_test (ev_is (ev_op (ev_op (ev_var rfl) ev_c (rv_I (by decide))) ev_c (rv_eq rfl)) (by rw [hM]; rfl))) (fun hb => nomatch hb) (fun _ H8 e8 => ?_)
      refine q_when (b := false) (et_test (ev_is (ev_op (ev_op (ev_var rfl) ev_c (rv_I (by decide))) ev_c (rv_eq rfl)) (by rw [hM]; rfl))) (fun hb => nomatch hb) (fun _ H9 e9 => ?_)
      have ea : Ex H3 H9 := (((((e4.trans e5).trans e6).trans e7).trans e8).trans e9)
      obtain ⟨j, hj, jl⟩ := nat_mod (c / 14) (show 0 < 6 by decide)
      refine s_retR (er_if (b := false) (et_test (ev_is (ev_op (ev_op (ev_var rfl) ev_c (rv_I (by decide))) ev_c rv_I0) (by rw [hM]; rfl))) (fun hb => nomatch hb) (fun _ => er_six (j := j) (el_lst ea_nil (Nat.zero_le _)) ev_c (eu_tupOf (ev_var rfl) (hw.mono (ex3.trans ea)).seq) ev_c ev_c (ev_is (ev_op (ev_op (ev_var rfl) ev_c (rv_I (by constructor <;> decide))) ev_c (rv_I (by decide))) (by rw [← hj]; rfl)) jl) (fun v G0 G1 G2 _ r => r)) (fun v Hv ev rv => q _ _ (ex3.trans (ea.trans ev)) ?_)
      rcases rv with ⟨b, rfl, h⟩ | rfl | ⟨b, xs, rfl, h⟩ | ⟨b, rfl, h⟩ | ⟨s, rfl⟩ | ⟨z, rfl⟩
      · exact .len h (by simp)
      · exact .no (T := "NoneType") (by decide) (fun H' e' => .non)
      · exact .no (T := "tuple") (by decide) (fun H' e' => .tup (st_of (e' _ _ h)))
      · exact .no (T := "dict") (by decide) (fun H' e' => .dK (e' _ _ h))
      · exact .no (T := "str") (by decide) (fun H' e' => .str _)
      · exact .no (T := "int") (by decide) (fun H' e' => .int _)
theorem er_spoilt {σ : L2.St} {H : Hp} {ta tb : TE} {a : Addr} {c : Int} {ps : List Addr} {w : List (List Nat)} {E : XK} (ha : Ev ta σ H (.ref a)) (hb : Ev tb σ H (.int c)) (hw : WebAt H a ps w) (gw : GoodWeb w) (wl : w.length ≤ 40) : EvR (tCall (spSpoilt K) [] E (tCons ta (tCons tb tNil))) σ H (fun v _ H1 => WebNo K H1 v) :=
  er_call (ea_cons ha (ea_cons hb ea_nil)) (fun H1 e Q q => ⟨a, c, ps, w, rfl, hw.mono e, gw, wl, q⟩) fun v H0 H1 H2 e h => h
end
end KX
set_option Elab.async false
set_option linter.all false
set_option maxRecDepth 100000
set_option maxHeartbeats 4000000
namespace KX
open PySem PySem.Spec PyProof.Rows L2 Evl RZ Sg
section
variable {P : Program} {w : World} {K : PySem.W.Frag} {mg : Str → Option Value} {base : Heap}

/-! ### a web gets a ring -/
def ringV (c : Int) (n k : Nat) : Nat := ((c / 3 + (k : Int)) % (n : Int)).toNat
theorem ringV_lt {c : Int} {n k : Nat} (hn : 0 < n) : ringV c n k < n := by
  unfold ringV
  have := Int.emod_nonneg (c / 3 + (k : Int)) (show (n : Int) ≠ 0 by omega)
  have := Int.emod_lt_of_pos (c / 3 + (k : Int)) (show (0 : Int) < (n : Int) by omega)
  omega
theorem ringV_int {c : Int} {n k : Nat} (hn : 0 < n) : V.int ((c / 3 + (k : Int)) % (n : Int)) = ni (ringV c n k) := by
  show V.int _ = V.int _
  congr 1
  exact (Int.toNat_of_nonneg (Int.emod_nonneg _ (by omega))).symm
theorem ring_no {w : List (List Nat)} {s : Nat → Nat} {m : Nat} (hm : 0 < m) (hs : ∀ k, k < m → s k < w.length) (h : ∀ k, k < m → s ((k + 1) % m) ∈ row w (s k)) : ¬ Acyc w := by
  rintro ⟨rank, _, r2⟩
  have go : ∀ k, k < m → rank (s ((k + 1) % m)) < rank (s k) := fun k hk => r2 _ _ _ (row_at (hs k hk)) (h k hk)
  have dn : ∀ k, k < m → rank (s k) + k ≤ rank (s 0) := by
    intro k
    induction k with
    | zero => intro _; omega
    | succ k ih =>
      intro hk
      have h1 := ih (by omega)
      have h2 := go k (by omega)
      rw [Nat.mod_eq_of_lt hk] at h2
      omega
  have h1 := dn (m - 1) (by omega)
  have h2 := go (m - 1) (by omega)
  rw [Nat.sub_add_cancel hm, Nat.mod_self] at h2
  omega
def spRinged : Sp := fun vs H Q _ => ∃ (a : Addr) (c : Int) (ps : List Addr) (w : List (List Nat)), vs = [.ref a, .int c] ∧ WebAt H a ps w ∧ GoodWeb w ∧ w.length ≤ 200 ∧ ∀ v H', Ex H H' → RW (fun u => GoodWeb u ∧ ¬ Acyc u ∧ u.length = w.length) v H H' → Q v H'
theorem ok_ringed (T : Txt K mg) : FnOk P w K mg base CX0 2 T.dLRinged.f T.dLRinged.fd ["_law_web", "_law_cell"] spRinged := by
  have GLCopied : FnOk P w K mg base CX0 _ T.dLCopied.f T.dLCopied.fd _ spCopied := ok_copied T
  refine T.dLRinged.F.ok scLRinged (fun vs H Q E h => ?_) (fun cdv A outer s H vs Q E hr h => ?_)
  · obtain ⟨a, c, ps, w, rfl, _⟩ := h; rfl
  · obtain ⟨a, c, ps, w, rfl, hw, gw, wl, q⟩ := h
    refine ⟨_, (pss_cons (ps_set (i := 2) scLRinged.nd rfl (.inl rfl) (pe_call GLCopied (hr.mono (by decide)) (by rfl) T.dLCopied.g T.dLCopied.F.kp T.dLCopied.b .nil pass0 (pa_cons (pv 0) pa_nil))) (pss_cons (ps_set (i := 3) scLRinged.nd rfl (.inl rfl) (pe_op op_add pe_int (pe_op op_mod (pv 1) (pe_callB (id := "min") (call_min2 rfl) (by rfl) T.z_min (by decide +kernel) (pa_cons pe_int (pa_cons (pe_callB (id := "len") (lenK K) (by rfl) T.z_len (by decide +kernel) (pa_cons (pv 0) pa_nil)) pa_nil)))))) (pss_cons (ps_setLc (i := 4) (own := [("_law_k", 5)]) (g := gName 5) (by rfl) scLRinged.nd rfl rfl (sw_true rfl rfl rfl (by decide +kernel)) (pi_range1 (by rfl) T.z_range (pa_cons (pv 3) pa_nil)) (blkOk_by (own := [("_law_k", 5)]) (N := nLRinged) (sc := defScope sLRinged) (by decide +kernel)) (fun _ _ _ _ _ => pg_name (i := 5) scLRinged.nd rfl (Or.inl rfl)) (fun _ _ _ _ _ => pts_nil) (fun _ _ _ _ _ => (pe_op op_mod (pe_op op_add (pe_op op_fdiv (pv 1) pe_int) (pv 5)) (pe_callB (id := "len") (lenK K) (by rfl) T.z_len (by decide +kernel) (pa_cons (pv 0) pa_nil))))) (pss_cons (ps_for PassesOwn.never rfl (pi_range1 (by rfl) T.z_range (pa_cons (pv 3) pa_nil)) (pg_name (i := 5) scLRinged.nd rfl (.inl rfl)) (pss_one (ps_if (pt_cmpR (niK K) (pe_ix (ixK K) (pv 4) (pe_op op_mod (pe_op op_add (pv 5) pe_int) (pv 3)) (fun _ _ => rfl)) (pe_ix (ixK K) (pv 2) (pe_ix (ixK K) (pv 4) (pv 5) (fun _ _ => rfl)) (fun _ _ => rfl)) (by rfl)) (pss_one (ps_expr (pe_bm PySem.F.plainAttrs_list PySem.F.slot_list_append PySem.F.type_list_append mt_append (pe_ix (ixK K) (pv 2) (pe_ix (ixK K) (pv 4) (pv 5) (fun _ _ => rfl)) (fun _ _ => rfl)) (pa_cons (pe_ix (ixK K) (pv 4) (pe_op op_mod (pe_op op_add (pv 5) pe_int) (pv 3)) (fun _ _ => rfl)) pa_nil)))) pss_nil))) (pss_one (ps_ret (pv 2))))))), ?_⟩
    have gp := gw.pos
    refine q_asgR (er_copied (ev_var rfl) hw (by omega)) (fun v H1 e1 r1 => ?_)
    obtain ⟨ca, cps, cw, rfl, hcw, nw, ew⟩ := r1
    subst ew
    obtain ⟨M, hM, hM1⟩ : ∃ M : Int, M = (if (cw.length : Int) < 3 then (cw.length : Int) else 3) ∧ 1 ≤ M ∧ M ≤ 3 := by
      refine ⟨_, rfl, ?_⟩
      split <;> omega
    obtain ⟨m, hm, m1, m3⟩ : ∃ m : Nat, 1 + c % M = (m : Int) ∧ 1 ≤ m ∧ m ≤ 3 := by
      have h1 := Int.emod_nonneg c (show M ≠ 0 by omega)
      have h2 := Int.emod_lt_of_pos c (show (0 : Int) < M by omega)
      exact ⟨(1 + c % M).toNat, by omega, by omega, by omega⟩
    refine q_asg (v := ni m) (ev_is (ev_op ev_c (ev_op (ev_var rfl) (ev_is (ev_min2 ev_c (ev_wlen (K := K) (ev_var rfl) (hw.mono e1))) (by rw [← hM])) (rv_I (show (0 : Int) < M by omega))) rv_I0) (by rw [hm])) (fun H2 e2 => ?_)
    have e12 := e1.trans e2
    refine q_asgL (el_is (el_lcR1 (n := (m : Int)) (fun _ => true) (fun k => ni (ringV c cw.length k)) (ea_cons (ev_var rfl) ea_nil) ⟨by omega, by omega⟩ (fun x => rfl) (fun k H1 e1 hx => et_yes) (fun k H4 e4 hk _ => ev_is (ev_op (ev_op (ev_op (ev_var rfl) ev_c (rv_I (by constructor <;> decide))) (ev_var rfl) rv_I0) (ev_wlen (K := K) (ev_var rfl) (hw.mono (e12.trans e4))) (rv_I (show (0 : Int) < (cw.length : Int) by omega))) (ringV_int gp))) (show _ = nl ((List.range m).map fun k : Nat => ringV c cw.length k) by
      rw [Int.toNat_natCast, given_all]
      show _ = List.map _ _
      rw [List.map_map]; rfl)) (fun sa H3 n3 e3 h3 => ?_)
    have ex3 := e12.trans e3
    have hcw3 := hcw.mono (e2.trans e3)
    have at' : ∀ k, k < m → ((List.range m).map fun k : Nat => ringV c cw.length k)[k]? = some (ringV c cw.length k) := fun k hk => by rw [List.getElem?_map, List.getElem?_range hk]; rfl
    have sca : sa ≠ ca := fun z => by rw [z] at n3; have := e2 _ _ hcw.top; rw [n3] at this; cases this
    have scp : sa ∉ cps := fun z => by
      obtain ⟨j, jl, ej⟩ := List.getElem_of_mem z
      have jl2 : j < cw.length := by rw [← hcw.len]; exact jl
      have h1 := e2 _ _ (hcw.row j sa _ (by rw [List.getElem?_eq_getElem jl, ej]) (List.getElem?_eq_getElem jl2))
      rw [n3] at h1; cases h1
    refine q_forR1 (n := (m : Int)) (ea_cons (ev_var rfl) ea_nil) ⟨by omega, by omega⟩ (fun k σ H' => ∃ u y5, σ = [some (.ref a), some (.int c), some (.ref ca), some (ni m), some (.ref sa), y5] ∧ Ex H H' ∧ H' sa = some (.lst (nl ((List.range m).map fun k : Nat => ringV c cw.length k))) ∧ WebAt H' ca cps u ∧ GoodWeb u ∧ u.length = cw.length ∧ ∀ t, t < k → ringV c cw.length ((t + 1) % m) ∈ row u (ringV c cw.length t)) (fun H4 e4 => ⟨cw, none, rfl, ex3.trans e4, e4 _ _ h3, hcw3.mono e4, gw, rfl, fun t ht => by omega⟩) (fun k σ' H' hk hI => ?_) (fun σ' H' hI => ?_)
    · obtain ⟨u, y5, rfl, ex, hsa, hu, gu, ul, hed⟩ := hI
      have km : k < m := by omega
      have k1 : (k + 1) % m < m := Nat.mod_lt _ (by omega)
      have s1 : ringV c cw.length k < u.length := by rw [ul]; exact ringV_lt gp
      have s2 : ringV c cw.length ((k + 1) % m) < u.length := by rw [ul]; exact ringV_lt gp
      obtain ⟨p, hp, hpr, hrow⟩ := web_row (K := K) hu s1
      have pin : p ∈ cps := List.mem_of_getElem? hp
      have psa : p ≠ sa := fun z => scp (by rw [← z]; exact pin)
      have md : (((k + 1) % m : Nat) : Int) = ((k : Int) + 1) % (m : Int) := by rw [Int.natCast_emod]; rfl
      have evS : ∀ {σ : L2.St} {H2 : Hp}, Ex H' H2 → σ[4]? = some (some (.ref sa)) → σ[5]? = some (some (ni k)) → Ev (tOp (rIxL K) (tVar 4) (tVar 5)) σ H2 (ni (ringV c cw.length k)) := fun e h4 h5 => ev_op (ev_var h4) (ev_var h5) (rv_ixL (sq_of (e _ _ hsa)) (nl_at (at' k km)))
      refine s_when (b := !decide (ringV c cw.length ((k + 1) % m) ∈ row u (ringV c cw.length k))) (et_test (ev_op (ev_op (ev_var rfl) (ev_is (ev_op (ev_op (ev_var rfl) ev_c rv_I0) (ev_var rfl) (rv_I (show (0 : Int) < (m : Int) by omega))) (show _ = ni ((k + 1) % m) from congrArg V.int md.symm)) (rv_ixL (sq_of hsa) (nl_at (at' _ k1)))) (ev_op (ev_var rfl) (evS (Ex.refl H') rfl rfl) (rv_ixL hu.seq (atI_nat hpr))) (rv_niN (sq_of hrow)))) (fun hb H4 e4 => ?_) (fun hb H4 e4 => ?_)
      · have nin : ringV c cw.length ((k + 1) % m) ∉ row u (ringV c cw.length k) := by simpa using hb
        have rl := good_len gu (row_at s1)
        refine s_app (e4 _ _ hrow) (ev_op (ev_var rfl) (evS e4 rfl rfl) (rv_ixL (hu.mono e4).seq (atI_nat hpr))) (ev_op (ev_var rfl) (ev_is (ev_op (ev_op (ev_var rfl) ev_c rv_I0) (ev_var rfl) (rv_I (show (0 : Int) < (m : Int) by omega))) (show _ = ni ((k + 1) % m) from congrArg V.int md.symm)) (rv_ixL (sq_of (e4 _ _ hsa)) (nl_at (at' _ k1)))) (by rw [nl_len]; omega) (fun H5 e5 => ?_)
        have e45 := e4.trans e5
        have hset := (hu.mono e45).set nw.nd nw.na hp (row u (ringV c cw.length k) ++ [ringV c cw.length ((k + 1) % m)])
        rw [nl_app] at hset
        refine ⟨u.set (ringV c cw.length k) (row u (ringV c cw.length k) ++ [ringV c cw.length ((k + 1) % m)]), _, rfl, (ex.trans e45).mut (nw.row p pin), ?_, hset, gu.app (row_at s1) nin s2, by rw [List.length_set]; exact ul, fun t ht => ?_⟩
        · rw [upd_ne psa.symm]; exact e45 _ _ hsa
        · rw [row_set]
          by_cases te : ringV c cw.length k = ringV c cw.length t
          · rw [if_pos ⟨te, s1⟩]
            by_cases tk : t = k
            · subst tk; exact List.mem_append_right _ (List.mem_singleton.mpr rfl)
            · have := hed t (by omega)
              rw [← te] at this
              exact List.mem_append_left _ this
          · rw [if_neg (fun z => te z.1)]
            have tk : t ≠ k := fun z => te (by rw [z])
            exact hed t (by omega)
      · have yin : ringV c cw.length ((k + 1) % m) ∈ row u (ringV c cw.length k) := by simpa using hb
        refine ⟨u, _, rfl, ex.trans e4, e4 _ _ hsa, hu.mono e4, gu, ul, fun t ht => ?_⟩
        by_cases tk : t = k
        · subst tk; exact yin
        · exact hed t (by omega)
    · obtain ⟨u, y5, rfl, ex, hsa, hu, gu, ul, hed⟩ := hI
      rw [Int.toNat_natCast] at hed
      exact s_ret (ev_var rfl) (fun H5 e5 => q _ _ (ex.trans e5) ⟨ca, cps, u, rfl, hu.mono e5, nw, gu, ring_no (s := ringV c cw.length) (m := m) (by omega) (fun k _ => by rw [ul]; exact ringV_lt gp) hed, ul⟩)
theorem er_ringed {σ : L2.St} {H : Hp} {ta tb : TE} {a : Addr} {c : Int} {ps : List Addr} {w : List (List Nat)} {E : XK} (ha : Ev ta σ H (.ref a)) (hb : Ev tb σ H (.int c)) (hw : WebAt H a ps w) (gw : GoodWeb w) (wl : w.length ≤ 200) : EvR (tCall spRinged [] E (tCons ta (tCons tb tNil))) σ H (RW (fun u => GoodWeb u ∧ ¬ Acyc u ∧ u.length = w.length)) :=
  er_call (ea_cons ha (ea_cons hb ea_nil)) (fun H1 e Q q => ⟨a, c, ps, w, rfl, hw.mono e, gw, wl, q⟩) fun v H0 H1 H2 e h => h.back e
/-! ### bad rows -/
def spBad (K : PySem.W.Frag) : Sp := fun vs H Q _ => ∃ (t : Addr) (c : Int) (m : Nat) (r : List Nat), vs = [.ref t, .int m, .int c] ∧ H t = some (.lst (nl r)) ∧ r.length ≤ 23 ∧ (∀ x ∈ r, x < m) ∧ m ≤ 200 ∧ ∀ v H', Ex H H' → RowNo K H' m v → Q v H'
theorem ok_bad (T : Txt K mg) : FnOk P w K mg base CX0 1 T.dLBadRow.f T.dLBadRow.fd ["_law_row", "_law_many", "_law_cell"] (spBad K) := by
  refine T.dLBadRow.F.ok scLBadRow (fun vs H Q E h => ?_) (fun cdv A outer s H vs Q E hr h => ?_)
  · obtain ⟨t, c, m, r, rfl, _⟩ := h; rfl
  · obtain ⟨t, c, m, r, rfl, ht, rl, rx, ml, q⟩ := h
    refine ⟨_, (pss_cons (ps_set (i := 3) scLBadRow.nd rfl (.inl rfl) (pe_lst (pa_cons (pv 1) (pa_cons (pe_un un_neg pe_int) (pa_cons pe_bl (pa_cons pe_str (pa_cons pe_non (pa_cons (pe_lst (pa_cons pe_int pa_nil)) (pa_cons (pe_op op_pow pe_int pe_int) pa_nil))))))))) (pss_cons (ps_set (i := 4) scLBadRow.nd rfl (.inl rfl) (pe_op op_mod (pe_op op_fdiv (pv 2) pe_int) (pe_op op_add (pe_callB (id := "len") (lenK K) (by rfl) T.z_len (by decide +kernel) (pa_cons (pv 0) pa_nil)) pe_int))) (pss_cons (ps_if (pt_cmpR op_lt (pe_op op_mod (pv 2) pe_int) pe_int (nomark _)) (pss_one (ps_ret (pe_op op_cat (pe_op op_cat (pe_slice (slK K) (pv 0) po_none (po_some (pv 4))) (pe_lst (pa_cons (pe_ix (ixK K) (pv 3) (pe_op op_mod (pv 2) pe_int) (fun _ _ => rfl)) pa_nil))) (pe_slice (slK K) (pv 0) (po_some (pv 4)) po_none)))) pss_nil) (pss_one (ps_ret (pe_ix (ixK K) (pe_lst (pa_cons (pe_op op_rep (pe_lst (pa_cons pe_int pa_nil)) pe_int) (pa_cons (pe_callTy (T := "tuple") (tupK K) (by rfl) T.z_tuple (by decide +kernel) (pa_cons (pv 0) pa_nil)) (pa_cons pe_non pa_nil)))) (pe_op op_sub (pe_op op_mod (pv 2) pe_int) pe_int) (fun _ _ => rfl))))))), ?_⟩
    refine q_asgR (er_odd (m := m) (ev_var rfl) (ev_un ev_c ru_neg) ev_c ev_c ev_c (el_lst (ea_cons ev_c ea_nil) (show 1 ≤ 100000 by decide)) (ev_op ev_c ev_c (rv_I (by refine ⟨by decide, by decide, by decide⟩)))) (fun v H1 e1 r1 => ?_)
    obtain ⟨oa, pz, rfl, ho, hz⟩ := r1
    obtain ⟨i, hi, il⟩ := nat_mod (c / 10) (show 0 < r.length + 1 by omega)
    refine q_asg (v := ni i) (ev_is (ev_op (ev_op (ev_var rfl) ev_c (rv_I (by constructor <;> decide))) (ev_op (ev_llen (K := K) (ev_var rfl) (sq_of (e1 _ _ ht))) ev_c rv_I0) (rv_I (show (0 : Int) < (r.length : Int) + 1 by omega))) (congrArg V.int hi)) (fun H2 e2 => ?_)
    have e12 := e1.trans e2
    have ht2 := e12 _ _ ht
    obtain ⟨k, hk, k10⟩ := nat_mod c (show 0 < 10 by decide)
    refine q_when (b := decide (c % 10 < 7)) (et_test (ev_op (ev_op (ev_var rfl) ev_c (rv_I (by decide))) ev_c rv_I0)) (fun hb H3 e3 => ?_) (fun hb H3 e3 => ?_)
    · have hb := of_decide_eq_true hb
      have k7 : k < 7 := by omega
      obtain ⟨x, hx⟩ : ∃ x, (oddL m pz)[k]? = some x := ⟨_, List.getElem?_eq_getElem (show k < (oddL m pz).length from k7)⟩
      refine s_retL (el_is (el_cat (xs := (nl r).take i ++ [x]) (ys := (nl r).drop i) (el_cat (xs := (nl r).take i) (ys := [x]) (el_is (el_sl (ev_var rfl) eo_none (eo_some (ev_var rfl)) (sq_of (e3 _ _ ht2))) ((cut_to ni r i).trans List.map_take)) (el_lst (ea_cons (ev_op (ev_var rfl) (ev_is (ev_op (ev_var rfl) ev_c (rv_I (by decide))) (congrArg V.int hk)) (rv_ixL (sq_of ((e2.trans e3) _ _ ho)) (atI_nat hx))) ea_nil) (show 1 ≤ 100000 by decide)) (by rw [List.length_take, nl_len]; simp; omega)) (el_is (el_sl (ev_var rfl) (eo_some (ev_var rfl)) eo_none (sq_of (e3 _ _ ht2))) ((cut_off ni r i).trans List.map_drop)) (by rw [List.length_append, List.length_take, List.length_drop, nl_len]; simp; omega)) rfl) (fun p H4 n4 e4 h4 => q _ _ ((e12.trans e3).trans e4) (.bad (i := i) h4 (by rw [ins_len (by rw [nl_len]; omega), nl_len]; omega) (ins_at (by rw [nl_len]; omega)) (fun t ht => ?_) (odd_no (a := oa) (by omega) (((e2.trans e3).trans e4) _ _ hz) hx)))
      rw [ins_before (by rw [nl_len]; omega) ht]
      have tl : t < r.length := by omega
      exact ⟨r[t], nl_get (List.getElem?_eq_getElem tl), rx _ (List.getElem_mem tl)⟩
    · have hb := of_decide_eq_false hb
      refine s_retR (er_three (j := k - 7) (el_rep (n := 25) (el_lst (ea_cons ev_c ea_nil) (show 1 ≤ 100000 by decide)) ev_c ⟨by omega, by omega⟩ (by decide)) (eu_tupOf (ev_var rfl) (sq_of (e3 _ _ ht2))) ev_c (ev_is (ev_op (ev_op (ev_var rfl) ev_c (rv_I (by decide))) ev_c rv_I0) (by
        show V.int (c % 10 - 7) = V.int ((k - 7 : Nat) : Int)
        congr 1; omega)) (by omega)) (fun v H4 e4 rv => q _ _ ((e12.trans e3).trans e4) ?_)
      rcases rv with ⟨b, rfl, h⟩ | ⟨b, rfl, h⟩ | rfl
      · exact .len h (by decide)
      · exact .no (T := "tuple") (by decide) (fun H' e' => .tup (st_of (e' _ _ h)))
      · exact .no (T := "NoneType") (by decide) (fun H' e' => .non)
theorem er_bad {σ : L2.St} {H : Hp} {ta tb tc : TE} {t : Addr} {c : Int} {m : Nat} {r : List Nat} {E : XK} (ha : Ev ta σ H (.ref t)) (hb : Ev tb σ H (ni m)) (hc : Ev tc σ H (.int c)) (ht : H t = some (.lst (nl r))) (rl : r.length ≤ 23) (rx : ∀ x ∈ r, x < m) (ml : m ≤ 200) : EvR (tCall (spBad K) [] E (tCons ta (tCons tb (tCons tc tNil)))) σ H (fun v _ H1 => RowNo K H1 m v) :=
  er_call (ea_cons ha (ea_cons hb (ea_cons hc ea_nil))) (fun H1 e Q q => ⟨t, c, m, r, rfl, e _ _ ht, rl, rx, ml, q⟩) fun v H0 H1 H2 e h => h
end
end KX
set_option Elab.async false
set_option linter.all false
set_option maxRecDepth 100000
set_option maxHeartbeats 4000000
namespace KX
open PySem PySem.Spec PyProof.Rows L2 Evl RZ Sg
section
variable {P : Program} {w : World} {K : PySem.W.Frag} {mg : Str → Option Value} {base : Heap}

/-! ### how each asking ends -/
theorem out_bad {T : Txt K mg} {H : Hp} {k : Int} {x x2 y z m : V} (h0 : 0 ≤ k) (h1 : k < 12) (no : WebNo K H x) : Out T H k x x2 y z m (some T.cNoWeb) := by
  have g : RefG T H x T.cNoWeb := .inl ⟨rfl, no⟩
  by_cases k8 : k < 8
  · refine .inl ⟨k8, ?_⟩
    by_cases k0 : k = 0
    · exact .inl ⟨k0, .inl ⟨rfl, no⟩⟩
    · by_cases k3 : k ≤ 3
      · exact .inr (.inl ⟨⟨by omega, k3⟩, .inl ⟨_, rfl, g⟩⟩)
      · exact .inr (.inr ⟨⟨by omega, by omega⟩, .inl ⟨_, rfl, .inl g⟩⟩)
  · by_cases e8 : k = 8
    · exact .inr (.inl ⟨e8, _, rfl, .inl (.inl g)⟩)
    · by_cases e9 : k = 9
      · exact .inr (.inr (.inl ⟨e9, .inl ⟨_, rfl, .inl (.inl g)⟩⟩))
      · by_cases e10 : k = 10
        · exact .inr (.inr (.inr (.inl ⟨e10, .inl ⟨_, rfl, .inl ⟨rfl, no⟩⟩⟩)))
        · exact .inr (.inr (.inr (.inr ⟨by omega, .inl ⟨_, rfl, .inl ⟨rfl, no⟩⟩⟩)))
theorem out_bad2 {T : Txt K mg} {H : Hp} {k : Int} {x x2 y z m : V} (h0 : 9 < k) (h1 : k < 12) (hx : IsWeb H x) (no : WebNo K H x2) : Out T H k x x2 y z m (some T.cNoWeb) := by
  obtain ⟨a, ps, w, rfl, hw, gw, wl⟩ := hx
  by_cases e10 : k = 10
  · exact .inr (.inr (.inr (.inl ⟨e10, .inl ⟨_, rfl, .inr ⟨a, ps, w, rfl, hw, gw, wl, .inl ⟨rfl, no⟩⟩⟩⟩)))
  · exact .inr (.inr (.inr (.inr ⟨by omega, .inl ⟨_, rfl, .inr ⟨a, ps, w, rfl, hw, gw, wl, .inl ⟨rfl, no⟩⟩⟩⟩)))
/-- a web with one spot -/
def OneAt (H : Hp) (x : V) : Prop := ∃ b qs v, x = .ref b ∧ WebAt H b qs v ∧ GoodWeb v ∧ v.length = 1
theorem OneAt.mono {H H1 : Hp} {x : V} (h : OneAt H x) (e : Ex H H1) : OneAt H1 x := by
  obtain ⟨b, qs, v, h1, h2, h3⟩ := h
  exact ⟨b, qs, v, h1, h2.mono e, h3⟩
theorem two_of {H : Hp} {a : Addr} {ps : List Addr} {w : List (List Nat)} {x2 : V} (hw : WebAt H a ps w) (gw : GoodWeb w) (wl : w.length ≤ 100) (h2 : OneAt H x2) : IsTwo H (.ref a) x2 (fun a b => a + b) ∧ IsTwo H (.ref a) x2 (fun a b => a * b) := by
  obtain ⟨b, qs, v, rfl, hv, gv, vl⟩ := h2
  refine ⟨⟨a, b, ps, qs, w, v, rfl, rfl, hw, hv, gw, gv, by omega, by omega, ?_⟩, ⟨a, b, ps, qs, w, v, rfl, rfl, hw, hv, gw, gv, by omega, by omega, ?_⟩⟩
  · show w.length + v.length ≤ 200
    omega
  · show w.length * v.length ≤ 200
    rw [vl]; omega
theorem out_ring {T : Txt K mg} {H : Hp} {k : Int} {a : Addr} {ps : List Addr} {w : List (List Nat)} {x2 y z m : V} (h0 : 0 ≤ k) (h1 : k < 12) (hw : WebAt H a ps w) (gw : GoodWeb w) (wl : w.length ≤ 40) (nac : ¬ Acyc w) (h2 : OneAt H x2) : ∃ o, Out T H k (.ref a) x2 y z m o ∧ Says T o (if 0 < k ∧ k < 10 then "ring" else "") := by
  have g : RefG T H (.ref a) T.cRinged := .inr ⟨rfl, a, ps, w, rfl, hw, gw, by omega, nac⟩
  have tw := two_of hw gw (by omega) h2
  by_cases k0 : k = 0
  · refine ⟨none, .inl ⟨by omega, .inl ⟨k0, .inr ⟨rfl, a, ps, w, rfl, hw, gw, by omega⟩⟩⟩, ?_⟩
    rw [if_neg (by omega)]; exact .inl ⟨rfl, rfl⟩
  · by_cases k10 : k < 10
    · refine ⟨some T.cRinged, ?_, ?_⟩
      · by_cases k8 : k < 8
        · refine .inl ⟨k8, ?_⟩
          by_cases k3 : k ≤ 3
          · exact .inr (.inl ⟨⟨by omega, k3⟩, .inl ⟨_, rfl, g⟩⟩)
          · exact .inr (.inr ⟨⟨by omega, by omega⟩, .inl ⟨_, rfl, .inl g⟩⟩)
        · by_cases e8 : k = 8
          · exact .inr (.inl ⟨e8, _, rfl, .inl (.inl g)⟩)
          · exact .inr (.inr (.inl ⟨by omega, .inl ⟨_, rfl, .inl (.inl g)⟩⟩))
      · rw [if_pos ⟨by omega, k10⟩]; exact .inr ⟨_, rfl, told_ring T⟩
    · refine ⟨none, ?_, ?_⟩
      · by_cases e10 : k = 10
        · exact .inr (.inr (.inr (.inl ⟨e10, .inr ⟨rfl, tw.1⟩⟩)))
        · exact .inr (.inr (.inr (.inr ⟨by omega, .inr ⟨rfl, tw.2⟩⟩)))
      · rw [if_neg (by omega)]; exact .inl ⟨rfl, rfl⟩
theorem out_row {T : Txt K mg} {H : Hp} {k : Int} {a : Addr} {ps : List Addr} {w : List (List Nat)} {g : List Nat} {x2 y z m : V} (h0 : 0 ≤ k) (h1 : k < 12) (hw : WebAt H a ps w) (ga : Game w g) (wl : w.length ≤ 40) (no : RowNo K H w.length y) (h2 : OneAt H x2) : ∃ o, Out T H k (.ref a) x2 y z m o ∧ Says T o (if 3 < k ∧ k < 10 then "row" else "") := by
  have r : RefR T H (.ref a) y T.cNoRow := .inr ⟨rfl, a, ps, w, g, rfl, hw, ga, no⟩
  have tw := two_of hw ga.gw (by omega) h2
  by_cases k3 : k ≤ 3
  · refine ⟨none, .inl ⟨by omega, ?_⟩, ?_⟩
    · by_cases k0 : k = 0
      · exact .inl ⟨k0, .inr ⟨rfl, a, ps, w, rfl, hw, ga.gw, ga.le⟩⟩
      · exact .inr (.inl ⟨⟨by omega, k3⟩, .inr ⟨rfl, a, ps, w, g, rfl, hw, ga⟩⟩)
    · rw [if_neg (by omega)]; exact .inl ⟨rfl, rfl⟩
  · by_cases k10 : k < 10
    · refine ⟨some T.cNoRow, ?_, ?_⟩
      · by_cases k8 : k < 8
        · exact .inl ⟨k8, .inr (.inr ⟨⟨by omega, by omega⟩, .inl ⟨_, rfl, r⟩⟩)⟩
        · by_cases e8 : k = 8
          · exact .inr (.inl ⟨e8, _, rfl, .inl r⟩)
          · exact .inr (.inr (.inl ⟨by omega, .inl ⟨_, rfl, .inl r⟩⟩))
      · rw [if_pos ⟨by omega, k10⟩]; exact .inr ⟨_, rfl, told_row T⟩
    · refine ⟨none, ?_, ?_⟩
      · by_cases e10 : k = 10
        · exact .inr (.inr (.inr (.inl ⟨e10, .inr ⟨rfl, tw.1⟩⟩)))
        · exact .inr (.inr (.inr (.inr ⟨by omega, .inr ⟨rfl, tw.2⟩⟩)))
      · rw [if_neg (by omega)]; exact .inl ⟨rfl, rfl⟩
theorem out_row2 {T : Txt K mg} {H : Hp} {a t : Addr} {ps : List Addr} {w : List (List Nat)} {g r : List Nat} {x2 z m : V} (hw : WebAt H a ps w) (ga : Game w g) (ht : H t = some (.lst (nl r))) (gr : GoodRow w r) (no : RowNo K H w.length z) : Out T H 9 (.ref a) x2 (.ref t) z m (some T.cNoRow) :=
  .inr (.inr (.inl ⟨rfl, .inl ⟨_, rfl, .inr ⟨rfl, a, t, ps, w, g, r, rfl, rfl, hw, ht, ga, gr, no⟩⟩⟩))
theorem out_move {T : Txt K mg} {H : Hp} {k : Int} {a t u : Addr} {ps : List Addr} {w : List (List Nat)} {g r : List Nat} {x2 m : V} (h0 : 0 ≤ k) (h1 : k < 12) (hw : WebAt H a ps w) (ga : Game w g) (wl : w.length ≤ 40) (ht : H t = some (.lst (nl r))) (hu : H u = some (.lst (nl r))) (gr : GoodRow w r) (no : MoveNo K H r.length w.length m) (h2 : OneAt H x2) : ∃ o, Out T H k (.ref a) x2 (.ref t) (.ref u) m o ∧ Says T o (if k = 8 then "move" else "") := by
  have tw := two_of hw ga.gw (by omega) h2
  by_cases e8 : k = 8
  · exact ⟨_, .inr (.inl ⟨e8, _, rfl, .inr ⟨rfl, a, t, ps, w, g, r, rfl, rfl, hw, ht, ga, gr, no⟩⟩), by rw [if_pos e8]; exact .inr ⟨_, rfl, told_move T⟩⟩
  · refine ⟨none, ?_, by rw [if_neg e8]; exact .inl ⟨rfl, rfl⟩⟩
    by_cases k8 : k < 8
    · refine .inl ⟨k8, ?_⟩
      by_cases k0 : k = 0
      · exact .inl ⟨k0, .inr ⟨rfl, a, ps, w, rfl, hw, ga.gw, ga.le⟩⟩
      · by_cases k3 : k ≤ 3
        · exact .inr (.inl ⟨⟨by omega, k3⟩, .inr ⟨rfl, a, ps, w, g, rfl, hw, ga⟩⟩)
        · exact .inr (.inr ⟨⟨by omega, by omega⟩, .inr ⟨rfl, a, t, ps, w, g, r, rfl, rfl, hw, ht, ga, gr⟩⟩)
    · by_cases e9 : k = 9
      · exact .inr (.inr (.inl ⟨e9, .inr ⟨rfl, a, t, u, ps, w, g, r, r, rfl, rfl, rfl, hw, ht, hu, ga, gr, gr⟩⟩))
      · by_cases e10 : k = 10
        · exact .inr (.inr (.inr (.inl ⟨e10, .inr ⟨rfl, tw.1⟩⟩)))
        · exact .inr (.inr (.inr (.inr ⟨by omega, .inr ⟨rfl, tw.2⟩⟩)))
def wideN (k : Int) (m n : Nat) : Nat := if k = 10 then m + n else m * n
theorem out_wide {T : Txt K mg} {H : Hp} {k : Int} {a b : Addr} {ps qs : List Addr} {w v : List (List Nat)} {y z m : V} (h0 : 9 < k) (h1 : k < 12) (hw : WebAt H a ps w) (gw : GoodWeb w) (wl : w.length ≤ 200) (hv : WebAt H b qs v) (gv : GoodWeb v) (vl : v.length ≤ 200) (h4 : wideN k w.length v.length ≤ 400) : ∃ o, Out T H k (.ref a) (.ref b) y z m o ∧ Says T o (if 200 < wideN k w.length v.length then "many" else "") := by
  unfold wideN at h4 ⊢
  by_cases e10 : k = 10
  · rw [if_pos e10] at h4 ⊢
    by_cases h : 200 < w.length + v.length
    · exact ⟨_, .inr (.inr (.inr (.inl ⟨e10, .inl ⟨_, rfl, .inr ⟨a, ps, w, rfl, hw, gw, wl, .inr ⟨rfl, b, qs, v, rfl, hv, gv, vl, h, h4⟩⟩⟩⟩))), by rw [if_pos h]; exact .inr ⟨_, rfl, told_many T⟩⟩
    · exact ⟨_, .inr (.inr (.inr (.inl ⟨e10, .inr ⟨rfl, a, b, ps, qs, w, v, rfl, rfl, hw, hv, gw, gv, wl, vl, show w.length + v.length ≤ 200 by omega⟩⟩))), by rw [if_neg h]; exact .inl ⟨rfl, rfl⟩⟩
  · rw [if_neg e10] at h4 ⊢
    by_cases h : 200 < w.length * v.length
    · exact ⟨_, .inr (.inr (.inr (.inr ⟨by omega, .inl ⟨_, rfl, .inr ⟨a, ps, w, rfl, hw, gw, wl, .inr ⟨rfl, b, qs, v, rfl, hv, gv, vl, h, h4⟩⟩⟩⟩))), by rw [if_pos h]; exact .inr ⟨_, rfl, told_many T⟩⟩
    · exact ⟨_, .inr (.inr (.inr (.inr ⟨by omega, .inr ⟨rfl, a, b, ps, qs, w, v, rfl, rfl, hw, hv, gw, gv, wl, vl, show w.length * v.length ≤ 200 by omega⟩⟩))), by rw [if_neg h]; exact .inl ⟨rfl, rfl⟩⟩
/-! ### readings of the law's lists -/
theorem er_one {σ : L2.St} {H : Hp} {te : TE} {r : List Nat} (h : EvL te σ H (nl r)) : EvR (tLst (tCons te tNil)) σ H (RW (fun w => w = [r])) := fun H1 e Q q =>
  h H1 e _ fun p H2 hp e2 h2 => ⟨sz_of (show 1 ≤ 100000 by decide), fun z hz => by
    have zp : p ≠ z := fun e => by rw [e, hz] at h2; cases h2
    refine q _ _ (e2.trans (Ex.new hz)) ⟨z, [p], [r], rfl, ⟨upd_same, rfl, fun i p' r' h1 h3 => ?_⟩, ⟨fresh_back e2 hz, fun p' hp' => by rw [List.mem_singleton.mp hp']; exact hp, List.nodup_cons.mpr ⟨by simp, List.nodup_nil⟩, fun z' => zp (List.mem_singleton.mp z').symm⟩, rfl⟩
    match i with
    | 0 => cases h1; cases h3; rw [upd_ne zp]; exact h2
    | i + 1 => simp at h1⟩
theorem good_one {r : List Nat} (h : r.Nodup) (hx : ∀ x ∈ r, x < 1) : GoodWeb [r] := ⟨by simp, fun i s h1 => by
  match i with
  | 0 => cases h1; exact h
  | i + 1 => simp at h1, fun i s h1 x hx' => by
  match i with
  | 0 => cases h1; exact hx x hx'
  | i + 1 => simp at h1⟩
theorem er_oneAt {σ : L2.St} {H : Hp} {te : TE} {r : List Nat} (h : EvL te σ H (nl r)) (nd : r.Nodup) (hx : ∀ x ∈ r, x < 1) : EvR (tLst (tCons te tNil)) σ H (fun v _ H1 => OneAt H1 v) :=
  er_weak (er_one h) fun v H0 H1 _ _ hv => by
    obtain ⟨b, qs, v, rfl, h1, _, rfl⟩ := hv
    exact ⟨b, qs, _, rfl, h1, good_one nd hx, rfl⟩
/-- a text of the second asking, its second argument made on the way -/
theorem ev_toldR {T : Txt K mg} {σ : L2.St} {H : Hp} {ta tb tc td te tf : TE} {k : Int} {x y z m : V} {s : Str} {R : V → Hp → Prop} {E : XK} (h1 : Ev ta σ H (.int k)) (h2 : Ev tb σ H x) (h3 : EvR tc σ H (fun v _ H1 => R v H1)) (hR : ∀ v H1 H2, Ex H1 H2 → R v H1 → R v H2) (h4 : Ev td σ H y) (h5 : Ev te σ H z) (h6 : Ev tf σ H m)
    (hp : ∀ v H1, Ex H H1 → R v H1 → ∃ o, Out T H1 k x v y z m o ∧ Says T o s) : Ev (tCall (spTold T) [] E (tCons ta (tCons tb (tCons tc (tCons td (tCons te (tCons tf tNil))))))) σ H (.str s) := fun H1 e Q q =>
  h1 H1 e _ fun H2 e2 => h2 H2 (e.trans e2) _ fun H3 e3 => h3 H3 ((e.trans e2).trans e3) _ fun v H4 e4 r4 => h4 H4 (((e.trans e2).trans e3).trans e4) _ fun H5 e5 => h5 H5 ((((e.trans e2).trans e3).trans e4).trans e5) _ fun H6 e6 => h6 H6 (((((e.trans e2).trans e3).trans e4).trans e5).trans e6) _ fun H7 e7 => by
    obtain ⟨o, ho, hs⟩ := hp v H7 ((((((e.trans e2).trans e3).trans e4).trans e5).trans e6).trans e7) (hR _ _ _ ((e5.trans e6).trans e7) r4)
    exact ⟨k, x, v, y, z, m, o, s, rfl, ho, hs, fun H8 e8 => q H8 ((((((e2.trans e3).trans e4).trans e5).trans e6).trans e7).trans e8)⟩
/-- lists all of whose members are .. -/
def SAll (P : V → Hp → Prop) (n : Nat) : List V → Hp → Hp → Prop := fun vs _ H1 => vs.length = n ∧ ∀ v ∈ vs, P v H1
theorem ear_all0 {σ : L2.St} {H : Hp} {P : V → Hp → Prop} : EvAR tNil σ H (SAll P 0) := fun H1 e Q q => q [] H1 (Ex.refl H1) ⟨rfl, fun v hv => by cases hv⟩
theorem ear_all {σ : L2.St} {H : Hp} {te : TE} {tr : TA} {P : V → Hp → Prop} {n : Nat} (hm : ∀ v H1 H2, Ex H1 H2 → P v H1 → P v H2) (h : EvR te σ H (fun v _ H1 => P v H1)) (hr : EvAR tr σ H (SAll P n)) : EvAR (tCons te tr) σ H (SAll P (n + 1)) := fun H1 e Q q =>
  h H1 e _ fun v H2 e2 r2 => hr H2 (e.trans e2) _ fun vs H3 e3 s3 => q (v :: vs) H3 (e2.trans e3) ⟨by rw [List.length_cons, s3.1], fun u hu => (List.mem_cons.mp hu).elim (fun z => by rw [z]; exact hm _ _ _ e3 r2) (s3.2 u)⟩
def RAll (P : V → Hp → Prop) (n : Nat) : V → Hp → Hp → Prop := fun v H0 H1 => ∃ p vs, v = .ref p ∧ H1 p = some (.lst vs) ∧ vs.length = n ∧ ∀ u ∈ vs, P u H1
theorem er_all {σ : L2.St} {H : Hp} {tr : TA} {P : V → Hp → Prop} {n : Nat} (hm : ∀ v H1 H2, Ex H1 H2 → P v H1 → P v H2) (h : EvAR tr σ H (SAll P n)) (hn : n ≤ 100000) : EvR (tLst tr) σ H (RAll P n) := fun H1 e Q q =>
  h H1 e _ fun vs H2 e2 s2 => ⟨sz_of (by rw [s2.1]; exact hn), fun p hp => q _ _ (e2.trans (Ex.new hp)) ⟨p, vs, rfl, upd_same, s2.1, fun u hu => hm _ _ _ (Ex.new hp) (s2.2 u hu)⟩⟩
theorem er_catAll {σ : L2.St} {H : Hp} {ta tb : TE} {a : Addr} {xs : List V} {P : V → Hp → Prop} {n : Nat} (hm : ∀ v H1 H2, Ex H1 H2 → P v H1 → P v H2) (ha : Ev ta σ H (.ref a)) (h : H a = some (.lst xs)) (hx : ∀ u ∈ xs, P u H) (hb : EvR tb σ H (RAll P n)) (h2 : xs.length + n ≤ 100000) : EvR (tOp rCat ta tb) σ H (RAll P (xs.length + n)) := fun H1 e Q q =>
  ha H1 e _ fun H2 e2 => hb H2 (e.trans e2) _ fun v H3 e3 r3 => by
    obtain ⟨p, vs, rfl, hp, hl, hu⟩ := r3
    have ex := (e.trans e2).trans e3
    exact ⟨a, p, xs, vs, rfl, rfl, ex _ _ h, hp, sz_of (by omega), fun r hr => q _ _ ((e2.trans e3).trans (Ex.new hr)) ⟨r, xs ++ vs, rfl, upd_same, by rw [List.length_append, hl], fun u hu' => (List.mem_append.mp hu').elim (fun z => hm _ _ _ (ex.trans (Ex.new hr)) (hx u z)) (fun z => hm _ _ _ (Ex.new hr) (hu u z))⟩⟩
theorem EvU.p {σ : L2.St} {H : Hp} {te : TE} {xs : List V} {P : V → Hp → Prop} (h : EvU te σ H xs) (hp : ∀ p H1, Ex H H1 → H1 p = some (.tup xs) → P (.ref p) H1) : EvR te σ H (fun v _ H1 => P v H1) := fun H1 e Q q => h H1 e Q fun p H2 _ e2 h2 => q _ H2 e2 (hp p H2 (e.trans e2) h2)
theorem EvL.p {σ : L2.St} {H : Hp} {te : TE} {xs : List V} {P : V → Hp → Prop} (h : EvL te σ H xs) (hp : ∀ p H1, Ex H H1 → H1 p = some (.lst xs) → P (.ref p) H1) : EvR te σ H (fun v _ H1 => P v H1) := fun H1 e Q q => h H1 e Q fun p H2 _ e2 h2 => q _ H2 e2 (hp p H2 (e.trans e2) h2)
theorem Ev.p {σ : L2.St} {H : Hp} {te : TE} {x : V} {P : V → Hp → Prop} (h : Ev te σ H x) (hp : ∀ H1, Ex H H1 → P x H1) : EvR te σ H (fun v _ H1 => P v H1) := fun H1 e Q q => h H1 e Q fun H2 e2 => q _ H2 e2 (hp H2 (e.trans e2))
def rBool1 : List V → Hp → VK → Prop := fun xs H Q => (∃ i, xs = [.int i] ∧ Q (.bl (i != 0)) H) ∨ ∃ k, xs = [.bl k] ∧ Q (.bl k) H
def rInt1 : List V → Hp → VK → Prop := fun xs H Q => (∃ i, xs = [.int i] ∧ Q (.int i) H) ∨ ∃ k, xs = [.bl k] ∧ Q (.int (if k then 1 else 0)) H
theorem ev_bool1 {σ : L2.St} {H : Hp} {te : TE} {i : Int} (h : Ev te σ H (.int i)) : Ev (tCB rBool1 (tCons te tNil)) σ H (.bl (i != 0)) := fun H1 e Q q => h H1 e _ fun H2 e2 => .inl ⟨i, rfl, q H2 e2⟩
theorem ev_int1 {σ : L2.St} {H : Hp} {te : TE} {b : Bool} (h : Ev te σ H (.bl b)) : Ev (tCB rInt1 (tCons te tNil)) σ H (.int (if b then 1 else 0)) := fun H1 e Q q => h H1 e _ fun H2 e2 => .inr ⟨b, rfl, q H2 e2⟩
end
end KX
set_option Elab.async false
set_option linter.all false
set_option maxRecDepth 100000
set_option maxHeartbeats 4000000
namespace KX
open PySem PySem.Spec PyProof.Rows L2 Evl RZ Sg
section
variable {P : Program} {w : World} {K : PySem.W.Frag} {mg : Str → Option Value} {base : Heap}

theorem good_nils {n : Nat} (h : 1 ≤ n) : GoodWeb ((List.range n).map fun _ => ([] : List Nat)) := by
  have at' : ∀ {i : Nat} {r : List Nat}, ((List.range n).map fun _ => ([] : List Nat))[i]? = some r → r = [] := fun {i r} hr => by
    rw [List.getElem?_map] at hr
    cases hx : (List.range n)[i]? with
    | none => rw [hx] at hr; cases hr
    | some z => rw [hx] at hr; exact (Option.some.inj hr).symm
  exact ⟨by rw [List.length_map, List.length_range]; omega, fun i r hr => by rw [at' hr]; exact List.nodup_nil, fun i r hr x hx => by rw [at' hr] at hx; cases hx⟩
def spLaw (K : PySem.W.Frag) : Sp := fun vs H Q _ => ∃ (a : Addr) (ns : List Int), vs = [.ref a] ∧ SqL K H a (ns.map V.int) ∧ ns.length ≤ 63 ∧ ∀ H', Q (.bl true) H'
theorem ok_law (T : Txt K mg) : FnOk P w K mg base CX0 13 T.dLaw.f T.dLaw.fd ["_law_script"] (spLaw K) := by
  have GLWebBy : FnOk P w K mg base CX0 _ T.dLWebBy.f T.dLWebBy.fd _ (spWebBy K) := ok_webBy T
  have GLCellAt : FnOk P w K mg base CX0 _ T.dLCellAt.f T.dLCellAt.fd _ (spCell K) := ok_cell T
  have GLCopied : FnOk P w K mg base CX0 _ T.dLCopied.f T.dLCopied.fd _ spCopied := ok_copied T
  have GLSpoilt : FnOk P w K mg base CX0 _ T.dLSpoilt.f T.dLSpoilt.fd _ (spSpoilt K) := ok_spoilt T
  have GLRinged : FnOk P w K mg base CX0 _ T.dLRinged.f T.dLRinged.fd _ spRinged := ok_ringed T
  have GLBadRow : FnOk P w K mg base CX0 _ T.dLBadRow.f T.dLBadRow.fd _ (spBad K) := ok_bad T
  have GIsWeb : FnOk P w K mg base CX0 _ T.dIsWeb.f T.dIsWeb.fd _ (fun vs H Q E => spIsWeb vs H Q E ∨ spIsWebN K vs H Q E) := fnok_or (ok_isWeb T) (ok_isWebN T)
  have GLTold : FnOk P w K mg base CX0 _ T.dLTold.f T.dLTold.fd _ (spTold T) := ok_told T
  refine T.dLaw.F.ok scLaw (fun vs H Q E h => ?_) (fun cdv A outer s H vs Q E hr h => ?_)
  · obtain ⟨a, ns, rfl, _⟩ := h; rfl
  · obtain ⟨a, ns, rfl, hS, hnl, q⟩ := h
    refine ⟨_, (pss_cons (ps_set (i := 1) scLaw.nd rfl (.inr rfl) (pe_call GLWebBy (hr.mono (by decide)) (by rfl) T.dLWebBy.g T.dLWebBy.F.kp T.dLWebBy.b .nil pass0 (pa_cons (pv 0) (pa_cons pe_int pa_nil)))) (pss_cons (ps_setLc (i := 2) (own := [("_law_cell", 14)]) (g := gName 14) (by rfl) scLaw.nd rfl rfl (sw_true rfl rfl rfl (by decide +kernel)) (piK K (pe_slice (slK K) (pv 0) (po_some pe_int) (po_some pe_int))) (blkOk_by (own := [("_law_cell", 14)]) (N := nLaw) (sc := defScope sLaw) (by decide +kernel)) (fun _ _ _ _ _ => pg_name (i := 14) scLaw.nd rfl (Or.inl rfl)) (fun _ _ _ _ _ => pts_nil) (fun _ _ _ _ _ => (pe_op op_mod (pv 14) (pe_callB (id := "len") (lenK K) (by rfl) T.z_len (by decide +kernel) (pa_cons (pv 1) pa_nil))))) (pss_cons (ps_set (i := 3) scLaw.nd rfl (.inl rfl) (pe_op op_mod (pe_call GLCellAt (hr.mono (by decide)) (by rfl) T.dLCellAt.g T.dLCellAt.F.kp T.dLCellAt.b .nil pass0 (pa_cons (pv 0) (pa_cons pe_int pa_nil))) pe_int)) (pss_cons (ps_set (i := 4) scLaw.nd rfl (.inl rfl) (pe_call GLSpoilt (hr.mono (by decide)) (by rfl) T.dLSpoilt.g T.dLSpoilt.F.kp T.dLSpoilt.b .nil pass0 (pa_cons (pv 1) (pa_cons (pe_call GLCellAt (hr.mono (by decide)) (by rfl) T.dLCellAt.g T.dLCellAt.F.kp T.dLCellAt.b .nil pass0 (pa_cons (pv 0) (pa_cons pe_int pa_nil))) pa_nil)))) (pss_cons (ps_set (i := 5) scLaw.nd rfl (.inl rfl) (pe_call GLRinged (hr.mono (by decide)) (by rfl) T.dLRinged.g T.dLRinged.F.kp T.dLRinged.b .nil pass0 (pa_cons (pv 1) (pa_cons (pe_call GLCellAt (hr.mono (by decide)) (by rfl) T.dLCellAt.g T.dLCellAt.F.kp T.dLCellAt.b .nil pass0 (pa_cons (pv 0) (pa_cons pe_int pa_nil))) pa_nil)))) (pss_cons (ps_set (i := 6) scLaw.nd rfl (.inl rfl) (pe_call GLBadRow (hr.mono (by decide)) (by rfl) T.dLBadRow.g T.dLBadRow.F.kp T.dLBadRow.b .nil pass0 (pa_cons (pv 2) (pa_cons (pe_callB (id := "len") (lenK K) (by rfl) T.z_len (by decide +kernel) (pa_cons (pv 1) pa_nil)) (pa_cons (pe_call GLCellAt (hr.mono (by decide)) (by rfl) T.dLCellAt.g T.dLCellAt.F.kp T.dLCellAt.b .nil pass0 (pa_cons (pv 0) (pa_cons pe_int pa_nil))) pa_nil))))) (pss_cons (ps_if (PW.pt (pw_or (pt_cmpR op_notBl (pe_call GIsWeb (hr.mono (by decide)) (by rfl) T.dIsWeb.g T.dIsWeb.F.kp T.dIsWeb.b .nil pass0 (pa_cons (pv 1) pa_nil)) pe_bl (nomark _)) (pw_or (pt_cmpR op_notBl (pe_call GIsWeb (hr.mono (by decide)) (by rfl) T.dIsWeb.g T.dIsWeb.F.kp T.dIsWeb.b .nil pass0 (pa_cons (pv 5) pa_nil)) pe_bl (nomark _)) (pw_or1 (pt_cmpR op_notBl (pe_call GIsWeb (hr.mono (by decide)) (by rfl) T.dIsWeb.g T.dIsWeb.F.kp T.dIsWeb.b .nil pass0 (pa_cons (pv 4) pa_nil)) pe_bl (nomark _)))))) (pss_one (ps_ret pe_bl)) pss_nil) (pss_cons (ps_if (PW.pt (pw_or (pt_cmpR op_notBl (pe_call GIsWeb (hr.mono (by decide)) (by rfl) T.dIsWeb.g T.dIsWeb.F.kp T.dIsWeb.b .nil pass0 (pa_cons (pe_lc (own := [("_law_k", 15)]) (g := gName 15) (by rfl) scLaw.nd (pi_range1 (by rfl) T.z_range (pa_cons pe_int pa_nil)) (blkOk_by (own := [("_law_k", 15)]) (N := nLaw) (sc := defScope sLaw) (by decide +kernel)) (fun _ _ _ _ _ => pg_name (i := 15) scLaw.nd rfl (Or.inl rfl)) (fun _ _ _ _ _ => pts_nil) (fun _ _ _ _ _ => (pe_lst pa_nil))) pa_nil)) pe_bl (nomark _)) (pw_or1 (pt_cmpR op_ne (pe_call GLTold (hr.mono (by decide)) (by rfl) T.dLTold.g T.dLTold.F.kp T.dLTold.b .nil pass0 (pa_cons (pv 3) (pa_cons (pv 4) (pa_cons (pv 4) (pa_cons (pv 6) (pa_cons (pv 6) (pa_cons pe_non pa_nil))))))) pe_str (nomark _))))) (pss_one (ps_ret pe_bl)) pss_nil) (pss_cons (ps_if (PW.pt (pw_and (pt_cmpR op_gt (pv 3) pe_int (nomark _)) (pw_and1 (pt_cmpR op_ne (pe_call GLTold (hr.mono (by decide)) (by rfl) T.dLTold.g T.dLTold.F.kp T.dLTold.b .nil pass0 (pa_cons (pv 3) (pa_cons (pv 1) (pa_cons (pv 4) (pa_cons (pv 2) (pa_cons (pv 2) (pa_cons pe_non pa_nil))))))) pe_str (nomark _))))) (pss_one (ps_ret pe_bl)) pss_nil) (pss_cons (ps_set (i := 7) scLaw.nd rfl (.inl rfl) (pe_ifExp (pt_chain op_lt op_lt pe_int (pv 3) pe_int) pe_str pe_str)) (pss_cons (ps_if (pt_cmpR op_ne (pe_call GLTold (hr.mono (by decide)) (by rfl) T.dLTold.g T.dLTold.F.kp T.dLTold.b .nil pass0 (pa_cons (pv 3) (pa_cons (pv 5) (pa_cons (pe_lst (pa_cons (pe_lst (pa_cons pe_int pa_nil)) pa_nil)) (pa_cons (pv 6) (pa_cons (pv 6) (pa_cons pe_non pa_nil))))))) (pv 7) (nomark _)) (pss_one (ps_ret pe_bl)) pss_nil) (pss_cons (ps_set (i := 7) scLaw.nd rfl (.inl rfl) (pe_ifExp (pt_chain op_lt op_lt pe_int (pv 3) pe_int) pe_str pe_str)) (pss_cons (ps_if (pt_cmpR op_ne (pe_call GLTold (hr.mono (by decide)) (by rfl) T.dLTold.g T.dLTold.F.kp T.dLTold.b .nil pass0 (pa_cons (pv 3) (pa_cons (pv 1) (pa_cons (pe_lst (pa_cons (pe_lst pa_nil) pa_nil)) (pa_cons (pv 6) (pa_cons (pv 2) (pa_cons pe_non pa_nil))))))) (pv 7) (nomark _)) (pss_one (ps_ret pe_bl)) pss_nil) (pss_cons (ps_if (PW.pt (pw_and (pt_cmpR op_eq (pv 3) pe_int (nomark _)) (pw_and1 (pt_cmpR op_ne (pe_call GLTold (hr.mono (by decide)) (by rfl) T.dLTold.g T.dLTold.F.kp T.dLTold.b .nil pass0 (pa_cons pe_int (pa_cons (pv 1) (pa_cons (pv 1) (pa_cons (pv 2) (pa_cons (pv 6) (pa_cons pe_non pa_nil))))))) pe_str (nomark _))))) (pss_one (ps_ret pe_bl)) pss_nil) (pss_cons (ps_set (i := 8) scLaw.nd rfl (.inl rfl) (pe_lst (pa_cons (pe_call GLCopied (hr.mono (by decide)) (by rfl) T.dLCopied.g T.dLCopied.F.kp T.dLCopied.b .nil pass0 (pa_cons (pv 1) pa_nil)) (pa_cons (pe_callTy (T := "list") (listK K) (by rfl) T.z_list (by decide +kernel) (pa_cons (pv 2) pa_nil)) pa_nil)))) (pss_cons (ps_set (i := 9) scLaw.nd rfl (.inl rfl) (pe_lst (pa_cons pe_non (pa_cons (pe_tup (pa_cons pe_int pa_nil)) (pa_cons (pe_tup (pa_cons (pe_un un_neg pe_int) (pa_cons pe_int pa_nil))) (pa_cons (pe_tup (pa_cons (pe_callB (id := "len") (lenK K) (by rfl) T.z_len (by decide +kernel) (pa_cons (pv 2) pa_nil)) (pa_cons pe_int pa_nil))) (pa_cons (pe_tup (pa_cons pe_int (pa_cons (pe_callB (id := "len") (lenK K) (by rfl) T.z_len (by decide +kernel) (pa_cons (pv 1) pa_nil)) pa_nil))) (pa_cons (pe_tup (pa_cons pe_int (pa_cons (pe_un un_neg pe_int) pa_nil))) (pa_cons (pe_lst (pa_cons pe_int (pa_cons pe_int pa_nil))) (pa_cons (pe_tup (pa_cons pe_bl (pa_cons pe_int pa_nil))) (pa_cons (pe_tup (pa_cons pe_int (pa_cons pe_str pa_nil))) (pa_cons pe_int pa_nil)))))))))))) (pss_cons (ps_for PassesOwn.never rfl (pi_range1 (by rfl) T.z_range (pa_cons (pe_callB (id := "len") (lenK K) (by rfl) T.z_len (by decide +kernel) (pa_cons (pv 2) pa_nil)) pa_nil)) (pg_name (i := 10) scLaw.nd rfl (.inl rfl)) (pss_one (ps_for PassesOwn.never rfl (piK K (pe_slice (slK K) (pe_ix (ixK K) (pv 1) (pe_ix (ixK K) (pv 2) (pv 10) (fun _ _ => rfl)) (fun _ _ => rfl)) po_none (po_some pe_int))) (pg_name (i := 13) scLaw.nd rfl (.inl rfl)) (pss_one (ps_set (i := 9) scLaw.nd rfl (.inl rfl) (pe_op op_cat (pv 9) (pe_lst (pa_cons (pe_lst (pa_cons (pv 10) (pa_cons (pv 13) pa_nil))) (pa_cons (pe_tup (pa_cons (pv 10) (pa_cons (pv 13) (pa_cons pe_int pa_nil)))) (pa_cons (pe_tup (pa_cons (pv 10) (pa_cons (pe_callTy (T := "bool") call_bool1 (by rfl) T.z_bool (by decide +kernel) (pa_cons (pv 13) pa_nil)) pa_nil))) (pa_cons (pe_tup (pa_cons (pe_callTy (T := "bool") call_bool1 (by rfl) T.z_bool (by decide +kernel) (pa_cons (pv 10) pa_nil)) (pa_cons (pv 13) pa_nil))) pa_nil))))))))))) (pss_cons (ps_set (i := 11) scLaw.nd rfl (.inl rfl) (pe_ix (ixK K) (pv 9) (pe_op op_mod (pe_call GLCellAt (hr.mono (by decide)) (by rfl) T.dLCellAt.g T.dLCellAt.F.kp T.dLCellAt.b .nil pass0 (pa_cons (pv 0) (pa_cons pe_int pa_nil))) (pe_callB (id := "len") (lenK K) (by rfl) T.z_len (by decide +kernel) (pa_cons (pv 9) pa_nil))) (fun _ _ => rfl))) (pss_cons (ps_if (pt_cmpR op_ne (pe_call GLTold (hr.mono (by decide)) (by rfl) T.dLTold.g T.dLTold.F.kp T.dLTold.b .nil pass0 (pa_cons (pv 3) (pa_cons (pe_ix (ixK K) (pv 8) pe_int (fun _ _ => rfl)) (pa_cons (pe_lst (pa_cons (pe_lst (pa_cons pe_int pa_nil)) pa_nil)) (pa_cons (pe_ix (ixK K) (pv 8) pe_int (fun _ _ => rfl)) (pa_cons (pv 2) (pa_cons (pv 11) pa_nil))))))) (pe_ix (ixK K) (pe_lst (pa_cons pe_str (pa_cons pe_str pa_nil))) (pe_callTy (T := "int") call_int1 (by rfl) T.z_int (by decide +kernel) (pa_cons (pe_cmpR op_eq (pv 3) pe_int (nomark _)) pa_nil)) (fun _ _ => rfl)) (nomark _)) (pss_one (ps_ret pe_bl)) pss_nil) (pss_cons (ps_set (i := 12) scLaw.nd rfl (.inl rfl) (pe_ifExp (pt_cmpR op_gt (pv 3) pe_int (nomark _)) (pe_lc (own := [("_law_k", 15)]) (g := gName 15) (by rfl) scLaw.nd (pi_range1 (by rfl) T.z_range (pa_cons (pe_ix (ixK K) (pe_lst (pa_cons pe_int (pa_cons (pe_op op_fdiv pe_int (pe_callB (id := "max") (call_max2 rfl) (by rfl) T.z_max (by decide +kernel) (pa_cons pe_int (pa_cons (pe_callB (id := "len") (lenK K) (by rfl) T.z_len (by decide +kernel) (pa_cons (pv 1) pa_nil)) pa_nil)))) pa_nil))) (pe_op op_sub (pv 3) pe_int) (fun _ _ => rfl)) pa_nil)) (blkOk_by (own := [("_law_k", 15)]) (N := nLaw) (sc := defScope sLaw) (by decide +kernel)) (fun _ _ _ _ _ => pg_name (i := 15) scLaw.nd rfl (Or.inl rfl)) (fun _ _ _ _ _ => pts_nil) (fun _ _ _ _ _ => (pe_lst pa_nil))) (pe_lst (pa_cons (pe_lst pa_nil) pa_nil)))) (pss_cons (ps_if (PW.pt (pw_and (pt_cmpR op_gt (pv 3) pe_int (nomark _)) (pw_and1 (pt_val (pe_call GIsWeb (hr.mono (by decide)) (by rfl) T.dIsWeb.g T.dIsWeb.F.kp T.dIsWeb.b .nil pass0 (pa_cons (pv 12) pa_nil)))))) (pss_cons (ps_set (i := 7) scLaw.nd rfl (.inl rfl) (pe_ifExp (pt_cmpR op_gt (pe_ix (ixK K) (pe_lst (pa_cons (pe_op op_add (pe_callB (id := "len") (lenK K) (by rfl) T.z_len (by decide +kernel) (pa_cons (pv 1) pa_nil)) (pe_callB (id := "len") (lenK K) (by rfl) T.z_len (by decide +kernel) (pa_cons (pv 12) pa_nil))) (pa_cons (pe_op op_mul (pe_callB (id := "len") (lenK K) (by rfl) T.z_len (by decide +kernel) (pa_cons (pv 1) pa_nil)) (pe_callB (id := "len") (lenK K) (by rfl) T.z_len (by decide +kernel) (pa_cons (pv 12) pa_nil))) pa_nil))) (pe_op op_sub (pv 3) pe_int) (fun _ _ => rfl)) pe_int (nomark _)) pe_str pe_str)) (pss_one (ps_if (pt_cmpR op_ne (pe_call GLTold (hr.mono (by decide)) (by rfl) T.dLTold.g T.dLTold.F.kp T.dLTold.b .nil pass0 (pa_cons (pv 3) (pa_cons (pv 1) (pa_cons (pv 12) (pa_cons (pv 2) (pa_cons (pv 2) (pa_cons pe_non pa_nil))))))) (pv 7) (nomark _)) (pss_one (ps_ret pe_bl)) pss_nil))) pss_nil) (pss_one (ps_ret (pe_cmpR (eqK K hr.units) (pv 8) (pe_lst (pa_cons (pv 1) (pa_cons (pv 2) pa_nil))) (nomark _))))))))))))))))))))))))), ?_⟩
    refine q_asgR (er_webBy (ev_var rfl) ev_c hS (by omega)) (fun v H1 e1 r1 => ?_)
    obtain ⟨wa, ps, w, rfl, hw, _, gw, ac, hl⟩ := r1
    have gp := gw.pos
    obtain ⟨g, nu⟩ := Nums.ex gw ac
    have ga : Game w g := ⟨gw, ac, by omega, nu⟩
    have hmi : (0 : Int) < (w.length : Int) := by omega
    obtain ⟨ms, em, lm, _⟩ := cut_mid V.int ns 9 12
    refine q_asgR (er_lcB (R := fun v _ H1 => ∃ p, v = .ref p ∧ H1 p = some (.lst (ms.map V.int))) (S := RL (fun r => r.length ≤ 3 ∧ ∀ x ∈ r, x < w.length)) (er_weak (EvL.new (el_is (el_sl (ev_var rfl) (eo_some ev_c) (eo_some ev_c) (ex_l e1 hS)) em)) (fun v G0 G1 a0 a1 r => by
      obtain ⟨p, rfl, _, h⟩ := r
      exact ⟨p, rfl, h⟩)) (fun v G0 G1 a0 a1 r => ?_) (fun v H0 H1 H2 e h => h.back e)) (fun v H2 e2 r2 => ?_)
    · obtain ⟨p, rfl, hp⟩ := r
      refine er_weak (EvL.new (el_is (el_lcL (K := K) (xs := ms.map V.int) (fun _ => true) (fun i => ni (ms.getD i 0 % (w.length : Int)).toNat) ev_c (sq_of hp) (by rw [List.length_map]; omega) (fun x => rfl) (fun i x H1 e1 hx => et_yes) (fun i x H4 e4 hx _ => ?_)) (show _ = nl (ms.map fun z : Int => (z % (w.length : Int)).toNat) by
        rw [List.length_map, given_map ms 0 (fun z => ni (z % (w.length : Int)).toNat)]
        show _ = List.map _ _
        rw [List.map_map]
        rfl))) (fun v G2 G3 _ _ r => ?_)
      · obtain ⟨z, hz, rfl⟩ := map_of_get hx
        rw [getD_is hz]
        refine ev_is (ev_op (ev_var rfl) (ev_wlen (K := K) (ev_var rfl) (hw.mono ((a0.trans a1).trans e4))) (rv_I hmi)) ?_
        show V.int _ = V.int _
        congr 1
        exact (Int.toNat_of_nonneg (Int.emod_nonneg _ (by omega))).symm
      · obtain ⟨b, rfl, hb, h⟩ := r
        refine ⟨b, _, rfl, hb, h, by rw [List.length_map]; omega, fun x hx => ?_⟩
        obtain ⟨z, _, rfl⟩ := List.mem_map.mp hx
        have := Int.emod_lt_of_pos z hmi
        have := Int.emod_nonneg z (show (w.length : Int) ≠ 0 by omega)
        omega
    obtain ⟨ra, r, rfl, _, hr, rl, rx⟩ := r2
    have gr : GoodRow w r := ⟨by omega, rx⟩
    obtain ⟨k, hk, k0, k12⟩ : ∃ k : Int, k = cellAt ns 0 % 12 ∧ 0 ≤ k ∧ k < 12 := ⟨_, rfl, by omega, by omega⟩
    refine q_asg (v := .int k) (ev_is (ev_op (ev_cell (ev_var rfl) ev_c (ex_l (e1.trans e2) hS) (by omega)) ev_c (rv_I (by decide))) (by rw [hk])) (fun H3 e3 => ?_)
    have hS3 := ex_l ((e1.trans e2).trans e3) hS
    have hw3 := hw.mono (e2.trans e3)
    have hr3 := e3 _ _ hr
    clear hw hr e1 e2 e3 hS
    refine q_asgR (er_spoilt (ev_var rfl) (ev_cell (ev_var rfl) ev_c hS3 (by omega)) hw3 gw hl) (fun sv H4 e4 no4 => ?_)
    refine q_asgR (er_ringed (ev_var rfl) (ev_cell (ev_var rfl) ev_c (ex_l e4 hS3) (by omega)) (hw3.mono e4) gw (by omega)) (fun v H5 e5 r5 => ?_)
    obtain ⟨rg, rps, rw', rfl, hrg, _, grg, nac, rgl⟩ := r5
    refine q_asgR (er_bad (ev_var rfl) (ev_wlen (K := K) (ev_var rfl) (hw3.mono (e4.trans e5))) (ev_cell (ev_var rfl) ev_c (ex_l (e4.trans e5) hS3) (by omega)) ((e4.trans e5) _ _ hr3) (by omega) rx (by omega)) (fun bv H6 e6 bad6 => ?_)
    have hS6 := ex_l ((e4.trans e5).trans e6) hS3
    have hw6 := hw3.mono ((e4.trans e5).trans e6)
    have hr6 := ((e4.trans e5).trans e6) _ _ hr3
    have no6 := no4.mono (e5.trans e6)
    have hrg6 := hrg.mono e6
    clear no4 hrg hr3 hw3 hS3 e4 e5 e6
    have sweb : Says T (some T.cNoWeb) "web" := .inr ⟨_, rfl, told_web T⟩
    refine q_when (b := false) (et_is (et_or (et_test (ev_op (ev_call (z := .bl true) (ea_cons (ev_var rfl) ea_nil) fun H1 e Q q E => .inl ⟨wa, ps, w, rfl, hw6.mono e, gw, by omega, q⟩) ev_c rv_notB)) (fun _ => et_or (et_test (ev_op (ev_call (z := .bl true) (ea_cons (ev_var rfl) ea_nil) fun H1 e Q q E => .inl ⟨rg, rps, rw', rfl, hrg6.mono e, grg, by omega, q⟩) ev_c rv_notB)) (fun _ => et_test (ev_op (ev_call (z := .bl false) (ea_cons (ev_var rfl) ea_nil) fun H1 e Q q E => .inr ⟨sv, rfl, no6.mono e, q⟩) ev_c rv_notB)))) rfl) (fun hb => nomatch hb) (fun _ H7 e7 => ?_)
    refine q_when (b := false) (et_is (et_or (a := false) (et_test (ev_op (ev_callR (z := .bl true) (vs := []) (er_lcWR (n := 200) (fun _ => nl []) (ea_cons ev_c ea_nil) ⟨by omega, by omega⟩ (fun x => rfl) (fun i H1 e1 hi => el_lst ea_nil (Nat.zero_le _))) (fun H1 e => ea_nil) (fun v G0 G1 G2 a0 a1 rr a2 => ?_)) ev_c rv_notB)) (fun _ => et_test (ev_op (ev_told (o := some T.cNoWeb) (s := "web") (ev_var rfl) (ev_var rfl) (ev_var rfl) (ev_var rfl) (ev_var rfl) ev_c (out_bad k0 k12 (no6.mono e7)) sweb) ev_c (rv_ne rfl)))) (by simp)) (fun hb => nomatch hb) (fun _ H8 e8 => ?_)
    · obtain ⟨b, qs, v', rfl, hv, _, rfl⟩ := RRows.web rr
      exact fun G3 a3 Q q E => .inl ⟨b, qs, _, rfl, hv.mono (a2.trans a3), good_nils (by decide), by rw [List.length_map, List.length_range]; decide, q⟩
    have e68 := e7.trans e8
    refine q_when (b := false) (et_is (et_and (a := decide (k > 9)) (b := false) (et_test (ev_op (ev_var rfl) ev_c rv_I0)) (fun hb => et_is (et_test (ev_op (ev_told (o := some T.cNoWeb) (s := "web") (ev_var rfl) (ev_var rfl) (ev_var rfl) (ev_var rfl) (ev_var rfl) ev_c (out_bad2 (of_decide_eq_true hb) k12 ⟨wa, ps, w, rfl, hw6.mono e68, gw, by omega⟩ (no6.mono e68)) sweb) ev_c (rv_ne rfl))) (by simp))) (by simp)) (fun hb => nomatch hb) (fun _ H9 e9 => ?_)
    have hw9 := hw6.mono (e68.trans e9)
    have hr9 := (e68.trans e9) _ _ hr6
    have hrg9 := hrg6.mono (e68.trans e9)
    have hS9 := ex_l (e68.trans e9) hS6
    have bad9 := bad6.mono (e68.trans e9)
    clear no6 hw6 hr6 hrg6 hS6 bad6 e7 e8 e68 e9
    refine q_asg (v := .str (if 0 < k ∧ k < 10 then "ring" else "")) (ev_if (b := decide (0 < k) && decide (k < 10)) (et_test (ev_chain ev_c (ev_var rfl) rv_I0 (fun _ => ⟨_, ev_c, rv_I0⟩))) (fun hb => ev_is ev_c (by
      rw [Bool.and_eq_true, decide_eq_true_iff, decide_eq_true_iff] at hb
      rw [if_pos hb])) (fun hb => ev_is ev_c (by
      rw [Bool.and_eq_false_iff, decide_eq_false_iff_not, decide_eq_false_iff_not] at hb
      rw [if_neg (by omega)]))) (fun Ha ea => ?_)
    refine q_when (b := false) (et_is (et_test (ev_op (ev_toldR (R := fun v H => OneAt H v) (ev_var rfl) (ev_var rfl) (er_oneAt (r := [0]) (el_lst (ea_cons ev_c ea_nil) (show 1 ≤ 100000 by decide)) (by simp) (by simp)) (fun v H1 H2 e h => h.mono e) (ev_var rfl) (ev_var rfl) ev_c (fun v H1 e hv => out_ring k0 k12 (hrg9.mono (ea.trans e)) grg (by omega) nac hv)) (ev_var rfl) (rv_ne rfl))) (by simp)) (fun hb => nomatch hb) (fun _ Hb eb => ?_)
    refine q_asg (v := .str (if 3 < k ∧ k < 10 then "row" else "")) (ev_if (b := decide (3 < k) && decide (k < 10)) (et_test (ev_chain ev_c (ev_var rfl) rv_I0 (fun _ => ⟨_, ev_c, rv_I0⟩))) (fun hb => ev_is ev_c (by
      rw [Bool.and_eq_true, decide_eq_true_iff, decide_eq_true_iff] at hb
      rw [if_pos hb])) (fun hb => ev_is ev_c (by
      rw [Bool.and_eq_false_iff, decide_eq_false_iff_not, decide_eq_false_iff_not] at hb
      rw [if_neg (by omega)]))) (fun Hc ec => ?_)
    have e9c := (ea.trans eb).trans ec
    refine q_when (b := false) (et_is (et_test (ev_op (ev_toldR (R := fun v H => OneAt H v) (ev_var rfl) (ev_var rfl) (er_oneAt (r := []) (el_lst ea_nil (Nat.zero_le _)) List.nodup_nil (by simp)) (fun v H1 H2 e h => h.mono e) (ev_var rfl) (ev_var rfl) ev_c (fun v H1 e hv => out_row k0 k12 (hw9.mono (e9c.trans e)) ga hl (bad9.mono (e9c.trans e)) hv)) (ev_var rfl) (rv_ne rfl))) (by simp)) (fun hb => nomatch hb) (fun _ Hd ed => ?_)
    have e9d := e9c.trans ed
    refine q_when (b := false) (et_is (et_and (a := decide (k = 9)) (b := false) (et_test (ev_is (ev_op (ev_var rfl) ev_c (rv_eq rfl)) (by simp))) (fun hb => et_is (et_test (ev_op (ev_told (o := some T.cNoRow) (s := "row") ev_c (ev_var rfl) (ev_var rfl) (ev_var rfl) (ev_var rfl) ev_c (out_row2 (hw9.mono e9d) ga (e9d _ _ hr9) gr (bad9.mono e9d)) (.inr ⟨_, rfl, told_row T⟩)) ev_c (rv_ne rfl))) (by simp))) (by simp)) (fun hb => nomatch hb) (fun _ He ee => ?_)
    have e9e := e9d.trans ee
    refine q_asgR (er_lst (ear_cons (er_copied (ev_var rfl) (hw9.mono e9e) (by omega)) (fun G1 a1 => ear_cons (EvL.new (el_list (K := K) (ev_var rfl) (sq_of (a1 _ _ (e9e _ _ hr9))))) (fun G2 a2 => ear_nil))) (fun vs G0 G1 hs => by
      obtain ⟨v, rr, _, rfl, _, _, _, v2, r2, _, rfl, _, _, _, rfl⟩ := hs
      show 2 ≤ 100000
      decide)) (fun v Hf ef r3 => ?_)
    obtain ⟨ha, vs, G1, rfl, b1, hs, nha, b2, hh⟩ := r3
    obtain ⟨v, rr, K1, rfl, c1, rv1, c2, v2, r2, K2, rfl, c3, rv2, c4, rfl⟩ := hs
    obtain ⟨ca, cps, cw, rfl, hcw, _, ecw⟩ := rv1
    subst ecw
    obtain ⟨pa, rfl, _, hpa⟩ := rv2
    have hcwf := hcw.mono (c2.trans b2)
    have hpaf := (c4.trans b2) _ _ hpa
    have hwf := hw9.mono (e9e.trans ef)
    have hrf := (e9e.trans ef) _ _ hr9
    have hSf := ex_l (e9e.trans ef) hS9
    clear hcw hpa c1 c2 c3 c4 b1 b2 nha hw9 hr9 hS9 hrg9 bad9 ea eb ec ed ee ef e9c e9d e9e grg nac rgl
    have mm : ∀ (v : V) (H1 H2 : Hp), Ex H1 H2 → MoveNo K H1 r.length cw.length v → MoveNo K H2 r.length cw.length v := fun v H1 H2 e h => h.mono e
    have nlt : ∀ n : Nat, (decide ((0 : Int) ≤ (n : Int)) && decide ((n : Int) < (n : Int))) = false := fun n => by
      rw [decide_eq_false (show ¬ ((n : Int) < (n : Int)) by omega), Bool.and_false]
    refine q_asgR (er_all (P := fun v H => MoveNo K H r.length cw.length v) (n := 10) mm
      (ear_all mm (Ev.p ev_c (fun H1 e => .no (T := "NoneType") (by decide) (fun H' e' => .non)))
      (ear_all mm (EvU.p (eu_tup (ea_cons ev_c ea_nil) (show 1 ≤ 100000 by decide)) (fun p H1 e h => .len h (by decide)))
      (ear_all mm (EvU.p (eu_tup (ea_cons (ev_un ev_c ru_neg) (ea_cons ev_c ea_nil)) (show 2 ≤ 100000 by decide)) (fun p H1 e h => .pl h (.inl ⟨_, rfl, by simp⟩)))
      (ear_all mm (EvU.p (eu_tup (ea_cons (ev_llen (K := K) (ev_var rfl) (sq_of hrf)) (ea_cons ev_c ea_nil)) (show 2 ≤ 100000 by decide)) (fun p H1 e h => .pl h (.inl ⟨_, rfl, nlt _⟩)))
      (ear_all mm (EvU.p (eu_tup (ea_cons ev_c (ea_cons (ev_wlen (K := K) (ev_var rfl) hwf) ea_nil)) (show 2 ≤ 100000 by decide)) (fun p H1 e h => .sp (i := 0) h (.inl ⟨_, rfl, nlt _⟩)))
      (ear_all mm (EvU.p (eu_tup (ea_cons ev_c (ea_cons (ev_un ev_c ru_neg) ea_nil)) (show 2 ≤ 100000 by decide)) (fun p H1 e h => .sp (i := 0) h (.inl ⟨_, rfl, by simp⟩)))
      (ear_all mm (EvL.p (el_lst (ea_cons ev_c (ea_cons ev_c ea_nil)) (show 2 ≤ 100000 by decide)) (fun p H1 e h => .no (T := "list") (by decide) (fun H' e' => .lst (sq_of (e' _ _ h)))))
      (ear_all mm (EvU.p (eu_tup (ea_cons ev_c (ea_cons ev_c ea_nil)) (show 2 ≤ 100000 by decide)) (fun p H1 e h => .pl h (.inr ⟨"bool", by decide, fun H' e' => .bl _⟩)))
      (ear_all mm (EvU.p (eu_tup (ea_cons ev_c (ea_cons ev_c ea_nil)) (show 2 ≤ 100000 by decide)) (fun p H1 e h => .sp (i := 0) h (.inr ⟨"str", by decide, fun H' e' => .str _⟩)))
      (ear_all mm (Ev.p ev_c (fun H1 e => .no (T := "int") (by decide) (fun H' e' => .int _)))
      ear_all0)))))))))) (by decide)) (fun v Hg eg rg' => ?_)
    obtain ⟨oa, xs, rfl, hoa, xl, hP⟩ := rg'
    have rl3 : (r.length : Int) ≤ 3 := by omega
    refine q_forR1 (n := (r.length : Int)) (ea_cons (ev_llen (K := K) (ev_var rfl) (sq_of (eg _ _ hrf))) ea_nil) ⟨by omega, by omega⟩ (fun i σ H' => ∃ ob ys y10 y13, σ = [some (.ref a), some (.ref wa), some (.ref ra), some (.int k), some sv, some (.ref rg), some bv, some (.str (if 3 < k ∧ k < 10 then "row" else "")), some (.ref ha), some (.ref ob), y10, none, none, y13, none, none] ∧ Ex Hf H' ∧ H' ob = some (.lst ys) ∧ (∀ v ∈ ys, MoveNo K H' r.length cw.length v) ∧ 10 ≤ ys.length ∧ ys.length ≤ 10 + 4 * i) (fun H1 e1 => ⟨oa, xs, none, none, rfl, eg.trans e1, e1 _ _ hoa, fun v hv => (hP v hv).mono e1, by omega, by omega⟩) (fun i σ' H' hi hI => ?_) (fun σ' H' hI => ?_)
    · obtain ⟨ob, ys, y10, y13, rfl, ex, hob, hys, y10l, yl⟩ := hI
      have il : i < r.length := by omega
      have gi := gx_get (g := r) il
      have sl := rx _ (List.mem_of_getElem? gi)
      obtain ⟨p, hp, hpr, hrow⟩ := web_row (K := K) (hwf.mono ex) sl
      refine s_forNL (el_is (el_sl (ev_op (ev_var rfl) (ev_op (ev_var rfl) (ev_var rfl) (rv_ixL (sq_of (ex _ _ hrf)) (nl_at gi))) (rv_ixL (hwf.mono ex).seq (atI_nat hpr))) eo_none (eo_some ev_c) (sq_of hrow)) (cut_to ni (row cw (gx r i)) 1)) (fun z t σ H' => (∃ ob ys y13, σ = [some (.ref a), some (.ref wa), some (.ref ra), some (.int k), some sv, some (.ref rg), some bv, some (.str (if 3 < k ∧ k < 10 then "row" else "")), some (.ref ha), some (.ref ob), some (ni i), none, none, y13, none, none] ∧ Ex Hf H' ∧ H' ob = some (.lst ys) ∧ (∀ v ∈ ys, MoveNo K H' r.length cw.length v) ∧ 10 ≤ ys.length ∧ ys.length ≤ 10 + 4 * i + 4 * t) ∧ H' z = some (.lst (nl ((row cw (gx r i)).take 1)))) (fun z H1 nz e1 hz => ⟨⟨ob, ys, _, rfl, ex.trans e1, e1 _ _ hob, fun v hv => (hys v hv).mono e1, y10l, by omega⟩, hz⟩) (fun z t σ' H' _ hI => sq_of hI.2) (fun z t x σ' H' hx hI => ?_) (fun z σ' H' hI => ?_)
      · obtain ⟨⟨ob, ys, y13, rfl, ex, hob, hys, y10l, yl⟩, hz⟩ := hI
        have t1 : t < 1 := by
          have := (List.getElem?_eq_some_iff.mp hx).1
          have h2 : (List.map ni ((row cw (gx r i)).take 1)).length ≤ 1 := by rw [List.length_map, List.length_take]; omega
          omega
        obtain ⟨o, ho, rfl⟩ := nl_of_get hx
        refine s_asgR (er_catAll (n := 4) mm (ev_var rfl) hob hys (er_all mm
          (ear_all mm (EvL.p (el_lst (ea_cons (ev_var rfl) (ea_cons (ev_var rfl) ea_nil)) (show 2 ≤ 100000 by decide)) (fun p H1 e h => .no (T := "list") (by decide) (fun H' e' => .lst (sq_of (e' _ _ h)))))
          (ear_all mm (EvU.p (eu_tup (ea_cons (ev_var rfl) (ea_cons (ev_var rfl) (ea_cons ev_c ea_nil))) (show 3 ≤ 100000 by decide)) (fun p H1 e h => .len h (by simp)))
          (ear_all mm (EvU.p (eu_tup (ea_cons (ev_var rfl) (ea_cons (ev_bool1 (ev_var rfl)) ea_nil)) (show 2 ≤ 100000 by decide)) (fun p H1 e h => .sp (i := i) h (.inr ⟨"bool", by decide, fun H' e' => .bl _⟩)))
          (ear_all mm (EvU.p (eu_tup (ea_cons (ev_bool1 (ev_var rfl)) (ea_cons (ev_var rfl) ea_nil)) (show 2 ≤ 100000 by decide)) (fun p H1 e h => .pl h (.inr ⟨"bool", by decide, fun H' e' => .bl _⟩)))
          ear_all0)))) (by decide)) (by omega)) (fun v H1 e1 r1 => ?_)
        obtain ⟨oc, zs, rfl, hoc, zl, hzs⟩ := r1
        exact ⟨⟨oc, zs, _, rfl, ex.trans e1, hoc, hzs, by omega, by omega⟩, e1 _ _ hz⟩
      · obtain ⟨⟨ob, ys, y13, rfl, ex, hob, hys, y10l, yl⟩, hz⟩ := hI
        have h2 : (List.map ni ((row cw (gx r i)).take 1)).length ≤ 1 := by rw [List.length_map, List.length_take]; omega
        exact ⟨ob, ys, _, _, rfl, ex, hob, hys, y10l, by omega⟩
    · obtain ⟨ob, ys, y10, y13, rfl, ex, hob, hys, y10l, yl⟩ := hI
      obtain ⟨j, hj, jl⟩ := nat_mod (cellAt ns 4) (show 0 < ys.length by omega)
      have hjy := List.getElem?_eq_getElem jl
      have mno := hys _ (List.getElem_mem jl)
      generalize ys[j] = mv at hjy mno
      refine q_asg (v := mv) (ev_op (ev_var rfl) (ev_is (ev_op (ev_cell (ev_var rfl) ev_c (ex_l ex hSf) (by omega)) (ev_len (K := K) (ev_var rfl) (sq_of hob)) (rv_I (show (0 : Int) < (ys.length : Int) by omega))) (congrArg V.int hj)) (rv_ixL (sq_of hob) (atI_nat hjy))) (fun Hh eh => ?_)
      have exh := ex.trans eh
      have ix : ∀ {σ : L2.St} {H2 : Hp} {j : Nat} {v : V}, Ex Hf H2 → σ[8]? = some (some (.ref ha)) → [V.ref ca, .ref pa][j]? = some v → Ev (tOp (rIxL K) (tVar 8) (tC (.int (j : Int)))) σ H2 v := fun e h4 hj => ev_op (ev_var h4) ev_c (rv_ixL (sq_of (e _ _ hh)) (atI_nat hj))
      refine q_when (b := false) (et_is (et_test (ev_op (ev_toldR (s := if k = 8 then "move" else "") (R := fun v H => OneAt H v) (ev_var rfl) (ix (j := 0) exh rfl rfl) (er_oneAt (r := [0]) (el_lst (ea_cons ev_c ea_nil) (show 1 ≤ 100000 by decide)) (by simp) (by simp)) (fun v H1 H2 e h => h.mono e) (ix (j := 1) exh rfl rfl) (ev_var rfl) (ev_var rfl) (fun v H1 e hv => out_move k0 k12 (hcwf.mono (exh.trans e)) ga hl ((exh.trans e) _ _ hpaf) ((exh.trans e) _ _ hrf) gr (mno.mono (eh.trans e)) hv)) (ev_opR1 (z := .str (if k = 8 then "move" else "")) (EvL.new (el_lst (ea_cons ev_c (ea_cons ev_c ea_nil)) (show 2 ≤ 100000 by decide))) (fun H1 e1 => ev_int1 (b := decide (k = 8)) (ev_is (ev_op (ev_var rfl) ev_c (rv_eq rfl)) (by simp))) (fun v G0 G1 G2 a0 a1 rr a2 => ?_)) (rv_ne rfl))) (by simp)) (fun hb => nomatch hb) (fun _ Hi ei => ?_)
      · obtain ⟨p, rfl, _, hp⟩ := rr
        refine rv_ixL (sq_of (a2 _ _ hp)) ?_
        by_cases e8 : k = 8
        · rw [decide_eq_true e8, if_pos e8]; rfl
        · rw [decide_eq_false e8, if_neg e8]; rfl
      have exi := exh.trans ei
      obtain ⟨N, hN, N1, N2⟩ : ∃ N : Nat, N = (if k = 10 then 199 else 201 / cw.length) ∧ 1 ≤ N ∧ N ≤ 201 := by
        refine ⟨_, rfl, ?_, ?_⟩ <;> split
        · decide
        · exact Nat.div_pos (by omega) gp
        · decide
        · exact Nat.div_le_self _ _
      have mx1 : (if (cw.length : Int) > 1 then (cw.length : Int) else 1) = (cw.length : Int) := by split <;> omega
      have ix2 : ∀ (A B C : Int), 9 < k → (k = 10 → A = C) → (k = 11 → B = C) → atI [V.int A, .int B] (k - 10) = some (.int C) := fun A B C h9 h1 h2 => by
        rcases (show k = 10 ∨ k = 11 by omega) with rfl | rfl
        · rw [h1 rfl]; rfl
        · rw [h2 rfl]; rfl
      have fin : ∀ {σ : L2.St} {H' : Hp}, Ex Hf H' → σ[8]? = some (some (.ref ha)) → σ[1]? = some (some (.ref wa)) → σ[2]? = some (some (.ref ra)) → Ev (tOp (rEqD K) (tVar 8) (tLst (tCons (tVar 1) (tCons (tVar 2) tNil)))) σ H' (.bl true) := fun {σ H'} ex h8 h1 h2 =>
        ev_opL (ev_var h8) (el_lst (ea_cons (ev_var h1) (ea_cons (ev_var h2) ea_nil)) (show 2 ≤ 100000 by decide)) (fun p G1 hp a1 => rv_eqSame (fun G2 a2 => dp_pair (((ex.trans a1).trans a2) _ _ hh) (hcwf.mono ((ex.trans a1).trans a2)) (((ex.trans a1).trans a2) _ _ hpaf)) (fun G2 a2 => dp_pair (a2 _ _ hp) (hwf.mono ((ex.trans a1).trans a2)) (((ex.trans a1).trans a2) _ _ hrf)) (pair_shaped _ _))
      refine q_asgR (er_if (b := decide (k > 9)) (R := fun v _ H1 => ∃ b qs v', v = .ref b ∧ WebAt H1 b qs v' ∧ (9 < k → v' = (List.range N).map fun _ => ([] : List Nat))) (et_test (ev_op (ev_var rfl) ev_c rv_I0)) (fun hb => er_weak (er_lcWR (n := (N : Int)) (fun _ => nl []) (ea_cons (ev_opR1 (z := .int (N : Int)) (EvL.new (el_lst (ea_cons ev_c (ea_cons (ev_op ev_c (ev_is (ev_max2 ev_c (ev_wlen (K := K) (ev_var rfl) (hwf.mono exi))) (by rw [mx1])) (rv_I (by constructor <;> omega))) ea_nil)) (show 2 ≤ 100000 by decide))) (fun H1 e1 => ev_op (ev_var rfl) ev_c rv_I0) (fun v G0 G1 G2 a0 a1 rr a2 => ?_)) ea_nil) ⟨by omega, by omega⟩ (fun x => rfl) (fun i H1 e1 hi => el_lst ea_nil (Nat.zero_le _))) (fun v G0 G1 a0 a1 rr => ?_)) (fun hb => er_weak (er_one (r := []) (el_lst ea_nil (Nat.zero_le _))) (fun v G0 G1 a0 a1 rr => ?_)) (fun v G0 G1 G2 _ rr => rr)) (fun v Hj ej rj => ?_)
      · obtain ⟨p, rfl, _, hp⟩ := rr
        refine rv_ixL (sq_of (a2 _ _ hp)) (ix2 _ _ _ (of_decide_eq_true hb) (fun e => ?_) (fun e => ?_))
        · rw [hN, if_pos e]; rfl
        · rw [hN, if_neg (by omega), Int.natCast_ediv]; rfl
      · obtain ⟨b, qs, v', rfl, hv, _, rfl⟩ := RRows.web rr
        exact ⟨b, qs, _, rfl, hv, fun _ => rfl⟩
      · obtain ⟨b, qs, v', rfl, hv, _, rfl⟩ := rr
        have hb' := of_decide_eq_false hb
        exact ⟨b, qs, _, rfl, hv, fun z => absurd z hb'⟩
      obtain ⟨wb, wqs, wv, rfl, hwv, ewv⟩ := rj
      have exj := exi.trans ej
      refine q_when (b := decide (k > 9) && decide (N ≤ 200)) (et_and (et_test (ev_op (ev_var rfl) ev_c rv_I0)) (fun hb => et_B (b := decide (N ≤ 200)) ?_)) (fun hb Hk ek => ?_) (fun hb Hk ek => s_ret (fin (exj.trans ek) rfl rfl rfl) (fun H9 e9 => q H9))
      · have ew := ewv (of_decide_eq_true hb)
        subst ew
        by_cases N3 : N ≤ 200
        · exact ev_is (ev_call (z := .bl true) (ea_cons (ev_var rfl) ea_nil) fun H1 e Q q E => .inl ⟨wb, wqs, _, rfl, hwv.mono e, good_nils N1, by rw [List.length_map, List.length_range]; exact N3, q⟩) (by rw [decide_eq_true N3])
        · exact ev_is (ev_call (z := .bl false) (ea_cons (ev_var rfl) ea_nil) fun H1 e Q q E => .inr ⟨.ref wb, rfl, .len (hwv.mono e).top (by rw [hwv.rlen, List.length_map, List.length_range]; omega), q⟩) (by rw [decide_eq_false N3])
      · rw [Bool.and_eq_true, decide_eq_true_iff, decide_eq_true_iff] at hb
        obtain ⟨h9, N3⟩ := hb
        have ew := ewv h9
        have wl : wv.length = N := by rw [ew, List.length_map, List.length_range]
        have gwv : GoodWeb wv := by rw [ew]; exact good_nils N1
        have wn : wideN k cw.length wv.length ≤ 400 := by
          unfold wideN
          rw [wl]
          split
          · omega
          · rename_i hne
            rw [hN, if_neg hne]
            have := Nat.mul_div_le 201 cw.length
            omega
        have exk := exj.trans ek
        have hwvk := hwv.mono ek
        refine q_asg (v := .str (if 200 < wideN k cw.length wv.length then "many" else "")) (ev_if (b := decide ((wideN k cw.length wv.length : Int) > 200)) (et_test (ev_op (ev_opR1 (z := .int (wideN k cw.length wv.length : Int)) (EvL.new (el_lst (ea_cons (ev_op (ev_wlen (K := K) (ev_var rfl) (hwf.mono exk)) (ev_wlen (K := K) (ev_var rfl) hwvk) rv_I0) (ea_cons (ev_op (ev_wlen (K := K) (ev_var rfl) (hwf.mono exk)) (ev_wlen (K := K) (ev_var rfl) hwvk) (rv_I (.inl (by constructor <;> omega)))) ea_nil)) (show 2 ≤ 100000 by decide))) (fun H1 e1 => ev_op (ev_var rfl) ev_c rv_I0) (fun v G0 G1 G2 a0 a1 rr a2 => ?_)) ev_c rv_I0)) (fun hb => ev_is ev_c (by
          have := of_decide_eq_true hb
          rw [if_pos (by omega)])) (fun hb => ev_is ev_c (by
          have := of_decide_eq_false hb
          rw [if_neg (by omega)]))) (fun Hl el => ?_)
        · obtain ⟨p, rfl, _, hp⟩ := rr
          refine rv_ixL (sq_of (a2 _ _ hp)) (ix2 _ _ _ h9 (fun e => ?_) (fun e => ?_))
          · unfold wideN; rw [if_pos e]; rfl
          · unfold wideN; rw [if_neg (by omega), Int.natCast_mul]
        have exl := exk.trans el
        obtain ⟨o, ho, hsy⟩ := out_wide (T := T) (y := .ref ra) (z := .ref ra) (m := .non) h9 k12 (hwf.mono exl) gw (by omega) (hwvk.mono el) gwv (by omega) wn
        refine s_when (b := false) (et_is (et_test (ev_op (ev_told (ev_var rfl) (ev_var rfl) (ev_var rfl) (ev_var rfl) (ev_var rfl) ev_c ho hsy) (ev_var rfl) (rv_ne rfl))) (by simp)) (fun hb => nomatch hb) (fun _ Hm em' => s_ret (fin (exl.trans em') rfl rfl rfl) (fun H9 e9 => q H9))
theorem law_in {H : Hp} {a : Addr} {ns : List Int} {E : XK} (hl : ns.length ≤ 63) (hS : SqL K H a (ns.map V.int)) : spLaw K [.ref a] H (fun v _ => v = .bl true) E := ⟨a, ns, rfl, hS, hl, fun _ => rfl⟩
end
end KX
set_option Elab.async false
set_option linter.all false
set_option maxRecDepth 100000
set_option maxHeartbeats 4000000
namespace KX
open PySem PySem.Spec PyProof.Rows L2 Evl RZ Sg
theorem all_mk {l : PySem.W.OpenLaw} {w : World} {K : PySem.W.Frag} {h : Heap} {mg : Str → Option Value} {fa : Addr} (X : K.In h) (G : h.Ns mainGlobals mg) (hfa : mg "law" = some (.ref fa))
    {f0 : Addr} {oc0 kV0 dc0 pm0 cd0 ct0 : Value} {od0 an0 : Option Addr} {sl0 : Array (Option Value)}
    (a0 : PySem.W.nsIn K mainGlobals "is_web" = some (some (.ref f0))) (l0 : K.lookup f0 = some ⟨oc0, od0, .func (PySem.W.fnOf "is_web" "is_web" (defArgs sIsWeb) (defBody sIsWeb) (defScope sIsWeb) .none kV0 dc0 pm0 an0 cd0 ct0), sl0⟩) (c0 : PySem.W.codeIn K cd0 "is_web" = true) (k0 : PySem.W.keepIn K (.ref f0) = true)
    {f1 : Addr} {oc1 kV1 dc1 pm1 cd1 ct1 : Value} {od1 an1 : Option Addr} {sl1 : Array (Option Value)}
    (a1 : PySem.W.nsIn K mainGlobals "_is_spot" = some (some (.ref f1))) (l1 : K.lookup f1 = some ⟨oc1, od1, .func (PySem.W.fnOf "_is_spot" "_is_spot" (defArgs sIsSpot) (defBody sIsSpot) (defScope sIsSpot) .none kV1 dc1 pm1 an1 cd1 ct1), sl1⟩) (c1 : PySem.W.codeIn K cd1 "_is_spot" = true) (k1 : PySem.W.keepIn K (.ref f1) = true)
    {f2 : Addr} {oc2 kV2 dc2 pm2 cd2 ct2 : Value} {od2 an2 : Option Addr} {sl2 : Array (Option Value)}
    (a2 : PySem.W.nsIn K mainGlobals "is_place" = some (some (.ref f2))) (l2 : K.lookup f2 = some ⟨oc2, od2, .func (PySem.W.fnOf "is_place" "is_place" (defArgs sIsPlace) (defBody sIsPlace) (defScope sIsPlace) .none kV2 dc2 pm2 an2 cd2 ct2), sl2⟩) (c2 : PySem.W.codeIn K cd2 "is_place" = true) (k2 : PySem.W.keepIn K (.ref f2) = true)
    {f3 : Addr} {oc3 kV3 dc3 pm3 cd3 ct3 : Value} {od3 an3 : Option Addr} {sl3 : Array (Option Value)}
    (a3 : PySem.W.nsIn K mainGlobals "check_web" = some (some (.ref f3))) (l3 : K.lookup f3 = some ⟨oc3, od3, .func (PySem.W.fnOf "check_web" "check_web" (defArgs sCheckWeb) (defBody sCheckWeb) (defScope sCheckWeb) .none kV3 dc3 pm3 an3 cd3 ct3), sl3⟩) (c3 : PySem.W.codeIn K cd3 "check_web" = true) (k3 : PySem.W.keepIn K (.ref f3) = true)
    {f4 : Addr} {oc4 kV4 dc4 pm4 cd4 ct4 : Value} {od4 an4 : Option Addr} {sl4 : Array (Option Value)}
    (a4 : PySem.W.nsIn K mainGlobals "check_game" = some (some (.ref f4))) (l4 : K.lookup f4 = some ⟨oc4, od4, .func (PySem.W.fnOf "check_game" "check_game" (defArgs sCheckGame) (defBody sCheckGame) (defScope sCheckGame) .none kV4 dc4 pm4 an4 cd4 ct4), sl4⟩) (c4 : PySem.W.codeIn K cd4 "check_game" = true) (k4 : PySem.W.keepIn K (.ref f4) = true)
    {f5 : Addr} {oc5 kV5 dc5 pm5 cd5 ct5 : Value} {od5 an5 : Option Addr} {sl5 : Array (Option Value)}
    (a5 : PySem.W.nsIn K mainGlobals "ring_in" = some (some (.ref f5))) (l5 : K.lookup f5 = some ⟨oc5, od5, .func (PySem.W.fnOf "ring_in" "ring_in" (defArgs sRingIn) (defBody sRingIn) (defScope sRingIn) .none kV5 dc5 pm5 an5 cd5 ct5), sl5⟩) (c5 : PySem.W.codeIn K cd5 "ring_in" = true) (k5 : PySem.W.keepIn K (.ref f5) = true)
    {f6 : Addr} {oc6 kV6 dc6 pm6 cd6 ct6 : Value} {od6 an6 : Option Addr} {sl6 : Array (Option Value)}
    (a6 : PySem.W.nsIn K mainGlobals "ended_spots" = some (some (.ref f6))) (l6 : K.lookup f6 = some ⟨oc6, od6, .func (PySem.W.fnOf "ended_spots" "ended_spots" (defArgs sEndedSpots) (defBody sEndedSpots) (defScope sEndedSpots) .none kV6 dc6 pm6 an6 cd6 ct6), sl6⟩) (c6 : PySem.W.codeIn K cd6 "ended_spots" = true) (k6 : PySem.W.keepIn K (.ref f6) = true)
    {f7 : Addr} {oc7 kV7 dc7 pm7 cd7 ct7 : Value} {od7 an7 : Option Addr} {sl7 : Array (Option Value)}
    (a7 : PySem.W.nsIn K mainGlobals "_sources" = some (some (.ref f7))) (l7 : K.lookup f7 = some ⟨oc7, od7, .func (PySem.W.fnOf "_sources" "_sources" (defArgs sSources) (defBody sSources) (defScope sSources) .none kV7 dc7 pm7 an7 cd7 ct7), sl7⟩) (c7 : PySem.W.codeIn K cd7 "_sources" = true) (k7 : PySem.W.keepIn K (.ref f7) = true)
    {f8 : Addr} {oc8 kV8 dc8 pm8 cd8 ct8 : Value} {od8 an8 : Option Addr} {sl8 : Array (Option Value)}
    (a8 : PySem.W.nsIn K mainGlobals "joined_webs" = some (some (.ref f8))) (l8 : K.lookup f8 = some ⟨oc8, od8, .func (PySem.W.fnOf "joined_webs" "joined_webs" (defArgs sJoinedWebs) (defBody sJoinedWebs) (defScope sJoinedWebs) .none kV8 dc8 pm8 an8 cd8 ct8), sl8⟩) (c8 : PySem.W.codeIn K cd8 "joined_webs" = true) (k8 : PySem.W.keepIn K (.ref f8) = true)
    {f9 : Addr} {oc9 kV9 dc9 pm9 cd9 ct9 : Value} {od9 an9 : Option Addr} {sl9 : Array (Option Value)}
    (a9 : PySem.W.nsIn K mainGlobals "paired_web" = some (some (.ref f9))) (l9 : K.lookup f9 = some ⟨oc9, od9, .func (PySem.W.fnOf "paired_web" "paired_web" (defArgs sPairedWeb) (defBody sPairedWeb) (defScope sPairedWeb) .none kV9 dc9 pm9 an9 cd9 ct9), sl9⟩) (c9 : PySem.W.codeIn K cd9 "paired_web" = true) (k9 : PySem.W.keepIn K (.ref f9) = true)
    {f10 : Addr} {oc10 kV10 dc10 pm10 cd10 ct10 : Value} {od10 an10 : Option Addr} {sl10 : Array (Option Value)}
    (a10 : PySem.W.nsIn K mainGlobals "_paired_moves" = some (some (.ref f10))) (l10 : K.lookup f10 = some ⟨oc10, od10, .func (PySem.W.fnOf "_paired_moves" "_paired_moves" (defArgs sPairedMoves) (defBody sPairedMoves) (defScope sPairedMoves) .none kV10 dc10 pm10 an10 cd10 ct10), sl10⟩) (c10 : PySem.W.codeIn K cd10 "_paired_moves" = true) (k10 : PySem.W.keepIn K (.ref f10) = true)
    {f11 : Addr} {oc11 kV11 dc11 pm11 cd11 ct11 : Value} {od11 an11 : Option Addr} {sl11 : Array (Option Value)}
    (a11 : PySem.W.nsIn K mainGlobals "_check_count" = some (some (.ref f11))) (l11 : K.lookup f11 = some ⟨oc11, od11, .func (PySem.W.fnOf "_check_count" "_check_count" (defArgs sCheckCount) (defBody sCheckCount) (defScope sCheckCount) .none kV11 dc11 pm11 an11 cd11 ct11), sl11⟩) (c11 : PySem.W.codeIn K cd11 "_check_count" = true) (k11 : PySem.W.keepIn K (.ref f11) = true)
    {f12 : Addr} {oc12 kV12 dc12 pm12 cd12 ct12 : Value} {od12 an12 : Option Addr} {sl12 : Array (Option Value)}
    (a12 : PySem.W.nsIn K mainGlobals "numbers_of" = some (some (.ref f12))) (l12 : K.lookup f12 = some ⟨oc12, od12, .func (PySem.W.fnOf "numbers_of" "numbers_of" (defArgs sNumbersOf) (defBody sNumbersOf) (defScope sNumbersOf) .none kV12 dc12 pm12 an12 cd12 ct12), sl12⟩) (c12 : PySem.W.codeIn K cd12 "numbers_of" = true) (k12 : PySem.W.keepIn K (.ref f12) = true)
    {f13 : Addr} {oc13 kV13 dc13 pm13 cd13 ct13 : Value} {od13 an13 : Option Addr} {sl13 : Array (Option Value)}
    (a13 : PySem.W.nsIn K mainGlobals "_least_missing" = some (some (.ref f13))) (l13 : K.lookup f13 = some ⟨oc13, od13, .func (PySem.W.fnOf "_least_missing" "_least_missing" (defArgs sLeastMissing) (defBody sLeastMissing) (defScope sLeastMissing) .none kV13 dc13 pm13 an13 cd13 ct13), sl13⟩) (c13 : PySem.W.codeIn K cd13 "_least_missing" = true) (k13 : PySem.W.keepIn K (.ref f13) = true)
    {f14 : Addr} {oc14 kV14 dc14 pm14 cd14 ct14 : Value} {od14 an14 : Option Addr} {sl14 : Array (Option Value)}
    (a14 : PySem.W.nsIn K mainGlobals "lengths_of" = some (some (.ref f14))) (l14 : K.lookup f14 = some ⟨oc14, od14, .func (PySem.W.fnOf "lengths_of" "lengths_of" (defArgs sLengthsOf) (defBody sLengthsOf) (defScope sLengthsOf) .none kV14 dc14 pm14 an14 cd14 ct14), sl14⟩) (c14 : PySem.W.codeIn K cd14 "lengths_of" = true) (k14 : PySem.W.keepIn K (.ref f14) = true)
    {f15 : Addr} {oc15 kV15 dc15 pm15 cd15 ct15 : Value} {od15 an15 : Option Addr} {sl15 : Array (Option Value)}
    (a15 : PySem.W.nsIn K mainGlobals "shown_moves" = some (some (.ref f15))) (l15 : K.lookup f15 = some ⟨oc15, od15, .func (PySem.W.fnOf "shown_moves" "shown_moves" (defArgs sShownMoves) (defBody sShownMoves) (defScope sShownMoves) .none kV15 dc15 pm15 an15 cd15 ct15), sl15⟩) (c15 : PySem.W.codeIn K cd15 "shown_moves" = true) (k15 : PySem.W.keepIn K (.ref f15) = true)
    {f16 : Addr} {oc16 kV16 dc16 pm16 cd16 ct16 : Value} {od16 an16 : Option Addr} {sl16 : Array (Option Value)}
    (a16 : PySem.W.nsIn K mainGlobals "laid_over" = some (some (.ref f16))) (l16 : K.lookup f16 = some ⟨oc16, od16, .func (PySem.W.fnOf "laid_over" "laid_over" (defArgs sLaidOver) (defBody sLaidOver) (defScope sLaidOver) .none kV16 dc16 pm16 an16 cd16 ct16), sl16⟩) (c16 : PySem.W.codeIn K cd16 "laid_over" = true) (k16 : PySem.W.keepIn K (.ref f16) = true)
    {f17 : Addr} {oc17 kV17 dc17 pm17 cd17 ct17 : Value} {od17 an17 : Option Addr} {sl17 : Array (Option Value)}
    (a17 : PySem.W.nsIn K mainGlobals "moves_in" = some (some (.ref f17))) (l17 : K.lookup f17 = some ⟨oc17, od17, .func (PySem.W.fnOf "moves_in" "moves_in" (defArgs sMovesIn) (defBody sMovesIn) (defScope sMovesIn) .none kV17 dc17 pm17 an17 cd17 ct17), sl17⟩) (c17 : PySem.W.codeIn K cd17 "moves_in" = true) (k17 : PySem.W.keepIn K (.ref f17) = true)
    {f18 : Addr} {oc18 kV18 dc18 pm18 cd18 ct18 : Value} {od18 an18 : Option Addr} {sl18 : Array (Option Value)}
    (a18 : PySem.W.nsIn K mainGlobals "played" = some (some (.ref f18))) (l18 : K.lookup f18 = some ⟨oc18, od18, .func (PySem.W.fnOf "played" "played" (defArgs sPlayed) (defBody sPlayed) (defScope sPlayed) .none kV18 dc18 pm18 an18 cd18 ct18), sl18⟩) (c18 : PySem.W.codeIn K cd18 "played" = true) (k18 : PySem.W.keepIn K (.ref f18) = true)
    {f19 : Addr} {oc19 kV19 dc19 pm19 cd19 ct19 : Value} {od19 an19 : Option Addr} {sl19 : Array (Option Value)}
    (a19 : PySem.W.nsIn K mainGlobals "row_number" = some (some (.ref f19))) (l19 : K.lookup f19 = some ⟨oc19, od19, .func (PySem.W.fnOf "row_number" "row_number" (defArgs sRowNumber) (defBody sRowNumber) (defScope sRowNumber) .none kV19 dc19 pm19 an19 cd19 ct19), sl19⟩) (c19 : PySem.W.codeIn K cd19 "row_number" = true) (k19 : PySem.W.keepIn K (.ref f19) = true)
    {f20 : Addr} {oc20 kV20 dc20 pm20 cd20 ct20 : Value} {od20 an20 : Option Addr} {sl20 : Array (Option Value)}
    (a20 : PySem.W.nsIn K mainGlobals "_check_row" = some (some (.ref f20))) (l20 : K.lookup f20 = some ⟨oc20, od20, .func (PySem.W.fnOf "_check_row" "_check_row" (defArgs sCheckRow) (defBody sCheckRow) (defScope sCheckRow) .none kV20 dc20 pm20 an20 cd20 ct20), sl20⟩) (c20 : PySem.W.codeIn K cd20 "_check_row" = true) (k20 : PySem.W.keepIn K (.ref f20) = true)
    {f21 : Addr} {oc21 kV21 dc21 pm21 cd21 ct21 : Value} {od21 an21 : Option Addr} {sl21 : Array (Option Value)}
    (a21 : PySem.W.nsIn K mainGlobals "_is_row" = some (some (.ref f21))) (l21 : K.lookup f21 = some ⟨oc21, od21, .func (PySem.W.fnOf "_is_row" "_is_row" (defArgs sIsRow) (defBody sIsRow) (defScope sIsRow) .none kV21 dc21 pm21 an21 cd21 ct21), sl21⟩) (c21 : PySem.W.codeIn K cd21 "_is_row" = true) (k21 : PySem.W.keepIn K (.ref f21) = true)
    {f22 : Addr} {oc22 kV22 dc22 pm22 cd22 ct22 : Value} {od22 an22 : Option Addr} {sl22 : Array (Option Value)}
    (a22 : PySem.W.nsIn K mainGlobals "_is_move" = some (some (.ref f22))) (l22 : K.lookup f22 = some ⟨oc22, od22, .func (PySem.W.fnOf "_is_move" "_is_move" (defArgs sIsMove) (defBody sIsMove) (defScope sIsMove) .none kV22 dc22 pm22 an22 cd22 ct22), sl22⟩) (c22 : PySem.W.codeIn K cd22 "_is_move" = true) (k22 : PySem.W.keepIn K (.ref f22) = true)
    {f23 : Addr} {oc23 kV23 dc23 pm23 cd23 ct23 : Value} {od23 an23 : Option Addr} {sl23 : Array (Option Value)}
    (a23 : PySem.W.nsIn K mainGlobals "is_lost" = some (some (.ref f23))) (l23 : K.lookup f23 = some ⟨oc23, od23, .func (PySem.W.fnOf "is_lost" "is_lost" (defArgs sIsLost) (defBody sIsLost) (defScope sIsLost) .none kV23 dc23 pm23 an23 cd23 ct23), sl23⟩) (c23 : PySem.W.codeIn K cd23 "is_lost" = true) (k23 : PySem.W.keepIn K (.ref f23) = true)
    {f24 : Addr} {oc24 kV24 dc24 pm24 cd24 ct24 : Value} {od24 an24 : Option Addr} {sl24 : Array (Option Value)}
    (a24 : PySem.W.nsIn K mainGlobals "good_moves" = some (some (.ref f24))) (l24 : K.lookup f24 = some ⟨oc24, od24, .func (PySem.W.fnOf "good_moves" "good_moves" (defArgs sGoodMoves) (defBody sGoodMoves) (defScope sGoodMoves) .none kV24 dc24 pm24 an24 cd24 ct24), sl24⟩) (c24 : PySem.W.codeIn K cd24 "good_moves" = true) (k24 : PySem.W.keepIn K (.ref f24) = true)
    {f25 : Addr} {oc25 kV25 dc25 pm25 cd25 ct25 : Value} {od25 an25 : Option Addr} {sl25 : Array (Option Value)}
    (a25 : PySem.W.nsIn K mainGlobals "parting_row" = some (some (.ref f25))) (l25 : K.lookup f25 = some ⟨oc25, od25, .func (PySem.W.fnOf "parting_row" "parting_row" (defArgs sPartingRow) (defBody sPartingRow) (defScope sPartingRow) .none kV25 dc25 pm25 an25 cd25 ct25), sl25⟩) (c25 : PySem.W.codeIn K cd25 "parting_row" = true) (k25 : PySem.W.keepIn K (.ref f25) = true)
    {f26 : Addr} {oc26 kV26 dc26 pm26 cd26 ct26 : Value} {od26 an26 : Option Addr} {sl26 : Array (Option Value)}
    (a26 : PySem.W.nsIn K mainGlobals "_law_cell_at" = some (some (.ref f26))) (l26 : K.lookup f26 = some ⟨oc26, od26, .func (PySem.W.fnOf "_law_cell_at" "_law_cell_at" (defArgs sLCellAt) (defBody sLCellAt) (defScope sLCellAt) .none kV26 dc26 pm26 an26 cd26 ct26), sl26⟩) (c26 : PySem.W.codeIn K cd26 "_law_cell_at" = true) (k26 : PySem.W.keepIn K (.ref f26) = true)
    {f27 : Addr} {oc27 kV27 dc27 pm27 cd27 ct27 : Value} {od27 an27 : Option Addr} {sl27 : Array (Option Value)}
    (a27 : PySem.W.nsIn K mainGlobals "_law_mixed" = some (some (.ref f27))) (l27 : K.lookup f27 = some ⟨oc27, od27, .func (PySem.W.fnOf "_law_mixed" "_law_mixed" (defArgs sLMixed) (defBody sLMixed) (defScope sLMixed) .none kV27 dc27 pm27 an27 cd27 ct27), sl27⟩) (c27 : PySem.W.codeIn K cd27 "_law_mixed" = true) (k27 : PySem.W.keepIn K (.ref f27) = true)
    {f28 : Addr} {oc28 kV28 dc28 pm28 cd28 ct28 : Value} {od28 an28 : Option Addr} {sl28 : Array (Option Value)}
    (a28 : PySem.W.nsIn K mainGlobals "_law_order_by" = some (some (.ref f28))) (l28 : K.lookup f28 = some ⟨oc28, od28, .func (PySem.W.fnOf "_law_order_by" "_law_order_by" (defArgs sLOrderBy) (defBody sLOrderBy) (defScope sLOrderBy) .none kV28 dc28 pm28 an28 cd28 ct28), sl28⟩) (c28 : PySem.W.codeIn K cd28 "_law_order_by" = true) (k28 : PySem.W.keepIn K (.ref f28) = true)
    {f29 : Addr} {oc29 kV29 dc29 pm29 cd29 ct29 : Value} {od29 an29 : Option Addr} {sl29 : Array (Option Value)}
    (a29 : PySem.W.nsIn K mainGlobals "_law_web_by" = some (some (.ref f29))) (l29 : K.lookup f29 = some ⟨oc29, od29, .func (PySem.W.fnOf "_law_web_by" "_law_web_by" (defArgs sLWebBy) (defBody sLWebBy) (defScope sLWebBy) .none kV29 dc29 pm29 an29 cd29 ct29), sl29⟩) (c29 : PySem.W.codeIn K cd29 "_law_web_by" = true) (k29 : PySem.W.keepIn K (.ref f29) = true)
    {f30 : Addr} {oc30 kV30 dc30 pm30 cd30 ct30 : Value} {od30 an30 : Option Addr} {sl30 : Array (Option Value)}
    (a30 : PySem.W.nsIn K mainGlobals "_law_copied" = some (some (.ref f30))) (l30 : K.lookup f30 = some ⟨oc30, od30, .func (PySem.W.fnOf "_law_copied" "_law_copied" (defArgs sLCopied) (defBody sLCopied) (defScope sLCopied) .none kV30 dc30 pm30 an30 cd30 ct30), sl30⟩) (c30 : PySem.W.codeIn K cd30 "_law_copied" = true) (k30 : PySem.W.keepIn K (.ref f30) = true)
    {f31 : Addr} {oc31 kV31 dc31 pm31 cd31 ct31 : Value} {od31 an31 : Option Addr} {sl31 : Array (Option Value)}
    (a31 : PySem.W.nsIn K mainGlobals "_law_spoilt" = some (some (.ref f31))) (l31 : K.lookup f31 = some ⟨oc31, od31, .func (PySem.W.fnOf "_law_spoilt" "_law_spoilt" (defArgs sLSpoilt) (defBody sLSpoilt) (defScope sLSpoilt) .none kV31 dc31 pm31 an31 cd31 ct31), sl31⟩) (c31 : PySem.W.codeIn K cd31 "_law_spoilt" = true) (k31 : PySem.W.keepIn K (.ref f31) = true)
    {f32 : Addr} {oc32 kV32 dc32 pm32 cd32 ct32 : Value} {od32 an32 : Option Addr} {sl32 : Array (Option Value)}
    (a32 : PySem.W.nsIn K mainGlobals "_law_ringed" = some (some (.ref f32))) (l32 : K.lookup f32 = some ⟨oc32, od32, .func (PySem.W.fnOf "_law_ringed" "_law_ringed" (defArgs sLRinged) (defBody sLRinged) (defScope sLRinged) .none kV32 dc32 pm32 an32 cd32 ct32), sl32⟩) (c32 : PySem.W.codeIn K cd32 "_law_ringed" = true) (k32 : PySem.W.keepIn K (.ref f32) = true)
    {f33 : Addr} {oc33 kV33 dc33 pm33 cd33 ct33 : Value} {od33 an33 : Option Addr} {sl33 : Array (Option Value)}
    (a33 : PySem.W.nsIn K mainGlobals "_law_bad_row" = some (some (.ref f33))) (l33 : K.lookup f33 = some ⟨oc33, od33, .func (PySem.W.fnOf "_law_bad_row" "_law_bad_row" (defArgs sLBadRow) (defBody sLBadRow) (defScope sLBadRow) .none kV33 dc33 pm33 an33 cd33 ct33), sl33⟩) (c33 : PySem.W.codeIn K cd33 "_law_bad_row" = true) (k33 : PySem.W.keepIn K (.ref f33) = true)
    {f34 : Addr} {oc34 kV34 dc34 pm34 cd34 ct34 : Value} {od34 an34 : Option Addr} {sl34 : Array (Option Value)}
    (a34 : PySem.W.nsIn K mainGlobals "_law_asked_one" = some (some (.ref f34))) (l34 : K.lookup f34 = some ⟨oc34, od34, .func (PySem.W.fnOf "_law_asked_one" "_law_asked_one" (defArgs sLAskedOne) (defBody sLAskedOne) (defScope sLAskedOne) .none kV34 dc34 pm34 an34 cd34 ct34), sl34⟩) (c34 : PySem.W.codeIn K cd34 "_law_asked_one" = true) (k34 : PySem.W.keepIn K (.ref f34) = true)
    {f35 : Addr} {oc35 kV35 dc35 pm35 cd35 ct35 : Value} {od35 an35 : Option Addr} {sl35 : Array (Option Value)}
    (a35 : PySem.W.nsIn K mainGlobals "_law_asked" = some (some (.ref f35))) (l35 : K.lookup f35 = some ⟨oc35, od35, .func (PySem.W.fnOf "_law_asked" "_law_asked" (defArgs sLAsked) (defBody sLAsked) (defScope sLAsked) .none kV35 dc35 pm35 an35 cd35 ct35), sl35⟩) (c35 : PySem.W.codeIn K cd35 "_law_asked" = true) (k35 : PySem.W.keepIn K (.ref f35) = true)
    {f36 : Addr} {oc36 kV36 dc36 pm36 cd36 ct36 : Value} {od36 an36 : Option Addr} {sl36 : Array (Option Value)}
    (a36 : PySem.W.nsIn K mainGlobals "_law_told" = some (some (.ref f36))) (l36 : K.lookup f36 = some ⟨oc36, od36, .func (PySem.W.fnOf "_law_told" "_law_told" (defArgs sLTold) (defBody sLTold) (defScope sLTold) .none kV36 dc36 pm36 an36 cd36 ct36), sl36⟩) (c36 : PySem.W.codeIn K cd36 "_law_told" = true) (k36 : PySem.W.keepIn K (.ref f36) = true)
    {f37 : Addr} {oc37 kV37 dc37 pm37 cd37 ct37 : Value} {od37 an37 : Option Addr} {sl37 : Array (Option Value)}
    (a37 : PySem.W.nsIn K mainGlobals "law" = some (some (.ref f37))) (l37 : K.lookup f37 = some ⟨oc37, od37, .func (PySem.W.fnOf "law" "law" (defArgs sLaw) (defBody sLaw) (defScope sLaw) .none kV37 dc37 pm37 an37 cd37 ct37), sl37⟩) (c37 : PySem.W.codeIn K cd37 "law" = true) (k37 : PySem.W.keepIn K (.ref f37) = true)
    (z0 : PySem.W.nsIn K mainGlobals "ValueError" = some none)
    (z1 : PySem.W.nsIn K mainGlobals "bool" = some none)
    (z2 : PySem.W.nsIn K mainGlobals "int" = some none)
    (z3 : PySem.W.nsIn K mainGlobals "isinstance" = some none)
    (z4 : PySem.W.nsIn K mainGlobals "len" = some none)
    (z5 : PySem.W.nsIn K mainGlobals "list" = some none)
    (z6 : PySem.W.nsIn K mainGlobals "max" = some none)
    (z7 : PySem.W.nsIn K mainGlobals "min" = some none)
    (z8 : PySem.W.nsIn K mainGlobals "range" = some none)
    (z9 : PySem.W.nsIn K mainGlobals "set" = some none)
    (z10 : PySem.W.nsIn K mainGlobals "sorted" = some none)
    (z11 : PySem.W.nsIn K mainGlobals "tuple" = some none)
    (z12 : PySem.W.nsIn K mainGlobals "type" = some none)
    {u0 : Tok} (v0 : PySem.W.nsIn K mainGlobals "MOST_SPOTS" = some (some (.int 200 u0)))
    {u1 : Tok} (v1 : PySem.W.nsIn K mainGlobals "MOST_GAMES" = some (some (.int 24 u1)))
    {CGameError : Addr} (yGameError : PySem.W.nsIn K mainGlobals "GameError" = some (some (.ref CGameError)))
    {CNoWeb : Addr} (yNoWeb : PySem.W.nsIn K mainGlobals "NoWeb" = some (some (.ref CNoWeb)))
    {CRinged : Addr} (yRinged : PySem.W.nsIn K mainGlobals "Ringed" = some (some (.ref CRinged)))
    {CNoRow : Addr} (yNoRow : PySem.W.nsIn K mainGlobals "NoRow" = some (some (.ref CNoRow)))
    {CNoMove : Addr} (yNoMove : PySem.W.nsIn K mainGlobals "NoMove" = some (some (.ref CNoMove)))
    {CTooMany : Addr} (yTooMany : PySem.W.nsIn K mainGlobals "TooMany" = some (some (.ref CTooMany)))
    (kxNoWeb : PySem.W.keepIn K (.ref CNoWeb) = true)
    (xxNoWeb : PySem.W.excIn K CNoWeb veL "ValueError.__new__" = true)
    (bxNoWeb : PySem.W.subIn K (.ref CNoWeb) (.type "BaseException") = some true)
    (txNoWeb : PySem.W.typeIn K (.ref CNoWeb) = some (.type "type"))
    (pxNoWeb : PySem.W.findIn K (.ref CNoWeb) "__getattribute__" = some (some (.builtin "BaseException.__getattribute__")))
    (qxNoWeb : PySem.W.findIn K (.ref CNoWeb) "__getattr__" = some none)
    (dxNoWeb : PySem.W.hasDictIn K CNoWeb = true)
    (cxNoWeb : PySem.W.findIn K (.ref CNoWeb) "__class__" = some (some (.builtin "object.__class__")))
    (mxNoWeb : PySem.W.mroIn K CNoWeb (.type "object") = some true)
    (kxRinged : PySem.W.keepIn K (.ref CRinged) = true)
    (xxRinged : PySem.W.excIn K CRinged veL "ValueError.__new__" = true)
    (bxRinged : PySem.W.subIn K (.ref CRinged) (.type "BaseException") = some true)
    (txRinged : PySem.W.typeIn K (.ref CRinged) = some (.type "type"))
    (pxRinged : PySem.W.findIn K (.ref CRinged) "__getattribute__" = some (some (.builtin "BaseException.__getattribute__")))
    (qxRinged : PySem.W.findIn K (.ref CRinged) "__getattr__" = some none)
    (dxRinged : PySem.W.hasDictIn K CRinged = true)
    (cxRinged : PySem.W.findIn K (.ref CRinged) "__class__" = some (some (.builtin "object.__class__")))
    (mxRinged : PySem.W.mroIn K CRinged (.type "object") = some true)
    (kxNoRow : PySem.W.keepIn K (.ref CNoRow) = true)
    (xxNoRow : PySem.W.excIn K CNoRow veL "ValueError.__new__" = true)
    (bxNoRow : PySem.W.subIn K (.ref CNoRow) (.type "BaseException") = some true)
    (txNoRow : PySem.W.typeIn K (.ref CNoRow) = some (.type "type"))
    (pxNoRow : PySem.W.findIn K (.ref CNoRow) "__getattribute__" = some (some (.builtin "BaseException.__getattribute__")))
    (qxNoRow : PySem.W.findIn K (.ref CNoRow) "__getattr__" = some none)
    (dxNoRow : PySem.W.hasDictIn K CNoRow = true)
    (cxNoRow : PySem.W.findIn K (.ref CNoRow) "__class__" = some (some (.builtin "object.__class__")))
    (mxNoRow : PySem.W.mroIn K CNoRow (.type "object") = some true)
    (kxNoMove : PySem.W.keepIn K (.ref CNoMove) = true)
    (xxNoMove : PySem.W.excIn K CNoMove veL "ValueError.__new__" = true)
    (bxNoMove : PySem.W.subIn K (.ref CNoMove) (.type "BaseException") = some true)
    (txNoMove : PySem.W.typeIn K (.ref CNoMove) = some (.type "type"))
    (pxNoMove : PySem.W.findIn K (.ref CNoMove) "__getattribute__" = some (some (.builtin "BaseException.__getattribute__")))
    (qxNoMove : PySem.W.findIn K (.ref CNoMove) "__getattr__" = some none)
    (dxNoMove : PySem.W.hasDictIn K CNoMove = true)
    (cxNoMove : PySem.W.findIn K (.ref CNoMove) "__class__" = some (some (.builtin "object.__class__")))
    (mxNoMove : PySem.W.mroIn K CNoMove (.type "object") = some true)
    (kxTooMany : PySem.W.keepIn K (.ref CTooMany) = true)
    (xxTooMany : PySem.W.excIn K CTooMany veL "ValueError.__new__" = true)
    (bxTooMany : PySem.W.subIn K (.ref CTooMany) (.type "BaseException") = some true)
    (txTooMany : PySem.W.typeIn K (.ref CTooMany) = some (.type "type"))
    (pxTooMany : PySem.W.findIn K (.ref CTooMany) "__getattribute__" = some (some (.builtin "BaseException.__getattribute__")))
    (qxTooMany : PySem.W.findIn K (.ref CTooMany) "__getattr__" = some none)
    (dxTooMany : PySem.W.hasDictIn K CTooMany = true)
    (cxTooMany : PySem.W.findIn K (.ref CTooMany) "__class__" = some (some (.builtin "object.__class__")))
    (mxTooMany : PySem.W.mroIn K CTooMany (.type "object") = some true)
    (eSp : PySem.W.specialIn K (.builtin "object.__class__") "__get__" = some (some (.builtin "getset_descriptor.__get__"))) (eTk : PySem.W.takesIn K (.builtin "object.__class__") = some true)
    (kNoWeb_NoWeb : PySem.W.kitOne K (.ref CNoWeb) (.ref CNoWeb) = some true)
    (kNoWeb_Ringed : PySem.W.kitOne K (.ref CNoWeb) (.ref CRinged) = some false)
    (kNoWeb_NoRow : PySem.W.kitOne K (.ref CNoWeb) (.ref CNoRow) = some false)
    (kNoWeb_NoMove : PySem.W.kitOne K (.ref CNoWeb) (.ref CNoMove) = some false)
    (kNoWeb_TooMany : PySem.W.kitOne K (.ref CNoWeb) (.ref CTooMany) = some false)
    (kRinged_NoWeb : PySem.W.kitOne K (.ref CRinged) (.ref CNoWeb) = some false)
    (kRinged_Ringed : PySem.W.kitOne K (.ref CRinged) (.ref CRinged) = some true)
    (kRinged_NoRow : PySem.W.kitOne K (.ref CRinged) (.ref CNoRow) = some false)
    (kRinged_NoMove : PySem.W.kitOne K (.ref CRinged) (.ref CNoMove) = some false)
    (kRinged_TooMany : PySem.W.kitOne K (.ref CRinged) (.ref CTooMany) = some false)
    (kNoRow_NoWeb : PySem.W.kitOne K (.ref CNoRow) (.ref CNoWeb) = some false)
    (kNoRow_Ringed : PySem.W.kitOne K (.ref CNoRow) (.ref CRinged) = some false)
    (kNoRow_NoRow : PySem.W.kitOne K (.ref CNoRow) (.ref CNoRow) = some true)
    (kNoRow_NoMove : PySem.W.kitOne K (.ref CNoRow) (.ref CNoMove) = some false)
    (kNoRow_TooMany : PySem.W.kitOne K (.ref CNoRow) (.ref CTooMany) = some false)
    (kNoMove_NoWeb : PySem.W.kitOne K (.ref CNoMove) (.ref CNoWeb) = some false)
    (kNoMove_Ringed : PySem.W.kitOne K (.ref CNoMove) (.ref CRinged) = some false)
    (kNoMove_NoRow : PySem.W.kitOne K (.ref CNoMove) (.ref CNoRow) = some false)
    (kNoMove_NoMove : PySem.W.kitOne K (.ref CNoMove) (.ref CNoMove) = some true)
    (kNoMove_TooMany : PySem.W.kitOne K (.ref CNoMove) (.ref CTooMany) = some false)
    (kTooMany_NoWeb : PySem.W.kitOne K (.ref CTooMany) (.ref CNoWeb) = some false)
    (kTooMany_Ringed : PySem.W.kitOne K (.ref CTooMany) (.ref CRinged) = some false)
    (kTooMany_NoRow : PySem.W.kitOne K (.ref CTooMany) (.ref CNoRow) = some false)
    (kTooMany_NoMove : PySem.W.kitOne K (.ref CTooMany) (.ref CNoMove) = some false)
    (kTooMany_TooMany : PySem.W.kitOne K (.ref CTooMany) (.ref CTooMany) = some true)
    (kNoWeb_ValueError : PySem.W.kitOne K (.ref CNoWeb) (.type "ValueError") = some true)
    (kRinged_ValueError : PySem.W.kitOne K (.ref CRinged) (.type "ValueError") = some true)
    (kNoRow_ValueError : PySem.W.kitOne K (.ref CNoRow) (.type "ValueError") = some true)
    (kNoMove_ValueError : PySem.W.kitOne K (.ref CNoMove) (.type "ValueError") = some true)
    (kTooMany_ValueError : PySem.W.kitOne K (.ref CTooMany) (.type "ValueError") = some true)
    (mNoWeb_GameError : PySem.W.exmOne K (.ref CNoWeb) (.ref CGameError) = some true)
    (mRinged_GameError : PySem.W.exmOne K (.ref CRinged) (.ref CGameError) = some true)
    (mNoRow_GameError : PySem.W.exmOne K (.ref CNoRow) (.ref CGameError) = some true)
    (mNoMove_GameError : PySem.W.exmOne K (.ref CNoMove) (.ref CGameError) = some true)
    (mTooMany_GameError : PySem.W.exmOne K (.ref CTooMany) (.ref CGameError) = some true)
    : ∃ fd : FuncData, (∀ (s : Shared) (v : Value), BindsTo s fd ⟨[v], []⟩ [("_law_script", v)]) ∧ ∀ base : Heap, K.In base → base.Ns mainGlobals mg → FnOk l.prog w K mg base CX0 13 fa fd ["_law_script"] (spLaw K) := by
  have e := hfa.symm.trans (PySem.W.mg_of X G a37)
  cases e
  have F0 := fun_mk (st := sIsWeb) l0 c0 k0
  have b0 := F0.binds (ps := ["thing"]) fun _ _ _ _ _ _ us hl => match us, hl with | [_], _ => rfl
  have F1 := fun_mk (st := sIsSpot) l1 c1 k1
  have b1 := F1.binds (ps := ["thing", "many"]) fun _ _ _ _ _ _ us hl => match us, hl with | [_, _], _ => rfl
  have F2 := fun_mk (st := sIsPlace) l2 c2 k2
  have b2 := F2.binds (ps := ["thing", "many"]) fun _ _ _ _ _ _ us hl => match us, hl with | [_, _], _ => rfl
  have F3 := fun_mk (st := sCheckWeb) l3 c3 k3
  have b3 := F3.binds (ps := ["thing"]) fun _ _ _ _ _ _ us hl => match us, hl with | [_], _ => rfl
  have F4 := fun_mk (st := sCheckGame) l4 c4 k4
  have b4 := F4.binds (ps := ["thing"]) fun _ _ _ _ _ _ us hl => match us, hl with | [_], _ => rfl
  have F5 := fun_mk (st := sRingIn) l5 c5 k5
  have b5 := F5.binds (ps := ["web"]) fun _ _ _ _ _ _ us hl => match us, hl with | [_], _ => rfl
  have F6 := fun_mk (st := sEndedSpots) l6 c6 k6
  have b6 := F6.binds (ps := ["web"]) fun _ _ _ _ _ _ us hl => match us, hl with | [_], _ => rfl
  have F7 := fun_mk (st := sSources) l7 c7 k7
  have b7 := F7.binds (ps := ["web"]) fun _ _ _ _ _ _ us hl => match us, hl with | [_], _ => rfl
  have F8 := fun_mk (st := sJoinedWebs) l8 c8 k8
  have b8 := F8.binds (ps := ["one", "other"]) fun _ _ _ _ _ _ us hl => match us, hl with | [_, _], _ => rfl
  have F9 := fun_mk (st := sPairedWeb) l9 c9 k9
  have b9 := F9.binds (ps := ["one", "other"]) fun _ _ _ _ _ _ us hl => match us, hl with | [_, _], _ => rfl
  have F10 := fun_mk (st := sPairedMoves) l10 c10 k10
  have b10 := F10.binds (ps := ["one", "other", "left", "right"]) fun _ _ _ _ _ _ us hl => match us, hl with | [_, _, _, _], _ => rfl
  have F11 := fun_mk (st := sCheckCount) l11 c11 k11
  have b11 := F11.binds (ps := ["many"]) fun _ _ _ _ _ _ us hl => match us, hl with | [_], _ => rfl
  have F12 := fun_mk (st := sNumbersOf) l12 c12 k12
  have b12 := F12.binds (ps := ["web"]) fun _ _ _ _ _ _ us hl => match us, hl with | [_], _ => rfl
  have F13 := fun_mk (st := sLeastMissing) l13 c13 k13
  have b13 := F13.binds (ps := ["numbers"]) fun _ _ _ _ _ _ us hl => match us, hl with | [_], _ => rfl
  have F14 := fun_mk (st := sLengthsOf) l14 c14 k14
  have b14 := F14.binds (ps := ["web"]) fun _ _ _ _ _ _ us hl => match us, hl with | [_], _ => rfl
  have F15 := fun_mk (st := sShownMoves) l15 c15 k15
  have b15 := F15.binds (ps := ["web", "spot"]) fun _ _ _ _ _ _ us hl => match us, hl with | [_, _], _ => rfl
  have F16 := fun_mk (st := sLaidOver) l16 c16 k16
  have b16 := F16.binds (ps := ["numbers"]) fun _ _ _ _ _ _ us hl => match us, hl with | [_], _ => rfl
  have F17 := fun_mk (st := sMovesIn) l17 c17 k17
  have b17 := F17.binds (ps := ["web", "row"]) fun _ _ _ _ _ _ us hl => match us, hl with | [_, _], _ => rfl
  have F18 := fun_mk (st := sPlayed) l18 c18 k18
  have b18 := F18.binds (ps := ["web", "row", "move"]) fun _ _ _ _ _ _ us hl => match us, hl with | [_, _, _], _ => rfl
  have F19 := fun_mk (st := sRowNumber) l19 c19 k19
  have b19 := F19.binds (ps := ["web", "row"]) fun _ _ _ _ _ _ us hl => match us, hl with | [_, _], _ => rfl
  have F20 := fun_mk (st := sCheckRow) l20 c20 k20
  have b20 := F20.binds (ps := ["web", "thing"]) fun _ _ _ _ _ _ us hl => match us, hl with | [_, _], _ => rfl
  have F21 := fun_mk (st := sIsRow) l21 c21 k21
  have b21 := F21.binds (ps := ["web", "thing"]) fun _ _ _ _ _ _ us hl => match us, hl with | [_, _], _ => rfl
  have F22 := fun_mk (st := sIsMove) l22 c22 k22
  have b22 := F22.binds (ps := ["web", "row", "thing"]) fun _ _ _ _ _ _ us hl => match us, hl with | [_, _, _], _ => rfl
  have F23 := fun_mk (st := sIsLost) l23 c23 k23
  have b23 := F23.binds (ps := ["web", "row"]) fun _ _ _ _ _ _ us hl => match us, hl with | [_, _], _ => rfl
  have F24 := fun_mk (st := sGoodMoves) l24 c24 k24
  have b24 := F24.binds (ps := ["web", "row"]) fun _ _ _ _ _ _ us hl => match us, hl with | [_, _], _ => rfl
  have F25 := fun_mk (st := sPartingRow) l25 c25 k25
  have b25 := F25.binds (ps := ["web", "one", "other"]) fun _ _ _ _ _ _ us hl => match us, hl with | [_, _, _], _ => rfl
  have F26 := fun_mk (st := sLCellAt) l26 c26 k26
  have b26 := F26.binds (ps := ["_law_script", "_law_k"]) fun _ _ _ _ _ _ us hl => match us, hl with | [_, _], _ => rfl
  have F27 := fun_mk (st := sLMixed) l27 c27 k27
  have b27 := F27.binds (ps := ["_law_cell", "_law_k"]) fun _ _ _ _ _ _ us hl => match us, hl with | [_, _], _ => rfl
  have F28 := fun_mk (st := sLOrderBy) l28 c28 k28
  have b28 := F28.binds (ps := ["_law_cell", "_law_many"]) fun _ _ _ _ _ _ us hl => match us, hl with | [_, _], _ => rfl
  have F29 := fun_mk (st := sLWebBy) l29 c29 k29
  have b29 := F29.binds (ps := ["_law_script", "_law_at"]) fun _ _ _ _ _ _ us hl => match us, hl with | [_, _], _ => rfl
  have F30 := fun_mk (st := sLCopied) l30 c30 k30
  have b30 := F30.binds (ps := ["_law_web"]) fun _ _ _ _ _ _ us hl => match us, hl with | [_], _ => rfl
  have F31 := fun_mk (st := sLSpoilt) l31 c31 k31
  have b31 := F31.binds (ps := ["_law_web", "_law_cell"]) fun _ _ _ _ _ _ us hl => match us, hl with | [_, _], _ => rfl
  have F32 := fun_mk (st := sLRinged) l32 c32 k32
  have b32 := F32.binds (ps := ["_law_web", "_law_cell"]) fun _ _ _ _ _ _ us hl => match us, hl with | [_, _], _ => rfl
  have F33 := fun_mk (st := sLBadRow) l33 c33 k33
  have b33 := F33.binds (ps := ["_law_row", "_law_many", "_law_cell"]) fun _ _ _ _ _ _ us hl => match us, hl with | [_, _, _], _ => rfl
  have F34 := fun_mk (st := sLAskedOne) l34 c34 k34
  have b34 := F34.binds (ps := ["_law_which", "_law_web", "_law_row"]) fun _ _ _ _ _ _ us hl => match us, hl with | [_, _, _], _ => rfl
  have F35 := fun_mk (st := sLAsked) l35 c35 k35
  have b35 := F35.binds (ps := ["_law_which", "_law_web", "_law_other", "_law_row", "_law_more", "_law_move"]) fun _ _ _ _ _ _ us hl => match us, hl with | [_, _, _, _, _, _], _ => rfl
  have F36 := fun_mk (st := sLTold) l36 c36 k36
  have b36 := F36.binds (ps := ["_law_which", "_law_web", "_law_other", "_law_row", "_law_more", "_law_move"]) fun _ _ _ _ _ _ us hl => match us, hl with | [_, _, _, _, _, _], _ => rfl
  have F37 := fun_mk (st := sLaw) l37 c37 k37
  have b37 := F37.binds (ps := ["_law_script"]) fun _ _ _ _ _ _ us hl => match us, hl with | [_], _ => rfl
  let T : Txt K mg := { dIsWeb := ⟨f0, _, F0, PySem.W.mg_of X G a0, b0⟩, dIsSpot := ⟨f1, _, F1, PySem.W.mg_of X G a1, b1⟩, dIsPlace := ⟨f2, _, F2, PySem.W.mg_of X G a2, b2⟩, dCheckWeb := ⟨f3, _, F3, PySem.W.mg_of X G a3, b3⟩, dCheckGame := ⟨f4, _, F4, PySem.W.mg_of X G a4, b4⟩, dRingIn := ⟨f5, _, F5, PySem.W.mg_of X G a5, b5⟩, dEndedSpots := ⟨f6, _, F6, PySem.W.mg_of X G a6, b6⟩, dSources := ⟨f7, _, F7, PySem.W.mg_of X G a7, b7⟩, dJoinedWebs := ⟨f8, _, F8, PySem.W.mg_of X G a8, b8⟩, dPairedWeb := ⟨f9, _, F9, PySem.W.mg_of X G a9, b9⟩, dPairedMoves := ⟨f10, _, F10, PySem.W.mg_of X G a10, b10⟩, dCheckCount := ⟨f11, _, F11, PySem.W.mg_of X G a11, b11⟩, dNumbersOf := ⟨f12, _, F12, PySem.W.mg_of X G a12, b12⟩, dLeastMissing := ⟨f13, _, F13, PySem.W.mg_of X G a13, b13⟩, dLengthsOf := ⟨f14, _, F14, PySem.W.mg_of X G a14, b14⟩, dShownMoves := ⟨f15, _, F15, PySem.W.mg_of X G a15, b15⟩, dLaidOver := ⟨f16, _, F16, PySem.W.mg_of X G a16, b16⟩, dMovesIn := ⟨f17, _, F17, PySem.W.mg_of X G a17, b17⟩, dPlayed := ⟨f18, _, F18, PySem.W.mg_of X G a18, b18⟩, dRowNumber := ⟨f19, _, F19, PySem.W.mg_of X G a19, b19⟩, dCheckRow := ⟨f20, _, F20, PySem.W.mg_of X G a20, b20⟩, dIsRow := ⟨f21, _, F21, PySem.W.mg_of X G a21, b21⟩, dIsMove := ⟨f22, _, F22, PySem.W.mg_of X G a22, b22⟩, dIsLost := ⟨f23, _, F23, PySem.W.mg_of X G a23, b23⟩, dGoodMoves := ⟨f24, _, F24, PySem.W.mg_of X G a24, b24⟩, dPartingRow := ⟨f25, _, F25, PySem.W.mg_of X G a25, b25⟩, dLCellAt := ⟨f26, _, F26, PySem.W.mg_of X G a26, b26⟩, dLMixed := ⟨f27, _, F27, PySem.W.mg_of X G a27, b27⟩, dLOrderBy := ⟨f28, _, F28, PySem.W.mg_of X G a28, b28⟩, dLWebBy := ⟨f29, _, F29, PySem.W.mg_of X G a29, b29⟩, dLCopied := ⟨f30, _, F30, PySem.W.mg_of X G a30, b30⟩, dLSpoilt := ⟨f31, _, F31, PySem.W.mg_of X G a31, b31⟩, dLRinged := ⟨f32, _, F32, PySem.W.mg_of X G a32, b32⟩, dLBadRow := ⟨f33, _, F33, PySem.W.mg_of X G a33, b33⟩, dLAskedOne := ⟨f34, _, F34, PySem.W.mg_of X G a34, b34⟩, dLAsked := ⟨f35, _, F35, PySem.W.mg_of X G a35, b35⟩, dLTold := ⟨f36, _, F36, PySem.W.mg_of X G a36, b36⟩, dLaw := ⟨fa, _, F37, PySem.W.mg_of X G a37, b37⟩, z_ValueError := PySem.W.mg_none_of X G z0, z_bool := PySem.W.mg_none_of X G z1, z_int := PySem.W.mg_none_of X G z2, z_isinstance := PySem.W.mg_none_of X G z3, z_len := PySem.W.mg_none_of X G z4, z_list := PySem.W.mg_none_of X G z5, z_max := PySem.W.mg_none_of X G z6, z_min := PySem.W.mg_none_of X G z7, z_range := PySem.W.mg_none_of X G z8, z_set := PySem.W.mg_none_of X G z9, z_sorted := PySem.W.mg_none_of X G z10, z_tuple := PySem.W.mg_none_of X G z11, z_type := PySem.W.mg_none_of X G z12, tMOSTSPOTS := u0, gMOSTSPOTS := PySem.W.mg_of X G v0, tMOSTGAMES := u1, gMOSTGAMES := PySem.W.mg_of X G v1, cGameError := CGameError, gcGameError := PySem.W.mg_of X G yGameError, cNoWeb := CNoWeb, gcNoWeb := PySem.W.mg_of X G yNoWeb, cRinged := CRinged, gcRinged := PySem.W.mg_of X G yRinged, cNoRow := CNoRow, gcNoRow := PySem.W.mg_of X G yNoRow, cNoMove := CNoMove, gcNoMove := PySem.W.mg_of X G yNoMove, cTooMany := CTooMany, gcTooMany := PySem.W.mg_of X G yTooMany, xNoWeb := ⟨kxNoWeb, xxNoWeb, bxNoWeb, txNoWeb, ⟨pxNoWeb, qxNoWeb, bxNoWeb, dxNoWeb, cxNoWeb, eSp, eTk, mxNoWeb⟩⟩, xRinged := ⟨kxRinged, xxRinged, bxRinged, txRinged, ⟨pxRinged, qxRinged, bxRinged, dxRinged, cxRinged, eSp, eTk, mxRinged⟩⟩, xNoRow := ⟨kxNoRow, xxNoRow, bxNoRow, txNoRow, ⟨pxNoRow, qxNoRow, bxNoRow, dxNoRow, cxNoRow, eSp, eTk, mxNoRow⟩⟩, xNoMove := ⟨kxNoMove, xxNoMove, bxNoMove, txNoMove, ⟨pxNoMove, qxNoMove, bxNoMove, dxNoMove, cxNoMove, eSp, eTk, mxNoMove⟩⟩, xTooMany := ⟨kxTooMany, xxTooMany, bxTooMany, txTooMany, ⟨pxTooMany, qxTooMany, bxTooMany, dxTooMany, cxTooMany, eSp, eTk, mxTooMany⟩⟩, kNoWeb_NoWeb := kNoWeb_NoWeb, kNoWeb_Ringed := kNoWeb_Ringed, kNoWeb_NoRow := kNoWeb_NoRow, kNoWeb_NoMove := kNoWeb_NoMove, kNoWeb_TooMany := kNoWeb_TooMany, kRinged_NoWeb := kRinged_NoWeb, kRinged_Ringed := kRinged_Ringed, kRinged_NoRow := kRinged_NoRow, kRinged_NoMove := kRinged_NoMove, kRinged_TooMany := kRinged_TooMany, kNoRow_NoWeb := kNoRow_NoWeb, kNoRow_Ringed := kNoRow_Ringed, kNoRow_NoRow := kNoRow_NoRow, kNoRow_NoMove := kNoRow_NoMove, kNoRow_TooMany := kNoRow_TooMany, kNoMove_NoWeb := kNoMove_NoWeb, kNoMove_Ringed := kNoMove_Ringed, kNoMove_NoRow := kNoMove_NoRow, kNoMove_NoMove := kNoMove_NoMove, kNoMove_TooMany := kNoMove_TooMany, kTooMany_NoWeb := kTooMany_NoWeb, kTooMany_Ringed := kTooMany_Ringed, kTooMany_NoRow := kTooMany_NoRow, kTooMany_NoMove := kTooMany_NoMove, kTooMany_TooMany := kTooMany_TooMany, kNoWeb_ValueError := kNoWeb_ValueError, kRinged_ValueError := kRinged_ValueError, kNoRow_ValueError := kNoRow_ValueError, kNoMove_ValueError := kNoMove_ValueError, kTooMany_ValueError := kTooMany_ValueError, mNoWeb_GameError := mNoWeb_GameError, mRinged_GameError := mRinged_GameError, mNoRow_GameError := mNoRow_GameError, mNoMove_GameError := mNoMove_GameError, mTooMany_GameError := mTooMany_GameError }
  exact ⟨PySem.W.fnOf "law" "law" (defArgs sLaw) (defBody sLaw) (defScope sLaw) .none kV37 dc37 pm37 an37 cd37 ct37, fun s v => .of_eq rfl, fun base _ _ => ok_law T⟩
end KX
open PySem PySem.W PyProof.Rows
set_option maxHeartbeats 0 in
theorem PySem.Challenge.cw_spotsums_k01_what_is_refused_holds : PySem.Challenge.rw_spotsums_k01_what_is_refused.Holds := by
  w_on; o_law; k_head; (case hw => w_witness2)
  k_fill
  refine L2.walk_of (l := PySem.Challenge.rw_spotsums_k01_what_is_refused) (n := 63) (k := 13) (x := "_law_script") (CX := fun _ => L2.CX0) (sp := fun w => KX.spLaw _) rfl (by decide) rfl ⟨rfl, by decide, by decide⟩ (fun w h Y => PySem.W.kIn_of Y) ?F (fun _ _ a ns hl _ hS => KX.law_in hl hS) (fun _ _ _ _ _ h => h)
  case F =>
    intro w mg fa h kI G hmg
    refine' KX.all_mk kI G hmg ?a0 ?l0 ?c0 ?k0 ?a1 ?l1 ?c1 ?k1 ?a2 ?l2 ?c2 ?k2 ?a3 ?l3 ?c3 ?k3 ?a4 ?l4 ?c4 ?k4 ?a5 ?l5 ?c5 ?k5 ?a6 ?l6 ?c6 ?k6 ?a7 ?l7 ?c7 ?k7 ?a8 ?l8 ?c8 ?k8 ?a9 ?l9 ?c9 ?k9 ?a10 ?l10 ?c10 ?k10 ?a11 ?l11 ?c11 ?k11 ?a12 ?l12 ?c12 ?k12 ?a13 ?l13 ?c13 ?k13 ?a14 ?l14 ?c14 ?k14 ?a15 ?l15 ?c15 ?k15 ?a16 ?l16 ?c16 ?k16 ?a17 ?l17 ?c17 ?k17 ?a18 ?l18 ?c18 ?k18 ?a19 ?l19 ?c19 ?k19 ?a20 ?l20 ?c20 ?k20 ?a21 ?l21 ?c21 ?k21 ?a22 ?l22 ?c22 ?k22 ?a23 ?l23 ?c23 ?k23 ?a24 ?l24 ?c24 ?k24 ?a25 ?l25 ?c25 ?k25 ?a26 ?l26 ?c26 ?k26 ?a27 ?l27 ?c27 ?k27 ?a28 ?l28 ?c28 ?k28 ?a29 ?l29 ?c29 ?k29 ?a30 ?l30 ?c30 ?k30 ?a31 ?l31 ?c31 ?k31 ?a32 ?l32 ?c32 ?k32 ?a33 ?l33 ?c33 ?k33 ?a34 ?l34 ?c34 ?k34 ?a35 ?l35 ?c35 ?k35 ?a36 ?l36 ?c36 ?k36 ?a37 ?l37 ?c37 ?k37 ?z0 ?z1 ?z2 ?z3 ?z4 ?z5 ?z6 ?z7 ?z8 ?z9 ?z10 ?z11 ?z12 ?v0 ?v1 ?yGameError ?yNoWeb ?yRinged ?yNoRow ?yNoMove ?yTooMany ?kxNoWeb ?xxNoWeb ?bxNoWeb ?txNoWeb ?pxNoWeb ?qxNoWeb ?dxNoWeb ?cxNoWeb ?mxNoWeb ?kxRinged ?xxRinged ?bxRinged ?txRinged ?pxRinged ?qxRinged ?dxRinged ?cxRinged ?mxRinged ?kxNoRow ?xxNoRow ?bxNoRow ?txNoRow ?pxNoRow ?qxNoRow ?dxNoRow ?cxNoRow ?mxNoRow ?kxNoMove ?xxNoMove ?bxNoMove ?txNoMove ?pxNoMove ?qxNoMove ?dxNoMove ?cxNoMove ?mxNoMove ?kxTooMany ?xxTooMany ?bxTooMany ?txTooMany ?pxTooMany ?qxTooMany ?dxTooMany ?cxTooMany ?mxTooMany ?eSp ?eTk ?kNoWeb_NoWeb ?kNoWeb_Ringed ?kNoWeb_NoRow ?kNoWeb_NoMove ?kNoWeb_TooMany ?kRinged_NoWeb ?kRinged_Ringed ?kRinged_NoRow ?kRinged_NoMove ?kRinged_TooMany ?kNoRow_NoWeb ?kNoRow_Ringed ?kNoRow_NoRow ?kNoRow_NoMove ?kNoRow_TooMany ?kNoMove_NoWeb ?kNoMove_Ringed ?kNoMove_NoRow ?kNoMove_NoMove ?kNoMove_TooMany ?kTooMany_NoWeb ?kTooMany_Ringed ?kTooMany_NoRow ?kTooMany_NoMove ?kTooMany_TooMany ?kNoWeb_ValueError ?kRinged_ValueError ?kNoRow_ValueError ?kNoMove_ValueError ?kTooMany_ValueError ?mNoWeb_GameError ?mRinged_GameError ?mNoRow_GameError ?mNoMove_GameError ?mTooMany_GameError
    (case a0 => k_is); (case l0 => k_is); (case c0 => k_is); (case k0 => k_is); (case a1 => k_is); (case l1 => k_is); (case c1 => k_is); (case k1 => k_is); (case a2 => k_is); (case l2 => k_is); (case c2 => k_is); (case k2 => k_is); (case a3 => k_is); (case l3 => k_is); (case c3 => k_is); (case k3 => k_is); (case a4 => k_is); (case l4 => k_is); (case c4 => k_is); (case k4 => k_is); (case a5 => k_is); (case l5 => k_is); (case c5 => k_is); (case k5 => k_is); (case a6 => k_is); (case l6 => k_is); (case c6 => k_is); (case k6 => k_is); (case a7 => k_is); (case l7 => k_is); (case c7 => k_is); (case k7 => k_is); (case a8 => k_is); (case l8 => k_is); (case c8 => k_is); (case k8 => k_is); (case a9 => k_is); (case l9 => k_is); (case c9 => k_is); (case k9 => k_is); (case a10 => k_is); (case l10 => k_is); (case c10 => k_is); (case k10 => k_is); (case a11 => k_is); (case l11 => k_is); (case c11 => k_is); (case k11 => k_is); (case a12 => k_is); (case l12 => k_is); (case c12 => k_is); (case k12 => k_is); (case a13 => k_is); (case l13 => k_is); (case c13 => k_is); (case k13 => k_is); (case a14 => k_is); (case l14 => k_is); (case c14 => k_is); (case k14 => k_is); (case a15 => k_is); (case l15 => k_is); (case c15 => k_is); (case k15 => k_is); (case a16 => k_is); (case l16 => k_is); (case c16 => k_is); (case k16 => k_is); (case a17 => k_is); (case l17 => k_is); (case c17 => k_is); (case k17 => k_is); (case a18 => k_is); (case l18 => k_is); (case c18 => k_is); (case k18 => k_is); (case a19 => k_is); (case l19 => k_is); (case c19 => k_is); (case k19 => k_is); (case a20 => k_is); (case l20 => k_is); (case c20 => k_is); (case k20 => k_is); (case a21 => k_is); (case l21 => k_is); (case c21 => k_is); (case k21 => k_is); (case a22 => k_is); (case l22 => k_is); (case c22 => k_is); (case k22 => k_is); (case a23 => k_is); (case l23 => k_is); (case c23 => k_is); (case k23 => k_is); (case a24 => k_is); (case l24 => k_is); (case c24 => k_is); (case k24 => k_is); (case a25 => k_is); (case l25 => k_is); (case c25 => k_is); (case k25 => k_is); (case a26 => k_is); (case l26 => k_is); (case c26 => k_is); (case k26 => k_is); (case a27 => k_is); (case l27 => k_is); (case c27 => k_is); (case k27 => k_is); (case a28 => k_is); (case l28 => k_is); (case c28 => k_is); (case k28 => k_is); (case a29 => k_is); (case l29 => k_is); (case c29 => k_is); (case k29 => k_is); (case a30 => k_is); (case l30 => k_is); (case c30 => k_is); (case k30 => k_is); (case a31 => k_is); (case l31 => k_is); (case c31 => k_is); (case k31 => k_is); (case a32 => k_is); (case l32 => k_is); (case c32 => k_is); (case k32 => k_is); (case a33 => k_is); (case l33 => k_is); (case c33 => k_is); (case k33 => k_is); (case a34 => k_is); (case l34 => k_is); (case c34 => k_is); (case k34 => k_is); (case a35 => k_is); (case l35 => k_is); (case c35 => k_is); (case k35 => k_is); (case a36 => k_is); (case l36 => k_is); (case c36 => k_is); (case k36 => k_is); (case a37 => k_is); (case l37 => k_is); (case c37 => k_is); (case k37 => k_is); (case z0 => k_is); (case z1 => k_is); (case z2 => k_is); (case z3 => k_is); (case z4 => k_is); (case z5 => k_is); (case z6 => k_is); (case z7 => k_is); (case z8 => k_is); (case z9 => k_is); (case z10 => k_is); (case z11 => k_is); (case z12 => k_is); (case v0 => k_is); (case v1 => k_is); (case yGameError => k_is); (case yNoWeb => k_is); (case yRinged => k_is); (case yNoRow => k_is); (case yNoMove => k_is); (case yTooMany => k_is); (case kxNoWeb => k_is); (case xxNoWeb => k_exc); (case bxNoWeb => k_is); (case txNoWeb => k_is); (case pxNoWeb => k_is); (case qxNoWeb => k_is); (case dxNoWeb => k_is); (case cxNoWeb => k_is); (case mxNoWeb => k_is); (case kxRinged => k_is); (case xxRinged => k_exc); (case bxRinged => k_is); (case txRinged => k_is); (case pxRinged => k_is); (case qxRinged => k_is); (case dxRinged => k_is); (case cxRinged => k_is); (case mxRinged => k_is); (case kxNoRow => k_is); (case xxNoRow => k_exc); (case bxNoRow => k_is); (case txNoRow => k_is); (case pxNoRow => k_is); (case qxNoRow => k_is); (case dxNoRow => k_is); (case cxNoRow => k_is); (case mxNoRow => k_is); (case kxNoMove => k_is); (case xxNoMove => k_exc); (case bxNoMove => k_is); (case txNoMove => k_is); (case pxNoMove => k_is); (case qxNoMove => k_is); (case dxNoMove => k_is); (case cxNoMove => k_is); (case mxNoMove => k_is); (case kxTooMany => k_is); (case xxTooMany => k_exc); (case bxTooMany => k_is); (case txTooMany => k_is); (case pxTooMany => k_is); (case qxTooMany => k_is); (case dxTooMany => k_is); (case cxTooMany => k_is); (case mxTooMany => k_is); (case eSp => k_is); (case eTk => k_is); (case kNoWeb_NoWeb => first | k_is | rfl); (case kNoWeb_Ringed => first | k_is | rfl); (case kNoWeb_NoRow => first | k_is | rfl); (case kNoWeb_NoMove => first | k_is | rfl); (case kNoWeb_TooMany => first | k_is | rfl); (case kRinged_NoWeb => first | k_is | rfl); (case kRinged_Ringed => first | k_is | rfl); (case kRinged_NoRow => first | k_is | rfl); (case kRinged_NoMove => first | k_is | rfl); (case kRinged_TooMany => first | k_is | rfl); (case kNoRow_NoWeb => first | k_is | rfl); (case kNoRow_Ringed => first | k_is | rfl); (case kNoRow_NoRow => first | k_is | rfl); (case kNoRow_NoMove => first | k_is | rfl); (case kNoRow_TooMany => first | k_is | rfl); (case kNoMove_NoWeb => first | k_is | rfl); (case kNoMove_Ringed => first | k_is | rfl); (case kNoMove_NoRow => first | k_is | rfl); (case kNoMove_NoMove => first | k_is | rfl); (case kNoMove_TooMany => first | k_is | rfl); (case kTooMany_NoWeb => first | k_is | rfl); (case kTooMany_Ringed => first | k_is | rfl); (case kTooMany_NoRow => first | k_is | rfl); (case kTooMany_NoMove => first | k_is | rfl); (case kTooMany_TooMany => first | k_is | rfl); (case kNoWeb_ValueError => first | k_is | rfl); (case kRinged_ValueError => first | k_is | rfl); (case kNoRow_ValueError => first | k_is | rfl); (case kNoMove_ValueError => first | k_is | rfl); (case kTooMany_ValueError => first | k_is | rfl); (case mNoWeb_GameError => first | k_is | rfl); (case mRinged_GameError => first | k_is | rfl); (case mNoRow_GameError => first | k_is | rfl); (case mNoMove_GameError => first | k_is | rfl); (case mTooMany_GameError => first | k_is | rfl)
