import PyProof.Rows.All
import Wide.All
import OpenK.AllK
import Wide.FinOn
import HandS.ForMost
import HandS.TupAny
import HandS.Wide
import HandS.Strs
import HandS.Conv
import HandS.TupSets
import KE.KDictKeyed
import HandS.TupMul
import KE.KeyNested
import HandS.SetKeys
import HandS.Star
import HandS.CallLocal
import HandS.Zip
import HandS.IsInst
import HandS.More
import HandS.Style
import HandS.Sort
import PyProof.SumWalkG
import HandS.SetFor
import HandS.NoneIn
import PyProof.DictRoadsH
import PyProof.TupleKey
import HandS.Gcd
import HandS.Defaults
import HandS.DictTup
import KE.SortData
import HandS.WideBits
import HandS.Deep
import KE.DataCmp
import KE.KDictWalk
import KE.KDictDisplayH
import PyProof.Rows.TupDisplay
import KE.KRevSl
import HandS.ExcCtx
import HandS.HotCalls
import HandS.ExcIs
import HandS.FStr
import HandS.Text
import HandS.Call
import PySem.Challenge.RW_rowcoders_k24_whole_texts
set_option Elab.async false
set_option linter.all false
set_option maxRecDepth 100000
set_option exponentiation.threshold 5000
set_option maxHeartbeats 8000000
/-! Tuples made by the run, known with their object: they have no dict, so that their methods are found. -/
namespace Z
open PySem PySem.Spec PyProof.Rows L2
abbrev St := L2.St
abbrev xT (its : Array Value) : Obj := { cls := .type "tuple", data := .seq its }
def TupX (K : PySem.W.Frag) (F : Hp) (a : Addr) (vs : List V) : Prop :=
  (∃ its, F a = some (.frz (xT its) (.tup vs))) ∨ ∃ (o : Obj) (its : Array Value) (n : Nat), K.lookup a = some o ∧ o.cls = .type "tuple" ∧ o.dict = none ∧ o.data = .seq its n ∧ its.size ≤ sizeLine ∧ Vals vs its.toList
theorem TupX.t {K : PySem.W.Frag} {F : Hp} {a : Addr} {vs : List V} (h : TupX K F a vs) : SqT K F a vs := by
  rcases h with ⟨its, h⟩ | ⟨o, its, n, h1, h2, _, h3, h4, h5⟩
  · exact .inl (.inr ⟨_, h⟩)
  · exact .inr ⟨o, its, n, h1, h2, h3, h4, h5⟩
theorem TupX.mono {K : PySem.W.Frag} {F F' : Hp} {a : Addr} {vs : List V} (s : Same F F') (h : TupX K F a vs) : TupX K F' a vs := by
  rcases h with ⟨its, h⟩ | h
  · exact .inl ⟨its, s _ _ h⟩
  · exact .inr h
/-- a new tuple at any place -/
def NewT (H : Hp) (xs : List V) (Q : VK) : Prop := ∀ p its, H p = none → Q (.ref p) (upd H p (.frz (xT its) (.tup xs)))
section
variable {X : Cx} {pins : List (Addr × Obj)} {σ : L2.St} {H : Hp} {s : Shared} {xs : List V} {Q : VK}
theorem tnew {its : List Value} {t' : Nat} (I : Inv X pins σ H s) (r : Vals xs its) (hz : xs.length ≤ sizeLine) (q : NewT H xs Q) :
    EP X pins σ Q (.ref s.heap.objs.size) { s with heap := s.heap.push (xT its.toArray), toks := t' } :=
  ⟨.ref s.heap.objs.size, _, I.laid (t' := t') (o := .frz (xT its.toArray) (.tup xs)) (fun b ob q => Heap.get?_push_of_some _ q) (Nat.le_refl _) ⟨Heap.get?_push_size _ rfl, hz, its, r, IsTup.new _ _⟩, rfl, q _ _ (I.hok.fresh (Nat.le_refl _))⟩
end
def tTupX (t : TA) : TE := fun σ H Q => t σ H fun xs H1 => xs.length ≤ sizeLine ∧ NewT H1 xs Q
section
variable {X : Cx} {e : Expr} {es : List Expr} {pos : Pos}
theorem pe_tupX {x1} {t : TA} (h : PA X es t) : PE X (.Tuple es x1 pos) (tTupX t) := by
  refine ⟨fun pins s σ H Q I hq => ?_⟩
  refine wpAny_Tuple_spliced (thn (h.run pos pins s σ H _ I hq) fun us s1 ⟨xs, H1, I1, r, z, q⟩ => ⟨by rw [← r.length]; exact z, ?_⟩)
  exact tnew (t' := s1.toks) I1 r z q
def rCatX (K : PySem.W.Frag) : R2 := fun x y H Q => ∃ a b xs ys, x = .ref a ∧ y = .ref b ∧ SqT K H a xs ∧ SqT K H b ys ∧ xs.length + ys.length ≤ sizeLine ∧
  (xs = [] → Q (.ref b) H) ∧ (xs ≠ [] → ys = [] → Q (.ref a) H) ∧ (xs ≠ [] → ys ≠ [] → NewT H (xs ++ ys) Q)
theorem op_catX : OpR X (binaryOp .Add) (rCatX X.K) := by
  intro pins s σ H x y v u Q I rx ry h
  obtain ⟨a, b, xs, ys, rfl, rfl, ha, hb, hz, q0, q1, q2⟩ := h
  by_cases hx : xs = []
  · subst hx
    cases rx
    cases ry
    obtain ⟨its, r1, p1, _⟩ := I.tuple ha
    obtain ⟨its2, r2, p2, _⟩ := I.tuple hb
    cases r1
    exact cat_tup0 p1 p2 ⟨.ref b, H, I, rfl, q0 rfl⟩
  · cases rx
    cases ry
    obtain ⟨its, r1, p1, _⟩ := I.tuple ha
    obtain ⟨its2, r2, p2, _⟩ := I.tuple hb
    refine HT.cat_tup p1 p2 (fun z => hx (r1.nil_iff.mp z)) (fun z => ⟨.ref a, H, I, rfl, q1 hx (r2.nil_iff.mp z)⟩) (fun z => ?_) (by rw [← r1.length, ← r2.length]; exact hz)
    exact tnew (t' := s.toks) I (r1.append r2) (by rw [List.length_append]; exact hz) (q2 hx fun w => z (r2.nil_iff.mpr w))
def rSlX' (K : PySem.W.Frag) : V → Option Int → Option Int → Hp → VK → Prop := fun x lo hi H Q => ∃ a xs, x = .ref a ∧ SqT K H a xs ∧
  (HT.sIx xs.length 0 lo = 0 ∧ HT.sIx xs.length xs.length hi = xs.length → Q (.ref a) H) ∧ (¬ (HT.sIx xs.length 0 lo = 0 ∧ HT.sIx xs.length xs.length hi = xs.length) → NewT H (cutV xs lo hi) Q)
theorem sl_tupX : SlR X (rSlX' X.K) := by
  intro pins s σ H x v vl vu lo hi sl Q I rx hs pl pu h
  obtain ⟨a, xs, rfl, hx, q1, q2⟩ := h
  cases rx
  obtain ⟨its, r, ht, hz⟩ := I.tuple hx
  have hlen : its.toArray.size = xs.length := by rw [List.size_toArray]; exact r.length.symm
  refine ⟨"tuple", _, PyProof.Rows.slot_tuple_getitem.lookup, ht.typeIs, ?_⟩
  by_cases hw : HT.sIx xs.length 0 lo = 0 ∧ HT.sIx xs.length xs.length hi = xs.length
  · exact getItem_tuple_whole ht hs pl pu (by rw [hlen]; exact hw) ⟨.ref a, H, I, rfl, q1 hw⟩
  · refine HT.getItem_tuple_cut ht hs pl pu (by rw [hlen]; exact hw) ?_ (by rw [hlen]; exact hz)
    rw [hlen]
    exact tnew (t' := s.toks) I ((r.drop (HT.sIx xs.length 0 lo)).take (HT.sIx xs.length xs.length hi - HT.sIx xs.length 0 lo)) (Nat.le_trans (cutV_length xs lo hi) hz) (q2 hw)
theorem call_tupleX : CallR X (.type "tuple") (fun xs H Q => ∃ p ys, xs = [.ref p] ∧ ((SqL X.K H p ys ∧ NewT H ys Q) ∨ (SqT X.K H p ys ∧ Q (.ref p) H))) := by
  intro pins s σ H xs us Q I r h
  obtain ⟨p, ys, rfl, h⟩ := h
  obtain ⟨u, rfl, rx⟩ := vals1 r
  cases rx
  rcases h with ⟨hq, q⟩ | ⟨hq, q⟩
  · obtain ⟨its, r', pl, hz⟩ := I.list hq
    have hlen := r'.length
    refine call_tuple_list pl.isList (fun h' kp => ?_) (by simp only [List.size_toArray] <;> omega)
    have I1 : Inv X pins σ H { s with heap := h' } := I.kept (t' := s.toks) kp
    exact tnew (t' := s.toks) I1 r' hz q
  · obtain ⟨its, r', pl, hz⟩ := I.tuple hq
    exact call_tuple_same pl ⟨.ref p, H, I, rfl, q⟩
def tTupRgX (te : L2.St → Hp → (Int → Int → Hp → Prop) → Prop) : TE := fun σ H Q => te σ H fun a b H1 => RgOk a b ∧ NewT H1 (rgV a b) Q
theorem pe_tupRgX {te : L2.St → Hp → (Int → Int → Hp → Prop) → Prop} {p pos : Pos} (hc : X.calm = true) (hg : Gl X "tuple") (hm : X.mg "tuple" = none) (he : PRg X e te) (na : starEach [e] X.env = (false, eval e X.env) :: starEach [] X.env := by rfl) : PE X (.Call (.Name "tuple" p) [e] [] pos) (tTupRgX te) := by
  refine ⟨fun pins s σ H Q I h => ?_⟩
  refine Call_ (ld_blt I hg hm boot_tuple (PyProof.Rows.callWith_type1 (args_cons (thn (he pins s σ H _ I h) fun x s1 ⟨r, a, b, t, u, v, H1, ex, hr, I1, ok, q⟩ => args_nil ?_) na) na))
  subst ex
  obtain ⟨b1, b2, b3, b4, b5⟩ := ok
  refine call_tuple_range (n := (b - a).toNat) (I1.ok.hd hc) hr (small_one b1 b2 b3 b4) (rangeSize_nat a b) b5 fun h' tk acc hk hi => ?_
  have I2 : Inv X pins σ H1 { s1 with heap := h', toks := tk } := I1.kept hk
  have := tnew (t' := tk) (its := acc.toList) I2 (vals_rg hi) (by rw [rgV_length, sizeLine_eq]; omega) q
  rw [Array.toArray_toList] at this
  exact this
/-- t.index(x), flat items; the tuple of the run's -/
def rIndexT (K : PySem.W.Frag) : V → List V → Hp → VK → Prop := fun x xs H Q => ∃ (a : Addr) (ys : List V) (y : V) (j : Nat), x = V.ref a ∧ xs = [y] ∧ SqT K H a ys ∧ flatV y = true ∧ ys.all flatV = true ∧ (∃ z, ys[j]? = some z ∧ eqV z y = true) ∧ (∀ m z, m < j → ys[m]? = some z → eqV z y = false) ∧ Q (.int (j : Nat)) H
theorem mt_indexT : MtR X "tuple.index" (rIndexT X.K) := by
  intro pins s σ H x xs v us Q I rx rs h
  obtain ⟨p, ys, y, j, rfl, rfl, hq, fy, fys, ⟨z, hz, ez⟩, hno, q⟩ := h
  cases rx
  obtain ⟨u, rfl, ru⟩ := vals1 rs
  obtain ⟨its, r, pl, _⟩ := I.tuple hq
  obtain ⟨⟨cls, dd, dt, sl⟩, ho, hc, n, hd⟩ := pl
  simp only at hc hd
  subst hc
  subst hd
  have hl : its.toArray.size = ys.length := by rw [List.size_toArray, ← r.length]
  have hj : j < its.toArray.size := by rw [hl]; exact (List.getElem?_eq_some_iff.mp hz).1
  have at' : ∀ (m : Nat) (hm : m < its.toArray.size), ∃ w, ys[m]? = some w ∧ RelV w its.toArray[m] := fun m hm => by
    have hm' : m < ys.length := by rw [← hl]; exact hm
    obtain ⟨w, hw, rw'⟩ := r.get (i := m) (x := ys[m]) (by simp [hm'])
    have e := (List.getElem?_eq_some_iff.mp hw).2
    exact ⟨ys[m], List.getElem?_eq_getElem hm', by simpa [← e] using rw'⟩
  refine call_meets PySem.F.slot_tuple_index ⟨_, ho, rfl⟩ PySem.F.entry_tuple_index (PySem.F.args_tuple_index_2 _ _) (TI.tuple_indexAt p its.toArray n dd sl u (eqU y) j hj ?_ ?_)
    ⟨ho, fun w hw => mem_eqAt ru fy r fys w (by simpa using hw), ⟨.int (j : Nat), H, I.tok _, ⟨_, rfl⟩, q⟩⟩
  · obtain ⟨w, h1, h2⟩ := at' j hj
    rw [hz] at h1; cases h1
    rw [eqU_of h2 (List.all_eq_true.mp fys _ (List.mem_of_getElem? hz))]
    exact ez
  · intro m hm hmj
    obtain ⟨w, h1, h2⟩ := at' m hm
    rw [eqU_of h2 (List.all_eq_true.mp fys _ (List.mem_of_getElem? h1))]
    exact hno m w hmj h1
def tBMT (K : PySem.W.Frag) (r : V → List V → Hp → VK → Prop) (to : TE) (t : TA) : TE := fun σ H Q => to σ H fun x H1 => (∃ p vs, x = .ref p ∧ TupX K H1 p vs) ∧ t σ H1 fun xs H2 => r x xs H2 Q
theorem pe_bmT {o : Expr} {to : TE} {t : TA} {name : Str} {apos cpos : Pos} {id : String} {r : V → List V → Hp → VK → Prop} (slot : Slot "tuple" name id) (hty : typeOf (.builtin id) = pure (.type "method_descriptor")) (hm : MtR X id r) (ho : PE X o to) (ha : PA X (e :: es) t)
    (hbase : attributeBase o name X.env (eval o X.env) = eval o X.env := by rfl)
    (hfew : ((backTo cpos (starEach (e :: es) X.env)).all (fun x => !x.1) && (backToKw cpos (keywordEach [] X.env)).all (fun x => x.1.isSome)
      && decide ((e :: es).length + ([] : List Keyword).length + (if ([] : List Keyword).isEmpty then 0 else 1) < 30)) = true := by rfl)
    (hline : (apos.endLine == cpos.line) = true := by rfl) (hs : starEach (e :: es) X.env = (false, eval e X.env) :: starEach es X.env := by rfl) (hplain : (backTo cpos (starEach es X.env)).any (·.1) = false := by rfl) :
    PE X (.Call (.Attribute o name apos) (e :: es) [] cpos) (tBMT X.K r to t) := by
  refine ⟨fun pins s σ H Q I h => ?_⟩
  refine wpAny_Call_method_late hbase hfew hline rfl (thn (ho.run pins s σ H _ I h) fun v s1 ⟨x, H1, I1, r1, ⟨p, vs, ex, ht⟩, q1⟩ => ?_)
  subst ex
  cases r1
  have hob : ∃ ob, s1.heap.get? p = some ob ∧ ob.cls = .type "tuple" ∧ ob.dict = none := by
    rcases ht with ⟨its, h⟩ | ⟨o, its, n, h1, h2, h3, _⟩
    · obtain ⟨e, _⟩ := I1.hok p _ h
      exact ⟨_, e, rfl, rfl⟩
    · exact ⟨o, I1.kIn p o h1, h2, h3⟩
  obtain ⟨ob, e1, e2, e3⟩ := hob
  refine ⟨"tuple", id, PySem.F.plainAttrs_tuple, slot, hty, ⟨ob, e1, e2⟩, fun a e => by cases e; exact ⟨ob, e1, e3⟩, ?_⟩
  have hA := ha.run cpos pins s1 σ H1 _ I1 q1
  rw [hs] at hA ⊢
  refine Calls.callWith_builtin (by show (false || (backTo cpos (starEach es X.env)).any (·.1)) = false; rw [hplain] <;> rfl) (Calls.evalArgs_plain ?_)
  exact thn hA fun us s2 ⟨vs, H2, I2, r2, q2⟩ => hm pins s2 σ H2 (.ref p) vs (.ref p) us Q I2 rfl r2 q2
end
end Z
/-! Tables of sets of up to 511 places, for keys of any kind. -/
namespace Z
open PySem PySem.Spec PyProof.Rows L2

/-- the masks that a set goes through -/
def Mk4 (m : Nat) : Prop := MaskOk m ∨ m = 511
def orb (m : Nat) : Nat → Nat → List Nat
  | 0, _ => []
  | n + 1, x => x :: orb m n ((x * 5 + 1) % (m + 1))
theorem lcgI_succ (m i : Nat) : ∀ k, lcgI m ((i * 5 + 1) % (m + 1)) k = lcgI m i (k + 1)
  | 0 => rfl
  | k + 1 => by
    have e := lcgI_succ m i k
    simp only [lcgI] at e ⊢
    rw [e]
theorem orb_mem {m : Nat} : ∀ {n x j : Nat}, j ∈ orb m n x → ∃ k, k < n ∧ lcgI m x k = j
  | 0, x, j, h => by cases h
  | n + 1, x, j, h => by
    rcases List.mem_cons.mp h with e | h
    · exact ⟨0, Nat.succ_pos n, e.symm⟩
    · obtain ⟨k, h1, h2⟩ := orb_mem h
      exact ⟨k + 1, Nat.succ_lt_succ h1, by rw [← lcgI_succ]; exact h2⟩
theorem orb511 : ((List.range 512).all fun j => (orb 511 512 0).contains j) = true := by decide +kernel
def itr (m : Nat) : Nat → Nat → Nat
  | 0, x => x
  | n + 1, x => itr m n ((x * 5 + 1) % (m + 1))
theorem itr_lcg (m : Nat) : ∀ n x, itr m n x = lcgI m x n
  | 0, _ => rfl
  | n + 1, x => by
    show itr m n ((x * 5 + 1) % (m + 1)) = _
    rw [itr_lcg m n, lcgI_succ]
theorem ret511 : itr 511 512 0 = 0 := by decide +kernel
theorem lcgI_plus (m i a : Nat) : ∀ b, lcgI m (lcgI m i a) b = lcgI m i (a + b)
  | 0 => rfl
  | b + 1 => by
    have e := lcgI_plus m i a b
    rw [← Nat.add_assoc]
    simp only [lcgI]
    rw [e]
/-- from any place to any other -/
theorem go511 {i j : Nat} (hi : i ≤ 511) (hj : j ≤ 511) : ∃ k, k ≤ 511 ∧ lcgI 511 i k = j := by
  have at0 : ∀ x, x ≤ 511 → ∃ b, b < 512 ∧ lcgI 511 0 b = x := fun x hx => by
    have h := List.all_eq_true.mp orb511 x (List.mem_range.mpr (by omega))
    exact orb_mem (by simpa using h)
  have r0 : lcgI 511 0 512 = 0 := by rw [← itr_lcg]; exact ret511
  obtain ⟨a, ha, ea⟩ := at0 i hi
  obtain ⟨b, hb, eb⟩ := at0 j hj
  rw [← ea]
  by_cases c : a ≤ b
  · refine ⟨b - a, by omega, ?_⟩
    rw [lcgI_plus, Nat.add_sub_cancel' c, eb]
  · refine ⟨512 - a + b, by omega, ?_⟩
    rw [lcgI_plus, ← Nat.add_assoc, Nat.add_sub_cancel' (Nat.le_of_lt ha), ← lcgI_plus, r0, eb]
theorem reach4 {m : Nat} (hm : Mk4 m) {i j : Nat} (hi : i ≤ m) (hj : j ≤ m) : ∃ k, k ≤ m ∧ lcgI m i k = j := by
  rcases hm with h | rfl
  · exact lcgI_all h hi hj
  · exact go511 hi hj
theorem runs4 {m : Nat} (hm : Mk4 m) (h : Int) {j : Nat} (hj : j ≤ m) : ∃ n, n ≤ m + 12 ∧ runI m (SetTable.bits h) n = j := by
  obtain ⟨k, h1, h2⟩ := reach4 hm (runI_le m (SetTable.bits h) 12) hj
  refine ⟨12 + k, by omega, ?_⟩
  rw [runI_tail (bits_lt h)]
  exact h2
theorem way4_le {m : Nat} (h : Int) (k : Nat) : way m h k ≤ m := by
  have b0 : SetTable.bits h % (m + 1) ≤ m := Nat.le_of_lt_succ (Nat.mod_lt _ (Nat.succ_pos m))
  have b1 := runEnd_bd b0
  have b2 := nth_in (m := m) k (runAt m (SetTable.bits h % (m + 1)) (SetTable.bits h)) (by unfold runAt; dsimp only; omega)
  unfold way
  omega
theorem steps4 {m : Nat} (hm : Mk4 m) (h : Int) {j : Nat} (hj : j ≤ m) : ∃ k, k < 10 * SetTable.turns m ∧ way m h k = j := by
  obtain ⟨n, h1, h2⟩ := runs4 hm h hj
  obtain ⟨k, h3, h4⟩ := run_nth m (SetTable.bits h) n
  refine ⟨k, by unfold SetTable.turns; omega, ?_⟩
  unfold way
  rw [h4]
  exact h2
theorem odd4 {m : Nat} (h : Mk4 m) : m % 2 = 1 := by
  rcases h with h | rfl
  · exact mask_odd h
  · rfl

/-- every hash that stands is met again, before a place that is free -/
structure Tb (t : SetTable) (hs : List Int) : Prop where
  up : Ris t.place.toList
  nodum : t.dummies = #[]
  size : t.place.size = hs.length
  mok : Mk4 t.mask
  met : ∀ {i : Nat} {h : Int} {j : Nat}, hs[i]? = some h → t.place.toList[i]? = some j → ∃ k, way t.mask h k = j ∧ ∀ k', k' < k → way t.mask h k' ∈ t.place.toList
theorem Tb.first {t : SetTable} {hs : List Int} (T : Tb t hs) (hl : hs.length ≤ t.mask) (h : Int) : ∃ K, K < 10 * SetTable.turns t.mask ∧ way t.mask h K ∉ t.place.toList ∧ ∀ k, k < K → way t.mask h k ∈ t.place.toList := by
  have h0 : t.place.toList.length < t.mask + 1 := by rw [Array.length_toList, T.size]; omega
  obtain ⟨j, hj, out⟩ := st_missing _ _ h0
  obtain ⟨k, hk, e⟩ := steps4 T.mok h (j := j) (by omega)
  subst e
  obtain ⟨K, a, b, c⟩ := st_least (p := fun k => way t.mask h k ∉ t.place.toList) k out
  exact ⟨K, by omega, b, fun k' hk' => Classical.byContradiction (c k' hk')⟩
theorem Tb.before {t : SetTable} {hs : List Int} (T : Tb t hs) {h : Int} {K i j : Nat} (hK : way t.mask h K ∉ t.place.toList) (hi : hs[i]? = some h) (hj : t.place.toList[i]? = some j) : ∃ k, k < K ∧ way t.mask h k = j := by
  obtain ⟨k, e, b⟩ := T.met hi hj
  refine ⟨k, ?_, e⟩
  by_cases c : k < K
  · exact c
  · by_cases d : k = K
    · subst d
      rw [e] at hK
      exact (hK (List.mem_of_getElem? hj)).elim
    · exact (hK (b K (by omega))).elim
theorem Tb.plain {t : SetTable} {hs : List Int} (T : Tb t hs) (b : Bool) : Tb { t with plain := b } hs := ⟨T.up, T.nodum, T.size, T.mok, T.met⟩
/-- where the new one is put among the hashes -/
abbrev cut (t : SetTable) (h : Int) (K : Nat) : Nat := SetTable.below t.place (way t.mask h K)
theorem Tb.put {t : SetTable} {hs : List Int} (T : Tb t hs) {h : Int} {K : Nat} (hK : way t.mask h K ∉ t.place.toList) (hb : ∀ k, k < K → way t.mask h k ∈ t.place.toList) :
    cut t h K ≤ hs.length ∧ Tb (t.put (way t.mask h K)).1 (hs.take (cut t h K) ++ h :: hs.drop (cut t h K)) ∧ (t.put (way t.mask h K)).1.fill = hs.length + 1 := by
  have c1 := (below_cut T.up (way t.mask h K)).1
  have sz : t.place.toList.length = hs.length := by rw [Array.length_toList, T.size]
  have le1 : cut t h K ≤ t.place.toList.length := by rw [Array.length_toList]; exact c1
  have le2 : cut t h K ≤ hs.length := by rw [← sz]; exact le1
  have pl := put_place t (way t.mask h K)
  have more : ∀ {x : Nat}, x ∈ t.place.toList → x ∈ (t.put (way t.mask h K)).1.place.toList := fun hx => by rw [pl]; exact mem_ins.mpr (.inr hx)
  have sz2 : (t.put (way t.mask h K)).1.place.size = hs.length + 1 := by
    rw [← Array.length_toList, pl, len_ins _ le1, sz]
  refine ⟨le2, ⟨?_, put_dm T.nodum _, ?_, T.mok, ?_⟩, ?_⟩
  · refine ris_insert T.up fun e => hK (List.mem_of_getElem? (i := SetTable.below t.place (way t.mask h K)) ?_)
    rw [Array.getElem?_toList]
    exact e
  · rw [len_ins _ le2, sz2]
  · intro i h' j' h1 h2
    rw [tins_get hs le2] at h1
    rw [pl, tins_get _ le1] at h2
    show ∃ k, way t.mask h' k = j' ∧ ∀ k', k' < k → way t.mask h' k' ∈ (t.put (way t.mask h K)).1.place.toList
    split at h1
    · rename_i c
      rw [if_pos c] at h2
      obtain ⟨k, e, z⟩ := T.met h1 h2
      exact ⟨k, e, fun k' q => more (z k' q)⟩
    · rename_i c
      rw [if_neg c] at h2
      split at h1
      · rename_i d
        rw [if_pos d] at h2
        cases h1
        cases h2
        exact ⟨K, rfl, fun k' q => more (hb k' q)⟩
      · rename_i d
        rw [if_neg d] at h2
        obtain ⟨k, e, z⟩ := T.met h1 h2
        exact ⟨k, e, fun k' q => more (z k' q)⟩
  · unfold SetTable.fill
    rw [sz2, put_dm T.nodum]
    rfl

/-! ### laid anew -/
theorem free4 {m : Nat} (hm : Mk4 m) (owner : Array (Option Nat)) (h : Int) {j : Nat} (hj : j ≤ m) (hf : oAt owner j = none) :
    ∃ K, SetTable.layClean.free m owner (SetTable.turns m) (SetTable.bits h % (m + 1)) (SetTable.bits h) = some (way m h K) ∧ oAt owner (way m h K) = none ∧ ∀ k, k < K → oAt owner (way m h k) ≠ none := by
  obtain ⟨n, hn, e⟩ := runs4 hm h hj
  have at_n : way m h (off m (SetTable.bits h % (m + 1)) (SetTable.bits h) n) = j := by
    unfold way
    rw [nth_off, itL_run]
    exact e
  obtain ⟨K, k1, k2, k3⟩ := st_least (p := fun k => oAt owner (way m h k) = none) _ (show oAt owner (way m h _) = none by rw [at_n]; exact hf)
  refine ⟨K, free_spec m owner _ n _ _ K (by unfold SetTable.turns; omega) k1 (fun k hk => ?_) ?_, k2, k3⟩
  · have q := k3 k hk
    unfold way at q
    cases z : oAt owner (nth m (runAt m (SetTable.bits h % (m + 1)) (SetTable.bits h)) k).j
    · exact (q z).elim
    · rfl
  · have q := k2
    unfold way at q
    rw [q]
    rfl
theorem own4 {m : Nat} (hm : Mk4 m) {done : List Int} {owner : Array (Option Nat)} (W : Own m done owner) (hl : done.length ≤ m) (h : Int) :
    ∃ j, SetTable.layClean.free m owner (SetTable.turns m) (SetTable.bits h % (m + 1)) (SetTable.bits h) = some j ∧ Own m (done ++ [h]) (owner.setIfInBounds j (some done.length)) := by
  obtain ⟨ps, p1, p2⟩ := W.ps
  obtain ⟨f, hf, fn⟩ := st_missing ps (m + 1) (by omega)
  have ff : oAt owner f = none := by
    cases z : oAt owner f
    · rfl
    · exact (fn (p2 f (by omega) (by rw [z]; simp))).elim
  obtain ⟨K, e1, e2, e3⟩ := free4 hm owner h (j := f) (by omega) ff
  have lt : way m h K < owner.size := by rw [W.sz]; have := way4_le (m := m) h K; omega
  have me := oAt_set_self (some done.length) lt
  have stay : ∀ {i : Nat}, oAt owner i ≠ none → oAt (owner.setIfInBounds (way m h K) (some done.length)) i ≠ none := fun {i} hi => by
    by_cases c : i = way m h K
    · rw [c, me]; simp
    · rw [oAt_set_ne _ c]; exact hi
  refine ⟨_, e1, ⟨by rw [Array.size_setIfInBounds]; exact W.sz, ?_, ?_, way m h K :: ps, by simp [p1], ?_⟩⟩
  · intro j k hj e
    by_cases c : j = way m h K
    · rw [c, me] at e
      cases e
      exact ⟨h, K, by simp, c.symm, fun k' q => stay (e3 k' q)⟩
    · rw [oAt_set_ne _ c] at e
      obtain ⟨h', K', a1, a2, a3⟩ := W.at_ j k hj e
      refine ⟨h', K', ?_, a2, fun k' q => stay (a3 k' q)⟩
      rw [List.getElem?_append_left ((List.getElem?_eq_some_iff.mp a1).1)]
      exact a1
  · intro k hk
    simp only [List.length_append, List.length_singleton] at hk
    by_cases c : k < done.length
    · obtain ⟨j, hj, e⟩ := W.all k c
      have ne : j ≠ way m h K := by rintro rfl; rw [e2] at e; cases e
      exact ⟨j, hj, by rw [oAt_set_ne _ ne]; exact e⟩
    · obtain rfl : k = done.length := by omega
      exact ⟨_, way4_le h K, me⟩
  · intro j hj e
    by_cases c : j = way m h K
    · exact c ▸ List.mem_cons_self
    · rw [oAt_set_ne _ c] at e
      exact List.mem_cons_of_mem _ (p2 j hj e)
theorem fold4 {m : Nat} (hm : Mk4 m) : ∀ (rest done : List Int) (owner : Array (Option Nat)), Own m done owner → done.length + rest.length ≤ m →
    ∃ owner', rest.foldl (stepF m) (some (owner, done.length)) = some (owner', (done ++ rest).length) ∧ Own m (done ++ rest) owner'
  | [], done, owner, W, _ => ⟨owner, by simp, by simpa using W⟩
  | h :: rest, done, owner, W, hl => by
    simp only [List.length_cons] at hl
    obtain ⟨j, e, W1⟩ := own4 hm W (by omega) h
    obtain ⟨o2, f, W2⟩ := fold4 hm rest (done ++ [h]) _ W1 (by simp; omega)
    refine ⟨o2, ?_, by simpa using W2⟩
    rw [List.foldl_cons, stepF_some e]
    simpa using f
theorem relaid4 (t : SetTable) {hs : Array Int} {wanted M : Nat} (hw : SetTable.sizeAbove wanted - 1 = M) (hM : Mk4 M) (hn : hs.size ≤ M) :
    ∃ t' order, t.relaid hs wanted = some (t', order) ∧ order.toList.Perm (List.range hs.size) ∧ Tb t' (order.toList.map fun i => hs.getD i 0) ∧ t'.mask = M ∧ t'.led = t.led := by
  obtain ⟨owner, f, W⟩ := fold4 hM hs.toList [] _ (Own.init M) (by simpa using hn)
  rw [List.nil_append] at W
  have lay : SetTable.layClean M hs = some owner := by
    have f' : hs.toList.foldl (stepF M) (some (Array.replicate (M + 1) none, 0)) = some (owner, hs.toList.length) := by simpa using f
    rw [layClean_eq, f']
    rfl
  have rl : t.relaid hs wanted = some (tabOf t M owner, ((liveOf M owner).map (·.2)).toArray) := by rw [relaid_eq, hw, lay]; rfl
  have up := ris_live (fun j => owner.getD j none) (List.range (M + 1)) (by unfold Ris; exact List.pairwise_lt_range)
  have up1 : Ris ((liveOf M owner).map (·.1)) := up.1
  have nd : ((liveOf M owner).map (·.1)).Nodup := List.Pairwise.imp (fun h => Nat.ne_of_lt h) up1
  have all1 : ∀ k, k < hs.size → k ∈ (liveOf M owner).map (·.2) := fun k hk => by
    obtain ⟨j, b1, b2⟩ := W.all k (by simpa using hk)
    exact List.mem_map.mpr ⟨(j, k), (mem_live W.sz).mpr ⟨b1, b2⟩, rfl⟩
  have len : (liveOf M owner).length = hs.size := by
    obtain ⟨ps, p1, p2⟩ := W.ps
    have a := nat_nodup_len _ ps nd fun x hx => by
      obtain ⟨⟨y, k⟩, hq, rfl⟩ := List.mem_map.mp hx
      obtain ⟨b1, b2⟩ := (mem_live W.sz).mp hq
      exact p2 y b1 (by rw [b2]; simp)
    have b := nat_nodup_len (List.range hs.size) ((liveOf M owner).map (·.2)) List.nodup_range fun k hk => all1 k (List.mem_range.mp hk)
    simp only [List.length_map, List.length_range, Array.length_toList] at a b p1
    omega
  refine ⟨_, _, rl, perm_range hs.size _ (by simpa using len) (by simpa using all1), ⟨up1, rfl, ?_, hM, ?_⟩, rfl, rfl⟩
  · simp [tabOf]
  · intro i h j h1 h2
    have h1 : (((liveOf M owner).map (·.2)).map fun i => hs.getD i 0)[i]? = some h := h1
    have h2 : ((liveOf M owner).map (·.1))[i]? = some j := h2
    simp only [List.getElem?_map] at h1 h2
    cases hq : (liveOf M owner)[i]? with
    | none => rw [hq] at h2; cases h2
    | some q =>
      rw [hq] at h1 h2
      obtain ⟨y, k⟩ := q
      simp only [Option.map_some, Option.some.injEq] at h1 h2
      subst h2
      obtain ⟨b1, b2⟩ := (mem_live W.sz).mp (List.mem_of_getElem? hq)
      obtain ⟨h0, K, a1, a2, a3⟩ := W.at_ y k b1 b2
      have e0 : hs.getD k 0 = h0 := by
        rw [Array.getElem?_toList] at a1
        simp [Array.getD_eq_getD_getElem?, a1]
      obtain rfl : h0 = h := e0.symm.trans h1
      refine ⟨K, a2, fun k' q => ?_⟩
      show way M h0 k' ∈ (liveOf M owner).map (·.1)
      cases z : oAt owner (way M h0 k') with
      | none => exact (a3 k' q z).elim
      | some k2 => exact List.mem_map.mpr ⟨(_, k2), (mem_live W.sz).mpr ⟨way4_le h0 k', z⟩, rfl⟩
theorem size_308 : SetTable.sizeAbove (SetTable.grown 77) = 512 := by decide +kernel
end Z
/-! Sets whose keys are tuples of tuples: asked, added to. -/
namespace Z
open PySem PySem.Spec PyProof.Rows L2
abbrev NAt (h : Heap) (k : NestedKey) (a : Addr) : Prop := NestedIs h k (.ref a) ∧ k.depth ≤ 8
theorem items_key {h : Heap} : ∀ {ks : List NestedKey} {vs : List Value}, NestedAll h ks vs → ∀ v ∈ vs, ∃ k, NestedIs h k v ∧ k.depth ≤ NestedKey.depthAll ks
  | [], _, x, v, hv => by cases x; cases hv
  | k :: ks, _, x, v, hv => by
    cases x with
    | cons x1 x2 =>
      simp only [NestedKey.depthAll]
      rcases List.mem_cons.mp hv with rfl | hv
      · exact ⟨k, x1, Nat.le_max_left _ _⟩
      · obtain ⟨k', a, b⟩ := items_key x2 v hv
        exact ⟨k', a, Nat.le_trans b (Nat.le_max_right _ _)⟩
section
variable {P : Program} {w : World}
/-! ### small questions -/
theorem nocls : ∀ (n : Nat) (k : NestedKey) (v : Value) (s : Shared) (A : Around) (E : Value → Shared → Prop) (Q : Bool → Shared → Prop), NestedIs s.heap k v → k.depth ≤ n → Q false s → wpAny (model P w) A (ofAClassStatement n v) Q E s := by
  intro n
  induction n with
  | zero =>
    intro k v s A E Q x hd q
    cases x <;> first | exact wpAny_pure q | (simp only [NestedKey.depth] at hd; omega)
  | succ n ih =>
    intro k v s A E Q x hd q
    cases x with
    | none => exact wpAny_pure q
    | bool e => exact wpAny_pure q
    | int i t => exact wpAny_pure q
    | text y t => exact wpAny_pure q
    | @tup a o vs m ks ho hc hs hk =>
      simp only [NestedKey.depth] at hd
      have hT : s.TypeIs (.ref a) "tuple" := ⟨o, ho, hc⟩
      unfold ofAClassStatement
      refine wpAny_bind (wpAny_typeOf hT ?_); dsimp only
      have e : (("tuple" : String) == "tuple") = true := by decide
      simp only [e, if_true, Bool.not_true, Bool.false_eq_true, if_false]
      (try refine wpAny_bind (wpAny_pure ?_)); (try simp only [Bool.not_true, Bool.false_eq_true, if_false])
      show wpAny _ _ (seqItems? (.ref a) >>= _) _ _ s
      refine wpAny_bind (wpAny_seqItems ho hs ?_); dsimp only
      refine wpAny_bind ?_
      show wpAny _ _ (forIn vs _ _) _ _ s
      rw [← Array.forIn_toList]
      refine wpAny_forIn_list _ (fun rest r s' => r.1 = none ∧ s' = s ∧ ∀ v ∈ rest, ∃ k, NestedIs s.heap k v ∧ k.depth ≤ n) _ ?_ ?_ _ _ ⟨rfl, rfl, fun v hv => ?_⟩
      · rintro v rest r s' ⟨hr, rfl, hall⟩
        obtain ⟨k', x', hd'⟩ := hall v List.mem_cons_self
        refine wpAny_bind (ih k' v s' A E _ x' hd' ?_); simp only [Bool.false_eq_true, if_false]
        exact wpAny_pure ⟨rfl, rfl, fun u hu => hall u (List.mem_cons_of_mem _ hu)⟩
      · rintro ⟨r1, r2⟩ s' ⟨hr, rfl, _⟩
        simp only at hr; subst hr
        exact wpAny_pure q
      · obtain ⟨k', a1, a2⟩ := items_key hk v hv
        exact ⟨k', a1, by omega⟩
theorem hash_any : ∀ (n : Nat) (k : NestedKey) (v : Value) (s : Shared) (A : Around) (E : Value → Shared → Prop) (Q : Bool → Shared → Prop), NestedIs s.heap k v → (∀ b, Q b s) → wpAny (model P w) A (hashByValue n v) Q E s := by
  intro n
  induction n with
  | zero =>
    intro k v s A E Q x q
    cases x <;> exact wpAny_pure (q _)
  | succ n ih =>
    intro k v s A E Q x q
    cases x with
    | none => exact wpAny_pure (q _)
    | bool e => exact wpAny_pure (q _)
    | int i t => exact wpAny_pure (q _)
    | text y t => exact wpAny_pure (q _)
    | @tup a o vs m ks ho hc hs hk =>
      have hT : s.TypeIs (.ref a) "tuple" := ⟨o, ho, hc⟩
      unfold hashByValue
      refine wpAny_bind (wpAny_specialOf hT F.slot_tuple_hash.lookup ?_); dsimp only
      show wpAny _ _ (seqItems? (.ref a) >>= _) _ _ s
      refine wpAny_bind (wpAny_seqItems ho hs ?_); refine wpAny_bind ?_
      show wpAny _ _ (forIn vs _ _) _ _ s
      rw [← Array.forIn_toList]
      refine wpAny_forIn_list _ (fun rest r s' => r.1 = none ∧ s' = s ∧ ∀ v ∈ rest, ∃ k, NestedIs s.heap k v) _ ?_ ?_ _ _ ⟨rfl, rfl, fun v hv => ?_⟩
      · rintro v rest r s' ⟨hr, rfl, hall⟩
        obtain ⟨k', x'⟩ := hall v List.mem_cons_self
        refine wpAny_bind (ih k' v s' A E _ x' fun b => ?_)
        cases b
        · exact wpAny_pure (wpAny_pure (q _))
        · exact wpAny_pure ⟨rfl, rfl, fun u hu => hall u (List.mem_cons_of_mem _ hu)⟩
      · rintro ⟨r1, r2⟩ s' ⟨hr, rfl, _⟩
        simp only at hr; subst hr
        exact wpAny_pure (q _)
      · obtain ⟨k', a1, _⟩ := items_key hk v hv
        exact ⟨k', a1⟩
variable {A : Around} {E : Value → Shared → Prop} {s : Shared}
theorem noshow {x : Addr} {k : NestedKey} {Q : Bool → Shared → Prop} (hx : NAt s.heap k x) {ys : List Value} (hy : ∀ y ∈ ys, ∃ k' c, y = Value.ref c ∧ NAt s.heap k' c) (q : Q false s) : wpAny (model P w) A (searchCouldBeSeen (.ref x) ys) Q E s := by
  unfold searchCouldBeSeen
  refine wpAny_bind ?_
  refine wpAny_forIn_list _ (fun rest r s' => r.1 = none ∧ s' = s ∧ ∀ y ∈ rest, ∃ k' c, y = Value.ref c ∧ NAt s.heap k' c) _ ?_ ?_ _ _ ⟨rfl, rfl, hy⟩
  · rintro v rest r s' ⟨hr, rfl, hall⟩
    obtain ⟨k', c, rfl, hc⟩ := hall v List.mem_cons_self
    have tl : ∀ y ∈ rest, ∃ k' c, y = Value.ref c ∧ NAt s'.heap k' c := fun u hu => hall u (List.mem_cons_of_mem _ hu)
    dsimp only
    by_cases hv : (x == c || (carriedByValue (.ref x) && carriedByValue (.ref c))) = true
    · exact wp_if_pos hv (wpAny_pure ⟨rfl, rfl, tl⟩)
    · refine wp_if_neg hv (wpAny_bind (quiet_key _ _ 8 _ hx.1 hx.2 _ _ _ ?_)); simp only [Bool.not_true, Bool.false_eq_true, if_false]
      refine wpAny_bind (quiet_key _ _ 8 _ hc.1 hc.2 _ _ _ ?_); simp only [Bool.not_true, Bool.false_eq_true, if_false]
      refine wpAny_bind (nocls 8 _ _ _ _ _ _ hx.1 hx.2 ?_); simp only [Bool.false_eq_true, if_false]
      refine wpAny_bind (nocls 8 _ _ _ _ _ _ hc.1 hc.2 ?_); simp only [Bool.false_eq_true, if_false]
      exact wpAny_pure ⟨rfl, rfl, tl⟩
  · rintro ⟨r1, r2⟩ s' ⟨hr, rfl, _⟩
    simp only at hr; subst hr
    exact wpAny_pure q

/-! ### the set -/
abbrev NRows := List (Addr × NestedKey)
abbrev rowK (w : World) (p : Addr × NestedKey) : Int × Value := (p.2.hash w, Value.ref p.1)
structure SK (w : World) (h : Heap) (a : Addr) (L : NRows) (es : Array (Int × Value)) (ep : Nat) (t : SetTable) : Prop where
  ob : ∃ o, h.get? a = some o ∧ o.ExactSet ∧ o.data = .set es ep t
  rows : es.toList = L.map (rowK w)
  tab : Tb t (L.map fun p => p.2.hash w)
  nd : (L.map (·.2)).Nodup
  room : L.length * 5 < t.mask * 3
variable {a : Addr} {L : NRows} {es : Array (Int × Value)} {ep : Nat} {t : SetTable}
theorem SK.size {h : Heap} (R : SK w h a L es ep t) : es.size = L.length := by
  have h := congrArg List.length R.rows
  simpa using h
theorem SK.fits {h : Heap} (R : SK w h a L es ep t) : t.fits es.size = true := by
  have h1 := R.tab.size
  have h2 := R.size
  have h3 := R.room
  rw [List.length_map] at h1
  unfold SetTable.fits SetTable.fill
  rw [R.tab.nodum, Bool.and_eq_true, beq_iff_eq, decide_eq_true_eq]
  exact ⟨by omega, by show t.place.size + 0 ≤ t.mask; omega⟩
theorem SK.entry {h : Heap} (R : SK w h a L es ep t) {i : Nat} {p : Addr × NestedKey} (hp : L[i]? = some p) : es[i]? = some (rowK w p) := by
  rw [← Array.getElem?_toList, R.rows, List.getElem?_map, hp]
  rfl
theorem SK.gw {h : Heap} (R : SK w h a L es ep t) : ¬ t.gaveWay = true := by
  unfold SetTable.gaveWay
  rw [odd4 R.tab.mok]
  decide
/-- the search, from the c-th step of the way on -/
theorem find_from (R : SK w s.heap a L es ep t) (tup : ∀ p ∈ L, NAt s.heap p.2 p.1) {x : Addr} {k : NestedKey} (hx : NAt s.heap k x) (hu : A.units + 8 < cLine) (adding : Bool) {K : Nat} (hKf : K < 10 * SetTable.turns t.mask)
    (hK : way t.mask (k.hash w) K ∉ t.place.toList) (hKb : ∀ c, c < K → way t.mask (k.hash w) c ∈ t.place.toList) {Q : SetFound → Shared → Prop}
    (hin : ∀ r, k ∈ L.map (·.2) → (adding = false → r.isSome = true) → Q (.there r) s) (hout : k ∉ L.map (·.2) → Q (.free (way t.mask (k.hash w) K) false) s) :
    ∀ (f c : Nat) (stand : Option SetTable.Probe), stand.getD (t.probeStart (k.hash w)) = nth t.mask (runAt t.mask (SetTable.bits (k.hash w) % (t.mask + 1)) (SetTable.bits (k.hash w))) c → c ≤ K → K - c < f →
      (∀ (i : Nat) p, L[i]? = some p → p.2 = k → ∃ c', c ≤ c' ∧ c' < K ∧ t.place.toList[i]? = some (way t.mask (k.hash w) c')) →
      wpAny (model P w) A (setSearchFrom a (.ref x) (k.hash w) adding f stand) Q E s := by
  intro f
  induction f with
  | zero => intro c stand _ _ hf _; omega
  | succ f ih =>
    intro c stand hst hc hf hre
    obtain ⟨o, ho, hex, hd⟩ := R.ob
    rw [setSearchFrom_succ]
    refine wpAny_bind (wpAny_setState_of ho hd R.fits ?_); dsimp only
    refine wp_if_neg R.gw ?_
    (try refine wpAny_bind (wpAny_pure ?_))
    generalize hp0 : runAt t.mask (SetTable.bits (k.hash w) % (t.mask + 1)) (SetTable.bits (k.hash w)) = p0 at *
    have wj : ∀ q, (nth t.mask p0 q).j = way t.mask (k.hash w) q := fun q => by unfold way; rw [hp0]
    have nodm : ∀ (n : Nat) (p : SetTable.Probe), p.dummy = none → (nth t.mask p n).dummy = none := by
      intro n
      induction n with
      | zero => exact fun p h => h
      | succ n ih2 =>
        refine fun p h => ih2 (adv t.mask p) ?_
        unfold adv
        split <;> exact h
    have nd0 : (nth t.mask p0 c).dummy = none := nodm c p0 (by rw [← hp0]; rfl)
    have sh : ∀ q, nth t.mask (nth t.mask p0 c) q = nth t.mask p0 (c + q) := fun q => (nth_add t.mask c p0 q).symm
    have hash_at : ∀ (i : Nat) p, L[i]? = some p → (es[i]?.map (·.1)).getD 0 = p.2.hash w := fun i p hp => by rw [R.entry hp]; rfl
    rcases go_spec t R.tab.up R.tab.nodum (fun i => (es[i]?.map (·.1)).getD 0) (k.hash w) (10 * SetTable.turns t.mask) (K - c) (nth t.mask p0 c) nd0 (by omega)
      (fun q hq => by rw [sh, wj]; exact hKb _ (by omega)) (by rw [sh, wj, Nat.add_sub_cancel' hc]; exact hK) with ⟨q, i, hq, hi, hh, hno, hpr⟩ | ⟨hno, hpr⟩
    · -- one of the same hash
      rw [sh, wj] at hi
      rw [sh, sh, wj] at hpr
      have hpr' : t.probe (fun i => (es[i]?.map (·.1)).getD 0) (k.hash w) (stand.getD (t.probeStart (k.hash w))) = some (.candidate (way t.mask (k.hash w) (c + q)) i (nth t.mask p0 (c + (q + 1)))) := by
        rw [hst]; exact hpr
      rw [hpr']; dsimp only
      have hil : i < L.length := by
        have h1 := (List.getElem?_eq_some_iff.mp hi).1
        have h2 := R.tab.size
        rw [List.length_map] at h2
        rw [Array.length_toList] at h1
        omega
      obtain ⟨p, hp⟩ : ∃ p, L[i]? = some p := ⟨_, List.getElem?_eq_getElem hil⟩
      have hm := List.mem_of_getElem? hp
      have go : wpAny (model P w) A (searchRest a (.ref x) (k.hash w) adding f es t (way t.mask (k.hash w) (c + q)) i (nth t.mask p0 (c + (q + 1)))) Q E s := by
        unfold searchRest
        rw [R.entry hp]; dsimp only
        refine wpAny_bind (wpAny_holding ((nestedKind P w).eqBool hu (tup p hm) hx ?_))
        refine wpAny_bind (wpAny_setState_of ho hd R.fits ?_); dsimp only
        have hsl : t.slot (way t.mask (k.hash w) (c + q)) = .live i := slot_live R.tab.up hi
        by_cases hkk : p.2 = k
        · have km : k ∈ L.map (·.2) := List.mem_map.mpr ⟨p, hm, hkk⟩
          cases adding with
          | true => exact wp_if_pos (by simp [hkk]) (wpAny_pure (hin none km fun z => nomatch z))
          | false =>
            refine wp_if_neg (by simp) ?_
            (try refine wpAny_bind (wpAny_pure ?_))
            rw [sameMem]; dsimp only
            simp only [if_true, hsl, R.entry hp]
            refine wpAny_bind (wpAny_isSame_ref_self (wpAny_bind (wpAny_pure ?_)))
            simp only [if_true]
            exact wp_if_pos (by simp [hkk]) (wpAny_pure (hin (some i) km fun _ => rfl))
        · refine wp_if_neg (by simp [hkk]) ?_
          (try refine wpAny_bind (wpAny_pure ?_))
          rw [sameMem]; dsimp only
          simp only [if_true, hsl, R.entry hp]
          refine wpAny_bind (wpAny_isSame_ref_self (wpAny_bind (wpAny_pure ?_)))
          simp only [if_true]
          refine wp_if_neg (by simp [hkk]) ?_
          refine ih (c + (q + 1)) _ rfl (by omega) (by omega) fun i0 p1 h0 hk0 => ?_
          obtain ⟨c', a1, a2, a3⟩ := hre i0 p1 h0 hk0
          refine ⟨c', ?_, a2, a3⟩
          by_cases z : c' < c + q
          · refine (hno (c' - c) i0 (by omega) ?_ ?_).elim
            · rw [sh, wj, Nat.add_sub_cancel' a1]; exact a3
            · show (es[i0]?.map (·.1)).getD 0 = _
              rw [hash_at i0 p1 h0, hk0]
          · by_cases y : c' = c + q
            · rw [y] at a3
              have s0 := slot_live R.tab.up a3
              rw [hsl] at s0
              injection s0 with s0
              subst s0
              rw [hp] at h0
              cases h0
              exact (hkk hk0).elim
            · omega
      by_cases hl : t.led = true
      · refine wp_if_neg (by simp [hl]) ?_
        (try refine wpAny_bind (wpAny_pure ?_))
        exact go
      · refine wp_if_pos (by simp [hl]) (wpAny_bind (noshow hx (fun y hy => ?_) ?_))
        · obtain ⟨e, he, ee⟩ := List.mem_map.mp hy
          have he1 : e ∈ es ∧ e.1 = k.hash w := by simpa using he
          have he2 : e ∈ es.toList := by simpa using he1.1
          rw [R.rows] at he2
          obtain ⟨p2, hp2, e2⟩ := List.mem_map.mp he2
          exact ⟨p2.2, p2.1, by rw [← ee, ← e2], tup p2 hp2⟩
        · refine wp_if_neg (by decide) ?_
          (try refine wpAny_bind (wpAny_pure ?_))
          exact go
    · rw [sh, wj, Nat.add_sub_cancel' hc] at hpr
      have hpr' : t.probe (fun i => (es[i]?.map (·.1)).getD 0) (k.hash w) (stand.getD (t.probeStart (k.hash w))) = some (.empty (way t.mask (k.hash w) K) none) := by
        rw [hst]; exact hpr
      rw [hpr']; dsimp only
      refine wpAny_pure (hout fun hm => ?_)
      obtain ⟨p1, h0, hk0⟩ := List.mem_map.mp hm
      obtain ⟨i0, hi0, e0⟩ := List.getElem_of_mem h0
      have h1 : L[i0]? = some p1 := by rw [List.getElem?_eq_getElem hi0, e0]
      obtain ⟨c', a1, a2, a3⟩ := hre i0 p1 h1 hk0
      refine hno (c' - c) i0 (by omega) ?_ ?_
      · rw [sh, wj, Nat.add_sub_cancel' a1]; exact a3
      · show (es[i0]?.map (·.1)).getD 0 = _
        rw [hash_at i0 p1 h1, hk0]
theorem find_at (R : SK w s.heap a L es ep t) (tup : ∀ p ∈ L, NAt s.heap p.2 p.1) {x : Addr} {k : NestedKey} (hx : NAt s.heap k x) (hu : A.units + 8 < cLine) (adding : Bool) {Q : SetFound → Shared → Prop}
    (hin : ∀ r, k ∈ L.map (·.2) → (adding = false → r.isSome = true) → Q (.there r) s)
    (hout : ∀ K, k ∉ L.map (·.2) → way t.mask (k.hash w) K ∉ t.place.toList → (∀ c, c < K → way t.mask (k.hash w) c ∈ t.place.toList) → Q (.free (way t.mask (k.hash w) K) false) s) :
    wpAny (model P w) A (setSearch a (.ref x) (k.hash w) adding) Q E s := by
  have room := R.room
  obtain ⟨K, hKf, hK, hKb⟩ := R.tab.first (by rw [List.length_map]; omega) (k.hash w)
  have big : K < 100000 := by
    have : t.mask ≤ 511 := by rcases R.tab.mok with (e | e | e) | e <;> omega
    unfold SetTable.turns at hKf
    omega
  unfold setSearch
  refine find_from R tup hx hu adding hKf hK hKb hin (fun hn => hout K hn hK hKb) 100000 0 none rfl (Nat.zero_le _) (by omega) fun i p hp hk => ?_
  have hi : (L.map fun p => p.2.hash w)[i]? = some (k.hash w) := by rw [List.getElem?_map, hp, ← hk]; rfl
  obtain ⟨j, hj⟩ : ∃ j, t.place.toList[i]? = some j := by
    refine ⟨_, List.getElem?_eq_getElem ?_⟩
    have h1 := (List.getElem?_eq_some_iff.mp hp).1
    have h2 := R.tab.size
    rw [List.length_map] at h2
    rw [Array.length_toList]
    omega
  obtain ⟨c, hc, e⟩ := R.tab.before hK hi hj
  exact ⟨c, Nat.zero_le _, hc, by rw [hj, e]⟩
/-! ### laid anew -/
theorem fm_congr {α β : Type} {f g : α → Option β} : ∀ {l : List α}, (∀ x ∈ l, f x = g x) → l.filterMap f = l.filterMap g
  | [], _ => rfl
  | a :: l, h => by
    rw [List.filterMap_cons, List.filterMap_cons, h a List.mem_cons_self, fm_congr fun x hx => h x (List.mem_cons_of_mem _ hx)]
theorem pick_rows {α : Type} (f : α → Int × Value) (L : List α) (es : Array (Int × Value)) (order : Array Nat) (hr : es.toList = L.map f) (hp : order.toList.Perm (List.range L.length)) :
    ∃ L2 : List α, (order.filterMap (es[·]?)).toList = L2.map f ∧ L2.Perm L ∧ (L2.map fun p => (f p).1) = order.toList.map fun i => (es.map (·.1)).getD i 0 := by
  have ent : ∀ i : Nat, es[i]? = (L[i]?).map f := fun i => by rw [← Array.getElem?_toList, hr, List.getElem?_map]
  refine ⟨order.toList.filterMap (fun i => L[i]?), ?_, ?_, ?_⟩
  · rw [Array.toList_filterMap, List.map_filterMap]
    exact fm_congr fun i _ => ent i
  · have h := hp.filterMap (fun i => L[i]?)
    rw [PySem.List.filterMap_getElem?_range_length] at h
    exact h
  · rw [List.map_filterMap]
    have e : ∀ i ∈ order.toList, Option.map (fun p => (f p).1) L[i]? = some ((es.map (·.1)).getD i 0) := fun i hi => by
      have lt : i < L.length := List.mem_range.mp (hp.mem_iff.mp hi)
      have := ent i
      rw [List.getElem?_eq_getElem lt] at this ⊢
      simp [Array.getD_eq_getD_getElem?, this]
    rw [fm_congr e]
    induction order.toList with
    | nil => rfl
    | cons i l ih => simp
theorem nat_other {h h' : Heap} {k : NestedKey} {b : Addr} {o : Obj} (x : NAt h k b) (ho : h.get? a = some o) (hd : o.data = .set es ep t) (hs : Heap.SameBut a h h') : NAt h' k b := by
  refine ⟨NestedIs.at (fun c u vs n hc hv => ?_) k _ x.1, x.2⟩
  have ne : c ≠ a := by
    rintro rfl
    rw [ho] at hc
    cases hc
    rw [hd] at hv
    cases hv
  exact (hs.2 c ne).trans hc
theorem relay4 {o : Obj} (ho : s.heap.get? a = some o) (hex : o.ExactSet) (hd : o.data = .set es ep t) (hrows : es.toList = L.map (rowK w)) (T : Tb t (L.map fun p => p.2.hash w)) (hfl : L.length ≤ t.mask)
    (nd : (L.map (·.2)).Nodup) {wanted M : Nat} (hw : SetTable.sizeAbove wanted - 1 = M) (hM : Mk4 M) (hn : L.length * 5 < M * 3) {Q : Unit → Shared → Prop}
    (hQ : ∀ h' L' es' ep' t', Heap.SameBut a s.heap h' → SK w h' a L' es' ep' t' → L'.Perm L → Q () { s with heap := h' }) : wpAny (model P w) A (setRelay a wanted) Q E s := by
  have hsl : es.size = L.length := by simpa using congrArg List.length hrows
  have hM2 : M ≤ 511 := by rcases hM with (e | e | e) | e <;> omega
  have hfits : t.fits es.size = true := by
    have := T.size
    rw [List.length_map] at this
    unfold SetTable.fits SetTable.fill
    rw [T.nodum, Bool.and_eq_true, beq_iff_eq, decide_eq_true_eq]
    exact ⟨by omega, by show t.place.size + 0 ≤ t.mask; omega⟩
  obtain ⟨t', order, e, hp, T', em, el⟩ := relaid4 t (hs := es.map (·.1)) (wanted := wanted) hw hM (by rw [Array.size_map, hsl]; omega)
  rw [Array.size_map, hsl] at hp
  obtain ⟨L2, r1, r2, r3⟩ := pick_rows (rowK w) L es order hrows hp
  rw [← r3] at T'
  have hs2 : (order.filterMap (es[·]?)).size = es.size := by
    have h := congrArg List.length r1
    rw [Array.length_toList, List.length_map, r2.length_eq] at h
    omega
  rw [setRelay_eq]
  refine wpAny_bind (wpAny_setState_of ho hd hfits ?_); dsimp only
  refine wp_if_neg (by rw [sizeLine_eq]; omega) ?_
  (try refine wpAny_bind (wpAny_pure ?_))
  rw [e]; dsimp only
  refine wpAny_bind ?_
  refine wp_if_neg (by rw [hs2]; simp) ?_
  (try refine wpAny_bind (wpAny_pure ?_))
  refine wpAny_pure ?_; dsimp only
  refine wpAny_storeSet_of ho hd ?_ (by rw [hs2, hsl, sizeLine_eq]; omega)
  have sb : Heap.SameBut a s.heap (s.heap.update a (Obj.putSet (order.filterMap (es[·]?)) t')) := Heap.SameBut.update ..
  refine hQ _ L2 (order.filterMap (es[·]?)) (ep + 1) t' sb ⟨⟨_, store_at ho hd, ⟨hex.1, hex.2.1, hex.2.2⟩, rfl⟩, r1, T', ?_, ?_⟩ r2
  · exact (r2.map (·.2)).nodup_iff.mpr nd
  · rw [r2.length_eq, em]; exact hn
theorem add4 (R : SK w s.heap a L es ep t) (tup : ∀ p ∈ L, NAt s.heap p.2 p.1) {x : Addr} {k : NestedKey} (hx : NAt s.heap k x) (hu : A.units + 8 < cLine) (hfew : L.length < 300) {Q : Bool → Shared → Prop}
    (hQ : ∀ b h' L' es' ep' t', Heap.SameBut a s.heap h' → SK w h' a L' es' ep' t' → (k ∈ L.map (·.2) → L' = L) → (k ∉ L.map (·.2) → L'.Perm ((x, k) :: L)) → Q b { s with heap := h' }) :
    wpAny (model P w) A (setAddHashed a (.ref x) (k.hash w)) Q E s := by
  obtain ⟨o, ho, hex, hd⟩ := R.ob
  have hsl := R.size
  have hroom := R.room
  unfold setAddHashed
  refine wpAny_holding ?_
  rw [show (100000 : Nat) = 99999 + 1 from rfl, setAddHashedIn_succ]
  refine wpAny_bind (wpAny_setState_of ho hd R.fits ?_); dsimp only
  refine wp_if_neg (by simp [byScan, Value.scannable]) ?_
  (try refine wpAny_bind (wpAny_pure ?_))
  refine wpAny_bind (find_at R tup hx hu true (fun r hm _ => ?_) fun K hm hK hb => ?_)
  · dsimp only
    exact wpAny_pure (hQ false s.heap L es ep t (Heap.SameBut.refl a s.heap) R (fun _ => rfl) fun z => absurd hm z)
  · dsimp only
    refine wpAny_bind (wpAny_setState_of ho hd R.fits ?_); dsimp only
    obtain ⟨q2, q3, q9⟩ := R.tab.put hK hb
    rw [List.length_map] at q2 q9
    generalize hpp : cut t (k.hash w) K = p at q2 q3
    have hp2 : (t.put (way t.mask (k.hash w) K)).2 = p := hpp
    generalize hpt : t.put (way t.mask (k.hash w) K) = pt at q3 q9 hp2 ⊢
    have hmk : pt.1.mask = t.mask := by rw [← hpt]; rfl
    obtain ⟨t1, p'⟩ := pt
    dsimp only at q3 q9 hp2 hmk ⊢
    subst hp2
    have body : ∀ b : Bool, wpAny (model P w) A (do
        storeSet a (SetTable.insertAt es p' (k.hash w, Value.ref x)) (if b = true then t1 else { t1 with plain := false })
        if (!false && (if b = true then t1 else { t1 with plain := false }).tooFull) = true then setRelay a (SetTable.grown (es.size + 1))
        return true) Q E s := by
      intro b
      generalize ht2 : (if b = true then t1 else { t1 with plain := false }) = t2
      have T2 : Tb t2 ((L.map fun p => p.2.hash w).take p' ++ k.hash w :: (L.map fun p => p.2.hash w).drop p') := by
        subst ht2
        cases b
        · exact q3.plain false
        · exact q3
      have m2 : t2.mask = t.mask := by subst ht2; cases b <;> exact hmk
      have f2 : t2.fill = L.length + 1 := by subst ht2; cases b <;> exact q9
      have hin : (SetTable.insertAt es p' (k.hash w, Value.ref x)).toList = (L.take p' ++ (x, k) :: L.drop p').map (rowK w) := by
        rw [SetTable.toList_insertAt, R.rows, List.map_append, List.map_cons, List.map_take, List.map_drop]
      have pm : (L.take p' ++ (x, k) :: L.drop p').Perm ((x, k) :: L) := by
        have h : (L.take p' ++ (x, k) :: L.drop p').Perm ((x, k) :: (L.take p' ++ L.drop p')) := List.perm_middle
        rwa [List.take_append_drop] at h
      have hhs : (L.take p' ++ (x, k) :: L.drop p').map (fun p => p.2.hash w) = (L.map fun p => p.2.hash w).take p' ++ k.hash w :: (L.map fun p => p.2.hash w).drop p' := by
        rw [List.map_append, List.map_cons, List.map_take, List.map_drop]
      rw [← hhs] at T2
      have nd1 : ((L.take p' ++ (x, k) :: L.drop p').map (·.2)).Nodup := (pm.map (·.2)).nodup_iff.mpr (List.nodup_cons.mpr ⟨hm, R.nd⟩)
      have hlen := pm.length_eq
      rw [List.length_cons] at hlen
      generalize SetTable.insertAt es p' (k.hash w, Value.ref x) = es1 at hin ⊢
      generalize L.take p' ++ (x, k) :: L.drop p' = L1 at pm hlen T2 nd1 hin
      have hes : es1.size = L.length + 1 := by
        have h := congrArg List.length hin
        rw [Array.length_toList, List.length_map, hlen] at h
        exact h
      refine wpAny_bind (wpAny_storeSet_of ho hd ?_ (by rw [hes, sizeLine_eq]; omega))
      have sb : Heap.SameBut a s.heap (s.heap.update a (Obj.putSet es1 t2)) := Heap.SameBut.update ..
      have ho1 := store_at (es' := es1) (t' := t2) ho hd
      generalize s.heap.update a (Obj.putSet es1 t2) = h1 at sb ho1 ⊢
      by_cases hf : t2.tooFull = true
      · have hfull : (L.length + 1) * 5 ≥ t.mask * 3 := by
          have h := hf
          unfold SetTable.tooFull at h
          rw [decide_eq_true_eq, f2, m2] at h
          exact h
        refine wp_if_pos (by simp [hf]) (wpAny_bind ?_)
        rw [hsl]
        have fin : ∀ M, SetTable.sizeAbove (SetTable.grown (L.length + 1)) - 1 = M → Mk4 M → (L.length + 1) * 5 < M * 3 →
            wpAny (model P w) A (setRelay a (SetTable.grown (L.length + 1))) (fun _ s' => wpAny (model P w) A (pure true) Q E s') E { s with heap := h1 } := fun M g1 g2 g3 =>
          relay4 (s := { s with heap := h1 }) ho1 ⟨hex.1, hex.2.1, hex.2.2⟩ rfl hin T2 (by rw [hlen, m2]; omega) nd1 g1 g2 (by rw [hlen]; exact g3)
            fun h2 L2 es2 ep2 t3 sb2 R2 pm2 => wpAny_pure (hQ true h2 L2 es2 ep2 t3 (sb.trans sb2) R2 (fun z => absurd z hm) fun _ => pm2.trans pm)
        rcases R.tab.mok with (e | e | e) | e
        · have e2 : L.length = 4 := by omega
          exact fin 31 (by rw [e2, size_20]) (.inl (.inr (.inl rfl))) (by omega)
        · have e2 : L.length = 18 := by omega
          exact fin 127 (by rw [e2, size_76]) (.inl (.inr (.inr rfl))) (by omega)
        · have e2 : L.length = 76 := by omega
          exact fin 511 (by rw [e2, size_308]) (.inr rfl) (by omega)
        · omega
      · refine wp_if_neg (by simp [hf]) ?_
        refine wpAny_pure (hQ true h1 L1 es1 (ep + 1) t2 sb ⟨⟨_, ho1, ⟨hex.1, hex.2.1, hex.2.2⟩, rfl⟩, hin, T2, nd1, ?_⟩ (fun z => absurd z hm) fun _ => pm)
        have h := hf
        unfold SetTable.tooFull at h
        rw [decide_eq_true_eq, f2] at h
        rw [hlen]
        omega
    by_cases hpl : t1.plain = true
    · first
        | refine wpAny_bind (wp_if_pos hpl (hash_any 8 _ _ _ _ _ _ hx.1 fun b => ?_))
        | refine wp_if_pos hpl (wpAny_bind (hash_any 8 _ _ _ _ _ _ hx.1 fun b => ?_))
      exact body b
    · first
        | refine wpAny_bind (wp_if_neg hpl (wpAny_pure ?_))
        | refine wp_if_neg hpl (wpAny_bind (wpAny_pure ?_))
      exact body true

theorem setFindIn_one (a : Addr) (x : Value) (h : Int) (fuel : Nat) : setFindIn a x h (fuel + 1) = (do
    let (es, _, _) ← setState a
    if byScan x es then
      rule "set.find.by-scan"
      match ← setScan a x h false es with
      | .found i => return some i
      | .absent => return none
      | .anew => return ← setFindIn a x h fuel
    match ← setSearch a x h with
    | .there i => return i
    | .free .. => return none) := by rfl
theorem find4 (R : SK w s.heap a L es ep t) (tup : ∀ p ∈ L, NAt s.heap p.2 p.1) {x : Addr} {k : NestedKey} (hx : NAt s.heap k x) (hu : A.units + 8 < cLine) {Q : Option Nat → Shared → Prop}
    (h : ∀ r : Option Nat, r.isSome = decide (k ∈ L.map (·.2)) → Q r s) : wpAny (model P w) A (setFind a (.ref x) (k.hash w)) Q E s := by
  obtain ⟨o, ho, hex, hd⟩ := R.ob
  unfold setFind
  rw [show (100000 : Nat) = 99999 + 1 from rfl, setFindIn_one]
  refine wpAny_bind (wpAny_setState_of ho hd R.fits ?_); dsimp only
  refine wp_if_neg (by simp [byScan, Value.scannable]) ?_
  (try refine wpAny_bind (wpAny_pure ?_))
  refine wpAny_bind (find_at R tup hx hu false (fun r hm hr => ?_) fun K hm _ _ => ?_)
  · dsimp only
    exact wpAny_pure (h r ((hr rfl).trans (decide_eq_true hm).symm))
  · dsimp only
    exact wpAny_pure (h none (decide_eq_false hm).symm)
theorem SK.ty {h : Heap} (R : SK w h a L es ep t) : ∃ o, h.get? a = some o ∧ o.cls = .type "set" ∧ o.dict = none := by
  obtain ⟨o, ho, hex, hd⟩ := R.ob
  exact ⟨o, ho, hex.1, hex.2.1⟩
theorem SK.at {h h' : Heap} (R : SK w h a L es ep t) (k : ∀ o, h.get? a = some o → h'.get? a = some o) : SK w h' a L es ep t := by
  obtain ⟨o, ho, r⟩ := R.ob
  exact ⟨⟨o, k o ho, r⟩, R.rows, R.tab, R.nd, R.room⟩
theorem has4 (R : SK w s.heap a L es ep t) (tup : ∀ p ∈ L, NAt s.heap p.2 p.1) {x : Addr} {k : NestedKey} (hx : NAt s.heap k x) (hu : A.units + 64 < cLine) {Q : Bool → Shared → Prop}
    (h : Q (decide (k ∈ L.map (·.2))) { s with toks := s.toks + k.draws }) : wpAny (model P w) A (contains (.ref a) (.ref x)) Q E s := by
  have hT : s.TypeIs (.ref a) "set" := let ⟨o, ho, hc, _⟩ := R.ty; ⟨o, ho, hc⟩
  unfold contains
  (try with_reducible refine wpAny_holding ?_)
  refine wpAny_bind (wpAny_specialOf hT F.slot_set_contains.lookup ?_)
  show wpAny _ _ (if (some (Value.builtin "set.__contains__") == some Value.none) = true then _ else _) _ E s
  rw [if_neg (by rw [beq_builtin_none]; exact Bool.false_ne_true)]
  refine wpAny_bind (wpAny_callSpecialUnlessNone?_slot (name := Str.ofString "__contains__") hT F.slot_set_contains (wpAny_call_entry F.slot_set_contains hT entry_set_contains ?_ (F.args_set_contains_2 _ _)))
  unfold Builtin.«frozenset.__contains__» Builtin.Frozenset.oneOther; simp only [List.isEmpty_nil, bind_assoc]
  unfold Builtin.Frozenset.addrOf Builtin.Frozenset.withSetAsKey setContains
  refine wpAny_bind (wpAny_pure ?_); (try dsimp only)
  refine wpAny_bind (wpAny_pure ?_); (try dsimp only)
  refine wpAny_bind (wpAny_tryCatch ?_); refine wpAny_holding ?_
  refine wpAny_bind ((nestedKind P w).pyHash (show A.in1.units + 8 < cLine by simp only [Around.in1_units]; omega) hx ?_)
  refine wpAny_bind (find4 (s := { s with toks := s.toks + k.draws }) R tup hx (by simp only [Around.in1_units]; omega) fun r hr => ?_)
  refine wpAny_pure ?_
  show wpAny _ _ (ret (Value.bool r.isSome)) _ _ _
  rw [hr]
  exact wpAny_pure ⟨_, rfl, wpAny_truthy_bool h⟩
theorem put4 (R : SK w s.heap a L es ep t) (tup : ∀ p ∈ L, NAt s.heap p.2 p.1) {x : Addr} {k : NestedKey} (hx : NAt s.heap k x) (hu : A.units + 64 < cLine) (hfew : L.length < 300) {Q : Value → Shared → Prop}
    (h : ∀ h' L' es' ep' t', Heap.SameBut a s.heap h' → SK w h' a L' es' ep' t' → (k ∈ L.map (·.2) → L' = L) → (k ∉ L.map (·.2) → L'.Perm ((x, k) :: L)) → Q .none { s with heap := h', toks := s.toks + k.draws }) :
    wpAny (model P w) A (call (.builtin "set.add") [.ref a, .ref x]) Q E s := by
  have hT : s.TypeIs (.ref a) "set" := let ⟨o, ho, hc, _⟩ := R.ty; ⟨o, ho, hc⟩
  refine wpAny_call_entry F.slot_set_add hT F.entry_set_add ?_ (F.args_set_add_2 _ _)
  unfold Builtin.«set.add» Builtin.Frozenset.oneOther; simp only [List.isEmpty_nil, bind_assoc]
  unfold Builtin.Frozenset.addrOf setAdd
  refine wpAny_bind (wpAny_pure ?_); (try dsimp only)
  refine wpAny_bind (wpAny_pure ?_); (try dsimp only)
  refine wpAny_bind (wpAny_holding ?_)
  refine wpAny_bind ((nestedKind P w).pyHash (show A.in1.units + 8 < cLine by simp only [Around.in1_units]; omega) hx ?_)
  refine add4 (s := { s with toks := s.toks + k.draws }) R tup hx (by simp only [Around.in1_units]; omega) hfew fun b h' L' es' ep' t' sb R' c1 c2 => ?_
  show wpAny _ _ (ret Value.none) _ _ _
  exact wpAny_pure ⟨_, rfl, h h' L' es' ep' t' sb R' c1 c2⟩
theorem fresh4 {h : Heap} (ho : h.get? a = some { cls := .type "set", dict := none, data := .set #[] 0 (.fresh 0 0 (!w.params.followText "set-order")) }) : SK w h a [] #[] 0 (.fresh 0 0 (!w.params.followText "set-order")) where
  ob := ⟨_, ho, ⟨rfl, rfl, rfl⟩, rfl⟩
  rows := rfl
  tab := ⟨List.Pairwise.nil, rfl, rfl, .inl (.inl rfl), fun {i h j} hi => by simp at hi⟩
  nd := List.nodup_nil
  room := by show 0 * 5 < 7 * 3; decide
end
end Z
/-! A tuple repeated: the new one is exact. -/
namespace Z
open PySem PySem.Spec PyProof.Rows L2
def rRepX (K : PySem.W.Frag) : R2 := fun x y H Q => ∃ l k xs, x = .ref l ∧ y = .int k ∧ SqT K H l xs ∧ xs ≠ [] ∧ 2 ≤ k ∧ k ≤ 1000 ∧ xs.length ≤ 60 ∧ NewT H (List.replicate k.toNat xs).flatten Q
theorem op_repX {X : Cx} : OpR X (binaryOp .Mult) (rRepX X.K) := by
  rintro pins s σ H x y v u Q I rx ry ⟨l, k, xs, rfl, rfl, hT, hne, k2, k3, hz, q⟩
  cases rx
  obtain ⟨t, rfl⟩ := ry
  obtain ⟨its, r, ⟨⟨cls, dd, data, sl⟩, ho, hc, n, hd⟩, hs⟩ := I.tuple hT
  obtain rfl : cls = .type "tuple" := hc
  obtain rfl : data = .seq its.toArray n := hd
  have len : its.length = xs.length := r.length.symm
  obtain ⟨z, zs, rfl⟩ : ∃ z zs, its = z :: zs := by
    cases its with
    | nil => exact absurd (List.eq_nil_of_length_eq_zero len.symm) hne
    | cons z zs => exact ⟨z, zs, rfl⟩
  have emp : (z :: zs).toArray.isEmpty = false := rfl
  have siz : (((z :: zs).toArray.size : Nat) : Int) = (xs.length : Int) := by rw [List.size_toArray, len]
  have big : (((z :: zs).toArray.size : Nat) : Int) * k ≤ 60000 := by
    rw [siz]
    have := Int.mul_le_mul_of_nonneg_right (show (xs.length : Int) ≤ 60 by omega) (show 0 ≤ k by omega)
    omega
  have fl : (List.replicate k.toNat (z :: zs)).flatten.length ≤ 60000 := by
    rw [PyProof.Rows.lm_len_rep_flat, len]
    have := Nat.mul_le_mul (show k.toNat ≤ 1000 by omega) hz
    omega
  have b0 : (decide (k < -(2 ^ 63)) || decide (k ≥ 2 ^ 63)) = false := by
    have d1 : decide (k < -(2 ^ 63)) = false := decide_eq_false (by omega)
    have d2 : decide (k ≥ 2 ^ 63) = false := decide_eq_false (by omega)
    rw [d1, d2]; rfl
  have b1 : ((z :: zs).toArray.isEmpty || k == 1) = false := by
    rw [emp]
    show (k == 1) = false
    exact beq_eq_false_iff_ne.mpr (by omega)
  have b2 : (decide (k ≤ 0) || (z :: zs).toArray.isEmpty) = false := by
    have d1 : decide (k ≤ 0) = false := decide_eq_false (by omega)
    rw [d1, emp]; rfl
  have b4 : Builtin.Tuple.tupleTooMany ((((z :: zs).toArray.size : Nat) : Int) * k) = false := by
    unfold Builtin.Tuple.tupleTooMany
    exact decide_eq_false (by rw [sizeLine_eq]; omega)
  have szl : (60000 : Nat) ≤ sizeLine := by rw [sizeLine_eq]; decide
  refine wpAny_binaryOp_repeat_ref (T := "tuple") (U := "int") (by decide) ⟨_, ho, rfl⟩ (fun s' => typeIs_int s' k t) noFill_tuple_mul F.fills_int_mul F.slot_int_rmul repeat_tuple F.slot_int_index.lookup ?_
  refine call_meets F.slot_int_rmul (typeIs_int s k t) F.entry_int_rmul (F.args_int_rmul_2 _ _) (int_rmul_tuple k t l (z :: zs).toArray n dd sl) ⟨ho, rfl, ⟨_, ho, rfl⟩, ?_⟩
  refine call_meets F.slot_tuple_mul ⟨_, ho, rfl⟩ F.entry_tuple_mul (F.args_tuple_mul_2 _ _) (tuple_mulW l (z :: zs).toArray n dd sl k t b0 b1 b2 (by omega) b4 ?_) ⟨ho, ?_⟩
  · rw [size_rep, List.size_toArray]
    exact Nat.le_trans fl szl
  · rw [size_rep]
    exact tnew (t' := s.toks) I (r.rep k.toNat) (by rw [PyProof.Rows.lm_len_rep_flat]; have := Nat.mul_le_mul (show k.toNat ≤ 1000 by omega) hz; omega) q
end Z
/-! Data and states: values without addresses, slots that own a list. -/
namespace Z
open PySem PySem.Spec PyProof.Rows L2

inductive D where
  | non | bl (b : Bool) | int (i : Int) | str (x : Str) | fn (n : Str)
  | scr (ns : List Int)
  | lst (xs : List D) | tup (xs : List D)
  /-- a pair that a walk yields: it is taken apart at once -/
  | prs (xs : List D)
  /-- an instance of a class, its fields -/
  | obj (C : Str) (ns : List Str) (ds : List D)
  /-- a dict whose keys are whole numbers and texts; one whose keys are tuples of these -/
  | dic (ks : List Key) (ds : List D)
  | dct (ks : List D) (ds : List D)
  /-- a reference of which nothing is known -/
  | raw (a : Addr)
  deriving Inhabited

/-- what the module's names are, and the program and the world that hashes are of -/
structure Mg where
  fn : Str → Option Value
  P : Program
  w : World
instance : CoeFun Mg fun _ => Str → Option Value := ⟨Mg.fn⟩
/-! ### dicts whose keys are tuples, of tuples, of whole numbers, texts and None -/
mutual
def nkOf : D → Option NestedKey
  | .non => some .none
  | .int i => some (.num i)
  | .bl b => some (.num (if b then 1 else 0))
  | .str x => some (.text x)
  | .tup ds => match nksOf ds with
    | some ks => some (.tup ks)
    | none => none
  | _ => none
def nksOf : List D → Option (List NestedKey)
  | [] => some []
  | d :: ds => match nkOf d, nksOf ds with
    | some k, some ks => some (k :: ks)
    | _, _ => none
end
def inKs (ks : List D) (k : NestedKey) : Bool := ks.any fun d => decide (nkOf d = some k)
abbrev NKX := List (NestedKey × Addr × Value)
/-- the set at a -/
def SNO (m : Mg) (a : Addr) (L : NRows) : HO := .ext fun h => ∃ es ep t, SK m.w h a L es ep t
def DNO (m : Mg) (a : Addr) (xs : NKX) : HO := .ext fun h => ∃ o es ep, h.get? a = some o ∧ o.ExactDict ∧ o.data = .dict es ep ∧ es.toList = xs.map (entryOfKey (nestedKind m.P m.w)) ∧ (xs.map (·.1)).Nodup
mutual
def Rep (K : PySem.W.Frag) (mg : Mg) (F : Hp) : D → V → Prop
  | .non, v => v = .non
  | .bl b, v => v = .bl b
  | .int i, v => v = .int i
  | .str x, v => v = .str x
  | .fn n, v => ∃ a, v = .ref a ∧ mg n = some (.ref a)
  | .raw a, v => v = .ref a
  | .scr ns, v => ∃ a, v = .ref a ∧ SqL K F a (ns.map V.int)
  | .lst ds, v => ∃ a vs, v = .ref a ∧ F a = some (.lst vs) ∧ RepL K mg F ds vs
  | .tup ds, v => ∃ a vs, v = .ref a ∧ TupX K F a vs ∧ RepL K mg F ds vs
  | .prs ds, v => ∃ a vs, v = .ref a ∧ SqT K F a vs ∧ RepL K mg F ds vs
  | .obj C ns ds, v => ∃ a Ca dx fs, v = .ref a ∧ F a = some (.ins Ca dx fs) ∧ F dx = some (.own a) ∧ mg C = some (.ref Ca) ∧ fs.map (·.1) = ns ∧ RepL K mg F ds (fs.map (·.2))
  | .dic ks ds, v => ∃ a o kvs, v = .ref a ∧ F a = some (.frz o (.dK kvs)) ∧ kvs.map (·.1) = ks ∧ RepL K mg F ds (kvs.map (·.2))
  | .dct ks ds, v => ∃ a o xs as vs, v = .ref a ∧ F a = some (.frz o (DNO mg a xs)) ∧ (a == sysModules) = false ∧ nksOf ks = some (xs.map (·.1)) ∧ (∀ x ∈ xs, x.1.depth ≤ 8) ∧ as = xs.map (fun x => V.ref x.2.1) ∧ RepL K mg F ks as ∧ Vals vs (xs.map (·.2.2)) ∧ RepL K mg F ds vs
def RepL (K : PySem.W.Frag) (mg : Mg) (F : Hp) : List D → List V → Prop
  | [], vs => vs = []
  | d :: ds, vs => ∃ v r, vs = v :: r ∧ Rep K mg F d v ∧ RepL K mg F ds r
end

def inK (ks : List Key) (k : Key) : Bool := ks.any fun j => decide (j = k)
/-- what a slot owns -/
inductive Cell where
  | lst (ds : List D)
  | dic (ks : List Key) (ds : List D)
  | dct (ks : List D) (ds : List D)
  | set (ks : List D)
  /-- a set of whole numbers and texts -/
  | ist (ks : List Key)
  deriving Inhabited
inductive Sl where
  | un | d (x : D) | own (c : Cell) | io (c : Cell)
  deriving Inhabited
abbrev Rho := List Sl
def Sl.cell? : Sl → Option Cell
  | .own c => some c
  | .io c => some c
  | _ => none
def cellAt (ρ : Rho) (i : Nat) : Option Cell := ρ[i]?.bind Sl.cell?

theorem Same.tup {K : PySem.W.Frag} {H H' : Hp} {a : Addr} {xs : List V} (e : Same H H') (h : SqT K H a xs) : SqT K H' a xs := by
  rcases h with (h | ⟨o, h⟩) | h
  · exact .inl (.inl (e _ _ h))
  · exact .inl (.inr ⟨o, e _ _ h⟩)
  · exact .inr h

section
variable {K : PySem.W.Frag} {mg : Mg} {F F' : Hp}
mutual
theorem Rep.mono (s : Same F F') : ∀ {d : D} {v : V}, Rep K mg F d v → Rep K mg F' d v
  | .non, _, h => by simpa only [Rep] using h
  | .bl _, _, h => by simpa only [Rep] using h
  | .int _, _, h => by simpa only [Rep] using h
  | .str _, _, h => by simpa only [Rep] using h
  | .fn _, _, h => by simpa only [Rep] using h
  | .raw _, _, h => by simpa only [Rep] using h
  | .scr _, _, h => by
    simp only [Rep] at h ⊢
    obtain ⟨a, e, q⟩ := h
    exact ⟨a, e, s.seq q⟩
  | .lst ds, _, h => by
    simp only [Rep] at h ⊢
    obtain ⟨a, vs, e, q, r⟩ := h
    exact ⟨a, vs, e, s _ _ q, RepL.mono s r⟩
  | .tup ds, _, h => by
    simp only [Rep] at h ⊢
    obtain ⟨a, vs, e, q, r⟩ := h
    exact ⟨a, vs, e, q.mono s, RepL.mono s r⟩
  | .prs ds, _, h => by
    simp only [Rep] at h ⊢
    obtain ⟨a, vs, e, q, r⟩ := h
    exact ⟨a, vs, e, Same.tup s q, RepL.mono s r⟩
  | .obj C ns ds, _, h => by
    simp only [Rep] at h ⊢
    obtain ⟨a, Ca, dx, fs, e, q, q2, m, n, r⟩ := h
    exact ⟨a, Ca, dx, fs, e, s _ _ q, s _ _ q2, m, n, RepL.mono s r⟩
  | .dic ks ds, _, h => by
    simp only [Rep] at h ⊢
    obtain ⟨a, o, kvs, e, q, n, r⟩ := h
    exact ⟨a, o, kvs, e, s _ _ q, n, RepL.mono s r⟩
  | .dct ks ds, _, h => by
    simp only [Rep] at h ⊢
    obtain ⟨a, o, xs, as, vs, e, q, b, n, nd, m, r1, rv, r2⟩ := h
    exact ⟨a, o, xs, as, vs, e, s _ _ q, b, n, nd, m, RepL.mono s r1, rv, RepL.mono s r2⟩
theorem RepL.mono (s : Same F F') : ∀ {ds : List D} {vs : List V}, RepL K mg F ds vs → RepL K mg F' ds vs
  | [], _, h => by simpa only [RepL] using h
  | d :: ds, _, h => by
    simp only [RepL] at h ⊢
    obtain ⟨v, r, e, q, t⟩ := h
    exact ⟨v, r, e, Rep.mono s q, RepL.mono s t⟩
end
theorem RepL.len : ∀ {ds : List D} {vs : List V}, RepL K mg F ds vs → vs.length = ds.length
  | [], _, h => by simp only [RepL] at h; subst h; rfl
  | d :: ds, _, h => by
    simp only [RepL] at h
    obtain ⟨v, r, rfl, _, t⟩ := h
    simp only [List.length_cons, RepL.len t]
theorem RepL.get : ∀ {ds : List D} {vs : List V} {i : Nat} {d : D}, RepL K mg F ds vs → ds[i]? = some d → ∃ v, vs[i]? = some v ∧ Rep K mg F d v
  | [], _, _, _, _, e => by simp at e
  | d :: ds, _, 0, x, h, e => by
    simp only [RepL] at h
    obtain ⟨v, r, rfl, q, t⟩ := h
    simp only [List.getElem?_cons_zero, Option.some.injEq] at e
    subst e
    exact ⟨v, rfl, q⟩
  | d :: ds, _, i + 1, x, h, e => by
    simp only [RepL] at h
    obtain ⟨v, r, rfl, q, t⟩ := h
    simp only [List.getElem?_cons_succ] at e ⊢
    exact RepL.get t e
theorem RepL.append : ∀ {ds es : List D} {vs ws : List V}, RepL K mg F ds vs → RepL K mg F es ws → RepL K mg F (ds ++ es) (vs ++ ws)
  | [], _, _, _, h, h' => by simp only [RepL] at h; subst h; exact h'
  | d :: ds, _, _, _, h, h' => by
    simp only [RepL] at h
    obtain ⟨v, r, rfl, q, t⟩ := h
    simp only [List.cons_append, RepL]
    exact ⟨v, _, rfl, q, RepL.append t h'⟩
theorem RepL.take : ∀ {ds : List D} {vs : List V} (n : Nat), RepL K mg F ds vs → RepL K mg F (ds.take n) (vs.take n)
  | [], _, n, h => by simp only [RepL] at h; subst h; simp [RepL]
  | d :: ds, _, 0, h => by simp [RepL]
  | d :: ds, _, n + 1, h => by
    simp only [RepL] at h
    obtain ⟨v, r, rfl, q, t⟩ := h
    simp only [List.take_succ_cons, RepL]
    exact ⟨v, _, rfl, q, RepL.take n t⟩
theorem RepL.drop : ∀ {ds : List D} {vs : List V} (n : Nat), RepL K mg F ds vs → RepL K mg F (ds.drop n) (vs.drop n)
  | [], _, n, h => by simp only [RepL] at h; subst h; simp [RepL]
  | d :: ds, _, 0, h => by simpa using h
  | d :: ds, _, n + 1, h => by
    simp only [RepL] at h
    obtain ⟨v, r, rfl, q, t⟩ := h
    simp only [List.drop_succ_cons]
    exact RepL.drop n t
theorem RepL.set {d : D} {v : V} (q : Rep K mg F d v) : ∀ {ds : List D} {vs : List V} (n : Nat), RepL K mg F ds vs → RepL K mg F (ds.set n d) (vs.set n v)
  | [], _, n, h => by simp only [RepL] at h; subst h; simp [RepL]
  | _ :: ds, _, 0, h => by
    simp only [RepL] at h
    obtain ⟨w, r, rfl, _, t⟩ := h
    simp only [List.set_cons_zero, RepL]
    exact ⟨v, r, rfl, q, t⟩
  | _ :: ds, _, n + 1, h => by
    simp only [RepL] at h
    obtain ⟨w, r, rfl, q', t⟩ := h
    simp only [List.set_cons_succ, RepL]
    exact ⟨w, _, rfl, q', RepL.set q n t⟩
theorem RepL.rep {ds : List D} {vs : List V} (h : RepL K mg F ds vs) : ∀ k : Nat, RepL K mg F (List.replicate k ds).flatten (List.replicate k vs).flatten
  | 0 => by simp [RepL]
  | k + 1 => by
    simp only [List.replicate_succ, List.flatten_cons]
    exact h.append (RepL.rep h k)
theorem RepL.one {d : D} {v : V} (q : Rep K mg F d v) : RepL K mg F [d] [v] := by
  simp only [RepL]
  exact ⟨v, [], rfl, q, rfl⟩
theorem RepL.nil : RepL K mg F [] [] := by simp only [RepL]
theorem RepL.cons {d : D} {ds : List D} {v : V} {vs : List V} (q : Rep K mg F d v) (t : RepL K mg F ds vs) : RepL K mg F (d :: ds) (v :: vs) := by
  simp only [RepL]
  exact ⟨v, vs, rfl, q, t⟩
end

def CellOk (K : PySem.W.Frag) (mg : Mg) (F H : Hp) (a : Addr) : Cell → Prop
  | .lst ds => ∃ vs, H a = some (.lst vs) ∧ RepL K mg F ds vs
  | .dic ks ds => ∃ kvs, H a = some (.dK kvs) ∧ kvs.map (·.1) = ks ∧ RepL K mg F ds (kvs.map (·.2))
  | .dct ks ds => ∃ xs as vs, H a = some (DNO mg a xs) ∧ (a == sysModules) = false ∧ nksOf ks = some (xs.map (·.1)) ∧ (∀ x ∈ xs, x.1.depth ≤ 8) ∧ as = xs.map (fun x => V.ref x.2.1) ∧ RepL K mg F ks as ∧ Vals vs (xs.map (·.2.2)) ∧ RepL K mg F ds vs
  | .set ks => ∃ L : NRows, H a = some (SNO mg a L) ∧ (∀ p ∈ L, ∃ d ∈ ks, nkOf d = some p.2 ∧ p.2.depth ≤ 8 ∧ Rep K mg F d (.ref p.1)) ∧ (∀ d ∈ ks, ∃ p ∈ L, nkOf d = some p.2) ∧ L.length ≤ ks.length
  | .ist ks => ∃ n, H a = some (SetK mg.P mg.w a (fun k => inK ks k) n) ∧ n ≤ ks.length
/-- the object stays, the frozen ones grow -/
theorem CellOk.move {K : PySem.W.Frag} {mg : Mg} {F H F' H' : Hp} {a : Addr} {c : Cell} (h : CellOk K mg F H a c) (e : ∀ o, H a = some o → H' a = some o) (s : Same F F') : CellOk K mg F' H' a c := by
  cases c with
  | lst ds => obtain ⟨vs, q, r⟩ := h; exact ⟨vs, e _ q, r.mono s⟩
  | dic ks ds => obtain ⟨vs, q, n, r⟩ := h; exact ⟨vs, e _ q, n, r.mono s⟩
  | dct ks ds => obtain ⟨xs, as, vs, q, b, n, nd, m, r1, rv, r2⟩ := h; exact ⟨xs, as, vs, e _ q, b, n, nd, m, r1.mono s, rv, r2.mono s⟩
  | set ks => obtain ⟨L, q, k1, k2, k3⟩ := h; exact ⟨L, e _ q, fun p hp => let ⟨d, a1, a2, a3, a4⟩ := k1 p hp; ⟨d, a1, a2, a3, a4.mono s⟩, k2, k3⟩
  | ist ks => obtain ⟨n, q, k1⟩ := h; exact ⟨n, e _ q, k1⟩

def OwnA (σ : St) (ρ : Rho) (a : Addr) : Prop := ∃ i c, cellAt ρ i = some c ∧ σ[i]? = some (some (.ref a))

structure R (K : PySem.W.Frag) (mg : Mg) (io : List (Nat × Addr)) (F H : Hp) (σ : St) (ρ : Rho) : Prop where
  len : ρ.length = σ.length
  sub : Same F H
  dat : ∀ (i : Nat) (x : D), ρ[i]? = some (Sl.d x) → ∃ v, σ[i]? = some (some v) ∧ Rep K mg F x v
  cel : ∀ (i : Nat) (c : Cell), cellAt ρ i = some c → ∃ a, σ[i]? = some (some (.ref a)) ∧ F a = none ∧ CellOk K mg F H a c
  inj : ∀ (i j : Nat) (c c' : Cell) (a : Addr), cellAt ρ i = some c → cellAt ρ j = some c' → σ[i]? = some (some (.ref a)) → σ[j]? = some (some (.ref a)) → i = j
  ios : ∀ p ∈ io, σ[p.1]? = some (some (.ref p.2)) ∧ ∃ c, ρ[p.1]? = some (Sl.io c)

structure Ext (F H : Hp) (σ : St) (ρ : Rho) (F' H' : Hp) (σ' : St) (ρ' : Rho) : Prop where
  sub : Same F F'
  keep : ∀ a o, H a = some o → ¬ OwnA σ ρ a → H' a = some o ∧ F' a = F a
  own : ∀ a, OwnA σ' ρ' a → OwnA σ ρ a ∨ H a = none
  stay : ∀ a, H' a = none → H a = none

theorem Ext.refl {F H : Hp} {σ : St} {ρ : Rho} : Ext F H σ ρ F H σ ρ := ⟨Same.refl F, fun _ _ h _ => ⟨h, rfl⟩, fun _ h => .inl h, fun _ h => h⟩
theorem Ext.trans {F H F1 H1 F2 H2 : Hp} {σ σ1 σ2 : St} {ρ ρ1 ρ2 : Rho} (a : Ext F H σ ρ F1 H1 σ1 ρ1) (b : Ext F1 H1 σ1 ρ1 F2 H2 σ2 ρ2) : Ext F H σ ρ F2 H2 σ2 ρ2 where
  sub := a.sub.trans b.sub
  keep := fun x o h n => by
    obtain ⟨h1, f1⟩ := a.keep x o h n
    have n1 : ¬ OwnA σ1 ρ1 x := fun w => by
      rcases a.own x w with w | w
      · exact n w
      · rw [h] at w; cases w
    obtain ⟨h2, f2⟩ := b.keep x o h1 n1
    exact ⟨h2, f2.trans f1⟩
  own := fun x w => by
    rcases b.own x w with w | w
    · exact a.own x w
    · exact .inr (a.stay x w)
  stay := fun x h => a.stay x (b.stay x h)

/-- only new frozen things -/
structure Grow (F H F' H' : Hp) : Prop where
  sub : Same F F'
  in_ : Same F' H'
  keep : ∀ a o, H a = some o → H' a = some o ∧ F' a = F a
theorem Grow.refl {F H : Hp} (s : Same F H) : Grow F H F H := ⟨Same.refl F, s, fun _ _ h => ⟨h, rfl⟩⟩
theorem Grow.new {F H : Hp} {p : Addr} {o : HO} (s : Same F H) (h : H p = none) : Grow F H (upd F p o) (upd H p o) where
  sub := fun b u e => by
    rw [upd_ne (ne_of_none (s _ _ e) h)]; exact e
  in_ := fun b u e => by
    by_cases hb : b = p
    · subst hb; rw [upd_same] at e ⊢; exact e
    · rw [upd_ne hb] at e ⊢; exact s _ _ e
  keep := fun b u e => by
    have hb := ne_of_none e h
    rw [upd_ne hb, upd_ne hb]; exact ⟨e, rfl⟩
theorem Grow.trans {F H F1 H1 F2 H2 : Hp} (a : Grow F H F1 H1) (b : Grow F1 H1 F2 H2) : Grow F H F2 H2 :=
  ⟨a.sub.trans b.sub, b.in_, fun x o h => let ⟨h1, f1⟩ := a.keep x o h; let ⟨h2, f2⟩ := b.keep x o h1; ⟨h2, f2.trans f1⟩⟩
theorem Grow.hh {F H F' H' : Hp} (g : Grow F H F' H') : Same H H' := fun a o h => (g.keep a o h).1
theorem CellOk.grow {K : PySem.W.Frag} {mg : Mg} {F H F' H' : Hp} {a : Addr} {c : Cell} (g : Grow F H F' H') (h : CellOk K mg F H a c) : CellOk K mg F' H' a c := by
  exact h.move (fun o e => g.hh _ _ e) g.sub
theorem CellOk.here {K : PySem.W.Frag} {mg : Mg} {F H : Hp} {a : Addr} {c : Cell} (h : CellOk K mg F H a c) : ∃ o, H a = some o := by
  cases c with
  | lst ds => obtain ⟨vs, e, _⟩ := h; exact ⟨_, e⟩
  | dic ks ds => obtain ⟨vs, e, _⟩ := h; exact ⟨_, e⟩
  | dct ks ds => obtain ⟨xs, as, vs, e, _⟩ := h; exact ⟨_, e⟩
  | set ks => obtain ⟨L, e, _⟩ := h; exact ⟨_, e⟩
  | ist ks => obtain ⟨n, e, _⟩ := h; exact ⟨_, e⟩
section
variable {K : PySem.W.Frag} {mg : Mg} {io : List (Nat × Addr)} {F H F' H' : Hp} {σ : St} {ρ : Rho}
theorem R.grow (r : R K mg io F H σ ρ) (g : Grow F H F' H') : R K mg io F' H' σ ρ where
  len := r.len
  sub := g.in_
  dat := fun i x h => let ⟨v, e, q⟩ := r.dat i x h; ⟨v, e, q.mono g.sub⟩
  cel := fun i c h => by
    obtain ⟨a, e, f, q⟩ := r.cel i c h
    obtain ⟨o, ho⟩ := q.here
    exact ⟨a, e, ((g.keep a o ho).2).trans f, q.grow g⟩
  inj := r.inj
  ios := r.ios
theorem Grow.ext (g : Grow F H F' H') : Ext F H σ ρ F' H' σ ρ := ⟨g.sub, fun a o h _ => g.keep a o h, fun _ h => .inl h, fun a h => Same.free g.hh h⟩
end

/-! ### the judgements -/
abbrev _root_.L2.Cx.mgx (X : L2.Cx) : Mg := ⟨X.mg, X.prog, X.w⟩
abbrev ME := Rho → Option (D × Rho)
/-- an operand: a value, or the name in a slot -/
inductive Od where
  | val (d : D) | sl (i : Nat)
abbrev MO := Rho → Option (Od × Rho)
abbrev MA := Rho → Option (List Od × Rho)
abbrev MT := Rho → Option (Bool × Rho)
inductive Fl where
  | nx | bk | ct | rt (d : D)
abbrev MS := Rho → Option (Fl × Rho)

def RepO (K : PySem.W.Frag) (mg : Mg) (F : Hp) (σ : St) : Od → V → Prop
  | .val d, v => Rep K mg F d v
  | .sl i, v => σ[i]? = some (some v)
def RepOs (K : PySem.W.Frag) (mg : Mg) (F : Hp) (σ : St) : List Od → List V → Prop
  | [], vs => vs = []
  | o :: os, vs => ∃ v r, vs = v :: r ∧ RepO K mg F σ o v ∧ RepOs K mg F σ os r
theorem RepO.mono {K : PySem.W.Frag} {mg : Mg} {F F' : Hp} {σ : St} {o : Od} {v : V} (s : Same F F') (h : RepO K mg F σ o v) : RepO K mg F' σ o v := by
  cases o with
  | val d => exact Rep.mono s h
  | sl i => exact h

section
variable (K : PySem.W.Frag) (mg : Mg)
def tE (m : ME) : TE := fun σ H Q => ∃ io F ρ d ρ', R K mg io F H σ ρ ∧ m ρ = some (d, ρ') ∧ ∀ v F' H', Ext F H σ ρ F' H' σ ρ' → R K mg io F' H' σ ρ' → Rep K mg F' d v → Q v H'
def tO (m : MO) : TE := fun σ H Q => ∃ io F ρ o ρ', R K mg io F H σ ρ ∧ m ρ = some (o, ρ') ∧ ∀ v F' H', Ext F H σ ρ F' H' σ ρ' → R K mg io F' H' σ ρ' → RepO K mg F' σ o v → Q v H'
def tA (m : MA) : TA := fun σ H Q => ∃ io F ρ os ρ', R K mg io F H σ ρ ∧ m ρ = some (os, ρ') ∧ ∀ vs F' H', Ext F H σ ρ F' H' σ ρ' → R K mg io F' H' σ ρ' → RepOs K mg F' σ os vs → Q vs H'
def tT (m : MT) : TT := fun σ H Q => ∃ io F ρ b ρ', R K mg io F H σ ρ ∧ m ρ = some (b, ρ') ∧ ∀ F' H', Ext F H σ ρ F' H' σ ρ' → R K mg io F' H' σ ρ' → Q b H'
def endsD (D : Ends) (Fz : Hp) (σ : St) (H : Hp) : Fl → Prop
  | .nx => D.nx σ H
  | .bk => D.bk σ H
  | .ct => D.ct σ H
  | .rt d => ∀ v, Rep K mg Fz d v → D.rt v H
def tS (m : MS) : TS := fun D σ H => ∃ io F ρ fl ρ', R K mg io F H σ ρ ∧ m ρ = some (fl, ρ') ∧ ∀ σ' F' H', Ext F H σ ρ F' H' σ' ρ' → R K mg io F' H' σ' ρ' → endsD K mg D F' σ' H' fl
end
abbrev SE (X : Cx) (e : Expr) (m : ME) : Prop := PE X e (tE X.K X.mgx m)
abbrev SO (X : Cx) (e : Expr) (m : MO) : Prop := PE X e (tO X.K X.mgx m)
abbrev SA (X : Cx) (es : List Expr) (m : MA) : Prop := PA X es (tA X.K X.mgx m)
abbrev ST (X : Cx) (e : Expr) (m : MT) : Prop := PT X e (tT X.K X.mgx m)
abbrev SS (X : Cx) (st : Stmt) (m : MS) : Prop := PS X st (tS X.K X.mgx m)
abbrev SB (X : Cx) (sts : List Stmt) (m : MS) : Prop := PSs X sts (tS X.K X.mgx m)

section
variable {X : Cx} {e : Expr} {es : List Expr} {st : Stmt} {sts : List Stmt}
theorem pe_mk {t : TE} (h : ∀ σ H Q, t σ H Q → ∃ u, PE X e u ∧ u σ H Q) : PE X e t := ⟨fun pins s σ H Q I q => let ⟨u, p, hu⟩ := h σ H Q q; p.run pins s σ H Q I hu⟩
theorem pa_mk {t : TA} (h : ∀ σ H Q, t σ H Q → ∃ u, PA X es u ∧ u σ H Q) : PA X es t := ⟨fun pos pins s σ H Q I q => let ⟨u, p, hu⟩ := h σ H Q q; p.run pos pins s σ H Q I hu⟩
theorem pt_mk {t : TT} (h : ∀ σ H Q, t σ H Q → ∃ u, PT X e u ∧ u σ H Q) : PT X e t := ⟨fun pins s σ H Q I q => let ⟨u, p, hu⟩ := h σ H Q q; p.run pins s σ H Q I hu⟩
theorem ps_mk {t : TS} (h : ∀ D σ H, t D σ H → ∃ u, PS X st u ∧ u D σ H) : PS X st t := ⟨fun pins s σ H D I q => let ⟨u, p, hu⟩ := h D σ H q; p.run pins s σ H D I hu⟩
theorem pss_mk {t : TS} (h : ∀ D σ H, t D σ H → ∃ u, PSs X sts u ∧ u D σ H) : PSs X sts t := ⟨fun pins s σ H D I q => let ⟨u, p, hu⟩ := h D σ H q; p.run pins s σ H D I hu⟩

/-! ### constants, names -/
def mC (d : D) : ME := fun ρ => some (d, ρ)
theorem se_int {i j pos} : SE X (.Constant (.int i) j pos) (mC (.int i)) := pe_mk fun σ H Q ⟨io, F, ρ, d, ρ', r, hm, q⟩ => by
  cases hm
  exact ⟨_, pe_int, q _ F H .refl r (by simp only [Rep])⟩
theorem se_bl {i j pos} : SE X (.Constant (.bool i) j pos) (mC (.bl i)) := pe_mk fun σ H Q ⟨io, F, ρ, d, ρ', r, hm, q⟩ => by
  cases hm
  exact ⟨_, pe_bl, q _ F H .refl r (by simp only [Rep])⟩
theorem se_non {j pos} : SE X (.Constant .none j pos) (mC .non) := pe_mk fun σ H Q ⟨io, F, ρ, d, ρ', r, hm, q⟩ => by
  cases hm
  exact ⟨_, pe_non, q _ F H .refl r (by simp only [Rep])⟩
theorem se_str {x j pos} : SE X (.Constant (.str x) j pos) (mC (.str x)) := pe_mk fun σ H Q ⟨io, F, ρ, d, ρ', r, hm, q⟩ => by
  cases hm
  exact ⟨_, pe_str, q _ F H .refl r (by simp only [Rep])⟩

theorem set_cellAt {ρ : Rho} {i j : Nat} {s : Sl} : cellAt (ρ.set i s) j = if i = j ∧ i < ρ.length then s.cell? else cellAt ρ j := by
  unfold cellAt
  rw [List.getElem?_set]
  by_cases h : i = j
  · subst h
    by_cases h2 : i < ρ.length
    · simp [h2]
    · have : ρ[i]? = none := List.getElem?_eq_none (by omega)
      simp [h2, this]
  · simp [h]
theorem cellAt_lt {ρ : Rho} {i : Nat} {c : Cell} (h : cellAt ρ i = some c) : i < ρ.length := by
  unfold cellAt at h
  cases q : ρ[i]? with
  | none => rw [q] at h; cases h
  | some s => exact (List.getElem?_eq_some_iff.mp q).1

/-- a name as a value: what it owns is frozen -/
def mV (i : Nat) : ME := fun ρ => match ρ[i]? with
  | some (.d x) => some (x, ρ)
  | some (.own (.lst ds)) => some (.lst ds, ρ.set i (.d (.lst ds)))
  | some (.own (.dic ks ds)) => some (.dic ks ds, ρ.set i (.d (.dic ks ds)))
  | some (.own (.dct ks ds)) => some (.dct ks ds, ρ.set i (.d (.dct ks ds)))
  | _ => none
/-- a cell as it is held when it is frozen -/
def Cell.fz : Cell → D
  | .lst ds => .lst ds
  | .dic ks ds => .dic ks ds
  | .dct ks ds => .dct ks ds
  | .set _ => .non
  | .ist _ => .non
/-- a name as an operand -/
def mSl (i : Nat) : MO := fun ρ => match ρ[i]? with
  | some .un => none
  | none => none
  | _ => some (.sl i, ρ)
/-- what stands at a frozen cell's place: a list as it is, a dict as a thing that is known -/
def FzO (u : HO) : Cell → HO → Prop
  | .lst _, o => o = u
  | .set _, _ => False
  | .ist _, _ => False
  | _, o => ∃ od, o = .frz od u
theorem CellOk.rep {K : PySem.W.Frag} {mg : Mg} {F H : Hp} {a : Addr} {c : Cell} {u o : HO} (h : CellOk K mg F H a c) (hn : F a = none) (ho : H a = some u) (hz : FzO u c o) : Rep K mg (upd F a o) c.fz (.ref a) := by
  have sFF : Same F (upd F a o) := fun b u hb => by
    have : b ≠ a := by rintro rfl; rw [hn] at hb; cases hb
    rw [upd_ne this]; exact hb
  cases c with
  | lst ds =>
    obtain ⟨vs, e, r⟩ := h
    rw [ho] at e; cases e
    cases hz
    simp only [Cell.fz, Rep]
    exact ⟨a, vs, rfl, upd_same, r.mono sFF⟩
  | dic ks ds =>
    obtain ⟨vs, e, n, r⟩ := h
    rw [ho] at e; cases e
    obtain ⟨od, rfl⟩ := hz
    simp only [Cell.fz, Rep]
    exact ⟨a, od, vs, rfl, upd_same, n, r.mono sFF⟩
  | dct ks ds =>
    obtain ⟨xs, as, vs, e, b, n, nd, m, r1, rv, r2⟩ := h
    rw [ho] at e; cases e
    obtain ⟨od, rfl⟩ := hz
    simp only [Cell.fz, Rep]
    exact ⟨a, od, xs, as, vs, rfl, upd_same, b, n, nd, m, r1.mono sFF, rv, r2.mono sFF⟩
  | set ks => cases hz
  | ist ks => cases hz
/-- freezing -/
theorem R.freezeG {K : PySem.W.Frag} {mg : Mg} {io : List (Nat × Addr)} {F H H' : Hp} {σ : St} {ρ : Rho} {i : Nat} {c0 : Cell} {a : Addr} {u o : HO} (r : R K mg io F H σ ρ) (h : ρ[i]? = some (.own c0)) (e : σ[i]? = some (some (.ref a))) (hv : H a = some u) (hz : FzO u c0 o) (h1 : H' a = some o) (h2 : ∀ b, b ≠ a → H' b = H b) :
    Rep K mg (upd F a o) c0.fz (.ref a) ∧ R K mg io (upd F a o) H' σ (ρ.set i (.d c0.fz)) ∧ Ext F H σ ρ (upd F a o) H' σ (ρ.set i (.d c0.fz)) := by
  have hc : cellAt ρ i = some c0 := by unfold cellAt; rw [h]; rfl
  obtain ⟨a', e', f, q⟩ := r.cel i _ hc
  rw [e] at e'; cases e'
  have sFF : Same F (upd F a o) := fun b u hb => by
    have : b ≠ a := by rintro rfl; rw [f] at hb; cases hb
    rw [upd_ne this]; exact hb
  have hrep : Rep K mg (upd F a o) c0.fz (.ref a) := q.rep f hv hz
  have hlt := cellAt_lt hc
  have hcs : ∀ j c, cellAt (ρ.set i (.d c0.fz)) j = some c → i ≠ j ∧ cellAt ρ j = some c := fun j c hj => by
    rw [set_cellAt] at hj
    by_cases z : i = j
    · subst z; simp [hlt, Sl.cell?] at hj
    · simp only [z, false_and, if_false] at hj
      exact ⟨z, hj⟩
  refine ⟨hrep, ⟨by rw [List.length_set]; exact r.len, fun b u hb => ?_, fun j x hj => ?_, fun j c hj => ?_, fun j k c c' b hj hk => ?_, fun p hp => ?_⟩, ⟨sFF, fun b o hb n => ?_, fun b hb => ?_, fun b hb => ?_⟩⟩
  · by_cases z : b = a
    · subst z; rw [upd_same] at hb; rw [h1]; exact hb
    · rw [upd_ne z] at hb; rw [h2 b z]; exact r.sub _ _ hb
  · rw [List.getElem?_set] at hj
    by_cases z : i = j
    · subst z
      simp only [if_true, hlt, Option.some.injEq, Sl.d.injEq] at hj
      subst hj
      exact ⟨_, e, hrep⟩
    · simp only [z, if_false] at hj
      obtain ⟨v, e', q'⟩ := r.dat j x hj
      exact ⟨v, e', q'.mono sFF⟩
  · obtain ⟨z, hj⟩ := hcs j c hj
    obtain ⟨b, e', f', q'⟩ := r.cel j c hj
    have hba : b ≠ a := by
      rintro rfl
      exact z (r.inj i j _ _ _ hc hj e e')
    exact ⟨b, e', by rw [upd_ne hba]; exact f', q'.move (fun o e => by rw [h2 b hba]; exact e) sFF⟩
  · obtain ⟨_, hj⟩ := hcs j c hj
    obtain ⟨_, hk⟩ := hcs k c' hk
    exact r.inj j k c c' b hj hk
  · obtain ⟨h1, c, h2⟩ := r.ios p hp
    refine ⟨h1, c, ?_⟩
    have : i ≠ p.1 := by rintro rfl; rw [h] at h2; cases h2
    rw [List.getElem?_set_ne this]; exact h2
  · have : b ≠ a := by rintro rfl; exact n ⟨i, _, hc, e⟩
    exact ⟨by rw [h2 b this]; exact hb, by rw [upd_ne this]⟩
  · obtain ⟨j, c, hj, hb⟩ := hb
    obtain ⟨_, hj⟩ := hcs j c hj
    exact .inl ⟨j, c, hj, hb⟩
  · by_cases z : b = a
    · subst z; rw [h1] at hb; cases hb
    · rw [h2 b z] at hb; exact hb
theorem R.freeze {K : PySem.W.Frag} {mg : Mg} {io : List (Nat × Addr)} {F H : Hp} {σ : St} {ρ : Rho} {i : Nat} {ds : List D} (r : R K mg io F H σ ρ) (h : ρ[i]? = some (.own (.lst ds))) :
    ∃ F' a, σ[i]? = some (some (.ref a)) ∧ Rep K mg F' (.lst ds) (.ref a) ∧ R K mg io F' H σ (ρ.set i (.d (.lst ds))) ∧ Ext F H σ ρ F' H σ (ρ.set i (.d (.lst ds))) := by
  obtain ⟨a, e, f, q⟩ := r.cel i _ (show cellAt ρ i = some (.lst ds) by unfold cellAt; rw [h]; rfl)
  obtain ⟨u, hu⟩ := q.here
  obtain ⟨p, r', x'⟩ := r.freezeG (H' := H) (o := u) h e hu rfl hu (fun _ _ => rfl)
  exact ⟨_, a, e, p, r', x'⟩
/-- a thing that is read from now on, never written -/
def tGh (t : TE) : TE := fun σ H Q => ∃ d u, H d = some u ∧ Mut (some u) ∧ ∀ od, t σ (upd H d (.frz od u)) Q
def tGhE (t : TE) : TE := fun σ H Q => t σ H fun v H1 => ∃ d u, H1 d = some u ∧ Mut (some u) ∧ ∀ od, Q v (upd H1 d (.frz od u))
theorem pe_gh {t : TE} (h : PE X e t) : PE X e (tGh t) := ⟨fun pins s σ H Q I ⟨d, u, hd, mu, q⟩ => by
  obtain ⟨od, I1⟩ := I.lock hd mu
  exact h.run pins s σ _ Q I1 (q od)⟩
theorem pe_ghE {t : TE} (h : PE X e t) : PE X e (tGhE t) := ⟨fun pins s σ H Q I q =>
  thn (h.run pins s σ H _ I q) fun u s1 ⟨v, H1, I1, rv, d, w, hd, mu, q1⟩ => by
    obtain ⟨od, I2⟩ := I1.lock hd mu
    exact ⟨v, _, I2, rv, q1 od⟩⟩
theorem CellOk.mut {K : PySem.W.Frag} {mg : Mg} {F H : Hp} {a : Addr} {c : Cell} {u : HO} (h : CellOk K mg F H a c) (hu : H a = some u) : Mut (some u) := by
  cases c with
  | lst ds => obtain ⟨vs, e, _⟩ := h; rw [hu] at e; cases e; exact True.intro
  | dic ks ds => obtain ⟨vs, e, _⟩ := h; rw [hu] at e; cases e; exact True.intro
  | dct ks ds => obtain ⟨xs, as, vs, e, _⟩ := h; rw [hu] at e; cases e; exact True.intro
  | set ks => obtain ⟨L, e, _⟩ := h; rw [hu] at e; cases e; exact True.intro
  | ist ks => obtain ⟨n, e, _⟩ := h; rw [hu] at e; cases e; exact True.intro

theorem se_v (i : Nat) {x : Str} {pos : Pos} (hN : X.N[i]? = some x := by rfl) (hv : Vis X.env.scope x := by first | exact Or.inl rfl | exact Or.inr (Or.inl rfl) | exact Or.inr (Or.inr rfl)) (hd : (x == ("__debug__" : Str)) = false := by decide)
    (hcd : (x == ("__classdict__" : Str)) = false := by decide) : SE X (.Name x pos) (mV i) := pe_mk fun σ H Q ⟨io, F, ρ, d, ρ', r, hm, q⟩ => by
  have fz : ∀ c0 : Cell, ρ[i]? = some (.own c0) → (∀ u od, FzO u c0 (.frz od u)) → (d, ρ') = (c0.fz, ρ.set i (.d c0.fz)) → ∃ u, PE X (.Name x pos) u ∧ u σ H Q := fun c0 hx hz z => by
    cases z
    obtain ⟨a, e, f, c⟩ := r.cel i c0 (by unfold cellAt; rw [hx]; rfl)
    obtain ⟨u, hu⟩ := c.here
    refine ⟨_, pe_gh (pe_var hN hv hd hcd), a, u, hu, c.mut hu, fun od => ?_⟩
    obtain ⟨p, r', x'⟩ := r.freezeG (H' := upd H a (.frz od u)) hx e hu (hz u od) upd_same (fun b hb => upd_ne hb)
    exact ⟨_, e, q _ _ _ x' r' p⟩
  unfold mV at hm
  split at hm
  · rename_i x hx
    cases hm
    refine ⟨_, pe_var hN hv hd hcd, ?_⟩
    obtain ⟨v, e, p⟩ := r.dat i _ hx
    exact ⟨v, e, q _ F H .refl r p⟩
  · rename_i ds hx
    cases hm
    refine ⟨_, pe_var hN hv hd hcd, ?_⟩
    obtain ⟨F', a, e, p, r', x'⟩ := r.freeze hx
    exact ⟨_, e, q _ F' H x' r' p⟩
  · rename_i ks ds hx
    exact fz (.dic ks ds) hx (fun u od => ⟨od, rfl⟩) (Option.some.inj hm).symm
  · rename_i ks ds hx
    exact fz (.dct ks ds) hx (fun u od => ⟨od, rfl⟩) (Option.some.inj hm).symm
  · cases hm
theorem so_sl (i : Nat) {x : Str} {pos : Pos} (hN : X.N[i]? = some x := by rfl) (hv : Vis X.env.scope x := by first | exact Or.inl rfl | exact Or.inr (Or.inl rfl) | exact Or.inr (Or.inr rfl)) (hd : (x == ("__debug__" : Str)) = false := by decide)
    (hcd : (x == ("__classdict__" : Str)) = false := by decide) : SO X (.Name x pos) (mSl i) := pe_mk fun σ H Q ⟨io, F, ρ, d, ρ', r, hm, q⟩ => by
  refine ⟨_, pe_var hN hv hd hcd, ?_⟩
  have fin : ∀ v, σ[i]? = some (some v) → (d, ρ') = (Od.sl i, ρ) → tVar i σ H Q := fun v e z => by
    cases z
    exact ⟨v, e, q v F H .refl r e⟩
  unfold mSl at hm
  split at hm
  · cases hm
  · cases hm
  · rename_i s h1 h2
    cases hs : ρ[i]? with
    | none => exact absurd hs h2
    | some s =>
      cases s with
      | un => exact absurd hs h1
      | d x =>
        obtain ⟨v, e, p⟩ := r.dat i _ hs
        exact fin v e (Option.some.inj hm).symm
      | own c =>
        obtain ⟨a, e, _⟩ := r.cel i c (by unfold cellAt; rw [hs]; rfl)
        exact fin _ e (Option.some.inj hm).symm
      | io c =>
        obtain ⟨a, e, _⟩ := r.cel i c (by unfold cellAt; rw [hs]; rfl)
        exact fin _ e (Option.some.inj hm).symm
def mVal (m : ME) : MO := fun ρ => match m ρ with
  | some (d, ρ') => some (.val d, ρ')
  | none => none
theorem so_e {m : ME} (h : SE X e m) : SO X e (mVal m) := pe_mk fun σ H Q ⟨io, F, ρ, d, ρ', r, hm, q⟩ => by
  refine ⟨_, h, ?_⟩
  unfold mVal at hm
  split at hm
  · rename_i d1 ρ1 h1
    cases hm
    exact ⟨io, F, ρ, d1, _, r, h1, fun v F' H' x r' p => q v F' H' x r' p⟩
  · cases hm

/-! ### what an operand holds -/
def Cell.dat : Cell → Option D
  | .lst ds => some (.lst ds)
  | _ => none
def res (ρ : Rho) : Od → Option D
  | .val d => some d
  | .sl i => match ρ[i]? with
    | some (.d x) => some x
    | some (.own c) => c.dat
    | some (.io c) => c.dat
    | _ => none
/-- the value is held now: frozen, or by a slot -/
def RepP (K : PySem.W.Frag) (mg : Mg) (F H : Hp) (d : D) (v : V) : Prop := Rep K mg F d v ∨ ∃ ds a vs, d = .lst ds ∧ v = .ref a ∧ H a = some (.lst vs) ∧ RepL K mg F ds vs
section
variable {K : PySem.W.Frag} {mg : Mg} {io : List (Nat × Addr)} {F H : Hp} {σ : St} {ρ : Rho} {v : V}
theorem R.res (r : R K mg io F H σ ρ) {o : Od} {d : D} (h : RepO K mg F σ o v) (hd : res ρ o = some d) : RepP K mg F H d v := by
  cases o with
  | val x => cases hd; exact .inl h
  | sl i =>
    have h : σ[i]? = some (some v) := h
    unfold Z.res at hd
    dsimp only at hd
    split at hd
    · rename_i x hx
      cases hd
      obtain ⟨w, e, p⟩ := r.dat i _ hx
      rw [h] at e; cases e
      exact .inl p
    · rename_i c hx
      obtain ⟨a, e, f, q⟩ := r.cel i c (by unfold cellAt; rw [hx]; rfl)
      rw [h] at e; cases e
      cases c with
      | lst ds => cases hd; obtain ⟨vs, h1, h2⟩ := q; exact .inr ⟨ds, a, vs, rfl, rfl, h1, h2⟩
      | dic ks ds => cases hd
      | dct ks ds => cases hd
      | set ks => cases hd
      | ist ks => cases hd
    · rename_i c hx
      obtain ⟨a, e, f, q⟩ := r.cel i c (by unfold cellAt; rw [hx]; rfl)
      rw [h] at e; cases e
      cases c with
      | lst ds => cases hd; obtain ⟨vs, h1, h2⟩ := q; exact .inr ⟨ds, a, vs, rfl, rfl, h1, h2⟩
      | dic ks ds => cases hd
      | dct ks ds => cases hd
      | set ks => cases hd
      | ist ks => cases hd
    · cases hd
theorem RepP.int {i : Int} (h : RepP K mg F H (.int i) v) : v = .int i := by
  rcases h with h | ⟨_, _, _, e, _⟩
  · simpa only [Rep] using h
  · cases e
theorem RepP.bl {i : Bool} (h : RepP K mg F H (.bl i) v) : v = .bl i := by
  rcases h with h | ⟨_, _, _, e, _⟩
  · simpa only [Rep] using h
  · cases e
theorem RepP.str {i : Str} (h : RepP K mg F H (.str i) v) : v = .str i := by
  rcases h with h | ⟨_, _, _, e, _⟩
  · simpa only [Rep] using h
  · cases e
theorem RepP.non (h : RepP K mg F H .non v) : v = .non := by
  rcases h with h | ⟨_, _, _, e, _⟩
  · simpa only [Rep] using h
  · cases e
theorem RepP.lst {ds : List D} (s : Same F H) (h : RepP K mg F H (.lst ds) v) : ∃ a vs, v = .ref a ∧ H a = some (.lst vs) ∧ RepL K mg F ds vs := by
  rcases h with h | ⟨es, a, vs, e, ev, h, q⟩
  · simp only [Rep] at h
    obtain ⟨a, vs, e, h, q⟩ := h
    exact ⟨a, vs, e, s _ _ h, q⟩
  · cases e
    exact ⟨a, vs, ev, h, q⟩
theorem RepP.tupX {ds : List D} (h : RepP K mg F H (.tup ds) v) : ∃ a vs, v = .ref a ∧ TupX K F a vs ∧ RepL K mg F ds vs := by
  rcases h with h | ⟨es, a, vs, e, ev, h, q⟩
  · simp only [Rep] at h
    exact h
  · cases e
theorem RepP.tup {ds : List D} (h : RepP K mg F H (.tup ds) v) : ∃ a vs, v = .ref a ∧ SqT K F a vs ∧ RepL K mg F ds vs := by
  obtain ⟨a, vs, e, h, r⟩ := h.tupX
  exact ⟨a, vs, e, h.t, r⟩
theorem RepP.prs {ds : List D} (h : RepP K mg F H (.prs ds) v) : ∃ a vs, v = .ref a ∧ SqT K F a vs ∧ RepL K mg F ds vs := by
  rcases h with h | ⟨es, a, vs, e, ev, h, q⟩
  · simp only [Rep] at h
    exact h
  · cases e
theorem RepP.fn {n : Str} (h : RepP K mg F H (.fn n) v) : ∃ a, v = .ref a ∧ mg n = some (.ref a) := by
  rcases h with h | ⟨es, a, vs, e, ev, h, q⟩
  · simpa only [Rep] using h
  · cases e
theorem RepP.scr {ns : List Int} (s : Same F H) (h : RepP K mg F H (.scr ns) v) : ∃ a, v = .ref a ∧ SqL K H a (ns.map V.int) := by
  rcases h with h | ⟨es, a, vs, e, ev, h, q⟩
  · simp only [Rep] at h
    obtain ⟨a, e, h⟩ := h
    exact ⟨a, e, s.seq h⟩
  · cases e
end
end
end Z
/-! Operators, comparisons, subscripts, calls of built-ins over data. -/
namespace Z
open PySem PySem.Spec PyProof.Rows L2

/-- what is wanted of a result d: at any growth -/
def Post (K : PySem.W.Frag) (mg : Mg) (F H : Hp) (Q : VK) (d : D) : Prop := ∀ u F' H', Grow F H F' H' → Rep K mg F' d u → Q u H'
section
variable {K : PySem.W.Frag} {mg : Mg} {F H : Hp} {Q : VK} {d : D} {ds : List D} {u : V} {vs : List V}
theorem Post.here (p : Post K mg F H Q d) (s : Same F H) (r : Rep K mg F d u) : Q u H := p u F H (.refl s) r
theorem Post.int {i : Int} (p : Post K mg F H Q (.int i)) (s : Same F H) : Q (.int i) H := p.here s (by simp only [Rep])
theorem Post.bl {i : Bool} (p : Post K mg F H Q (.bl i)) (s : Same F H) : Q (.bl i) H := p.here s (by simp only [Rep])
theorem Post.str {i : Str} (p : Post K mg F H Q (.str i)) (s : Same F H) : Q (.str i) H := p.here s (by simp only [Rep])
theorem Post.newL (p : Post K mg F H Q (.lst ds)) (s : Same F H) (r : RepL K mg F ds vs) : ∀ q, H q = none → Q (.ref q) (upd H q (.lst vs)) := fun q hq => by
  refine p _ _ _ (.new s hq) ?_
  simp only [Rep]
  exact ⟨q, vs, rfl, upd_same, r.mono (Grow.new (o := .lst vs) s hq).sub⟩
theorem Post.newT (p : Post K mg F H Q (.tup ds)) (s : Same F H) (r : RepL K mg F ds vs) : NewT H vs Q := fun q its hq => by
  refine p _ _ _ (.new s hq) ?_
  simp only [Rep]
  exact ⟨q, vs, rfl, .inl ⟨its, upd_same⟩, r.mono (Grow.new (o := .frz (xT its) (.tup vs)) s hq).sub⟩
end

def Pure2 (K : PySem.W.Frag) (mg : Mg) (r : R2) (dx dy d : D) : Prop :=
  ∀ F H v w Q, Same F H → RepP K mg F H dx v → RepP K mg F H dy w → Post K mg F H Q d → r v w H Q
def Op2 (X : Cx) (f : Value → Value → Sem Value) (g : D → D → Option D) : Prop := ∀ dx dy d, g dx dy = some d → ∃ r, OpR X f r ∧ Pure2 X.K X.mgx r dx dy d
def Ix2 (X : Cx) (g : D → D → Option D) : Prop := ∀ dx dy d, g dx dy = some d → ∃ r, IxR X r ∧ Pure2 X.K X.mgx r dx dy d

/-- two operands, from the left -/
def mB (g : D → D → Option D) (ma mb : MO) : ME := fun ρ => match ma ρ with
  | some (x, ρ1) => match mb ρ1 with
    | some (y, ρ2) => match res ρ2 x, res ρ2 y with
      | some dx, some dy => match g dx dy with
        | some d => some (d, ρ2)
        | none => none
      | _, _ => none
    | none => none
  | none => none
theorem mB_some {g : D → D → Option D} {ma mb : MO} {ρ ρ' : Rho} {d : D} (h : mB g ma mb ρ = some (d, ρ')) : ∃ x ρ1 y dx dy, ma ρ = some (x, ρ1) ∧ mb ρ1 = some (y, ρ') ∧ res ρ' x = some dx ∧ res ρ' y = some dy ∧ g dx dy = some d := by
  unfold mB at h
  split at h <;> try cases h
  rename_i x ρ1 h1
  split at h <;> try cases h
  rename_i y ρ2 h2
  split at h <;> try cases h
  rename_i dx dy hx hy
  split at h <;> try cases h
  rename_i d hd
  exact ⟨x, ρ1, y, dx, dy, h1, h2, hx, hy, hd⟩
section
variable {X : Cx} {a b : Expr} {ma mb : MO} {pos : Pos} {g : D → D → Option D}
theorem tO2 {K : PySem.W.Frag} {mg : Mg} {σ : St} {H : Hp} {Q : VK} {r : R2} {dx dy d : D} {io : List (Nat × Addr)} {F : Hp} {ρ ρ1 ρ' : Rho} {x y : Od} (hr : R K mg io F H σ ρ) (h1 : ma ρ = some (x, ρ1)) (h2 : mb ρ1 = some (y, ρ')) (hx : res ρ' x = some dx) (hy : res ρ' y = some dy)
    (p : Pure2 K mg r dx dy d) (q : ∀ v F' H', Ext F H σ ρ F' H' σ ρ' → R K mg io F' H' σ ρ' → Rep K mg F' d v → Q v H') : tOp r (tO K mg ma) (tO K mg mb) σ H Q :=
  ⟨io, F, ρ, x, ρ1, hr, h1, fun v F1 H1 x1 r1 p1 => ⟨io, F1, ρ1, y, ρ', r1, h2, fun w F2 H2 x2 r2 p2 =>
    p F2 H2 v w Q r2.sub (r2.res (p1.mono x2.sub) hx) (r2.res p2 hy) fun u F' H' gr rp => q u F' H' ((x1.trans x2).trans gr.ext) (r2.grow gr) rp⟩⟩
theorem se_op {op : Operator} (hg : Op2 X (binaryOp op) g) (ha : SO X a ma) (hb : SO X b mb) : SE X (.BinOp a op b pos) (mB g ma mb) := pe_mk fun σ H Q ⟨io, F, ρ, d, ρ', r, hm, q⟩ => by
  obtain ⟨x, ρ1, y, dx, dy, h1, h2, hx, hy, hd⟩ := mB_some hm
  obtain ⟨rr, ho, p⟩ := hg dx dy d hd
  exact ⟨_, pe_op ho ha hb, tO2 r h1 h2 hx hy p q⟩
theorem se_cmp {op : CmpOp} (hg : Op2 X (compareOp op) g) (ha : SO X a ma) (hb : SO X b mb) (hm : behindInMarks op b = false := by first | exact nomark _ | rfl) : SE X (.Compare a [op] [b] pos) (mB g ma mb) := pe_mk fun σ H Q ⟨io, F, ρ, d, ρ', r, hm', q⟩ => by
  obtain ⟨x, ρ1, y, dx, dy, h1, h2, hx, hy, hd⟩ := mB_some hm'
  obtain ⟨rr, ho, p⟩ := hg dx dy d hd
  exact ⟨_, pe_cmpR ho ha hb hm, tO2 r h1 h2 hx hy p q⟩
theorem se_ix (hg : Ix2 X g) (ha : SO X a ma) (hb : SO X b mb) (hs : PlainIx b := by intro _ _; rfl) : SE X (.Subscript a b pos) (mB g ma mb) := pe_mk fun σ H Q ⟨io, F, ρ, d, ρ', r, hm, q⟩ => by
  obtain ⟨x, ρ1, y, dx, dy, h1, h2, hx, hy, hd⟩ := mB_some hm
  obtain ⟨rr, ho, p⟩ := hg dx dy d hd
  exact ⟨_, pe_ix ho ha hb hs, tO2 r h1 h2 hx hy p q⟩
end

/-! ### operators -/
abbrev LIM : Nat := 65536
theorem lim_line : LIM ≤ sizeLine := by decide
def addD : D → D → Option D
  | .int i, .int j => some (.int (i + j))
  | .str x, .str y => if x.length + y.length ≤ LIM then some (.str (x ++ y)) else none
  | .lst xs, .lst ys => if xs.length + ys.length ≤ LIM then some (.lst (xs ++ ys)) else none
  | .tup xs, .tup ys => if xs.length + ys.length ≤ LIM then some (.tup (xs ++ ys)) else none
  | _, _ => none
def subD : D → D → Option D
  | .int i, .int j => some (.int (i - j))
  | _, _ => none
def mulD : D → D → Option D
  | .int i, .int j => if (-18446744073709551616 < i ∧ i < 18446744073709551616) ∨ (-18446744073709551616 < j ∧ j < 18446744073709551616) then some (.int (i * j)) else if i.natAbs.log2 + j.natAbs.log2 < 1000000 then some (.int (i * j)) else none
  | .lst xs, .int k => if -1000 < k ∧ k < 1000 ∧ xs.length < 60 then some (.lst (List.replicate k.toNat xs).flatten) else if -60 < k ∧ k < 60 ∧ xs.length < 1000 then some (.lst (List.replicate k.toNat xs).flatten) else none
  | .tup xs, .int k => if 2 ≤ k ∧ k ≤ 1000 ∧ xs ≠ [] ∧ xs.length ≤ 60 then some (.tup (List.replicate k.toNat xs).flatten) else none
  | _, _ => none
def fdivD : D → D → Option D
  | .int i, .int j => if 0 < j ∧ j < 1073741824 then some (.int (i / j)) else none
  | _, _ => none
def modD : D → D → Option D
  | .int i, .int j => if 0 < j then some (.int (i % j)) else none
  | _, _ => none
def powD : D → D → Option D
  | .int i, .int j => if 0 ≤ j ∧ j ≤ 1000 ∧ i.natAbs < 18446744073709551616 then some (.int (i ^ j.toNat)) else none
  | _, _ => none

theorem RepL.nil_iff {K : PySem.W.Frag} {mg : Mg} {F : Hp} {ds : List D} {vs : List V} (r : RepL K mg F ds vs) : vs = [] ↔ ds = [] := by
  have h := r.len
  constructor
  · rintro rfl
    exact List.length_eq_zero_iff.mp h.symm
  · rintro rfl
    exact List.length_eq_zero_iff.mp h
section
variable {X : Cx}
theorem o_add : Op2 X (binaryOp .Add) addD := by
  intro dx dy d h
  unfold addD at h
  split at h
  · rename_i i j
    cases h
    exact ⟨_, op_add, fun F H v w Q s p1 p2 q => ⟨i, j, p1.int, p2.int, q.int s⟩⟩
  · rename_i i j
    split at h <;> cases h
    rename_i hl
    exact ⟨_, op_add_str, fun F H v w Q s p1 p2 q => ⟨i, j, p1.str, p2.str, Nat.le_trans hl lim_line, q.str s⟩⟩
  · rename_i xs ys
    split at h <;> cases h
    rename_i hl
    refine ⟨_, op_cat, fun F H v w Q s p1 p2 q => ?_⟩
    obtain ⟨a, vs, rfl, h1, r1⟩ := p1.lst s
    obtain ⟨b, ws, rfl, h2, r2⟩ := p2.lst s
    exact ⟨a, b, vs, ws, rfl, rfl, h1, h2, by rw [r1.len, r2.len]; exact Nat.le_trans hl lim_line, q.newL s (r1.append r2)⟩
  · rename_i xs ys
    split at h <;> cases h
    rename_i hl
    refine ⟨_, op_catX, fun F H v w Q s p1 p2 q => ?_⟩
    obtain ⟨a, vs, rfl, h1, r1⟩ := p1.tupX
    obtain ⟨b, ws, rfl, h2, r2⟩ := p2.tupX
    refine ⟨a, b, vs, ws, rfl, rfl, Same.tup s h1.t, Same.tup s h2.t, by rw [r1.len, r2.len]; exact Nat.le_trans hl lim_line, fun e => ?_, fun _ e => ?_, fun _ _ => q.newT s (r1.append r2)⟩
    · have : xs = [] := r1.nil_iff.mp e
      subst this
      exact q.here s (by simp only [Rep]; exact ⟨b, ws, rfl, h2, r2⟩)
    · have : ys = [] := r2.nil_iff.mp e
      subst this
      exact q.here s (by simp only [Rep, List.append_nil]; exact ⟨a, vs, rfl, h1, r1⟩)
  · cases h
theorem o_sub : Op2 X (binaryOp .Sub) subD := by
  intro dx dy d h
  unfold subD at h
  split at h
  · rename_i i j
    cases h
    exact ⟨_, op_sub, fun F H v w Q s p1 p2 q => ⟨i, j, p1.int, p2.int, q.int s⟩⟩
  · cases h
theorem o_mul : Op2 X (binaryOp .Mult) mulD := by
  intro dx dy d h
  unfold mulD at h
  split at h
  · rename_i i j
    split at h
    · rename_i hc
      cases h
      exact ⟨_, op_mul, fun F H v w Q s p1 p2 q => ⟨i, j, p1.int, p2.int, hc, q.int s⟩⟩
    · split at h <;> cases h
      rename_i hc
      exact ⟨_, op_mulW, fun F H v w Q s p1 p2 q => ⟨i, j, p1.int, p2.int, hc, q.int s⟩⟩
  · rename_i xs k
    split at h
    · rename_i hl
      cases h
      refine ⟨_, op_rep, fun F H v w Q s p1 p2 q => ?_⟩
      obtain ⟨a, vs, rfl, h1, r1⟩ := p1.lst s
      refine ⟨a, k, vs, rfl, p2.int, h1, by omega, by omega, ?_, q.newL s (r1.rep _)⟩
      have h2 : vs.length < 60 := by rw [r1.len]; exact hl.2.2
      have h3 : k.toNat ≤ 1000 := by omega
      have : vs.length * k.toNat ≤ 60 * 1000 := Nat.mul_le_mul (by omega) h3
      exact Nat.le_trans this (Nat.le_trans (by decide) lim_line)
    · split at h <;> cases h
      rename_i hl
      refine ⟨_, op_rep, fun F H v w Q s p1 p2 q => ?_⟩
      obtain ⟨a, vs, rfl, h1, r1⟩ := p1.lst s
      refine ⟨a, k, vs, rfl, p2.int, h1, by omega, by omega, ?_, q.newL s (r1.rep _)⟩
      have h2 : vs.length < 1000 := by rw [r1.len]; exact hl.2.2
      have h3 : k.toNat ≤ 60 := by omega
      have : vs.length * k.toNat ≤ 1000 * 60 := Nat.mul_le_mul (by omega) h3
      exact Nat.le_trans this (Nat.le_trans (by decide) lim_line)
  · rename_i xs k
    split at h <;> cases h
    rename_i hl
    refine ⟨_, op_repX, fun F H v w Q s p1 p2 q => ?_⟩
    obtain ⟨a, vs, rfl, h1, r1⟩ := p1.tup
    refine ⟨a, k, vs, rfl, p2.int, Same.tup s h1, fun e => hl.2.2.1 (r1.nil_iff.mp e), hl.1, hl.2.1, by rw [r1.len]; omega, q.newT s (r1.rep _)⟩
  · cases h
theorem o_fdiv : Op2 X (binaryOp .FloorDiv) fdivD := by
  intro dx dy d h
  unfold fdivD at h
  split at h
  · rename_i i j
    split at h <;> cases h
    rename_i hc
    exact ⟨_, op_fdiv, fun F H v w Q s p1 p2 q => ⟨i, j, p1.int, p2.int, hc, q.int s⟩⟩
  · cases h
theorem o_mod : Op2 X (binaryOp .Mod) modD := by
  intro dx dy d h
  unfold modD at h
  split at h
  · rename_i i j
    split at h <;> cases h
    rename_i hc
    exact ⟨_, op_mod, fun F H v w Q s p1 p2 q => ⟨i, j, p1.int, p2.int, hc, q.int s⟩⟩
  · cases h
theorem o_pow : Op2 X (binaryOp .Pow) powD := by
  intro dx dy d h
  unfold powD at h
  split at h
  · rename_i i j
    split at h <;> cases h
    rename_i hc
    exact ⟨_, op_pow, fun F H v w Q s p1 p2 q => ⟨i, j, p1.int, p2.int, ⟨hc.1, by omega, hc.2.2⟩, q.int s⟩⟩
  · cases h
end

/-! ### comparisons -/
def D.flat : D → Bool
  | .non | .bl _ | .int _ | .str _ => true
  | _ => false
mutual
def D.toP : D → PyData
  | .non => .none
  | .bl b => .bool b
  | .int i => .int i
  | .str x => .str x
  | .fn _ => .none
  | .raw _ => .none
  | .scr ns => .list (ns.map PyData.int)
  | .lst ds => .list (D.toPs ds)
  | .tup ds => .tuple (D.toPs ds)
  | .prs ds => .tuple (D.toPs ds)
  | .obj _ _ _ => .none
  | .dic _ _ => .none
  | .dct _ _ => .none
def D.toPs : List D → List PyData
  | [] => []
  | d :: ds => D.toP d :: D.toPs ds
end
mutual
/-- data without defs -/
def D.noFn : D → Bool
  | .fn _ => false
  | .raw _ => false
  | .lst ds => D.noFns ds
  | .tup ds => D.noFns ds
  | .prs ds => D.noFns ds
  | .obj _ _ _ => false
  | .dic _ _ => false
  | .dct _ _ => false
  | _ => true
def D.noFns : List D → Bool
  | [] => true
  | d :: ds => D.noFn d && D.noFns ds
end
theorem dpAll_ints {K : PySem.W.Frag} {H : Hp} : ∀ ns : List Int, DpAll K H (ns.map V.int) (ns.map PyData.int)
  | [] => .nil
  | n :: ns => .cons (.int n) (dpAll_ints ns)
section
variable {K : PySem.W.Frag} {mg : Mg} {F H : Hp}
mutual
theorem Rep.dp (s : Same F H) : ∀ {d : D} {v : V}, d.noFn = true → Rep K mg F d v → Dp K H v d.toP
  | .non, _, _, h => by simp only [Rep] at h; subst h; simp only [D.toP]; exact .non
  | .bl _, _, _, h => by simp only [Rep] at h; subst h; simp only [D.toP]; exact .bl _
  | .int _, _, _, h => by simp only [Rep] at h; subst h; simp only [D.toP]; exact .int _
  | .str _, _, _, h => by simp only [Rep] at h; subst h; simp only [D.toP]; exact .str _
  | .fn _, _, n, _ => by simp only [D.noFn] at n; cases n
  | .raw _, _, n, _ => by simp only [D.noFn] at n; cases n
  | .scr ns, _, _, h => by
    simp only [Rep] at h
    obtain ⟨a, rfl, q⟩ := h
    simp only [D.toP]
    exact .lst (s.seq q) (dpAll_ints ns)
  | .lst ds, _, n, h => by
    simp only [Rep] at h
    obtain ⟨a, vs, rfl, q, r⟩ := h
    simp only [D.toP]
    simp only [D.noFn] at n
    exact .lst (SqL.of (s _ _ q)) (RepL.dp s n r)
  | .tup ds, _, n, h => by
    simp only [Rep] at h
    obtain ⟨a, vs, rfl, q, r⟩ := h
    simp only [D.toP]
    simp only [D.noFn] at n
    exact .tup (Same.tup s q.t) (RepL.dp s n r)
  | .prs ds, _, n, h => by
    simp only [Rep] at h
    obtain ⟨a, vs, rfl, q, r⟩ := h
    simp only [D.toP]
    simp only [D.noFn] at n
    exact .tup (Same.tup s q) (RepL.dp s n r)
  | .obj _ _ _, _, n, _ => by simp only [D.noFn] at n; cases n
  | .dic _ _, _, n, _ => by simp only [D.noFn] at n; cases n
  | .dct _ _, _, n, _ => by simp only [D.noFn] at n; cases n
theorem RepL.dp (s : Same F H) : ∀ {ds : List D} {vs : List V}, D.noFns ds = true → RepL K mg F ds vs → DpAll K H vs (D.toPs ds)
  | [], _, _, h => by simp only [RepL] at h; subst h; simp only [D.toPs]; exact .nil
  | d :: ds, _, n, h => by
    simp only [RepL] at h
    obtain ⟨v, r, rfl, q, t⟩ := h
    simp only [D.noFns, Bool.and_eq_true] at n
    simp only [D.toPs]
    exact .cons (Rep.dp s n.1 q) (RepL.dp s n.2 t)
end
theorem RepP.dp {d : D} {v : V} (s : Same F H) (n : d.noFn = true) (h : RepP K mg F H d v) : Dp K H v d.toP := by
  rcases h with h | ⟨ds, a, vs, rfl, rfl, h, q⟩
  · exact h.dp s n
  · simp only [D.noFn] at n
    simp only [D.toP]
    exact .lst (SqL.of h) (q.dp s n)
end
def okD (d : D) : Bool := d.noFn && SeqAt.shaped d.toP
def eqD (x y : D) : Option D := if okD x && okD y then some (.bl (PyData.eqv x.toP y.toP)) else none
def neD (x y : D) : Option D := if okD x && okD y then some (.bl (!PyData.eqv x.toP y.toP)) else none
def cmpI (p : Int → Int → Bool) : D → D → Option D
  | .int i, .int j => some (.bl (p i j))
  | _, _ => none
def isND (x y : D) : Option D := match y with
  | .non => match x with
    | .non => some (.bl true)
    | _ => some (.bl false)
  | _ => none
def isnND (x y : D) : Option D := match y with
  | .non => match x with
    | .non => some (.bl false)
    | _ => some (.bl true)
  | _ => none
/-- True, False: is -/
def eqFl : D → D → Bool
  | .non, .non => true
  | .bl a, .bl b => a == b
  | .int i, .int j => i == j
  | .bl a, .int j => (if a then 1 else 0) == j
  | .int i, .bl b => i == (if b then 1 else 0)
  | .str a, .str b => a == b
  | _, _ => false
def inD (neg : Bool) (x y : D) : Option D := match y with
  | .lst ys => if x.flat && ys.all D.flat then some (.bl (if neg then !ys.any fun z => eqFl z x else ys.any fun z => eqFl z x)) else none
  | .tup ys => if x.flat && ys.all D.flat then some (.bl (if neg then !ys.any fun z => eqFl z x else ys.any fun z => eqFl z x)) else none
  | _ => none
section
variable {X : Cx}
theorem o_eq (hu : X.A.units + 64 < cLine) : Op2 X (compareOp .Eq) eqD := by
  intro dx dy d h
  unfold eqD at h
  split at h <;> cases h
  rename_i hc
  simp only [okD, Bool.and_eq_true] at hc
  exact ⟨_, op_eqD hu, fun F H v w Q s p1 p2 q => ⟨dx.toP, dy.toP, p1.dp s hc.1.1, p2.dp s hc.2.1, hc.1.2, hc.2.2, q.bl s⟩⟩
theorem o_ne (hu : X.A.units + 64 < cLine) : Op2 X (compareOp .NotEq) neD := by
  intro dx dy d h
  unfold neD at h
  split at h <;> cases h
  rename_i hc
  simp only [okD, Bool.and_eq_true] at hc
  exact ⟨_, op_neD hu, fun F H v w Q s p1 p2 q => ⟨dx.toP, dy.toP, p1.dp s hc.1.1, p2.dp s hc.2.1, hc.1.2, hc.2.2, q.bl s⟩⟩
theorem o_cmp {op : CmpOp} {p : Int → Int → Bool} (h : OpR X (compareOp op) (rI0 fun i j => .bl (p i j))) : Op2 X (compareOp op) (cmpI p) := by
  intro dx dy d e
  unfold cmpI at e
  split at e
  · rename_i i j
    cases e
    exact ⟨_, h, fun F H v w Q s p1 p2 q => ⟨i, j, p1.int, p2.int, q.bl s⟩⟩
  · cases e
theorem o_lt : Op2 X (compareOp .Lt) (cmpI fun i j => decide (i < j)) := o_cmp op_lt
theorem o_le : Op2 X (compareOp .LtE) (cmpI fun i j => decide (i ≤ j)) := o_cmp op_le
theorem o_gt : Op2 X (compareOp .Gt) (cmpI fun i j => decide (j < i)) := o_cmp op_gt
theorem o_ge : Op2 X (compareOp .GtE) (cmpI fun i j => decide (j ≤ i)) := o_cmp op_ge
theorem RepP.isN {K : PySem.W.Frag} {mg : Mg} {F H : Hp} {d : D} {v : V} (h : RepP K mg F H d v) (hd : d ≠ .non) : decide (v = .non) = false := by
  refine decide_eq_false fun e => ?_
  subst e
  rcases h with h | ⟨_, _, _, rfl, e, _⟩
  · cases d <;> simp only [Rep] at h <;> first | (exact absurd rfl hd) | (obtain ⟨_, _, h, _⟩ := h; cases h; done) | (obtain ⟨_, h, _⟩ := h; cases h; done) | (obtain ⟨_, _, _, _, h, _⟩ := h; cases h; done) | (obtain ⟨_, _, _, h, _⟩ := h; cases h; done) | (obtain ⟨_, _, _, _, _, h, _⟩ := h; cases h; done) | (cases h; done)
  · cases e
theorem o_isN : Op2 X (compareOp .Is) isND := by
  intro dx dy d h
  unfold isND at h
  split at h
  · split at h
    · cases h
      refine ⟨_, op_isN, fun F H v w Q s p1 p2 q => ⟨p2.non, ?_⟩⟩
      rw [p1.non]
      exact q.bl s
    · rename_i hn
      cases h
      refine ⟨_, op_isN, fun F H v w Q s p1 p2 q => ⟨p2.non, ?_⟩⟩
      rw [p1.isN (fun e => hn e)]
      exact q.bl s
  · cases h
theorem o_isnN : Op2 X (compareOp .IsNot) isnND := by
  intro dx dy d h
  unfold isnND at h
  split at h
  · split at h
    · cases h
      refine ⟨_, op_notN, fun F H v w Q s p1 p2 q => ⟨p2.non, ?_⟩⟩
      rw [p1.non]
      exact q.bl s
    · rename_i hn
      cases h
      refine ⟨_, op_notN, fun F H v w Q s p1 p2 q => ⟨p2.non, ?_⟩⟩
      rw [p1.isN (fun e => hn e)]
      exact q.bl s
  · cases h
theorem Rep.flat {K : PySem.W.Frag} {mg : Mg} {F : Hp} {d : D} {v : V} (h : Rep K mg F d v) (hf : d.flat = true) : flatV v = true := by
  cases d <;> simp only [D.flat] at hf <;> first | (cases hf; done) | (simp only [Rep] at h; subst h; rfl)
theorem RepP.flat {K : PySem.W.Frag} {mg : Mg} {F H : Hp} {d : D} {v : V} (h : RepP K mg F H d v) (hf : d.flat = true) : Rep K mg F d v := by
  rcases h with h | ⟨_, _, _, rfl, _⟩
  · exact h
  · cases hf
theorem RepL.flat {K : PySem.W.Frag} {mg : Mg} {F : Hp} : ∀ {ds : List D} {vs : List V}, RepL K mg F ds vs → ds.all D.flat = true → vs.all flatV = true
  | [], _, h, _ => by simp only [RepL] at h; subst h; rfl
  | d :: ds, _, h, hf => by
    simp only [RepL] at h
    obtain ⟨v, r, rfl, q, t⟩ := h
    simp only [List.all_cons, Bool.and_eq_true] at hf ⊢
    exact ⟨q.flat hf.1, RepL.flat t hf.2⟩
theorem Rep.eqV {K : PySem.W.Frag} {mg : Mg} {F : Hp} {d e : D} {v w : V} (h : Rep K mg F d v) (h' : Rep K mg F e w) (hf : d.flat = true) (hf' : e.flat = true) : L2.eqV v w = eqFl d e := by
  cases d <;> simp only [D.flat] at hf <;> first | (cases hf; done) | (cases e <;> simp only [D.flat] at hf' <;> first | (cases hf'; done) | (simp only [Rep] at h h'; subst h; subst h'; simp [L2.eqV, eqFl]))
theorem RepL.inV {K : PySem.W.Frag} {mg : Mg} {F : Hp} {e : D} {w : V} (h' : Rep K mg F e w) (hf' : e.flat = true) : ∀ {ds : List D} {vs : List V}, RepL K mg F ds vs → ds.all D.flat = true → L2.inV w vs = ds.any fun z => eqFl z e
  | [], _, h, _ => by simp only [RepL] at h; subst h; rfl
  | d :: ds, _, h, hf => by
    simp only [RepL] at h
    obtain ⟨v, r, rfl, q, t⟩ := h
    simp only [List.all_cons, Bool.and_eq_true] at hf
    have ih := RepL.inV h' hf' t hf.2
    unfold L2.inV at ih ⊢
    rw [List.any_cons, List.any_cons, ih, q.eqV h' hf.1 hf']
theorem o_inG {op : CmpOp} {neg : Bool} (ho : OpR X (compareOp op) (rIn X.K neg)) : Op2 X (compareOp op) (inD neg) := by
  intro dx dy d h
  unfold inD at h
  split at h
  · rename_i ys
    split at h <;> cases h
    rename_i hc
    simp only [Bool.and_eq_true] at hc
    refine ⟨_, ho, fun F H v w Q s p1 p2 q => ?_⟩
    obtain ⟨a, vs, rfl, h1, r1⟩ := p2.lst s
    have p1 := p1.flat hc.1
    refine ⟨a, vs, rfl, .inl (SqL.of h1), p1.flat hc.1, r1.flat hc.2, ?_⟩
    rw [RepL.inV p1 hc.1 r1 hc.2]
    exact q.bl s
  · rename_i ys
    split at h <;> cases h
    rename_i hc
    simp only [Bool.and_eq_true] at hc
    refine ⟨_, ho, fun F H v w Q s p1 p2 q => ?_⟩
    obtain ⟨a, vs, rfl, h1, r1⟩ := p2.tup
    have p1 := p1.flat hc.1
    refine ⟨a, vs, rfl, .inr (Same.tup s h1), p1.flat hc.1, r1.flat hc.2, ?_⟩
    rw [RepL.inV p1 hc.1 r1 hc.2]
    exact q.bl s
  · cases h
theorem o_in : Op2 X (compareOp .In) (inD false) := o_inG op_in_seq
theorem o_nin : Op2 X (compareOp .NotIn) (inD true) := o_inG op_notIn_seq
end

/-! ### items -/
def ixD (x y : D) : Option D := match y with
  | .int i => match x with
    | .lst xs => atI xs i
    | .tup xs => atI xs i
    | .scr ns => match atI ns i with
      | some n => some (.int n)
      | none => none
    | _ => none
  | _ => none
theorem atI_len {α β : Type} {xs : List α} {ys : List β} (h : ys.length = xs.length) {i : Int} {x : α} (e : atI xs i = some x) (f : ∀ (j : Nat) (x : α), xs[j]? = some x → ∃ y : β, ys[j]? = some y) : ∃ (j : Nat) (y : β), ys[j]? = some y ∧ xs[j]? = some x ∧ atI ys i = some y := by
  unfold atI at e ⊢
  rw [h]
  cases q : ixN xs.length i with
  | none => rw [q] at e; cases e
  | some j =>
    rw [q] at e
    have e : xs[j]? = some x := e
    obtain ⟨y, hy⟩ := f j x e
    exact ⟨j, y, hy, e, hy⟩
theorem ix_all {X : Cx} : Ix2 X ixD := by
  intro dx dy d h
  unfold ixD at h
  split at h
  · rename_i i
    split at h
    · rename_i xs
      refine ⟨_, ix_list, fun F H v w Q s p1 p2 q => ?_⟩
      obtain ⟨a, vs, rfl, h1, r1⟩ := p1.lst s
      obtain ⟨j, y, hy, hx, hi⟩ := atI_len r1.len h fun j x e => let ⟨y, hy, _⟩ := r1.get e; ⟨y, hy⟩
      obtain ⟨y', hy', ry⟩ := r1.get hx
      rw [hy] at hy'; cases hy'
      exact ⟨a, vs, i, y, rfl, p2.int, SqL.of h1, hi, q.here s ry⟩
    · rename_i xs
      refine ⟨_, ix_tup, fun F H v w Q s p1 p2 q => ?_⟩
      obtain ⟨a, vs, rfl, h1, r1⟩ := p1.tup
      obtain ⟨j, y, hy, hx, hi⟩ := atI_len r1.len h fun j x e => let ⟨y, hy, _⟩ := r1.get e; ⟨y, hy⟩
      obtain ⟨y', hy', ry⟩ := r1.get hx
      rw [hy] at hy'; cases hy'
      exact ⟨a, vs, i, y, rfl, p2.int, Same.tup s h1, hi, q.here s ry⟩
    · rename_i ns
      split at h <;> cases h
      rename_i n hn
      refine ⟨_, ix_list, fun F H v w Q s p1 p2 q => ?_⟩
      obtain ⟨a, rfl, h1⟩ := p1.scr s
      obtain ⟨j, y, hy, hx, hi⟩ := atI_len (xs := ns) (ys := ns.map V.int) (by simp) hn fun j x e => ⟨.int x, by rw [List.getElem?_map, e]; rfl⟩
      rw [List.getElem?_map, hx] at hy
      cases hy
      exact ⟨a, _, i, _, rfl, p2.int, h1, hi, q.int s⟩
    · cases h
  · cases h
end Z
/-! Tests, arguments, displays, statements, loops. -/
namespace Z
open PySem PySem.Spec PyProof.Rows L2

section
variable {X : Cx} {e a b c : Expr} {es rest : List Expr} {m ma mb : ME} {pos : Pos}
/-! ### tests -/
def mTB (m : ME) : MT := fun ρ => match m ρ with
  | some (.bl b, ρ') => some (b, ρ')
  | _ => none
theorem st_e {m : ME} (h : SE X e m) (he : ∀ whole, isTrue e X.env whole = (do let v ← whole; standAt e.pos; holding [v] (truthy v)) := by intro _; rfl) : ST X e (mTB m) := pt_mk fun σ H Q ⟨io, F, ρ, d, ρ', r, hm, q⟩ => by
  unfold mTB at hm
  split at hm <;> cases hm
  rename_i h1
  exact ⟨_, pt_val h he, io, F, ρ, _, _, r, h1, fun v F' H' x r' p => ⟨d, by simpa only [Rep] using p, q F' H' x r'⟩⟩
theorem st_cmp {op : CmpOp} {g : D → D → Option D} {ma mb : MO} (hg : Op2 X (compareOp op) g) (ha : SO X a ma) (hb : SO X b mb) (hm : behindInMarks op b = false := by first | exact nomark _ | rfl) : ST X (.Compare a [op] [b] pos) (mTB (mB g ma mb)) := pt_mk fun σ H Q ⟨io, F, ρ, d, ρ', r, hm', q⟩ => by
  unfold mTB at hm'
  split at hm' <;> cases hm'
  rename_i h1
  obtain ⟨x, ρ1, y, dx, dy, h1, h2, hx, hy, hd⟩ := mB_some h1
  obtain ⟨rr, ho, p⟩ := hg dx dy _ hd
  exact ⟨_, pt_cmpR ho ha hb hm, tO2 r h1 h2 hx hy p fun v F' H' x r' p => ⟨d, by simpa only [Rep] using p, q F' H' x r'⟩⟩
def mNot (m : MT) : MT := fun ρ => match m ρ with
  | some (b, ρ') => some (!b, ρ')
  | none => none
theorem st_not {m : MT} (h : ST X a m) : ST X (.UnaryOp .Not a pos) (mNot m) := pt_mk fun σ H Q ⟨io, F, ρ, d, ρ', r, hm, q⟩ => by
  unfold mNot at hm
  split at hm <;> cases hm
  rename_i b ρ' h1
  exact ⟨_, pt_not h, io, F, ρ, _, _, r, h1, q⟩
def mAnd (m n : MT) : MT := fun ρ => match m ρ with
  | some (true, ρ') => n ρ'
  | some (false, ρ') => some (false, ρ')
  | none => none
def mOr (m n : MT) : MT := fun ρ => match m ρ with
  | some (true, ρ') => some (true, ρ')
  | some (false, ρ') => n ρ'
  | none => none
abbrev SW (X : Cx) (e : Expr) (m : MT) : Prop := PW X e (tT X.K X.mgx m)
theorem pw_mk {t : TT} (h : ∀ σ H Q, t σ H Q → ∃ u, PW X e u ∧ u σ H Q) : PW X e t := ⟨fun wh pins s σ H Q I q => let ⟨u, p, hu⟩ := h σ H Q q; p.run wh pins s σ H Q I hu⟩
theorem sw_and1 {m : MT} (h : ST X a m) : SW X (.BoolOp .And [a] pos) m := pw_and1 h
theorem sw_or1 {m : MT} (h : ST X a m) : SW X (.BoolOp .Or [a] pos) m := pw_or1 h
theorem sw_and {m n : MT} (h : ST X a m) (h' : SW X (.BoolOp .And (b :: rest) pos) n) : SW X (.BoolOp .And (a :: b :: rest) pos) (mAnd m n) := pw_mk fun σ H Q ⟨io, F, ρ, d, ρ', r, hm, q⟩ => by
  refine ⟨_, pw_and h h', ?_⟩
  unfold mAnd at hm
  split at hm
  · rename_i ρ1 h1
    exact ⟨io, F, ρ, _, _, r, h1, fun F1 H1 x1 r1 => iteT ⟨io, F1, ρ1, _, _, r1, hm, fun F2 H2 x2 r2 => q F2 H2 (x1.trans x2) r2⟩⟩
  · rename_i ρ1 h1
    cases hm
    exact ⟨io, F, ρ, _, _, r, h1, fun F1 H1 x1 r1 => iteF (q F1 H1 x1 r1)⟩
  · cases hm
theorem sw_or {m n : MT} (h : ST X a m) (h' : SW X (.BoolOp .Or (b :: rest) pos) n) : SW X (.BoolOp .Or (a :: b :: rest) pos) (mOr m n) := pw_mk fun σ H Q ⟨io, F, ρ, d, ρ', r, hm, q⟩ => by
  refine ⟨_, pw_or h h', ?_⟩
  unfold mOr at hm
  split at hm
  · rename_i ρ1 h1
    cases hm
    exact ⟨io, F, ρ, _, _, r, h1, fun F1 H1 x1 r1 => iteT (q F1 H1 x1 r1)⟩
  · rename_i ρ1 h1
    exact ⟨io, F, ρ, _, _, r, h1, fun F1 H1 x1 r1 => iteF ⟨io, F1, ρ1, _, _, r1, hm, fun F2 H2 x2 r2 => q F2 H2 (x1.trans x2) r2⟩⟩
  · cases hm
theorem st_w {m : MT} (h : SW X e m) : ST X e m := h.pt
/-! and, or, not as values -/
def mAndV (m n : ME) : ME := fun ρ => match m ρ with
  | some (.bl true, ρ') => n ρ'
  | some (.bl false, ρ') => some (.bl false, ρ')
  | _ => none
def mOrV (m n : ME) : ME := fun ρ => match m ρ with
  | some (.bl true, ρ') => some (.bl true, ρ')
  | some (.bl false, ρ') => n ρ'
  | _ => none
def mNotV (m : ME) : ME := fun ρ => match m ρ with
  | some (.bl b, ρ') => some (.bl (!b), ρ')
  | _ => none
theorem se_one {op} (h : SE X a m) : SE X (.BoolOp op [a] pos) m := pe_one h
theorem se_and {n : ME} (h : SE X a m) (h' : SE X (.BoolOp .And (b :: rest) pos) n) : SE X (.BoolOp .And (a :: b :: rest) pos) (mAndV m n) := Z.pe_mk fun σ H Q ⟨io, F, ρ, d, ρ', r, hm, q⟩ => by
  refine ⟨_, pe_and h h', ?_⟩
  unfold mAndV at hm
  split at hm
  · rename_i ρ1 h1
    exact ⟨io, F, ρ, _, _, r, h1, fun v F1 H1 x1 r1 p1 => ⟨true, by simpa only [Rep] using p1, iteT ⟨io, F1, ρ1, _, _, r1, hm, fun v F2 H2 x2 r2 p2 => q v F2 H2 (x1.trans x2) r2 p2⟩⟩⟩
  · rename_i ρ1 h1
    cases hm
    exact ⟨io, F, ρ, _, _, r, h1, fun v F1 H1 x1 r1 p1 => ⟨false, by simpa only [Rep] using p1, iteF (q _ F1 H1 x1 r1 (by simp only [Rep]))⟩⟩
  · cases hm
theorem se_or {n : ME} (h : SE X a m) (h' : SE X (.BoolOp .Or (b :: rest) pos) n) : SE X (.BoolOp .Or (a :: b :: rest) pos) (mOrV m n) := Z.pe_mk fun σ H Q ⟨io, F, ρ, d, ρ', r, hm, q⟩ => by
  refine ⟨_, pe_or h h', ?_⟩
  unfold mOrV at hm
  split at hm
  · rename_i ρ1 h1
    cases hm
    exact ⟨io, F, ρ, _, _, r, h1, fun v F1 H1 x1 r1 p1 => ⟨true, by simpa only [Rep] using p1, iteT (q _ F1 H1 x1 r1 (by simp only [Rep]))⟩⟩
  · rename_i ρ1 h1
    exact ⟨io, F, ρ, _, _, r, h1, fun v F1 H1 x1 r1 p1 => ⟨false, by simpa only [Rep] using p1, iteF ⟨io, F1, ρ1, _, _, r1, hm, fun v F2 H2 x2 r2 p2 => q v F2 H2 (x1.trans x2) r2 p2⟩⟩⟩
  · cases hm
theorem se_not (h : SE X a m) : SE X (.UnaryOp .Not a pos) (mNotV m) := Z.pe_mk fun σ H Q ⟨io, F, ρ, d, ρ', r, hm, q⟩ => by
  refine ⟨_, pe_not h, ?_⟩
  unfold mNotV at hm
  split at hm <;> cases hm
  rename_i b h1
  exact ⟨io, F, ρ, _, _, r, h1, fun v F1 H1 x1 r1 p1 => ⟨b, by simpa only [Rep] using p1, q _ F1 H1 x1 r1 (by simp only [Rep])⟩⟩
def mIf (c : MT) (m n : ME) : ME := fun ρ => match c ρ with
  | some (true, ρ') => m ρ'
  | some (false, ρ') => n ρ'
  | none => none
theorem se_if {mc : MT} (hc : ST X c mc) (ha : SE X a ma) (hb : SE X b mb) : SE X (.IfExp c a b pos) (mIf mc ma mb) := Z.pe_mk fun σ H Q ⟨io, F, ρ, d, ρ', r, hm, q⟩ => by
  refine ⟨_, pe_ifExp hc ha hb, ?_⟩
  unfold mIf at hm
  split at hm
  · rename_i ρ1 h1
    exact ⟨io, F, ρ, _, _, r, h1, fun F1 H1 x1 r1 => iteT ⟨io, F1, ρ1, _, _, r1, hm, fun v F2 H2 x2 r2 p2 => q v F2 H2 (x1.trans x2) r2 p2⟩⟩
  · rename_i ρ1 h1
    exact ⟨io, F, ρ, _, _, r, h1, fun F1 H1 x1 r1 => iteF ⟨io, F1, ρ1, _, _, r1, hm, fun v F2 H2 x2 r2 p2 => q v F2 H2 (x1.trans x2) r2 p2⟩⟩
  · cases hm
/-! a < b < c -/
def mChain (g h : D → D → Option D) (ma mb mc : MO) : ME := fun ρ => match ma ρ with
  | some (x, ρ1) => match mb ρ1 with
    | some (y, ρ2) => match res ρ2 x, res ρ2 y with
      | some dx, some dy => match g dx dy with
        | some (.bl true) => match mc ρ2 with
          | some (z, ρ3) => match res ρ3 y, res ρ3 z with
            | some dy', some dz => match h dy' dz with
              | some d => some (d, ρ3)
              | none => none
            | _, _ => none
          | none => none
        | some (.bl false) => some (.bl false, ρ2)
        | _ => none
      | _, _ => none
    | none => none
  | none => none
theorem se_chain {op op' : CmpOp} {g h : D → D → Option D} {na nb nc : MO} (hg : Op2 X (compareOp op) g) (hh : Op2 X (compareOp op') h) (ha : SO X a na) (hb : SO X b nb) (hc : SO X c nc)
    (hm : lastMarks [op, op'] [b, c] = false := by with_unfolding_all rfl) : SE X (.Compare a [op, op'] [b, c] pos) (mChain g h na nb nc) := Z.pe_mk fun σ H Q ⟨io, F, ρ, d, ρ', r, hm', q⟩ => by
  unfold mChain at hm'
  split at hm' <;> try cases hm'
  rename_i x ρ1 h1
  split at hm' <;> try cases hm'
  rename_i y ρ2 h2
  split at hm' <;> try cases hm'
  rename_i dx dy hx hy
  split at hm' <;> try cases hm'
  · rename_i hd
    split at hm' <;> try cases hm'
    rename_i z ρ3 h3
    split at hm' <;> try cases hm'
    rename_i dy' dz hy' hz
    split at hm' <;> cases hm'
    rename_i hd'
    obtain ⟨rr, ho, p⟩ := hg dx dy _ hd
    obtain ⟨rr', ho', p'⟩ := hh dy' dz _ hd'
    refine ⟨_, pe_chain ho ho' ha hb hc hm, io, F, ρ, x, ρ1, r, h1, fun v F1 H1 x1 r1 p1 => ⟨io, F1, ρ1, y, ρ2, r1, h2, fun w F2 H2 x2 r2 p2 => ?_⟩⟩
    refine p F2 H2 v w _ r2.sub (r2.res (p1.mono x2.sub) hx) (r2.res p2 hy) fun u F3 H3 gr rp => ⟨true, by simpa only [Rep] using rp, iteT ?_⟩
    exact ⟨io, F3, ρ2, z, _, r2.grow gr, h3, fun w' F4 H4 x4 r4 p4 => p' F4 H4 w w' Q r4.sub (r4.res ((p2.mono gr.sub).mono x4.sub) hy') (r4.res p4 hz) fun u F5 H5 gr5 rp5 =>
      q u F5 H5 ((((x1.trans x2).trans gr.ext).trans x4).trans gr5.ext) (r4.grow gr5) rp5⟩
  · rename_i hd
    obtain ⟨rr, ho, p⟩ := hg dx dy _ hd
    -- the second rule is not met
    obtain ⟨rr', ho'⟩ : ∃ rr', OpR X (compareOp op') rr' := ⟨fun _ _ _ _ => False, fun _ _ _ _ _ _ _ _ _ _ _ _ z => z.elim⟩
    refine ⟨_, pe_chain ho ho' ha hb hc hm, io, F, ρ, x, ρ1, r, h1, fun v F1 H1 x1 r1 p1 => ⟨io, F1, ρ1, y, _, r1, h2, fun w F2 H2 x2 r2 p2 => ?_⟩⟩
    refine p F2 H2 v w _ r2.sub (r2.res (p1.mono x2.sub) hx) (r2.res p2 hy) fun u F3 H3 gr rp => ⟨false, by simpa only [Rep] using rp, iteF ?_⟩
    exact q _ F3 H3 ((x1.trans x2).trans gr.ext) (r2.grow gr) (by simp only [Rep])

/-! ### arguments -/
def mA0 : MA := fun ρ => some ([], ρ)
def mA1 (m : MO) (n : MA) : MA := fun ρ => match m ρ with
  | some (o, ρ1) => match n ρ1 with
    | some (os, ρ2) => some (o :: os, ρ2)
    | none => none
  | none => none
theorem sa_nil : SA X [] mA0 := pa_mk fun σ H Q ⟨io, F, ρ, d, ρ', r, hm, q⟩ => by
  cases hm
  exact ⟨_, pa_nil, q [] F H .refl r (by simp only [RepOs])⟩
theorem sa_cons {m : MO} {n : MA} (h : SO X e m) (h' : SA X es n) (hs : starEach (e :: es) X.env = (false, eval e X.env) :: starEach es X.env := by rfl) : SA X (e :: es) (mA1 m n) := pa_mk fun σ H Q ⟨io, F, ρ, d, ρ', r, hm, q⟩ => by
  refine ⟨_, pa_cons h h' hs, ?_⟩
  unfold mA1 at hm
  split at hm <;> try cases hm
  rename_i o ρ1 h1
  split at hm <;> cases hm
  rename_i os h2
  exact ⟨io, F, ρ, o, ρ1, r, h1, fun v F1 H1 x1 r1 p1 => ⟨io, F1, ρ1, os, _, r1, h2, fun vs F2 H2 x2 r2 p2 => q _ F2 H2 (x1.trans x2) r2 (by simp only [RepOs]; exact ⟨v, vs, rfl, p1.mono x2.sub, p2⟩)⟩⟩
/-- *e, of a tuple or a list -/
def datL : D → Option (List D)
  | .lst ds => some ds
  | .tup ds => some ds
  | _ => none
def mAS (m : ME) (n : MA) : MA := fun ρ => match m ρ with
  | some (d, ρ1) => match datL d with
    | some ds => match n ρ1 with
      | some (os, ρ2) => some (ds.map Od.val ++ os, ρ2)
      | none => none
    | none => none
  | none => none
theorem RepOs.app {K : PySem.W.Frag} {mg : Mg} {F : Hp} {σ : St} {os : List Od} {vs : List V} (h : RepOs K mg F σ os vs) : ∀ {ds : List D} {us : List V}, RepL K mg F ds us → RepOs K mg F σ (ds.map Od.val ++ os) (us ++ vs)
  | [], _, r => by simp only [RepL] at r; subst r; exact h
  | d :: ds, _, r => by
    simp only [RepL] at r
    obtain ⟨v, t, rfl, q, t⟩ := r
    simp only [List.map_cons, List.cons_append, RepOs]
    exact ⟨v, _, rfl, q, RepOs.app h t⟩
theorem sa_star {p : Pos} {m : ME} {n : MA} (h : SE X e m) (h' : SA X es n) (hs : starEach (.Starred e p :: es) X.env = (true, eval e X.env) :: starEach es X.env := by rfl) : SA X (.Starred e p :: es) (mAS m n) := pa_mk fun σ H Q ⟨io, F, ρ, d, ρ', r, hm, q⟩ => by
  refine ⟨_, StX.pa_star h h' hs, ?_⟩
  unfold mAS at hm
  split at hm <;> try cases hm
  rename_i d ρ1 h1
  split at hm <;> try cases hm
  rename_i ds hd
  split at hm <;> cases hm
  rename_i os h2
  refine ⟨io, F, ρ, d, ρ1, r, h1, fun v F1 H1 x1 r1 p1 => ?_⟩
  cases d <;> simp only [datL] at hd <;> cases hd
  · simp only [Rep] at p1
    obtain ⟨a, us, rfl, hl, rl⟩ := p1
    exact ⟨a, us, rfl, .inr (SqL.of (r1.sub _ _ hl)), io, F1, ρ1, os, _, r1, h2, fun vs F2 H2 x2 r2 p2 => q _ F2 H2 (x1.trans x2) r2 (RepOs.app p2 (rl.mono x2.sub))⟩
  · simp only [Rep] at p1
    obtain ⟨a, us, rfl, hl, rl⟩ := p1
    exact ⟨a, us, rfl, .inl (Same.tup r1.sub hl.t), io, F1, ρ1, os, _, r1, h2, fun vs F2 H2 x2 r2 p2 => q _ F2 H2 (x1.trans x2) r2 (RepOs.app p2 (rl.mono x2.sub))⟩
end

/-! ### resolving operands -/
def resL (ρ : Rho) : List Od → Option (List D)
  | [] => some []
  | o :: os => match res ρ o, resL ρ os with
    | some d, some ds => some (d :: ds)
    | _, _ => none
/-- only values -/
def valL : List Od → Option (List D)
  | [] => some []
  | .val d :: os => match valL os with
    | some ds => some (d :: ds)
    | none => none
  | _ :: _ => none
theorem RepOs.vals {K : PySem.W.Frag} {mg : Mg} {F : Hp} {σ : St} : ∀ {os : List Od} {vs : List V} {ds : List D}, RepOs K mg F σ os vs → valL os = some ds → RepL K mg F ds vs
  | [], _, _, h, e => by simp only [valL] at e; cases e; simpa only [RepOs, RepL] using h
  | .val d :: os, _, _, h, e => by
    simp only [RepOs] at h
    obtain ⟨v, r, rfl, q, t⟩ := h
    simp only [valL] at e
    split at e <;> cases e
    rename_i ds hd
    exact RepL.cons q (RepOs.vals t hd)
  | .sl i :: os, _, _, h, e => by simp only [valL] at e; cases e
def RepPs (K : PySem.W.Frag) (mg : Mg) (F H : Hp) : List D → List V → Prop
  | [], vs => vs = []
  | d :: ds, vs => ∃ v r, vs = v :: r ∧ RepP K mg F H d v ∧ RepPs K mg F H ds r
theorem R.ress {K : PySem.W.Frag} {mg : Mg} {io : List (Nat × Addr)} {F H : Hp} {σ : St} {ρ : Rho} (r : R K mg io F H σ ρ) : ∀ {os : List Od} {vs : List V} {ds : List D}, RepOs K mg F σ os vs → resL ρ os = some ds → RepPs K mg F H ds vs
  | [], _, _, h, e => by simp only [resL] at e; cases e; simpa only [RepOs, RepPs] using h
  | o :: os, _, _, h, e => by
    simp only [RepOs] at h
    obtain ⟨v, t, rfl, q, ht⟩ := h
    simp only [resL] at e
    split at e <;> cases e
    rename_i d ds h1 h2
    exact ⟨v, t, rfl, r.res q h1, R.ress r ht h2⟩

/-! ### new lists -/
/-- an expression that makes a list, not yet frozen -/
abbrev MN := Rho → Option (List D × Rho)
def tN (K : PySem.W.Frag) (mg : Mg) (m : MN) : TE := fun σ H Q => ∃ io F ρ ds ρ', R K mg io F H σ ρ ∧ m ρ = some (ds, ρ') ∧ ∀ p vs F' H', Ext F H σ ρ F' H' σ ρ' → R K mg io F' H' σ ρ' → H p = none → H' p = some (.lst vs) → F' p = none → ¬ OwnA σ ρ' p → RepL K mg F' ds vs → Q (.ref p) H'
abbrev SN (X : Cx) (e : Expr) (m : MN) : Prop := PE X e (tN X.K X.mgx m)
def mL (m : MN) : ME := fun ρ => match m ρ with
  | some (ds, ρ') => some (.lst ds, ρ')
  | none => none
/-- a heap grows by a list at p that no slot owns -/
theorem R.addH {K : PySem.W.Frag} {mg : Mg} {io : List (Nat × Addr)} {F H : Hp} {σ : St} {ρ : Rho} {p : Addr} {o : HO} (r : R K mg io F H σ ρ) (hp : H p = none) : R K mg io F (upd H p o) σ ρ where
  len := r.len
  sub := fun b u e => by
    have h1 := r.sub _ _ e
    rw [upd_ne (ne_of_none h1 hp)]; exact h1
  dat := r.dat
  cel := fun i c h => by
    obtain ⟨a, e, f, q⟩ := r.cel i c h
    refine ⟨a, e, f, ?_⟩
    exact q.move (fun o' ho' => by rw [upd_ne (ne_of_none ho' hp)]; exact ho') (Same.refl _)
  inj := r.inj
  ios := r.ios
theorem R.notOwn {K : PySem.W.Frag} {mg : Mg} {io : List (Nat × Addr)} {F H : Hp} {σ : St} {ρ : Rho} {p : Addr} (r : R K mg io F H σ ρ) (hp : H p = none) : ¬ OwnA σ ρ p := fun ⟨i, c, h, e⟩ => by
  obtain ⟨a, e', f, q⟩ := r.cel i c h
  rw [e] at e'; cases e'
  obtain ⟨o, ho⟩ := q.here
  rw [hp] at ho; cases ho
theorem R.freeF {K : PySem.W.Frag} {mg : Mg} {io : List (Nat × Addr)} {F H : Hp} {σ : St} {ρ : Rho} {p : Addr} (r : R K mg io F H σ ρ) (hp : H p = none) : F p = none := by
  cases q : F p with
  | none => rfl
  | some o => rw [r.sub _ _ q] at hp; cases hp
/-- the list at p is frozen -/
theorem R.frz {K : PySem.W.Frag} {mg : Mg} {io : List (Nat × Addr)} {F H : Hp} {σ : St} {ρ : Rho} {p : Addr} {vs : List V} (r : R K mg io F H σ ρ) (hp : H p = some (.lst vs)) (hf : F p = none) (hn : ¬ OwnA σ ρ p) : R K mg io (upd F p (.lst vs)) H σ ρ ∧ Same F (upd F p (.lst vs)) := by
  have sF : Same F (upd F p (.lst vs)) := fun b u e => by
    have : b ≠ p := by rintro rfl; rw [hf] at e; cases e
    rw [upd_ne this]; exact e
  refine ⟨⟨r.len, fun b u e => ?_, fun i x h => ?_, fun i c h => ?_, r.inj, r.ios⟩, sF⟩
  · by_cases z : b = p
    · subst z; rw [upd_same] at e; rw [hp]; exact e
    · rw [upd_ne z] at e; exact r.sub _ _ e
  · obtain ⟨v, e, q⟩ := r.dat i x h
    exact ⟨v, e, q.mono sF⟩
  · obtain ⟨a, e, f, q⟩ := r.cel i c h
    have : a ≠ p := by rintro rfl; exact hn ⟨i, c, h, e⟩
    refine ⟨a, e, by rw [upd_ne this]; exact f, ?_⟩
    exact q.move (fun _ e => e) sF
section
variable {X : Cx} {e : Expr} {es : List Expr} {pos : Pos}
theorem se_n {m : MN} (h : SN X e m) : SE X e (mL m) := Z.pe_mk fun σ H Q ⟨io, F, ρ, d, ρ', r, hm, q⟩ => by
  refine ⟨_, h, ?_⟩
  unfold mL at hm
  split at hm <;> cases hm
  rename_i ds h1
  refine ⟨io, F, ρ, ds, _, r, h1, fun p vs F' H' x r' hp hv hf hn rl => ?_⟩
  obtain ⟨r2, s2⟩ := r'.frz hv hf hn
  refine q _ _ _ ⟨x.sub.trans s2, fun a o ha na => ?_, x.own, x.stay⟩ r2 (by simp only [Rep]; exact ⟨p, vs, rfl, upd_same, rl.mono s2⟩)
  obtain ⟨h1, f1⟩ := x.keep a o ha na
  have : a ≠ p := ne_of_none ha hp
  exact ⟨h1, by rw [upd_ne this]; exact f1⟩
/-- all arguments as values, frozen -/
def mDisp (m : MA) : MN := fun ρ => match m ρ with
  | some (os, ρ') => match valL os with
    | some ds => if ds.length ≤ LIM then some (ds, ρ') else none
    | none => none
  | none => none
theorem sn_list {m : MA} (h : SA X es m) : SN X (.List es pos) (mDisp m) := Z.pe_mk fun σ H Q ⟨io, F, ρ, d, ρ', r, hm, q⟩ => by
  refine ⟨_, pe_lst h, ?_⟩
  unfold mDisp at hm
  split at hm <;> try cases hm
  rename_i os ρ1 h1
  split at hm <;> try cases hm
  rename_i ds hd
  split at hm <;> cases hm
  rename_i hl
  refine ⟨io, F, ρ, os, _, r, h1, fun vs F' H' x r' p => ?_⟩
  have rl := p.vals hd
  refine ⟨by rw [rl.len]; exact Nat.le_trans hl lim_line, fun a ha => ?_⟩
  have hH : H a = none := x.stay a ha
  refine q a vs F' _ (x.trans ⟨Same.refl _, fun b o hb _ => ⟨by rw [upd_ne (ne_of_none hb ha)]; exact hb, rfl⟩, fun _ w => .inl w, fun b hb => by
    by_cases z : b = a
    · subst z; exact ha
    · rw [upd_ne z] at hb; exact hb⟩) (r'.addH ha) hH upd_same (r'.freeF ha) (r'.notOwn ha) rl
/-! ### tuples -/
def mTup (m : MA) : ME := fun ρ => match m ρ with
  | some (os, ρ') => match valL os with
    | some ds => if ds.length ≤ LIM then some (.tup ds, ρ') else none
    | none => none
  | none => none
theorem se_tup {k} {m : MA} (h : SA X es m) : SE X (.Tuple es k pos) (mTup m) := Z.pe_mk fun σ H Q ⟨io, F, ρ, d, ρ', r, hm, q⟩ => by
  refine ⟨_, pe_tupX h, ?_⟩
  unfold mTup at hm
  split at hm <;> try cases hm
  rename_i os ρ1 h1
  split at hm <;> try cases hm
  rename_i ds hd
  split at hm <;> cases hm
  rename_i hl
  refine ⟨io, F, ρ, os, _, r, h1, fun vs F' H' x r' p => ?_⟩
  have rl := p.vals hd
  refine ⟨by rw [rl.len]; exact Nat.le_trans hl lim_line, fun a its ha => ?_⟩
  have g : Grow F' H' (upd F' a (.frz (xT its) (.tup vs))) (upd H' a (.frz (xT its) (.tup vs))) := .new r'.sub ha
  exact q _ _ _ (x.trans g.ext) (r'.grow g) (by simp only [Rep]; exact ⟨a, vs, rfl, .inl ⟨its, upd_same⟩, rl.mono g.sub⟩)

/-! ### built-ins by name, over values -/
def PureN (K : PySem.W.Frag) (mg : Mg) (r : List V → Hp → VK → Prop) (ds : List D) (d : D) : Prop :=
  ∀ F H vs Q, Same F H → RepPs K mg F H ds vs → Post K mg F H Q d → r vs H Q
def OpN (X : Cx) (f : Value) (g : List D → Option D) : Prop := ∀ ds d, g ds = some d → ∃ r, CallR X f r ∧ PureN X.K X.mgx r ds d
def mN (g : List D → Option D) (m : MA) : ME := fun ρ => match m ρ with
  | some (os, ρ') => match resL ρ' os with
    | some ds => match g ds with
      | some d => some (d, ρ')
      | none => none
    | none => none
  | none => none
theorem se_callB {id : String} {x : Str} {p : Pos} {g : List D → Option D} {m : MA} (hg : OpN X (.builtin id) g) (hl : Gl X x) (hm0 : X.mg x = none) (hv : bootBuiltins x = some (.builtin id)) (ha : SA X (e :: es) m) (hn : x ≠ "__name__" := by decide) (hdb : (x == ("__debug__" : Str)) = false := by decide)
    (he : starEach (e :: es) X.env = (false, eval e X.env) :: starEach es X.env := by rfl) (hpl : (backTo pos (starEach es X.env)).any (·.1) = false := by rfl) : SE X (.Call (.Name x p) (e :: es) [] pos) (mN g m) := Z.pe_mk fun σ H Q ⟨io, F, ρ, d, ρ', r, hm, q⟩ => by
  unfold mN at hm
  split at hm <;> try cases hm
  rename_i os ρ1 h1
  split at hm <;> try cases hm
  rename_i ds hd
  split at hm <;> cases hm
  rename_i hgd
  obtain ⟨rr, hc, pn⟩ := hg ds _ hgd
  exact ⟨_, pe_callB hc hl hm0 hv ha hn hdb he hpl, io, F, ρ, os, _, r, h1, fun vs F' H' x r' p => pn F' H' vs Q r'.sub (r'.ress p hd) fun u F2 H2 gr rp => q u F2 H2 (x.trans gr.ext) (r'.grow gr) rp⟩
theorem se_callTy {T : String} {x : Str} {p : Pos} {g : List D → Option D} {m : MA} (hg : OpN X (.type T) g) (hl : Gl X x) (hm0 : X.mg x = none) (hv : bootBuiltins x = some (.type T)) (ha : SA X (e :: es) m) (hn : x ≠ "__name__" := by decide) (hdb : (x == ("__debug__" : Str)) = false := by decide)
    (he : starEach (e :: es) X.env = (false, eval e X.env) :: starEach es X.env := by rfl) (hpl : (backTo pos (starEach es X.env)).any (·.1) = false := by rfl) : SE X (.Call (.Name x p) (e :: es) [] pos) (mN g m) := Z.pe_mk fun σ H Q ⟨io, F, ρ, d, ρ', r, hm, q⟩ => by
  unfold mN at hm
  split at hm <;> try cases hm
  rename_i os ρ1 h1
  split at hm <;> try cases hm
  rename_i ds hd
  split at hm <;> cases hm
  rename_i hgd
  obtain ⟨rr, hc, pn⟩ := hg ds _ hgd
  exact ⟨_, pe_callTy hc hl hm0 hv ha hn hdb he hpl, io, F, ρ, os, _, r, h1, fun vs F' H' x r' p => pn F' H' vs Q r'.sub (r'.ress p hd) fun u F2 H2 gr rp => q u F2 H2 (x.trans gr.ext) (r'.grow gr) rp⟩
end
theorem RepPs.one {K : PySem.W.Frag} {mg : Mg} {F H : Hp} {d : D} {vs : List V} (h : RepPs K mg F H [d] vs) : ∃ v, vs = [v] ∧ RepP K mg F H d v := by
  simp only [RepPs] at h
  obtain ⟨v, r, rfl, q, rfl⟩ := h
  exact ⟨v, rfl, q⟩
theorem RepPs.two {K : PySem.W.Frag} {mg : Mg} {F H : Hp} {d d' : D} {vs : List V} (h : RepPs K mg F H [d, d'] vs) : ∃ v v', vs = [v, v'] ∧ RepP K mg F H d v ∧ RepP K mg F H d' v' := by
  simp only [RepPs] at h
  obtain ⟨v, r, rfl, q, v', r', rfl, q', rfl⟩ := h
  exact ⟨v, v', rfl, q, q'⟩
section
variable {X : Cx}
def lenD : List D → Option D
  | [.lst ds] => some (.int ds.length)
  | [.tup ds] => some (.int ds.length)
  | [.scr ns] => some (.int ns.length)
  | [.str x] => if x.length ≤ LIM then some (.int x.length) else none
  | _ => none
theorem n_len : OpN X (.builtin "len") lenD := by
  intro ds d h
  unfold lenD at h
  split at h <;> try cases h
  · refine ⟨_, call_len_seq, fun F H vs Q s p q => ?_⟩
    obtain ⟨v, rfl, pp⟩ := p.one
    obtain ⟨a, vs, rfl, h1, r1⟩ := pp.lst s
    exact ⟨a, vs, rfl, .inl (SqL.of h1), by rw [r1.len]; exact q.int s⟩
  · refine ⟨_, call_len_seq, fun F H vs Q s p q => ?_⟩
    obtain ⟨v, rfl, pp⟩ := p.one
    obtain ⟨a, vs, rfl, h1, r1⟩ := pp.tup
    exact ⟨a, vs, rfl, .inr (Same.tup s h1), by rw [r1.len]; exact q.int s⟩
  · rename_i ns
    refine ⟨_, call_len_seq, fun F H vs Q s p q => ?_⟩
    obtain ⟨v, rfl, pp⟩ := p.one
    obtain ⟨a, rfl, h1⟩ := pp.scr s
    exact ⟨a, _, rfl, .inl h1, by rw [List.length_map]; exact q.int s⟩
  · split at h <;> cases h
    rename_i x hl
    refine ⟨_, call_len_str, fun F H vs Q s p q => ?_⟩
    obtain ⟨v, rfl, pp⟩ := p.one
    exact ⟨x, by rw [pp.str], Nat.le_trans hl lim_line, q.int s⟩
/-- list(x) -/
def listD : List D → Option D
  | [.lst ds] => some (.lst ds)
  | [.tup ds] => some (.lst ds)
  | _ => none
theorem n_list : OpN X (.type "list") listD := by
  intro ds d h
  unfold listD at h
  split at h <;> cases h
  · refine ⟨_, call_list_of, fun F H vs Q s p q => ?_⟩
    obtain ⟨v, rfl, pp⟩ := p.one
    obtain ⟨a, vs, rfl, h1, r1⟩ := pp.lst s
    exact ⟨a, vs, rfl, .inl (SqL.of h1), q.newL s r1⟩
  · refine ⟨_, call_list_of, fun F H vs Q s p q => ?_⟩
    obtain ⟨v, rfl, pp⟩ := p.one
    obtain ⟨a, vs, rfl, h1, r1⟩ := pp.tup
    exact ⟨a, vs, rfl, .inr (Same.tup s h1), q.newL s r1⟩
def tupleD : List D → Option D
  | [.lst ds] => some (.tup ds)
  | [.tup ds] => some (.tup ds)
  | _ => none
theorem n_tuple : OpN X (.type "tuple") tupleD := by
  intro ds d h
  unfold tupleD at h
  split at h <;> cases h
  · refine ⟨_, call_tupleX, fun F H vs Q s p q => ?_⟩
    obtain ⟨v, rfl, pp⟩ := p.one
    obtain ⟨a, vs, rfl, h1, r1⟩ := pp.lst s
    exact ⟨a, vs, rfl, .inl ⟨SqL.of h1, q.newT s r1⟩⟩
  · refine ⟨_, call_tupleX, fun F H vs Q s p q => ?_⟩
    obtain ⟨v, rfl, pp⟩ := p.one
    obtain ⟨a, vs, rfl, h1, r1⟩ := pp.tupX
    exact ⟨a, vs, rfl, .inr ⟨Same.tup s h1.t, q.here s (by simp only [Rep]; exact ⟨a, vs, rfl, h1, r1⟩)⟩⟩
/-- all, any of a list of truth values -/
def blsD : List D → Option (List Bool)
  | [] => some []
  | .bl b :: ds => match blsD ds with
    | some bs => some (b :: bs)
    | none => none
  | _ :: _ => none
theorem RepL.bls {K : PySem.W.Frag} {mg : Mg} {F : Hp} : ∀ {ds : List D} {vs : List V} {bs : List Bool}, RepL K mg F ds vs → blsD ds = some bs → vs = bs.map V.bl
  | [], _, _, h, e => by simp only [blsD] at e; cases e; simpa only [RepL, List.map_nil] using h
  | d :: ds, _, _, h, e => by
    simp only [RepL] at h
    obtain ⟨v, r, rfl, q, t⟩ := h
    cases d <;> simp only [blsD] at e <;> try cases e
    split at e <;> cases e
    rename_i bs hb
    simp only [Rep] at q
    subst q
    rw [List.map_cons, RepL.bls t hb]
def allD : List D → Option D
  | [.lst ds] => match blsD ds with
    | some bs => some (.bl (bs.all id))
    | none => none
  | _ => none
def anyD : List D → Option D
  | [.lst ds] => match blsD ds with
    | some bs => some (.bl (bs.any id))
    | none => none
  | _ => none
theorem n_all (hc : X.calm = true) : OpN X (.builtin "all") allD := by
  intro ds d h
  unfold allD at h
  split at h <;> try cases h
  split at h <;> cases h
  rename_i bs hb
  refine ⟨_, cr_all hc, fun F H vs Q s p q => ?_⟩
  obtain ⟨v, rfl, pp⟩ := p.one
  obtain ⟨a, vs, rfl, h1, r1⟩ := pp.lst s
  have := r1.bls hb
  subst this
  exact ⟨a, bs, rfl, SqL.of h1, q.bl s⟩
theorem n_any (hc : X.calm = true) : OpN X (.builtin "any") anyD := by
  intro ds d h
  unfold anyD at h
  split at h <;> try cases h
  split at h <;> cases h
  rename_i bs hb
  refine ⟨_, cr_any hc, fun F H vs Q s p q => ?_⟩
  obtain ⟨v, rfl, pp⟩ := p.one
  obtain ⟨a, vs, rfl, h1, r1⟩ := pp.lst s
  have := r1.bls hb
  subst this
  exact ⟨a, bs, rfl, SqL.of h1, q.bl s⟩
/-- str(n) -/
def strD : List D → Option D
  | [.int i] => if i.natAbs < 1000000 then some (.str (Str.ofString (toString i))) else none
  | _ => none
theorem n_str : OpN X (.type "str") strD := by
  intro ds d h
  unfold strD at h
  split at h <;> try cases h
  split at h <;> cases h
  rename_i i hi
  refine ⟨_, call_str_int, fun F H vs Q s p q => ?_⟩
  obtain ⟨v, rfl, pp⟩ := p.one
  refine ⟨i, by rw [pp.int], ?_, q.str s⟩
  by_cases h0 : i.natAbs = 0
  · rw [h0]; decide
  · exact (Nat.log2_lt h0).mpr (Nat.lt_of_lt_of_le (Nat.lt_trans hi (show 1000000 < 2 ^ 20 by decide)) (Nat.pow_le_pow_right (by decide) (by decide)))
end
end Z
/-! Statements, targets. -/
namespace Z
open PySem PySem.Spec PyProof.Rows L2

section
variable {X : Cx} {e a b c : Expr} {es : List Expr} {st : Stmt} {rest : List Stmt} {pos : Pos}
def mRet (m : ME) : MS := fun ρ => match m ρ with
  | some (d, ρ') => some (.rt d, ρ')
  | none => none
theorem ss_ret {m : ME} (h : SE X e m) : SS X (.Return (some e) pos) (mRet m) := ps_mk fun D σ H ⟨io, F, ρ, fl, ρ', r, hm, q⟩ => by
  refine ⟨_, ps_ret h, ?_⟩
  unfold mRet at hm
  split at hm <;> cases hm
  rename_i d h1
  exact ⟨io, F, ρ, d, _, r, h1, fun v F' H' x r' p => q σ F' H' x r' v p⟩
def mRetN : MS := fun ρ => some (.rt .non, ρ)
theorem ss_retN : SS X (.Return none pos) mRetN := ps_mk fun D σ H ⟨io, F, ρ, fl, ρ', r, hm, q⟩ => by
  cases hm
  exact ⟨_, ps_retN, q σ F H .refl r _ (by simp only [Rep])⟩
def mX (m : ME) : MS := fun ρ => match m ρ with
  | some (_, ρ') => some (.nx, ρ')
  | none => none
theorem ss_expr {m : ME} (h : SE X e m) (hs : swapsWith e none pos.line X.env = pure false := by rfl) : SS X (.Expr e pos) (mX m) := ps_mk fun D σ H ⟨io, F, ρ, fl, ρ', r, hm, q⟩ => by
  refine ⟨_, ps_expr h hs, ?_⟩
  unfold mX at hm
  split at hm <;> cases hm
  rename_i d h1
  exact ⟨io, F, ρ, d, _, r, h1, fun v F' H' x r' p => q σ F' H' x r'⟩
def mIfS (c : MT) (m n : MS) : MS := fun ρ => match c ρ with
  | some (true, ρ') => m ρ'
  | some (false, ρ') => n ρ'
  | none => none
theorem ss_if {c : Expr} {s1 s2 : List Stmt} {mc : MT} {m n : MS} (hc : ST X c mc) (ha : SB X s1 m) (hb : SB X s2 n) : SS X (.If c s1 s2 pos) (mIfS mc m n) := ps_mk fun D σ H ⟨io, F, ρ, fl, ρ', r, hm, q⟩ => by
  refine ⟨_, ps_if hc ha hb, ?_⟩
  unfold mIfS at hm
  split at hm
  · rename_i ρ1 h1
    exact ⟨io, F, ρ, _, _, r, h1, fun F1 H1 x1 r1 => iteT ⟨io, F1, ρ1, _, _, r1, hm, fun σ2 F2 H2 x2 r2 => q σ2 F2 H2 (x1.trans x2) r2⟩⟩
  · rename_i ρ1 h1
    exact ⟨io, F, ρ, _, _, r, h1, fun F1 H1 x1 r1 => iteF ⟨io, F1, ρ1, _, _, r1, hm, fun σ2 F2 H2 x2 r2 => q σ2 F2 H2 (x1.trans x2) r2⟩⟩
  · cases hm
def mFl (f : Fl) : MS := fun ρ => some (f, ρ)
theorem ss_pass : SS X (.Pass pos) (mFl .nx) := ps_mk fun D σ H ⟨io, F, ρ, fl, ρ', r, hm, q⟩ => by
  cases hm; exact ⟨_, ps_pass, q σ F H .refl r⟩
theorem ss_break : SS X (.Break pos) (mFl .bk) := ps_mk fun D σ H ⟨io, F, ρ, fl, ρ', r, hm, q⟩ => by
  cases hm; exact ⟨_, ps_break, q σ F H .refl r⟩
theorem ss_continue : SS X (.Continue pos) (mFl .ct) := ps_mk fun D σ H ⟨io, F, ρ, fl, ρ', r, hm, q⟩ => by
  cases hm; exact ⟨_, ps_continue, q σ F H .refl r⟩
/-- a statement that is not reached -/
def mNev : MS := fun _ => none
theorem ss_never : SS X st mNev := ps_mk fun D σ H ⟨io, F, ρ, fl, ρ', r, hm, q⟩ => by cases hm
theorem sb_nil : SB X [] (mFl .nx) := pss_mk fun D σ H ⟨io, F, ρ, fl, ρ', r, hm, q⟩ => by
  cases hm; exact ⟨_, pss_nil, q σ F H .refl r⟩
def mSeq (m n : MS) : MS := fun ρ => match m ρ with
  | some (.nx, ρ') => n ρ'
  | x => x
theorem sb_cons {m n : MS} (h : SS X st m) (h' : SB X rest n) : SB X (st :: rest) (mSeq m n) := pss_mk fun D σ H ⟨io, F, ρ, fl, ρ', r, hm, q⟩ => by
  refine ⟨_, pss_cons h h', ?_⟩
  unfold mSeq at hm
  split at hm
  · rename_i ρ1 h1
    exact ⟨io, F, ρ, _, _, r, h1, fun σ1 F1 H1 x1 r1 => ⟨io, F1, ρ1, _, _, r1, hm, fun σ2 F2 H2 x2 r2 => q σ2 F2 H2 (x1.trans x2) r2⟩⟩
  · rename_i hn
    refine ⟨io, F, ρ, fl, ρ', r, hm, fun σ1 F1 H1 x1 r1 => ?_⟩
    have := q σ1 F1 H1 x1 r1
    cases fl with
    | nx => exact absurd hm (hn ρ')
    | bk => exact this
    | ct => exact this
    | rt d => exact this
theorem sb_one {m : MS} (h : SS X st m) : SB X [st] m := pss_one h
end

/-! ### stores -/
section
variable {K : PySem.W.Frag} {mg : Mg} {io : List (Nat × Addr)} {F H : Hp} {σ : St} {ρ : Rho} {i : Nat} {s : Sl}
theorem set_at {ρ : Rho} {i j : Nat} {s t : Sl} (h : (ρ.set i s)[j]? = some t) : (i = j ∧ t = s ∧ i < ρ.length) ∨ (i ≠ j ∧ ρ[j]? = some t) := by
  rw [List.getElem?_set] at h
  by_cases z : i = j
  · subst z
    left
    by_cases l : i < ρ.length
    · simp only [if_true, l, Option.some.injEq] at h
      exact ⟨rfl, h.symm, l⟩
    · simp [l] at h
  · simp only [z, if_false] at h
    exact .inr ⟨z, h⟩
/-- the slot i gets a value -/
theorem R.setD {d : D} {v : V} (r : R K mg io F H σ ρ) (hs : ρ[i]? = some s) (hio : ∀ c, s ≠ .io c) (p : Rep K mg F d v) :
    R K mg io F H (σ.set i (some v)) (ρ.set i (.d d)) ∧ Ext F H σ ρ F H (σ.set i (some v)) (ρ.set i (.d d)) := by
  have hlt : i < ρ.length := (List.getElem?_eq_some_iff.mp hs).1
  have hltσ : i < σ.length := by rw [← r.len]; exact hlt
  have hcs : ∀ j c, cellAt (ρ.set i (.d d)) j = some c → i ≠ j ∧ cellAt ρ j = some c := fun j c hj => by
    rw [set_cellAt] at hj
    by_cases z : i = j
    · subst z; simp [hlt, Sl.cell?] at hj
    · simp only [z, false_and, if_false] at hj
      exact ⟨z, hj⟩
  have hσ : ∀ j, i ≠ j → (σ.set i (some v))[j]? = σ[j]? := fun j z => List.getElem?_set_ne z
  refine ⟨⟨by rw [List.length_set, List.length_set]; exact r.len, r.sub, fun j x hj => ?_, fun j c hj => ?_, fun j k c c' a hj hk ej ek => ?_, fun q hq => ?_⟩, ⟨Same.refl _, fun a o ha _ => ⟨ha, rfl⟩, fun a ⟨j, c, hj, ha⟩ => ?_, fun _ h => h⟩⟩
  · rcases set_at hj with ⟨z, e, _⟩ | ⟨z, hj⟩
    · subst z
      cases e
      exact ⟨v, by rw [List.getElem?_set_self hltσ], p⟩
    · obtain ⟨w, e, q⟩ := r.dat j x hj
      exact ⟨w, by rw [hσ j z]; exact e, q⟩
  · obtain ⟨z, hj⟩ := hcs j c hj
    obtain ⟨a, e, f, q⟩ := r.cel j c hj
    exact ⟨a, by rw [hσ j z]; exact e, f, q⟩
  · obtain ⟨zj, hj⟩ := hcs j c hj
    obtain ⟨zk, hk⟩ := hcs k c' hk
    rw [hσ j zj] at ej
    rw [hσ k zk] at ek
    exact r.inj j k c c' a hj hk ej ek
  · obtain ⟨e, c, hc⟩ := r.ios q hq
    have z : i ≠ q.1 := by
      rintro rfl
      rw [hs] at hc; cases hc
      exact hio c rfl
    exact ⟨by rw [hσ _ z]; exact e, c, by rw [List.getElem?_set_ne z]; exact hc⟩
  · obtain ⟨z, hj⟩ := hcs j c hj
    rw [hσ j z] at ha
    exact .inl ⟨j, c, hj, ha⟩
/-- the slot i gets a thing of its own -/
theorem R.setC {c0 : Cell} {p : Addr} (r : R K mg io F H σ ρ) (hs : ρ[i]? = some s) (hio : ∀ c, s ≠ .io c) (hf : F p = none) (hn : ¬ OwnA σ ρ p) (q0 : CellOk K mg F H p c0) :
    R K mg io F H (σ.set i (some (.ref p))) (ρ.set i (.own c0)) ∧ ∀ a, OwnA (σ.set i (some (.ref p))) (ρ.set i (.own c0)) a → OwnA σ ρ a ∨ a = p := by
  have hlt : i < ρ.length := (List.getElem?_eq_some_iff.mp hs).1
  have hltσ : i < σ.length := by rw [← r.len]; exact hlt
  have hcs : ∀ j c, cellAt (ρ.set i (.own c0)) j = some c → (i = j ∧ c = c0) ∨ (i ≠ j ∧ cellAt ρ j = some c) := fun j c hj => by
    rw [set_cellAt] at hj
    by_cases z : i = j
    · subst z
      simp only [hlt, and_self, if_true, Sl.cell?, Option.some.injEq] at hj
      exact .inl ⟨rfl, hj.symm⟩
    · simp only [z, false_and, if_false] at hj
      exact .inr ⟨z, hj⟩
  have hσ : ∀ j, i ≠ j → (σ.set i (some (.ref p)))[j]? = σ[j]? := fun j z => List.getElem?_set_ne z
  have hσi : (σ.set i (some (.ref p)))[i]? = some (some (.ref p)) := by rw [List.getElem?_set_self hltσ]
  refine ⟨⟨by rw [List.length_set, List.length_set]; exact r.len, r.sub, fun j x hj => ?_, fun j c hj => ?_, fun j k c c' a hj hk ej ek => ?_, fun q hq => ?_⟩, fun a ⟨j, c, hj, ha⟩ => ?_⟩
  · rcases set_at hj with ⟨z, e, _⟩ | ⟨z, hj⟩
    · cases e
    · obtain ⟨w, e, q⟩ := r.dat j x hj
      exact ⟨w, by rw [hσ j z]; exact e, q⟩
  · rcases hcs j c hj with ⟨rfl, rfl⟩ | ⟨z, hj⟩
    · exact ⟨p, hσi, hf, q0⟩
    · obtain ⟨a, e, f, q⟩ := r.cel j c hj
      exact ⟨a, by rw [hσ j z]; exact e, f, q⟩
  · rcases hcs j c hj with ⟨rfl, _⟩ | ⟨zj, hj1⟩ <;> rcases hcs k c' hk with ⟨rfl, _⟩ | ⟨zk, hk1⟩
    · rfl
    · rw [hσi] at ej
      cases ej
      rw [hσ k zk] at ek
      exact absurd ⟨k, c', hk1, ek⟩ hn
    · rw [hσi] at ek
      cases ek
      rw [hσ j zj] at ej
      exact absurd ⟨j, c, hj1, ej⟩ hn
    · rw [hσ j zj] at ej
      rw [hσ k zk] at ek
      exact r.inj j k c c' a hj1 hk1 ej ek
  · obtain ⟨e, c, hc⟩ := r.ios q hq
    have z : i ≠ q.1 := by
      rintro rfl
      rw [hs] at hc; cases hc
      exact hio c rfl
    exact ⟨by rw [hσ _ z]; exact e, c, by rw [List.getElem?_set_ne z]; exact hc⟩
  · rcases hcs j c hj with ⟨rfl, rfl⟩ | ⟨z, hj⟩
    · rw [hσi] at ha
      cases ha
      exact .inr rfl
    · rw [hσ j z] at ha
      exact .inl ⟨j, c, hj, ha⟩
theorem R.setN {ds : List D} {vs : List V} {p : Addr} (r : R K mg io F H σ ρ) (hs : ρ[i]? = some s) (hio : ∀ c, s ≠ .io c) (hv : H p = some (.lst vs)) (hf : F p = none) (hn : ¬ OwnA σ ρ p) (rl : RepL K mg F ds vs) :
    R K mg io F H (σ.set i (some (.ref p))) (ρ.set i (.own (.lst ds))) ∧ ∀ a, OwnA (σ.set i (some (.ref p))) (ρ.set i (.own (.lst ds))) a → OwnA σ ρ a ∨ a = p := r.setC hs hio hf hn ⟨vs, hv, rl⟩
/-- what a slot owns is changed -/
def Sl.put (c : Cell) : Sl → Sl
  | .own _ => .own c
  | .io _ => .io c
  | s => s
theorem R.wr {a : Addr} {c c' : Cell} {o : HO} (r : R K mg io F H σ ρ) (hs : ρ[i]? = some s) (hc : s.cell? = some c) (ha : σ[i]? = some (some (.ref a))) (hv : CellOk K mg F (upd H a o) a c') :
    R K mg io F (upd H a o) σ (ρ.set i (s.put c')) ∧ Ext F H σ ρ F (upd H a o) σ (ρ.set i (s.put c')) := by
  have hlt : i < ρ.length := (List.getElem?_eq_some_iff.mp hs).1
  have hci : cellAt ρ i = some c := by unfold cellAt; rw [hs]; exact hc
  have hsc : (s.put c').cell? = some c' := by cases s <;> first | rfl | cases hc
  obtain ⟨a', e', f, q'⟩ := r.cel i c hci
  rw [ha] at e'; cases e'
  have hcs : ∀ j d, cellAt (ρ.set i (s.put c')) j = some d → (i = j ∧ d = c') ∨ (i ≠ j ∧ cellAt ρ j = some d) := fun j d hj => by
    rw [set_cellAt] at hj
    by_cases z : i = j
    · subst z
      simp only [hlt, and_self, if_true, hsc, Option.some.injEq] at hj
      exact .inl ⟨rfl, hj.symm⟩
    · simp only [z, false_and, if_false] at hj
      exact .inr ⟨z, hj⟩
  have old : ∀ j d, cellAt (ρ.set i (s.put c')) j = some d → ∃ d', cellAt ρ j = some d' := fun j d hj => by
    rcases hcs j d hj with ⟨rfl, rfl⟩ | ⟨_, hj⟩
    · exact ⟨c, hci⟩
    · exact ⟨d, hj⟩
  refine ⟨⟨by rw [List.length_set]; exact r.len, fun b u e => ?_, fun j x hj => ?_, fun j d hj => ?_, fun j k d d' b hj hk ej ek => ?_, fun q hq => ?_⟩, ⟨Same.refl _, fun b u hb n => ?_, fun b ⟨j, d, hj, hb⟩ => ?_, fun b hb => ?_⟩⟩
  · have : b ≠ a := by rintro rfl; rw [f] at e; cases e
    rw [upd_ne this]; exact r.sub _ _ e
  · rcases set_at hj with ⟨z, e, _⟩ | ⟨z, hj⟩
    · cases s <;> first | (cases hc; done) | cases e
    · exact r.dat j x hj
  · rcases hcs j d hj with ⟨rfl, rfl⟩ | ⟨z, hj⟩
    · exact ⟨a, ha, f, hv⟩
    · obtain ⟨b, e, fb, q⟩ := r.cel j d hj
      have : b ≠ a := by rintro rfl; exact z (r.inj i j _ _ _ hci hj ha e)
      refine ⟨b, e, fb, ?_⟩
      exact q.move (fun o' ho' => by rw [upd_ne this]; exact ho') (Same.refl _)
  · obtain ⟨d1, h1⟩ := old j d hj
    obtain ⟨d2, h2⟩ := old k d' hk
    exact r.inj j k d1 d2 b h1 h2 ej ek
  · obtain ⟨e, d, hd⟩ := r.ios q hq
    refine ⟨e, ?_⟩
    by_cases z : i = q.1
    · subst z
      rw [hs] at hd; cases hd
      exact ⟨c', by rw [List.getElem?_set_self hlt]; rfl⟩
    · exact ⟨d, by rw [List.getElem?_set_ne z]; exact hd⟩
  · have : b ≠ a := by rintro rfl; exact n ⟨i, c, hci, ha⟩
    exact ⟨by rw [upd_ne this]; exact hb, rfl⟩
  · obtain ⟨d1, h1⟩ := old j d hj
    exact .inl ⟨j, d1, h1, hb⟩
  · by_cases z : b = a
    · subst z; rw [upd_same] at hb; cases hb
    · rw [upd_ne z] at hb; exact hb
end
end Z
/-! Assignments, methods that change a list. -/
namespace Z
open PySem PySem.Spec PyProof.Rows L2

def notIo : Sl → Bool
  | .io _ => false
  | _ => true
theorem notIo_ne {s : Sl} (h : notIo s = true) : ∀ c, s ≠ .io c := fun c e => by subst e; cases h
/-- a slot gets a value -/
def putD (i : Nat) (d : D) (ρ : Rho) : Option Rho := match ρ[i]? with
  | some s => if notIo s then some (ρ.set i (.d d)) else none
  | none => none
def putN (i : Nat) (ds : List D) (ρ : Rho) : Option Rho := match ρ[i]? with
  | some s => if notIo s then some (ρ.set i (.own (.lst ds))) else none
  | none => none
section
variable {K : PySem.W.Frag} {mg : Mg} {io : List (Nat × Addr)} {F H : Hp} {σ : St} {ρ ρ' : Rho} {i : Nat}
theorem R.putD {d : D} {v : V} (r : R K mg io F H σ ρ) (h : Z.putD i d ρ = some ρ') (p : Rep K mg F d v) : R K mg io F H (σ.set i (some v)) ρ' ∧ Ext F H σ ρ F H (σ.set i (some v)) ρ' := by
  unfold Z.putD at h
  split at h <;> try cases h
  rename_i s hs
  split at h <;> cases h
  rename_i hn
  exact r.setD hs (notIo_ne hn) p
theorem R.putN {ds : List D} {vs : List V} {p : Addr} (r : R K mg io F H σ ρ) (h : Z.putN i ds ρ = some ρ') (hv : H p = some (.lst vs)) (hf : F p = none) (hn : ¬ OwnA σ ρ p) (rl : RepL K mg F ds vs) :
    R K mg io F H (σ.set i (some (.ref p))) ρ' ∧ ∀ a, OwnA (σ.set i (some (.ref p))) ρ' a → OwnA σ ρ a ∨ a = p := by
  unfold Z.putN at h
  split at h <;> try cases h
  rename_i s hs
  split at h <;> cases h
  rename_i hn'
  exact r.setN hs (notIo_ne hn') hv hf hn rl
end

/-! ### values that may be new lists -/
inductive NV where
  | val (d : D) | new (ds : List D)
abbrev MV := Rho → Option (NV × Rho)
def NvOk (K : PySem.W.Frag) (mg : Mg) (F H : Hp) (σ : St) (ρ : Rho) : NV → V → Prop
  | .val d, v => Rep K mg F d v
  | .new ds, v => ∃ p vs, v = .ref p ∧ H p = some (.lst vs) ∧ F p = none ∧ ¬ OwnA σ ρ p ∧ RepL K mg F ds vs
/-- it was not there at the start -/
def NvNew (H0 : Hp) : NV → V → Prop
  | .val _, _ => True
  | .new _, v => ∃ p, v = .ref p ∧ H0 p = none
def tV (K : PySem.W.Frag) (mg : Mg) (m : MV) : TE := fun σ H Q => ∃ io F ρ n ρ', R K mg io F H σ ρ ∧ m ρ = some (n, ρ') ∧ ∀ v F' H', Ext F H σ ρ F' H' σ ρ' → R K mg io F' H' σ ρ' → NvOk K mg F' H' σ ρ' n v → NvNew H n v → Q v H'
abbrev SV (X : Cx) (e : Expr) (m : MV) : Prop := PE X e (tV X.K X.mgx m)
def mVe (m : ME) : MV := fun ρ => match m ρ with
  | some (d, ρ') => some (.val d, ρ')
  | none => none
def mVn (m : MN) : MV := fun ρ => match m ρ with
  | some (ds, ρ') => some (.new ds, ρ')
  | none => none
section
variable {X : Cx} {e a b : Expr} {es : List Expr} {pos : Pos}
theorem sv_e {m : ME} (h : SE X e m) : SV X e (mVe m) := Z.pe_mk fun σ H Q ⟨io, F, ρ, n, ρ', r, hm, q⟩ => by
  refine ⟨_, h, ?_⟩
  unfold mVe at hm
  split at hm <;> cases hm
  rename_i d h1
  exact ⟨io, F, ρ, d, _, r, h1, fun v F' H' x r' p => q v F' H' x r' p trivial⟩
theorem sv_n {m : MN} (h : SN X e m) : SV X e (mVn m) := Z.pe_mk fun σ H Q ⟨io, F, ρ, n, ρ', r, hm, q⟩ => by
  refine ⟨_, h, ?_⟩
  unfold mVn at hm
  split at hm <;> cases hm
  rename_i ds h1
  exact ⟨io, F, ρ, ds, _, r, h1, fun p vs F' H' x r' hp hv hf hn rl => q _ F' H' x r' ⟨p, vs, rfl, hv, hf, hn, rl⟩ ⟨p, rfl, hp⟩⟩
/-- the slot gets it -/
def putV (i : Nat) : NV → Rho → Option Rho
  | .val d, ρ => putD i d ρ
  | .new ds, ρ => putN i ds ρ
theorem R.putV {K : PySem.W.Frag} {mg : Mg} {io : List (Nat × Addr)} {F0 F H0 H : Hp} {σ : St} {ρ0 ρ ρ' : Rho} {i : Nat} {n : NV} {v : V} (x : Ext F0 H0 σ ρ0 F H σ ρ) (r : R K mg io F H σ ρ) (h : Z.putV i n ρ = some ρ') (p : NvOk K mg F H σ ρ n v) (hn : NvNew H0 n v) :
    R K mg io F H (σ.set i (some v)) ρ' ∧ Ext F0 H0 σ ρ0 F H (σ.set i (some v)) ρ' := by
  cases n with
  | val d =>
    obtain ⟨r2, x2⟩ := r.putD h p
    exact ⟨r2, x.trans x2⟩
  | new ds =>
    obtain ⟨a, vs, rfl, hv, hf, hw, rl⟩ := p
    obtain ⟨a', e, h0⟩ := hn
    cases e
    obtain ⟨r2, x2⟩ := r.putN h hv hf hw rl
    refine ⟨r2, x.sub, x.keep, fun b hb => ?_, x.stay⟩
    rcases x2 b hb with hb | rfl
    · exact x.own b hb
    · exact .inr h0
def mSet (i : Nat) (m : MV) : MS := fun ρ => match m ρ with
  | some (n, ρ1) => match putV i n ρ1 with
    | some ρ2 => some (.nx, ρ2)
    | none => none
  | none => none
theorem ss_set (i : Nat) {x : Str} {pos' : Pos} {m : MV} (hN : X.N.Nodup) (h : SV X e m) (hi : X.N[i]? = some x := by rfl) (hx : Loc X.env.scope x := by first | exact Or.inl rfl | exact Or.inr rfl) (hs : swapsWith e (some (.Name x pos')) pos.line X.env = pure false := by rfl) (hf : X.fn x = true ∨ X.env.scope.names.lookup x = some .local := by first | exact .inl rfl | exact .inr rfl) :
    SS X (.Assign [.Name x pos'] e pos) (mSet i m) := ps_mk fun D σ H ⟨io, F, ρ, fl, ρ', r, hm, q⟩ => by
  refine ⟨_, L2.ps_set hN hi hx h hs hf, ?_⟩
  unfold mSet at hm
  split at hm <;> try cases hm
  rename_i n ρ1 h1
  split at hm <;> cases hm
  rename_i ρ2 h2
  refine ⟨io, F, ρ, n, ρ1, r, h1, fun v F' H' x r' p hn => ?_⟩
  obtain ⟨r2, x2⟩ := R.putV x r' h2 p hn
  exact q _ F' H' x2 r2
/-- a, b = e1, e2 -/
def mPar (i j : Nat) (m n : MV) : MS := fun ρ => match m ρ with
  | some (a, ρ1) => match n ρ1 with
    | some (b, ρ2) => match putV i a ρ2 with
      | some ρ3 => match putV j b ρ3 with
        | some ρ4 => some (.nx, ρ4)
        | none => none
      | none => none
    | none => none
  | none => none
theorem ext_noOwn {F H F' H' : Hp} {σ σ' : St} {ρ ρ' : Rho} {p : Addr} {o : HO} (x : Ext F H σ ρ F' H' σ' ρ') (hp : H p = some o) (hn : ¬ OwnA σ ρ p) : ¬ OwnA σ' ρ' p := fun w => by
  rcases x.own p w with w | w
  · exact hn w
  · rw [hp] at w; cases w
theorem NvOk.keep {K : PySem.W.Frag} {mg : Mg} {F H F' H' : Hp} {σ σ' : St} {ρ ρ' : Rho} {n : NV} {v : V} (x : Ext F H σ ρ F' H' σ' ρ') (h : NvOk K mg F H σ ρ n v) : NvOk K mg F' H' σ' ρ' n v := by
  cases n with
  | val d => exact Rep.mono x.sub h
  | new ds =>
    obtain ⟨p, vs, rfl, hv, hf, hn, rl⟩ := h
    obtain ⟨h1, f1⟩ := x.keep p _ hv hn
    exact ⟨p, vs, rfl, h1, f1.trans hf, ext_noOwn x hv hn, rl.mono x.sub⟩
theorem NvOk.weak {K : PySem.W.Frag} {mg : Mg} {F0 F H0 H : Hp} {σ σ' : St} {ρ ρ' : Rho} {n : NV} {v : V} {i : Nat} : True := trivial
theorem ss_par (i j : Nat) {x y : Str} {px py pt pt2 : Pos} {kt k2 : Nat} {m n : MV} (hN : X.N.Nodup) (ha : SV X a m) (hb : SV X b n) (hc : X.calm = true := by rfl) (hi : X.N[i]? = some x := by rfl) (hj : X.N[j]? = some y := by rfl) (hij : i ≠ j := by decide)
    (hx : X.env.scope.names.lookup x = some .local := by rfl) (hy : X.env.scope.names.lookup y = some .local := by rfl)
    (hs1 : starEach [a, b] X.env = (false, eval a X.env) :: starEach [b] X.env := by rfl) (hs2 : starEach [b] X.env = (false, eval b X.env) :: starEach [] X.env := by rfl)
    (hw : swappedStores [.Tuple [.Name x px, .Name y py] kt pt] (.Tuple [a, b] k2 pt2) X.env = pure (some [x, y]) := by rfl)
    (hs : swapsWithSole [.Tuple [.Name x px, .Name y py] kt pt] (.Tuple [a, b] k2 pt2) pos.line X.env = pure false := by rfl) :
    SS X (.Assign [.Tuple [.Name x px, .Name y py] kt pt] (.Tuple [a, b] k2 pt2) pos) (mPar i j m n) := ps_mk fun D σ H ⟨io, F, ρ, fl, ρ', r, hm, q⟩ => by
  refine ⟨_, L2.ps_par hc hN hi hj hij hx hy (pa_cons ha (pa_cons hb pa_nil hs2) hs1) hw hs, ?_⟩
  unfold mPar at hm
  split at hm <;> try cases hm
  rename_i na ρ1 h1
  split at hm <;> try cases hm
  rename_i nb ρ2 h2
  split at hm <;> try cases hm
  rename_i ρ3 h3
  split at hm <;> cases hm
  rename_i h4
  refine ⟨io, F, ρ, na, ρ1, r, h1, fun v F1 H1 x1 r1 p1 n1 => ⟨io, F1, ρ1, nb, ρ2, r1, h2, fun w F2 H2 x2 r2 p2 n2 => ⟨v, w, rfl, ?_⟩⟩⟩
  obtain ⟨r3, x3⟩ := R.putV (x1.trans x2) r2 h3 (p1.keep x2) n1
  have n2' : NvNew H nb w := by
    cases nb with
    | val d => trivial
    | new ds => obtain ⟨p, e, h0⟩ := n2; exact ⟨p, e, x1.stay p h0⟩
  -- the second list is not the first
  have p2' : NvOk X.K X.mgx F2 H2 (σ.set i (some v)) ρ3 nb w := by
    cases nb with
    | val d => exact p2
    | new ds =>
      obtain ⟨p, vs, rfl, hv, hf, hn, rl⟩ := p2
      refine ⟨p, vs, rfl, hv, hf, fun w' => ?_, rl⟩
      cases na with
      | val d =>
        obtain ⟨_, x3'⟩ := r2.putD h3 (Rep.mono x2.sub p1)
        exact ext_noOwn x3' hv hn w'
      | new es =>
        obtain ⟨p', vs', rfl, hv', hf', hn', rl'⟩ := p1.keep x2
        obtain ⟨_, x3'⟩ := r2.putN h3 hv' hf' hn' rl'
        rcases x3' p w' with w' | rfl
        · exact hn w'
        · obtain ⟨p'', e, h0⟩ := n2
          cases e
          obtain ⟨_, vs1, e1, hv1, _⟩ := p1
          cases e1
          rw [h0] at hv1; cases hv1
  obtain ⟨r4, x4⟩ : R X.K X.mgx io F2 H2 ((σ.set i (some v)).set j (some w)) ρ' ∧ Ext F H σ ρ F2 H2 ((σ.set i (some v)).set j (some w)) ρ' := by
    cases nb with
    | val d =>
      obtain ⟨r4, x4⟩ := r3.putD h4 p2'
      exact ⟨r4, x3.trans x4⟩
    | new ds =>
      obtain ⟨a, vs, rfl, hv, hf, hw, rl⟩ := p2'
      obtain ⟨a', e, h0⟩ := n2'
      cases e
      obtain ⟨r4, x4⟩ := r3.putN h4 hv hf hw rl
      refine ⟨r4, x3.sub, x3.keep, fun b hb => ?_, x3.stay⟩
      rcases x4 b hb with hb | rfl
      · exact x3.own b hb
      · exact .inr h0
  exact q _ F2 H2 x4 r4
end

/-! ### methods on the list of a slot -/
section
variable {X : Cx} {e i' : Expr} {es : List Expr} {pos : Pos}
/-- the list that a slot owns -/
def ownL (ρ : Rho) (i : Nat) : Option (List D) := match ρ[i]? with
  | some (.own (.lst ds)) => some ds
  | some (.io (.lst ds)) => some ds
  | _ => none
def putL (ρ : Rho) (i : Nat) (ds : List D) : Rho := match ρ[i]? with
  | some s => ρ.set i (s.put (.lst ds))
  | none => ρ
theorem R.ownL {K : PySem.W.Frag} {mg : Mg} {io : List (Nat × Addr)} {F H : Hp} {σ : St} {ρ : Rho} {i : Nat} {ds : List D} (r : R K mg io F H σ ρ) (h : Z.ownL ρ i = some ds) :
    ∃ a vs, σ[i]? = some (some (.ref a)) ∧ H a = some (.lst vs) ∧ RepL K mg F ds vs ∧ ∀ es ws, RepL K mg F es ws → R K mg io F (upd H a (.lst ws)) σ (putL ρ i es) ∧ Ext F H σ ρ F (upd H a (.lst ws)) σ (putL ρ i es) := by
  have go : ∀ s, ρ[i]? = some s → s.cell? = some (.lst ds) → ∃ a vs, σ[i]? = some (some (.ref a)) ∧ H a = some (.lst vs) ∧ RepL K mg F ds vs ∧ ∀ es ws, RepL K mg F es ws → R K mg io F (upd H a (.lst ws)) σ (putL ρ i es) ∧ Ext F H σ ρ F (upd H a (.lst ws)) σ (putL ρ i es) := fun s hs hc => by
    have hci : cellAt ρ i = some (.lst ds) := by unfold cellAt; rw [hs]; exact hc
    obtain ⟨a, e, f, vs, hv, rl⟩ := r.cel i _ hci
    refine ⟨a, vs, e, hv, rl, fun es ws rw' => ?_⟩
    have : putL ρ i es = ρ.set i (s.put (.lst es)) := by unfold putL; rw [hs]
    rw [this]
    exact r.wr hs hc e ⟨ws, upd_same, rw'⟩
  unfold Z.ownL at h
  split at h <;> cases h
  · rename_i hs
    exact go _ hs rfl
  · rename_i hs
    exact go _ hs rfl
def mApp (i : Nat) (m : ME) : MS := fun ρ => match ownL ρ i with
  | some _ => match m ρ with
    | some (d, ρ1) => match ownL ρ1 i with
      | some ds => if ds.length < LIM then some (.nx, putL ρ1 i (ds ++ [d])) else none
      | none => none
    | none => none
  | none => none
/-- x.append(e), x a name -/
theorem ss_append (i : Nat) {x : Str} {p apos cpos : Pos} {m : ME} (h : SE X e m) (hN : X.N[i]? = some x := by rfl) (hv : Vis X.env.scope x := by first | exact Or.inl rfl | exact Or.inr (Or.inl rfl) | exact Or.inr (Or.inr rfl)) (hd : (x == ("__debug__" : Str)) = false := by decide) (hcd : (x == ("__classdict__" : Str)) = false := by decide)
    (hs : swapsWith (.Call (.Attribute (.Name x p) "append" apos) [e] [] cpos) none pos.line X.env = pure false := by rfl)
    (hbase : attributeBase (.Name x p) "append" X.env (eval (.Name x p) X.env) = eval (.Name x p) X.env := by rfl)
    (hfew : ((backTo cpos (starEach [e] X.env)).all (fun x => !x.1) && (backToKw cpos (keywordEach [] X.env)).all (fun x => x.1.isSome)
      && decide (([e] : List Expr).length + ([] : List Keyword).length + (if ([] : List Keyword).isEmpty then 0 else 1) < 30)) = true := by rfl)
    (hline : (apos.endLine == cpos.line) = true := by rfl) (hs1 : starEach [e] X.env = (false, eval e X.env) :: starEach [] X.env := by rfl) (hplain : (backTo cpos (starEach [] X.env)).any (·.1) = false := by rfl) :
    SS X (.Expr (.Call (.Attribute (.Name x p) "append" apos) [e] [] cpos) pos) (mApp i m) := ps_mk fun D σ H ⟨io, F, ρ, fl, ρ', r, hm, q⟩ => by
  refine ⟨_, L2.ps_expr (pe_bm PySem.F.plainAttrs_list PySem.F.slot_list_append PySem.F.type_list_append mt_append (pe_var hN hv hd hcd) (pa_cons h pa_nil hs1) hbase hfew hline hs1 hplain) hs, ?_⟩
  unfold mApp at hm
  split at hm <;> try cases hm
  rename_i ds0 h0
  split at hm <;> try cases hm
  rename_i d ρ1 h1
  split at hm <;> try cases hm
  rename_i ds h2
  split at hm <;> cases hm
  rename_i hl
  obtain ⟨a, vs0, e0, hv0, _⟩ := r.ownL h0
  refine ⟨_, e0, .inl ⟨rfl, _, SqL.of hv0⟩, io, F, ρ, d, ρ1, r, h1, fun v F1 H1 x1 r1 p1 => ?_⟩
  obtain ⟨a', vs, e1, hv, rl, go⟩ := r1.ownL h2
  rw [e0] at e1; cases e1
  obtain ⟨r2, x2⟩ := go (ds ++ [d]) (vs ++ [v]) (rl.append (.one p1))
  exact ⟨a, vs, v, rfl, rfl, hv, by rw [rl.len]; exact Nat.lt_of_lt_of_le hl lim_line, q _ _ _ (x1.trans x2) r2⟩
/-- x.extend(e), e a list -/
def mExt (i : Nat) (m : MO) : MS := fun ρ => match ownL ρ i with
  | some _ => match m ρ with
    | some (o, ρ1) => match ownL ρ1 i, res ρ1 o with
      | some ds, some (.lst es) => if ds.length + es.length ≤ LIM then some (.nx, putL ρ1 i (ds ++ es)) else none
      | _, _ => none
    | none => none
  | none => none
theorem ss_extend (i : Nat) {x : Str} {p apos cpos : Pos} {m : MO} (h : SO X e m) (hN : X.N[i]? = some x := by rfl) (hv : Vis X.env.scope x := by first | exact Or.inl rfl | exact Or.inr (Or.inl rfl) | exact Or.inr (Or.inr rfl)) (hd : (x == ("__debug__" : Str)) = false := by decide) (hcd : (x == ("__classdict__" : Str)) = false := by decide)
    (hs : swapsWith (.Call (.Attribute (.Name x p) "extend" apos) [e] [] cpos) none pos.line X.env = pure false := by rfl)
    (hbase : attributeBase (.Name x p) "extend" X.env (eval (.Name x p) X.env) = eval (.Name x p) X.env := by rfl)
    (hfew : ((backTo cpos (starEach [e] X.env)).all (fun x => !x.1) && (backToKw cpos (keywordEach [] X.env)).all (fun x => x.1.isSome)
      && decide (([e] : List Expr).length + ([] : List Keyword).length + (if ([] : List Keyword).isEmpty then 0 else 1) < 30)) = true := by rfl)
    (hline : (apos.endLine == cpos.line) = true := by rfl) (hs1 : starEach [e] X.env = (false, eval e X.env) :: starEach [] X.env := by rfl) (hplain : (backTo cpos (starEach [] X.env)).any (·.1) = false := by rfl) :
    SS X (.Expr (.Call (.Attribute (.Name x p) "extend" apos) [e] [] cpos) pos) (mExt i m) := ps_mk fun D σ H ⟨io, F, ρ, fl, ρ', r, hm, q⟩ => by
  refine ⟨_, L2.ps_expr (pe_bm PySem.F.plainAttrs_list PySem.F.slot_list_extend PySem.F.type_list_extend mt_extend (pe_var hN hv hd hcd) (pa_cons h pa_nil hs1) hbase hfew hline hs1 hplain) hs, ?_⟩
  unfold mExt at hm
  split at hm <;> try cases hm
  rename_i ds0 h0
  split at hm <;> try cases hm
  rename_i o ρ1 h1
  split at hm <;> try cases hm
  rename_i ds es h2 h3
  split at hm <;> cases hm
  rename_i hl
  obtain ⟨a, vs0, e0, hv0, _⟩ := r.ownL h0
  refine ⟨_, e0, .inl ⟨rfl, _, SqL.of hv0⟩, io, F, ρ, o, ρ1, r, h1, fun v F1 H1 x1 r1 p1 => ?_⟩
  obtain ⟨a', vs, e1, hv, rl, go⟩ := r1.ownL h2
  rw [e0] at e1; cases e1
  obtain ⟨b, ws, rfl, hw, rw'⟩ := (r1.res p1 h3).lst r1.sub
  obtain ⟨r2, x2⟩ := go (ds ++ es) (vs ++ ws) (rl.append rw')
  exact ⟨a, b, vs, ws, rfl, rfl, hv, hw, by rw [rl.len, rw'.len]; exact Nat.le_trans hl lim_line, q _ _ _ (x1.trans x2) r2⟩
/-- x[k] = e -/
def mSub (i : Nat) (mi : MO) (m : ME) : MS := fun ρ => match m ρ with
  | some (d, ρ1) => match ownL ρ1 i with
    | some _ => match mi ρ1 with
      | some (o, ρ2) => match ownL ρ2 i, res ρ2 o with
        | some ds, some (.int k) => match ixN ds.length k with
          | some j => some (.nx, putL ρ2 i (ds.set j d))
          | none => none
        | _, _ => none
      | none => none
    | none => none
  | none => none
theorem ss_sub (i : Nat) {x : Str} {k : Expr} {p pos' : Pos} {mi : MO} {m : ME} (hk : SO X k mi) (h : SE X e m) (hN : X.N[i]? = some x := by rfl) (hv : Vis X.env.scope x := by first | exact Or.inl rfl | exact Or.inr (Or.inl rfl) | exact Or.inr (Or.inr rfl)) (hd : (x == ("__debug__" : Str)) = false := by decide) (hcd : (x == ("__classdict__" : Str)) = false := by decide)
    (ha : ∀ v, assign (.Subscript (.Name x p) k pos') X.env v = (do
      let ov ← holding [v] (eval (.Name x p) X.env)
      let iv ← holding [v, ov] (eval k X.env)
      standAt pos'
      holding [v, ov, iv] (setItem ov iv v)
      release [v, ov, iv] []) := by intro _; rfl)
    (hs : swapsWithSole [.Subscript (.Name x p) k pos'] e pos.line X.env = pure false := by rfl) (hw : swappedStores [.Subscript (.Name x p) k pos'] e X.env = pure none := by rfl)
    (h1 : (assignEach [.Subscript (.Name x p) k pos'] X.env).map (·.2) = [assign (.Subscript (.Name x p) k pos') X.env] := by rfl) :
    SS X (.Assign [.Subscript (.Name x p) k pos'] e pos) (mSub i mi m) := ps_mk fun D σ H ⟨io, F, ρ, fl, ρ', r, hm, q⟩ => by
  refine ⟨_, ps_asg h (pg_sub (pe_var hN hv hd hcd) hk set_list ha) hs hw h1, ?_⟩
  unfold mSub at hm
  split at hm <;> try cases hm
  rename_i d ρ1 h1
  split at hm <;> try cases hm
  rename_i ds0 h0
  split at hm <;> try cases hm
  rename_i o ρ2 h2
  split at hm <;> try cases hm
  rename_i ds kk h3 h4
  split at hm <;> cases hm
  rename_i j hj
  refine ⟨io, F, ρ, d, ρ1, r, h1, fun v F1 H1 x1 r1 p1 => ?_⟩
  obtain ⟨a, _, ea, _⟩ := r1.ownL h0
  refine ⟨_, ea, io, F1, ρ1, o, ρ2, r1, h2, fun w F2 H2 x2 r2 p2 => ?_⟩
  obtain ⟨a', vs, ea', hv, rl, go⟩ := r2.ownL h3
  rw [ea] at ea'; cases ea'
  obtain ⟨r3, x3⟩ := go (ds.set j d) (vs.set j v) (RepL.set (p1.mono x2.sub) j rl)
  exact ⟨a, vs, kk, j, rfl, (r2.res p2 h4).int, hv, by rw [rl.len]; exact hj, q _ _ _ ((x1.trans x2).trans x3) r3⟩
/-- the item of a list, for x[k] += e -/
theorem get_list : PGet X (rIxL X.K) := by
  intro pins s σ H x y v u Q I rx ry h
  obtain ⟨p, xs, i, z, rfl, rfl, hq, he, q⟩ := h
  cases rx
  obtain ⟨t, rfl⟩ := ry
  obtain ⟨its, r, pl, hz⟩ := I.list hq
  obtain ⟨j, h1, h2, h3, h4, h5⟩ := atI_get he
  obtain ⟨w, ew, rw'⟩ := r.get h2
  have hl := r.length
  have hn := line63
  have fin : EP X pins σ Q w s := ⟨z, H, I, rw', q⟩
  by_cases h0 : 0 ≤ i
  · have hj : i.toNat = j := by
      rw [seqIndex_of h0 h5] at h1
      exact Option.some.inj h1
    exact wpAny_getItem_list pl.isList h0 (by omega) (by rw [hj]; simpa using ew) fin
  · have hj : (i + (its.toArray.size : Int)).toNat = j := by
      rw [seqIndex_neg (by omega) h4] at h1
      rw [List.size_toArray, ← hl]
      exact Option.some.inj h1
    exact wpAny_getItem_list_neg pl.isList (by omega) (by rw [List.size_toArray] <;> omega) (by omega) (by rw [hj]; simpa using ew) fin
/-- x[k] += e, ints -/
def mSubAug (f : Int → Int → Int) (i : Nat) (mi : MO) (m : ME) : MS := fun ρ => match ownL ρ i with
  | some _ => match mi ρ with
    | some (o, ρ1) => match ownL ρ1 i, res ρ1 o with
      | some ds, some (.int k) => match atI ds k with
        | some (.int a) => match m ρ1 with
          | some (.int b, ρ2) => match ownL ρ2 i with
            | some es => match ixN es.length k with
              | some j => some (.nx, putL ρ2 i (es.set j (.int (f a b))))
              | none => none
            | none => none
          | _ => none
        | _ => none
      | _, _ => none
    | none => none
  | none => none
theorem ss_subAug (i : Nat) {f : Int → Int → Int} {op : Operator} (hop : PIp X op (ipI f)) {x : Str} {k : Expr} {p pos' : Pos} {mi : MO} {m : ME} (hk : SO X k mi) (h : SE X e m) (hN : X.N[i]? = some x := by rfl) (hv : Vis X.env.scope x := by first | exact Or.inl rfl | exact Or.inr (Or.inl rfl) | exact Or.inr (Or.inr rfl)) (hd : (x == ("__debug__" : Str)) = false := by decide) (hcd : (x == ("__classdict__" : Str)) = false := by decide)
    (ha : ∀ ov iv new, augStore k ov iv new = (do holding [new, ov, iv] (setItem ov iv new); release [new, ov, iv] []; pure .next) := by intros; rfl) :
    SS X (.AugAssign (.Subscript (.Name x p) k pos') op e pos) (mSubAug f i mi m) := ps_mk fun D σ H ⟨io, F, ρ, fl, ρ', r, hm, q⟩ => by
  refine ⟨_, ps_augS (pe_var hN hv hd hcd) hk get_list h hop set_list ha, ?_⟩
  unfold mSubAug at hm
  split at hm <;> try cases hm
  rename_i ds0 h0
  split at hm <;> try cases hm
  rename_i o ρ1 h1
  split at hm <;> try cases hm
  rename_i ds kk h2 h3
  split at hm <;> try cases hm
  rename_i a ha'
  split at hm <;> try cases hm
  rename_i b ρ2 h4
  split at hm <;> try cases hm
  rename_i es h5
  split at hm <;> cases hm
  rename_i j hj
  obtain ⟨l, _, el, _⟩ := r.ownL h0
  refine ⟨_, el, io, F, ρ, o, ρ1, r, h1, fun w F1 H1 x1 r1 p1 => ?_⟩
  obtain ⟨l', vs, el', hv, rl, _⟩ := r1.ownL h2
  rw [el] at el'; cases el'
  obtain ⟨j', y, hy, hx, hi⟩ := atI_len rl.len ha' fun j x e => let ⟨y, hy, _⟩ := rl.get e; ⟨y, hy⟩
  obtain ⟨y', hy', ry⟩ := rl.get hx
  rw [hy] at hy'; cases hy'
  simp only [Rep] at ry
  subst ry
  refine ⟨l, vs, kk, _, rfl, (r1.res p1 h3).int, SqL.of hv, hi, io, F1, ρ1, _, ρ2, r1, h4, fun u F2 H2 x2 r2 p2 => ?_⟩
  simp only [Rep] at p2
  subst p2
  obtain ⟨l', ws, el', hw, rw', go⟩ := r2.ownL h5
  rw [el] at el'; cases el'
  obtain ⟨r3, x3⟩ := go (es.set j (.int (f a b))) (ws.set j (.int (f a b))) (RepL.set (by simp only [Rep]) j rw')
  exact ⟨a, b, rfl, rfl, l, ws, kk, j, rfl, (r1.res p1 h3).int, hw, by rw [rw'.len]; exact hj, q _ _ _ ((x1.trans x2).trans x3) r3⟩
/-- x += e, ints -/
def mAug (f : Int → Int → Int) (i : Nat) (m : ME) : MS := fun ρ => match ρ[i]? with
  | some (.d (.int a)) => match m ρ with
    | some (.int b, ρ1) => match putD i (.int (f a b)) ρ1 with
      | some ρ2 => some (.nx, ρ2)
      | none => none
    | _ => none
  | _ => none
theorem ss_aug (i : Nat) {f : Int → Int → Int} {op : Operator} (hop : PIp X op (ipI f)) {x : Str} {pos' : Pos} {m : ME} (hN : X.N.Nodup) (h : SE X e m) (hi : X.N[i]? = some x := by rfl) (hx : Loc X.env.scope x := by first | exact Or.inl rfl | exact Or.inr rfl) (hf : X.fn x = true ∨ X.env.scope.names.lookup x = some .local := by first | exact .inl rfl | exact .inr rfl) :
    SS X (.AugAssign (.Name x pos') op e pos) (mAug f i m) := ps_mk fun D σ H ⟨io, F, ρ, fl, ρ', r, hm, q⟩ => by
  refine ⟨_, L2.ps_aug hN hi hx h hop hf, ?_⟩
  unfold mAug at hm
  split at hm <;> try cases hm
  rename_i a h0
  split at hm <;> try cases hm
  rename_i b ρ1 h1
  split at hm <;> cases hm
  rename_i ρ2 h2
  obtain ⟨v, e0, p0⟩ := r.dat i _ h0
  simp only [Rep] at p0
  subst p0
  refine ⟨_, e0, io, F, ρ, _, ρ1, r, h1, fun u F1 H1 x1 r1 p1 => ?_⟩
  simp only [Rep] at p1
  subst p1
  obtain ⟨r2, x2⟩ := r1.putD (v := .int (f a b)) h2 (by simp only [Rep])
  exact ⟨a, b, rfl, rfl, q _ _ _ (x1.trans x2) r2⟩
end
end Z
/-! Targets, loops. -/
namespace Z
open PySem PySem.Spec PyProof.Rows L2

abbrev MG := D → Rho → Option Rho
/-- what is at the slots vs may change -/
def OutEq (vs : List Nat) (σ σ' : St) : Prop := σ'.length = σ.length ∧ ∀ j, j ∉ vs → σ'[j]? = σ[j]?
theorem OutEq.refl {vs : List Nat} {σ : St} : OutEq vs σ σ := ⟨rfl, fun _ _ => rfl⟩
theorem OutEq.trans {vs : List Nat} {σ σ1 σ2 : St} (a : OutEq vs σ σ1) (b : OutEq vs σ1 σ2) : OutEq vs σ σ2 := ⟨b.1.trans a.1, fun j h => (b.2 j h).trans (a.2 j h)⟩
def tG (K : PySem.W.Frag) (mg : Mg) (sl : List Nat) (g : MG) : TG := fun v σ H Q => ∃ io F ρ d ρ', R K mg io F H σ ρ ∧ Rep K mg F d v ∧ g d ρ = some ρ' ∧ ∀ σ' F' H', Ext F H σ ρ F' H' σ' ρ' → R K mg io F' H' σ' ρ' → OutEq sl σ σ' → Q σ' H'
def gAll : List MG → List D → Rho → Option Rho
  | [], [], ρ => some ρ
  | g :: gs, d :: ds, ρ => match g d ρ with
    | some ρ' => gAll gs ds ρ'
    | none => none
  | _, _, _ => none
def tGs (K : PySem.W.Frag) (mg : Mg) (sl : List Nat) (gs : List MG) : TGs := fun vs σ H Q => ∃ io F ρ ds ρ', R K mg io F H σ ρ ∧ RepL K mg F ds vs ∧ gAll gs ds ρ = some ρ' ∧ ∀ σ' F' H', Ext F H σ ρ F' H' σ' ρ' → R K mg io F' H' σ' ρ' → OutEq sl σ σ' → Q σ' H'
abbrev SG (X : Cx) (sl : List Nat) (tg : Expr) (g : MG) : Prop := PG X tg (tG X.K X.mgx sl g)
abbrev SGs (X : Cx) (sl : List Nat) (ts : List Expr) (gs : List MG) : Prop := PGs X ts (tGs X.K X.mgx sl gs)
section
variable {X : Cx} {tg e : Expr} {ts : List Expr} {pos : Pos}
theorem pg_mk {t : TG} (h : ∀ v σ H Q, t v σ H Q → ∃ u, PG X tg u ∧ u v σ H Q) : PG X tg t := ⟨fun pins s σ H v u Q I r q => let ⟨w, p, hu⟩ := h v σ H Q q; p.run pins s σ H v u Q I r hu⟩
theorem pgs_mk {t : TGs} (h : ∀ v σ H Q, t v σ H Q → ∃ u, PGs X ts u ∧ u v σ H Q) : PGs X ts t := ⟨fun pins s σ H v u Q I r q => let ⟨w, p, hu⟩ := h v σ H Q q; p.run pins s σ H v u Q I r hu⟩
def gN (i : Nat) : MG := fun d ρ => putD i d ρ
theorem sg_name {sl : List Nat} (i : Nat) {x : Str} (hN : X.N.Nodup) (hsl : i ∈ sl := by decide) (hi : X.N[i]? = some x := by rfl) (hx : Loc X.env.scope x := by first | exact Or.inl rfl | exact Or.inr rfl) (hf : X.fn x = true ∨ X.env.scope.names.lookup x = some .local := by first | exact .inl rfl | exact .inr rfl | assumption) : SG X sl (.Name x pos) (gN i) := pg_mk fun v σ H Q ⟨io, F, ρ, d, ρ', r, p, h, q⟩ => by
  refine ⟨_, L2.pg_name hN hi hx hf, ?_⟩
  obtain ⟨r2, x2⟩ := r.putD h p
  refine q _ F H x2 r2 ⟨List.length_set, fun j hj => List.getElem?_set_ne ?_⟩
  rintro rfl
  exact hj hsl
theorem sgs_nil {sl : List Nat} : SGs X sl [] [] := pgs_mk fun v σ H Q ⟨io, F, ρ, ds, ρ', r, p, h, q⟩ => by
  refine ⟨_, L2.pgs_nil, ?_⟩
  cases ds with
  | nil =>
    simp only [gAll] at h
    cases h
    simp only [RepL] at p
    exact ⟨p, q σ F H .refl r .refl⟩
  | cons d ds => cases h
theorem sgs_cons {sl : List Nat} {g : MG} {gs : List MG} (h1 : SG X sl tg g) (h2 : SGs X sl ts gs) (hs : (assignEach (tg :: ts) X.env).map (·.2) = assign tg X.env :: (assignEach ts X.env).map (·.2) := by rfl) : SGs X sl (tg :: ts) (g :: gs) := pgs_mk fun v σ H Q ⟨io, F, ρ, ds, ρ', r, p, h, q⟩ => by
  refine ⟨_, L2.pgs_cons h1 h2 hs, ?_⟩
  cases ds with
  | nil => cases h
  | cons d ds =>
    simp only [gAll] at h
    split at h <;> try cases h
    rename_i ρ1 h1
    simp only [RepL] at p
    obtain ⟨w, t, rfl, pw, pt⟩ := p
    exact ⟨w, t, rfl, io, F, ρ, d, ρ1, r, pw, h1, fun σ1 F1 H1 x1 r1 o1 => ⟨io, F1, ρ1, ds, ρ', r1, pt.mono x1.sub, h, fun σ2 F2 H2 x2 r2 o2 => q σ2 F2 H2 (x1.trans x2) r2 (o1.trans o2)⟩⟩
def gT (gs : List MG) : MG := fun d ρ => match d with
  | .tup ds => gAll gs ds ρ
  | .prs ds => gAll gs ds ρ
  | _ => none
theorem gAll_len : ∀ {gs : List MG} {ds : List D} {ρ ρ' : Rho}, gAll gs ds ρ = some ρ' → ds.length = gs.length
  | [], [], _, _, _ => rfl
  | [], _ :: _, _, _, h => by cases h
  | _ :: _, [], _, _, h => by cases h
  | g :: gs, d :: ds, ρ, ρ', h => by
    simp only [gAll] at h
    split at h <;> try cases h
    rw [List.length_cons, List.length_cons, gAll_len h]
theorem sg_tup {sl : List Nat} {k : Nat} {gs : List MG} (h : SGs X sl ts gs) (hc : X.calm = true := by rfl) (hn : (assignEach ts X.env).length = gs.length := by rfl) (hst : (assignEach ts X.env).findIdx? (·.1) = none := by rfl) : SG X sl (.Tuple ts k pos) (gT gs) := pg_mk fun v σ H Q ⟨io, F, ρ, d, ρ', r, p, h', q⟩ => by
  refine ⟨_, L2.pg_tup hc h hn hst, ?_⟩
  unfold gT at h'
  split at h' <;> try cases h'
  · rename_i ds
    simp only [Rep] at p
    obtain ⟨a, vs, rfl, ht, rl⟩ := p
    exact ⟨a, vs, rfl, Same.tup r.sub ht.t, by rw [rl.len]; exact gAll_len h', io, F, ρ, ds, ρ', r, rl, h', q⟩
  · rename_i ds
    simp only [Rep] at p
    obtain ⟨a, vs, rfl, ht, rl⟩ := p
    exact ⟨a, vs, rfl, Same.tup r.sub ht, by rw [rl.len]; exact gAll_len h', io, F, ρ, ds, ρ', r, rl, h', q⟩
def mAsg (m : ME) (g : MG) : MS := fun ρ => match m ρ with
  | some (d, ρ1) => match g d ρ1 with
    | some ρ2 => some (.nx, ρ2)
    | none => none
  | none => none
theorem ss_asg {sl : List Nat} {m : ME} {g : MG} (he : SE X e m) (hg : SG X sl tg g) (hs : swapsWithSole [tg] e pos.line X.env = pure false := by rfl) (hw : swappedStores [tg] e X.env = pure none := by rfl) (h1 : (assignEach [tg] X.env).map (·.2) = [assign tg X.env] := by rfl) :
    SS X (.Assign [tg] e pos) (mAsg m g) := ps_mk fun D σ H ⟨io, F, ρ, fl, ρ', r, hm, q⟩ => by
  refine ⟨_, L2.ps_asg he hg hs hw h1, ?_⟩
  unfold mAsg at hm
  split at hm <;> try cases hm
  rename_i d ρ1 h1
  split at hm <;> cases hm
  rename_i ρ2 h2
  exact ⟨io, F, ρ, d, ρ1, r, h1, fun v F1 H1 x1 r1 p1 => ⟨io, F1, ρ1, d, _, r1, p1, h2, fun σ2 F2 H2 x2 r2 _ => q σ2 F2 H2 (x1.trans x2) r2⟩⟩

/-! ### what is walked -/
/-- the walk J yields the data ds -/
def ItOk (K : PySem.W.Frag) (mg : Mg) (F : Hp) (J : It) (ds : List D) : Prop :=
  ∀ i F1 H1, Same F F1 → Same F1 H1 → (∀ d, ds[i]? = some d → J.go i H1 ∧ ∀ x H2, J.yld i H1 x H2 → ∃ F2, Grow F1 H1 F2 H2 ∧ Rep K mg F2 d x) ∧ (i = ds.length → J.stop i H1)
abbrev MI := Rho → Option (List D × Rho)
def tI (K : PySem.W.Frag) (mg : Mg) (m : MI) : TI := fun σ H R' => ∃ io F ρ ds ρ', R K mg io F H σ ρ ∧ m ρ = some (ds, ρ') ∧ ∀ J F' H', Ext F H σ ρ F' H' σ ρ' → R K mg io F' H' σ ρ' → ItOk K mg F' J ds → R' J H'
abbrev SI (X : Cx) (tg e : Expr) (m : MI) : Prop := PI X tg e (tI X.K X.mgx m)
theorem pi_mk {t : TI} (h : ∀ σ H Q, t σ H Q → ∃ u, PI X tg e u ∧ u σ H Q) : PI X tg e t := ⟨fun pins s σ H Q I q => let ⟨u, p, hu⟩ := h σ H Q q; p.run pins s σ H Q I hu⟩
theorem it_list {K : PySem.W.Frag} {mg : Mg} {F : Hp} {a : Addr} {vs : List V} {ds : List D} (h : SqL K F a vs) (rl : RepL K mg F ds vs) : ItOk K mg F (Itl K a) ds := fun i F1 H1 s1 s2 => by
  have hq : SqL K H1 a vs := s2.seq (s1.seq h)
  refine ⟨fun d hd => ?_, fun e => ⟨vs, hq, by rw [rl.len, e]; exact Nat.le_refl _⟩⟩
  obtain ⟨v, hv, p⟩ := rl.get hd
  refine ⟨⟨vs, v, hq, hv⟩, fun x H2 y => ?_⟩
  obtain ⟨rfl, y⟩ := y
  have := y vs hq
  rw [hv] at this
  cases this
  exact ⟨F1, .refl s2, p.mono s1⟩
theorem it_tup {K : PySem.W.Frag} {mg : Mg} {F : Hp} {a : Addr} {vs : List V} {ds : List D} (h : SqT K F a vs) (rl : RepL K mg F ds vs) : ItOk K mg F (Itt K a) ds := fun i F1 H1 s1 s2 => by
  have hq : SqT K H1 a vs := Same.tup s2 (Same.tup s1 h)
  refine ⟨fun d hd => ?_, fun e => ⟨vs, hq, by rw [rl.len, e]; exact Nat.le_refl _⟩⟩
  obtain ⟨v, hv, p⟩ := rl.get hd
  refine ⟨⟨vs, v, hq, hv⟩, fun x H2 y => ?_⟩
  obtain ⟨rfl, y⟩ := y
  have := y vs hq
  rw [hv] at this
  cases this
  exact ⟨F1, .refl s2, p.mono s1⟩
/-- a list -/
def mIL (m : ME) : MI := fun ρ => match m ρ with
  | some (.lst ds, ρ') => some (ds, ρ')
  | _ => none
theorem si_list {m : ME} (h : SE X e m) : SI X tg e (mIL m) := pi_mk fun σ H Q ⟨io, F, ρ, ds, ρ', r, hm, q⟩ => by
  refine ⟨_, pi_list h, ?_⟩
  unfold mIL at hm
  split at hm <;> cases hm
  rename_i h1
  refine ⟨io, F, ρ, _, _, r, h1, fun v F1 H1 x1 r1 p1 => ?_⟩
  simp only [Rep] at p1
  obtain ⟨a, vs, rfl, hl, rl⟩ := p1
  exact ⟨a, rfl, ⟨vs, SqL.of (r1.sub _ _ hl)⟩, q _ F1 H1 x1 r1 (it_list (SqL.of hl) rl)⟩
def mIT (m : ME) : MI := fun ρ => match m ρ with
  | some (.tup ds, ρ') => some (ds, ρ')
  | _ => none
theorem si_tup {m : ME} (h : SE X e m) : SI X tg e (mIT m) := pi_mk fun σ H Q ⟨io, F, ρ, ds, ρ', r, hm, q⟩ => by
  refine ⟨_, pi_tup h, ?_⟩
  unfold mIT at hm
  split at hm <;> cases hm
  rename_i h1
  refine ⟨io, F, ρ, _, _, r, h1, fun v F1 H1 x1 r1 p1 => ?_⟩
  simp only [Rep] at p1
  obtain ⟨a, vs, rfl, hl, rl⟩ := p1
  exact ⟨a, rfl, ⟨vs, Same.tup r1.sub hl.t⟩, q _ F1 H1 x1 r1 (it_tup hl.t rl)⟩
/-- range(n), range(a, b) -/
def rngL (lo : Int) (n : Nat) : List D := (List.range n).map fun i => D.int (lo + (i : Nat))
theorem it_rng {K : PySem.W.Frag} {mg : Mg} {F : Hp} {lo : Int} {n : Nat} : ItOk K mg F (Itr lo n) (rngL lo n) := fun i F1 H1 s1 s2 => by
  refine ⟨fun d hd => ?_, fun e => ?_⟩
  · unfold rngL at hd
    rw [List.getElem?_map] at hd
    cases q : (List.range n)[i]? with
    | none => rw [q] at hd; cases hd
    | some k =>
      rw [q] at hd
      obtain ⟨hl, hk⟩ := List.getElem?_eq_some_iff.mp q
      rw [List.length_range] at hl
      rw [List.getElem_range] at hk
      subst hk
      cases hd
      refine ⟨hl, fun x H2 y => ?_⟩
      obtain ⟨rfl, rfl⟩ := y
      exact ⟨F1, .refl s2, by simp only [Rep]⟩
  · subst e
    unfold rngL
    rw [List.length_map, List.length_range]
    exact Nat.le_refl _
def mIR1 (m : MO) : MI := fun ρ => match m ρ with
  | some (o, ρ') => match res ρ' o with
    | some (.int j) => if j.natAbs < 1000000 then some (rngL 0 j.toNat, ρ') else none
    | _ => none
  | none => none
theorem si_rng1 {p : Pos} {a : Expr} {m : MO} (h : SO X a m) (hm : X.mg "range" = none) (hg : Gl X "range" := by rfl) (hs1 : starEach [a] X.env = (false, eval a X.env) :: starEach [] X.env := by rfl) (hs : starEach [a] X.env = [(false, eval a X.env)] := by rfl) : SI X tg (.Call (.Name "range" p) [a] [] pos) (mIR1 m) := pi_mk fun σ H Q ⟨io, F, ρ, ds, ρ', r, hm', q⟩ => by
  refine ⟨_, pi_range1 hg hm (pa_cons h pa_nil hs1) hs, ?_⟩
  unfold mIR1 at hm'
  split at hm' <;> try cases hm'
  rename_i o ρ1 h1
  split at hm' <;> try cases hm'
  rename_i j hj
  split at hm' <;> cases hm'
  rename_i hl
  refine ⟨io, F, ρ, o, _, r, h1, fun v F1 H1 x1 r1 p1 => ?_⟩
  exact ⟨j, by rw [(r1.res p1 hj).int], by omega, by omega, q _ F1 H1 x1 r1 it_rng⟩
def mIR2 (m n : MO) : MI := fun ρ => match m ρ with
  | some (o, ρ1) => match n ρ1 with
    | some (o', ρ') => match res ρ' o, res ρ' o' with
      | some (.int i), some (.int j) => if i.natAbs < 1000000 ∧ j.natAbs < 1000000 then some (rngL i (j - i).toNat, ρ') else none
      | _, _ => none
    | none => none
  | none => none
theorem si_rng2 {p : Pos} {a b : Expr} {m n : MO} (h : SO X a m) (h' : SO X b n) (hm : X.mg "range" = none) (hg : Gl X "range" := by rfl) (hs1 : starEach [a, b] X.env = (false, eval a X.env) :: starEach [b] X.env := by rfl) (hs2 : starEach [b] X.env = (false, eval b X.env) :: starEach [] X.env := by rfl)
    (hs : starEach [a, b] X.env = [(false, eval a X.env), (false, eval b X.env)] := by rfl) (hs3 : starEach [b] X.env = [(false, eval b X.env)] := by rfl) : SI X tg (.Call (.Name "range" p) [a, b] [] pos) (mIR2 m n) := pi_mk fun σ H Q ⟨io, F, ρ, ds, ρ', r, hm', q⟩ => by
  refine ⟨_, pi_range2 hg hm (pa_cons h (pa_cons h' pa_nil hs2) hs1) hs hs3, ?_⟩
  unfold mIR2 at hm'
  split at hm' <;> try cases hm'
  rename_i o ρ1 h1
  split at hm' <;> try cases hm'
  rename_i o' ρ2 h2
  split at hm' <;> try cases hm'
  rename_i i j hi hj
  split at hm' <;> cases hm'
  rename_i hl
  refine ⟨io, F, ρ, o, _, r, h1, fun v F1 H1 x1 r1 p1 => ⟨io, F1, ρ1, o', _, r1, h2, fun w F2 H2 x2 r2 p2 => ?_⟩⟩
  exact ⟨i, j, by rw [(r2.res (p1.mono x2.sub) hi).int, (r2.res p2 hj).int], by omega, q _ F2 H2 (x1.trans x2) r2 it_rng⟩

/-! ### for -/
def loopF (g : MG) (b : MS) : List D → Rho → Option (Fl × Rho)
  | [], ρ => some (.nx, ρ)
  | d :: ds, ρ => match g d ρ with
    | some ρ1 => match b ρ1 with
      | some (.nx, ρ2) => loopF g b ds ρ2
      | some (.ct, ρ2) => loopF g b ds ρ2
      | some (.bk, ρ2) => some (.nx, ρ2)
      | some (.rt d, ρ2) => some (.rt d, ρ2)
      | none => none
    | none => none
def mFor (mi : MI) (g : MG) (b : MS) : MS := fun ρ => match mi ρ with
  | some (ds, ρ1) => loopF g b ds ρ1
  | none => none
theorem ss_for {sl : List Nat} {iter : Expr} {body : List Stmt} {mi : MI} {g : MG} {b : MS} (hi : SI X tg iter mi) (hg : SG X sl tg g) (hb : SB X body b) (hp : PassesOwn (model X.prog X.w) X.A X.env X.xe) (hc : X.calm = true := by rfl) (hs : ∀ x, foldedSetIterable iter X.env x = pure x := by intro _; rfl) :
    SS X (.For tg iter body [] pos) (mFor mi g b) := ps_mk fun D σ H ⟨io, F, ρ, fl, ρ', r, hm, q⟩ => by
  refine ⟨_, L2.ps_for hp hc hi hg hb hs, ?_⟩
  unfold mFor at hm
  split at hm <;> try cases hm
  rename_i ds ρ1 h1
  refine ⟨io, F, ρ, ds, ρ1, r, h1, fun J F1 H1 x1 r1 ok => ?_⟩
  refine ⟨fun i m σ2 H2 => ∃ F2 ρ2, m = ds.length - i ∧ i ≤ ds.length ∧ Ext F1 H1 σ ρ1 F2 H2 σ2 ρ2 ∧ R X.K X.mgx io F2 H2 σ2 ρ2 ∧ loopF g b (ds.drop i) ρ2 = some (fl, ρ'), ⟨ds.length, F1, ρ1, by simp, Nat.zero_le _, .refl, r1, by simpa using hm⟩, ?_⟩
  rintro i m σ2 H2 ⟨F2, ρ2, rfl, hi, x2, r2, hl⟩
  obtain ⟨ok1, ok2⟩ := ok i F2 H2 x2.sub r2.sub
  by_cases hlt : i < ds.length
  · have hd : ds[i]? = some ds[i] := List.getElem?_eq_getElem hlt
    rw [List.drop_eq_getElem_cons hlt] at hl
    simp only [loopF] at hl
    split at hl <;> try cases hl
    rename_i ρ3 h3
    obtain ⟨go, yl⟩ := ok1 _ hd
    -- what the next turn starts from
    refine .inr ⟨go, fun σ4 H4 => ∃ F4 ρ4, Ext F1 H1 σ ρ1 F4 H4 σ4 ρ4 ∧ R X.K X.mgx io F4 H4 σ4 ρ4 ∧ loopF g b (ds.drop (i + 1)) ρ4 = some (fl, ρ'), fun σ4 H4 ⟨F4, ρ4, x4, r4, l4⟩ => ⟨ds.length - (i + 1), by omega, F4, ρ4, rfl, hlt, x4, r4, l4⟩, fun x H3 y => ?_⟩
    obtain ⟨F3, gr, px⟩ := yl x H3 y
    refine ⟨io, F3, ρ2, _, ρ3, r2.grow gr, px, h3, fun σ4 F4 H4 x4 r4 _ => ?_⟩
    have x14 := (x2.trans gr.ext).trans x4
    split at hl
    · rename_i ρ5 h5
      exact ⟨io, F4, ρ3, _, ρ5, r4, h5, fun σ6 F6 H6 x6 r6 => ⟨F6, ρ5, x14.trans x6, r6, hl⟩⟩
    · rename_i ρ5 h5
      exact ⟨io, F4, ρ3, _, ρ5, r4, h5, fun σ6 F6 H6 x6 r6 => ⟨F6, ρ5, x14.trans x6, r6, hl⟩⟩
    · rename_i ρ5 h5
      cases hl
      exact ⟨io, F4, ρ3, _, ρ', r4, h5, fun σ6 F6 H6 x6 r6 => q σ6 F6 H6 ((x1.trans x14).trans x6) r6⟩
    · rename_i d ρ5 h5
      cases hl
      exact ⟨io, F4, ρ3, _, ρ', r4, h5, fun σ6 F6 H6 x6 r6 => q σ6 F6 H6 ((x1.trans x14).trans x6) r6⟩
    · cases hl
  · have e : i = ds.length := by omega
    subst e
    rw [List.drop_length] at hl
    simp only [loopF] at hl
    cases hl
    exact .inl ⟨ok2 rfl, q σ2 F2 H2 (x1.trans x2) r2⟩

/-! ### while -/
def loopW (c : MT) (b : MS) : Nat → Rho → Option (Fl × Rho)
  | 0, _ => none
  | n + 1, ρ => match c ρ with
    | some (false, ρ1) => some (.nx, ρ1)
    | some (true, ρ1) => match b ρ1 with
      | some (.nx, ρ2) => loopW c b n ρ2
      | some (.ct, ρ2) => loopW c b n ρ2
      | some (.bk, ρ2) => some (.nx, ρ2)
      | some (.rt d, ρ2) => some (.rt d, ρ2)
      | none => none
    | none => none
def mWhile (n : Nat) (c : MT) (b : MS) : MS := fun ρ => loopW c b n ρ
theorem ss_while {n : Nat} {c : Expr} {body : List Stmt} {mc : MT} {b : MS} (hc : ST X c mc) (hb : SB X body b) (hp : PassesOwn (model X.prog X.w) X.A X.env X.xe) : SS X (.While c body [] pos) (mWhile n mc b) := ps_mk fun D σ H ⟨io, F, ρ, fl, ρ', r, hm, q⟩ => by
  refine ⟨_, L2.ps_while hp hc hb, ?_⟩
  refine ⟨fun m σ2 H2 => ∃ F2 ρ2, Ext F H σ ρ F2 H2 σ2 ρ2 ∧ R X.K X.mgx io F2 H2 σ2 ρ2 ∧ loopW mc b m ρ2 = some (fl, ρ'), ⟨n, F, ρ, .refl, r, hm⟩, ?_⟩
  rintro m σ2 H2 ⟨F2, ρ2, x2, r2, hl⟩
  cases m with
  | zero => cases hl
  | succ m =>
    simp only [loopW] at hl
    split at hl
    · rename_i ρ3 h3
      cases hl
      exact ⟨io, F2, ρ2, _, _, r2, h3, fun F3 H3 x3 r3 => iteF (q σ2 F3 H3 (x2.trans x3) r3)⟩
    · rename_i ρ3 h3
      refine ⟨io, F2, ρ2, _, _, r2, h3, fun F3 H3 x3 r3 => iteT ⟨fun σ4 H4 => ∃ F4 ρ4, Ext F H σ ρ F4 H4 σ4 ρ4 ∧ R X.K X.mgx io F4 H4 σ4 ρ4 ∧ loopW mc b m ρ4 = some (fl, ρ'), fun σ4 H4 w => ⟨m, by omega, w⟩, ?_⟩⟩
      have x23 := x2.trans x3
      split at hl
      · rename_i ρ5 h5
        exact ⟨io, F3, ρ3, _, ρ5, r3, h5, fun σ6 F6 H6 x6 r6 => ⟨F6, ρ5, x23.trans x6, r6, hl⟩⟩
      · rename_i ρ5 h5
        exact ⟨io, F3, ρ3, _, ρ5, r3, h5, fun σ6 F6 H6 x6 r6 => ⟨F6, ρ5, x23.trans x6, r6, hl⟩⟩
      · rename_i ρ5 h5
        cases hl
        exact ⟨io, F3, ρ3, _, ρ', r3, h5, fun σ6 F6 H6 x6 r6 => q σ6 F6 H6 (x23.trans x6) r6⟩
      · rename_i d ρ5 h5
        cases hl
        exact ⟨io, F3, ρ3, _, ρ', r3, h5, fun σ6 F6 H6 x6 r6 => q σ6 F6 H6 (x23.trans x6) r6⟩
      · cases hl
    · cases hl
end
end Z
/-! zip; comprehensions. -/
namespace Z
open PySem PySem.Spec PyProof.Rows L2

def zipD (xs ys : List D) : List D := (xs.zip ys).map fun p => D.prs [p.1, p.2]
theorem zipD_get {xs ys : List D} {i : Nat} {d : D} (h : (zipD xs ys)[i]? = some d) : ∃ x y, xs[i]? = some x ∧ ys[i]? = some y ∧ d = .prs [x, y] := by
  unfold zipD at h
  rw [List.getElem?_map] at h
  cases q : (xs.zip ys)[i]? with
  | none => rw [q] at h; cases h
  | some p =>
    rw [q] at h
    cases h
    obtain ⟨h1, h2⟩ := List.getElem?_zip_eq_some.mp q
    exact ⟨p.1, p.2, h1, h2, rfl⟩
theorem zipD_len (xs ys : List D) : (zipD xs ys).length = min xs.length ys.length := by
  unfold zipD
  rw [List.length_map, List.length_zip]
section
variable {K : PySem.W.Frag} {mg : Mg} {F : Hp} {a b : Addr} {us vs : List V} {xs ys : List D}
theorem it_zipL (h1 : SqL K F a us) (r1 : RepL K mg F xs us) (h2 : SqL K F b vs) (r2 : RepL K mg F ys vs) : ItOk K mg F (Itz K a b) (zipD xs ys) := fun i F1 H1 s1 s2 => by
  have q1 : SqL K H1 a us := s2.seq (s1.seq h1)
  have q2 : SqL K H1 b vs := s2.seq (s1.seq h2)
  refine ⟨fun d hd => ?_, fun e => ⟨us, vs, q1, q2, ?_⟩⟩
  · obtain ⟨x, y, hx, hy, rfl⟩ := zipD_get hd
    obtain ⟨u, hu, pu⟩ := r1.get hx
    obtain ⟨v, hv, pv⟩ := r2.get hy
    refine ⟨⟨us, vs, u, v, q1, q2, hu, hv⟩, fun z H2 w => ?_⟩
    obtain ⟨T, u', v', rfl, hT, rfl, f1, f2⟩ := w
    have e1 := f1 us q1
    have e2 := f2 vs q2
    rw [hu] at e1; cases e1
    rw [hv] at e2; cases e2
    refine ⟨_, .new s2 hT, ?_⟩
    simp only [Rep]
    have g := Grow.new (o := .tup [u, v]) s2 hT
    exact ⟨T, [u, v], rfl, SqT.of upd_same, .cons ((pu.mono s1).mono g.sub) (.cons ((pv.mono s1).mono g.sub) .nil)⟩
  · rw [zipD_len] at e
    rw [r1.len, r2.len]
    omega
theorem it_zipT (h1 : SqT K F a us) (r1 : RepL K mg F xs us) (h2 : SqT K F b vs) (r2 : RepL K mg F ys vs) : ItOk K mg F (RZ.ItzT K a b) (zipD xs ys) := fun i F1 H1 s1 s2 => by
  have q1 : SqT K H1 a us := Same.tup s2 (Same.tup s1 h1)
  have q2 : SqT K H1 b vs := Same.tup s2 (Same.tup s1 h2)
  refine ⟨fun d hd => ?_, fun e => ⟨us, vs, q1, q2, ?_⟩⟩
  · obtain ⟨x, y, hx, hy, rfl⟩ := zipD_get hd
    obtain ⟨u, hu, pu⟩ := r1.get hx
    obtain ⟨v, hv, pv⟩ := r2.get hy
    refine ⟨⟨us, vs, u, v, q1, q2, hu, hv⟩, fun z H2 w => ?_⟩
    obtain ⟨T, u', v', rfl, hT, rfl, f1, f2⟩ := w
    have e1 := f1 us q1
    have e2 := f2 vs q2
    rw [hu] at e1; cases e1
    rw [hv] at e2; cases e2
    refine ⟨_, .new s2 hT, ?_⟩
    simp only [Rep]
    have g := Grow.new (o := .tup [u, v]) s2 hT
    exact ⟨T, [u, v], rfl, SqT.of upd_same, .cons ((pu.mono s1).mono g.sub) (.cons ((pv.mono s1).mono g.sub) .nil)⟩
  · rw [zipD_len] at e
    rw [r1.len, r2.len]
    omega
end
/-- zip of two lists, of two tuples -/
def mIZ (m : MA) : MI := fun ρ => match m ρ with
  | some (os, ρ') => match valL os with
    | some [.lst xs, .lst ys] => some (zipD xs ys, ρ')
    | some [.tup xs, .tup ys] => some (zipD xs ys, ρ')
    | _ => none
  | none => none
section
variable {X : Cx} {pos : Pos}
theorem si_zip {e e2 : Expr} {p tpos : Pos} {elts : List Expr} {kk : Nat} {m : MA} (ha : SA X [e, e2] m) (hm : X.mg "zip" = none) (hg : Gl X "zip" := by rfl)
    (hs : starEach [e, e2] X.env = (false, eval e X.env) :: starEach [e2] X.env := by rfl) (hpl : (backTo pos (starEach [e2] X.env)).any (·.1) = false := by rfl) :
    SI X (.Tuple elts kk tpos) (.Call (.Name "zip" p) [e, e2] [] pos) (mIZ m) := pi_mk fun σ H Q ⟨io, F, ρ, ds, ρ', r, hm', q⟩ => by
  refine ⟨_, RZ.pi_zipA hg hm ha hs hpl, ?_⟩
  unfold mIZ at hm'
  split at hm' <;> try cases hm'
  rename_i os ρ1 h1
  split at hm' <;> try cases hm'
  · rename_i xs ys h2
    refine ⟨io, F, ρ, os, _, r, h1, fun vs F1 H1 x1 r1 p1 => ?_⟩
    have rl := p1.vals h2
    simp only [RepL] at rl
    obtain ⟨v, t, rfl, pv, w, t', rfl, pw, rfl⟩ := rl
    simp only [Rep] at pv pw
    obtain ⟨a, us, rfl, ha, ra⟩ := pv
    obtain ⟨b, ws, rfl, hb, rb⟩ := pw
    exact ⟨a, b, us, ws, rfl, .inl ⟨SqL.of (r1.sub _ _ ha), SqL.of (r1.sub _ _ hb), q _ F1 H1 x1 r1 (it_zipL (SqL.of ha) ra (SqL.of hb) rb)⟩⟩
  · rename_i xs ys h2
    refine ⟨io, F, ρ, os, _, r, h1, fun vs F1 H1 x1 r1 p1 => ?_⟩
    have rl := p1.vals h2
    simp only [RepL] at rl
    obtain ⟨v, t, rfl, pv, w, t', rfl, pw, rfl⟩ := rl
    simp only [Rep] at pv pw
    obtain ⟨a, us, rfl, ha, ra⟩ := pv
    obtain ⟨b, ws, rfl, hb, rb⟩ := pw
    exact ⟨a, b, us, ws, rfl, .inr ⟨Same.tup r1.sub ha.t, Same.tup r1.sub hb.t, q _ F1 H1 x1 r1 (it_zipT ha.t ra hb.t rb)⟩⟩
end

/-! ### comprehensions -/
def wipeR (ρ : Rho) : List Nat → Rho
  | [] => ρ
  | v :: vs => (wipeR ρ vs).set v .un
def unwipe (ρ3 ρ : Rho) : List Nat → Rho
  | [] => ρ3
  | v :: vs => match ρ[v]? with
    | some s => (unwipe ρ3 ρ vs).set v s
    | none => unwipe ρ3 ρ vs
def plainAt (ρ : Rho) (vs : List Nat) : Bool := vs.all fun v => match ρ[v]? with
  | some .un => true
  | some (.d _) => true
  | _ => false
theorem wipe_len (σ : St) : ∀ vs : List Nat, (wipe σ vs).length = σ.length := wipe_length σ
theorem wipe_out {σ : St} {j : Nat} : ∀ {vs : List Nat}, j ∉ vs → (wipe σ vs)[j]? = σ[j]?
  | [], _ => rfl
  | v :: vs, h => by
    have h1 : v ≠ j := fun e => h (by rw [e]; exact List.mem_cons_self)
    show ((wipe σ vs).set v none)[j]? = _
    rw [List.getElem?_set_ne h1]
    exact wipe_out fun e => h (List.mem_cons_of_mem _ e)
theorem wipeR_len (ρ : Rho) : ∀ vs : List Nat, (wipeR ρ vs).length = ρ.length
  | [] => rfl
  | v :: vs => by
    show ((wipeR ρ vs).set v .un).length = _
    rw [List.length_set, wipeR_len ρ vs]
theorem wipeR_out {ρ : Rho} {j : Nat} : ∀ {vs : List Nat}, j ∉ vs → (wipeR ρ vs)[j]? = ρ[j]?
  | [], _ => rfl
  | v :: vs, h => by
    have h1 : v ≠ j := fun e => h (by rw [e]; exact List.mem_cons_self)
    show ((wipeR ρ vs).set v .un)[j]? = _
    rw [List.getElem?_set_ne h1]
    exact wipeR_out fun e => h (List.mem_cons_of_mem _ e)
theorem wipeR_in {ρ : Rho} {j : Nat} {s : Sl} : ∀ {vs : List Nat}, j ∈ vs → (wipeR ρ vs)[j]? = some s → s = .un
  | v :: vs, h, e => by
    have e : ((wipeR ρ vs).set v .un)[j]? = some s := e
    rcases set_at e with ⟨_, e, _⟩ | ⟨z, e⟩
    · exact e
    · rcases List.mem_cons.mp h with h | h
      · exact absurd h.symm z
      · exact wipeR_in h e
theorem unwipe_len (ρ3 ρ : Rho) : ∀ vs : List Nat, (unwipe ρ3 ρ vs).length = ρ3.length
  | [] => rfl
  | v :: vs => by
    unfold unwipe
    split
    · rw [List.length_set, unwipe_len ρ3 ρ vs]
    · exact unwipe_len ρ3 ρ vs
theorem unwipe_out {ρ3 ρ : Rho} {j : Nat} : ∀ {vs : List Nat}, j ∉ vs → (unwipe ρ3 ρ vs)[j]? = ρ3[j]?
  | [], _ => rfl
  | v :: vs, h => by
    have h1 : v ≠ j := fun e => h (by rw [e]; exact List.mem_cons_self)
    have ih := unwipe_out (ρ3 := ρ3) (ρ := ρ) (j := j) (vs := vs) fun e => h (List.mem_cons_of_mem _ e)
    unfold unwipe
    split
    · rw [List.getElem?_set_ne h1]; exact ih
    · exact ih
theorem unwipe_in {ρ3 ρ : Rho} {j : Nat} (hl : ρ3.length = ρ.length) : ∀ {vs : List Nat}, j ∈ vs → (unwipe ρ3 ρ vs)[j]? = ρ[j]?
  | v :: vs, h => by
    unfold unwipe
    by_cases z : v = j
    · subst z
      split
      · rename_i s hs
        rw [hs, List.getElem?_set_self]
        rw [unwipe_len, hl]
        exact (List.getElem?_eq_some_iff.mp hs).1
      · rename_i hs
        rw [hs]
        refine List.getElem?_eq_none ?_
        rw [unwipe_len, hl]
        exact List.getElem?_eq_none_iff.mp hs
    · have hj : j ∈ vs := by
        rcases List.mem_cons.mp h with h | h
        · exact absurd h.symm z
        · exact h
      have ih := unwipe_in (ρ3 := ρ3) (ρ := ρ) hl hj
      split
      · rw [List.getElem?_set_ne z]; exact ih
      · exact ih
theorem plainAt_cell {ρ : Rho} {vs : List Nat} (h : plainAt ρ vs = true) {j : Nat} (hj : j ∈ vs) : cellAt ρ j = none := by
  have := List.all_eq_true.mp h j hj
  unfold cellAt
  split at this
  · rename_i e; rw [e]; rfl
  · rename_i e; rw [e]; rfl
  · cases this
section
variable {K : PySem.W.Frag} {mg : Mg} {io : List (Nat × Addr)} {F F3 H H3 : Hp} {σ σ3 : St} {ρ ρ3 : Rho} {vs : List Nat}
theorem wipe_own (hp : plainAt ρ vs = true) (a : Addr) : OwnA (wipe σ vs) (wipeR ρ vs) a ↔ OwnA σ ρ a := by
  constructor
  · rintro ⟨j, c, hj, e⟩
    have hn : j ∉ vs := fun hm => by
      unfold cellAt at hj
      cases q : (wipeR ρ vs)[j]? with
      | none => rw [q] at hj; cases hj
      | some s => rw [q, wipeR_in hm q] at hj; cases hj
    refine ⟨j, c, ?_, by rw [wipe_out hn] at e; exact e⟩
    unfold cellAt at hj ⊢
    rw [wipeR_out hn] at hj; exact hj
  · rintro ⟨j, c, hj, e⟩
    have hn : j ∉ vs := fun hm => by rw [plainAt_cell hp hm] at hj; cases hj
    refine ⟨j, c, ?_, by rw [wipe_out hn]; exact e⟩
    unfold cellAt at hj ⊢
    rw [wipeR_out hn]; exact hj
theorem R.wipe (r : R K mg io F H σ ρ) (hp : plainAt ρ vs = true) : R K mg io F H (L2.wipe σ vs) (wipeR ρ vs) := by
  have out : ∀ {j : Nat} {c : Cell}, cellAt (wipeR ρ vs) j = some c → j ∉ vs ∧ cellAt ρ j = some c := fun {j c} hj => by
    have hn : j ∉ vs := fun hm => by
      unfold cellAt at hj
      cases q : (wipeR ρ vs)[j]? with
      | none => rw [q] at hj; cases hj
      | some s => rw [q, wipeR_in hm q] at hj; cases hj
    refine ⟨hn, ?_⟩
    unfold cellAt at hj ⊢
    rw [wipeR_out hn] at hj; exact hj
  refine ⟨by rw [wipeR_len, wipe_len]; exact r.len, r.sub, fun j x hj => ?_, fun j c hj => ?_, fun j k c c' a hj hk ej ek => ?_, fun p hp' => ?_⟩
  · by_cases hm : j ∈ vs
    · cases wipeR_in hm hj
    · rw [wipeR_out hm] at hj
      obtain ⟨v, e, q⟩ := r.dat j x hj
      exact ⟨v, by rw [wipe_out hm]; exact e, q⟩
  · obtain ⟨hn, hj⟩ := out hj
    obtain ⟨a, e, f, q⟩ := r.cel j c hj
    exact ⟨a, by rw [wipe_out hn]; exact e, f, q⟩
  · obtain ⟨hn, hj⟩ := out hj
    obtain ⟨hn', hk⟩ := out hk
    rw [wipe_out hn] at ej
    rw [wipe_out hn'] at ek
    exact r.inj j k c c' a hj hk ej ek
  · obtain ⟨e, c, hc⟩ := r.ios p hp'
    have hn : p.1 ∉ vs := fun hm => by
      have := plainAt_cell hp hm
      unfold cellAt at this
      rw [hc] at this; cases this
    exact ⟨by rw [wipe_out hn]; exact e, c, by rw [wipeR_out hn]; exact hc⟩
/-- behind a turn: the outer names are as they were -/
theorem unwipe_own (r : R K mg io F H σ ρ) (r3 : R K mg io F3 H3 σ3 ρ3) (o : OutEq vs σ σ3) (hp : plainAt ρ vs = true) (hp3 : plainAt ρ3 vs = true) (a : Addr) : OwnA σ (unwipe ρ3 ρ vs) a ↔ OwnA σ3 ρ3 a := by
  have hl : ρ3.length = ρ.length := by rw [r3.len, r.len, o.1]
  constructor
  · rintro ⟨j, c, hj, e⟩
    have hn : j ∉ vs := fun hm => by
      unfold cellAt at hj
      rw [unwipe_in hl hm] at hj
      have := plainAt_cell hp hm
      unfold cellAt at this
      rw [this] at hj; cases hj
    refine ⟨j, c, ?_, by rw [o.2 j hn]; exact e⟩
    unfold cellAt at hj ⊢
    rw [unwipe_out hn] at hj; exact hj
  · rintro ⟨j, c, hj, e⟩
    have hn : j ∉ vs := fun hm => by rw [plainAt_cell hp3 hm] at hj; cases hj
    refine ⟨j, c, ?_, by rw [← o.2 j hn]; exact e⟩
    unfold cellAt at hj ⊢
    rw [unwipe_out hn]; exact hj
theorem R.unwipe (r : R K mg io F H σ ρ) (r3 : R K mg io F3 H3 σ3 ρ3) (s : Same F F3) (o : OutEq vs σ σ3) (hp : plainAt ρ vs = true) (hp3 : plainAt ρ3 vs = true) : R K mg io F3 H3 σ (Z.unwipe ρ3 ρ vs) := by
  have hl : ρ3.length = ρ.length := by rw [r3.len, r.len, o.1]
  have out : ∀ {j : Nat} {c : Cell}, cellAt (Z.unwipe ρ3 ρ vs) j = some c → j ∉ vs ∧ cellAt ρ3 j = some c := fun {j c} hj => by
    have hn : j ∉ vs := fun hm => by
      unfold cellAt at hj
      rw [unwipe_in hl hm] at hj
      have := plainAt_cell hp hm
      unfold cellAt at this
      rw [this] at hj; cases hj
    refine ⟨hn, ?_⟩
    unfold cellAt at hj ⊢
    rw [unwipe_out hn] at hj; exact hj
  refine ⟨by rw [unwipe_len, hl]; exact r.len, r3.sub, fun j x hj => ?_, fun j c hj => ?_, fun j k c c' a hj hk ej ek => ?_, fun p hp' => ?_⟩
  · by_cases hm : j ∈ vs
    · rw [unwipe_in hl hm] at hj
      obtain ⟨v, e, q⟩ := r.dat j x hj
      exact ⟨v, e, q.mono s⟩
    · rw [unwipe_out hm] at hj
      obtain ⟨v, e, q⟩ := r3.dat j x hj
      exact ⟨v, by rw [← o.2 j hm]; exact e, q⟩
  · obtain ⟨hn, hj⟩ := out hj
    obtain ⟨a, e, f, q⟩ := r3.cel j c hj
    exact ⟨a, by rw [← o.2 j hn]; exact e, f, q⟩
  · obtain ⟨hn, hj⟩ := out hj
    obtain ⟨hn', hk⟩ := out hk
    rw [← o.2 j hn] at ej
    rw [← o.2 k hn'] at ek
    exact r3.inj j k c c' a hj hk ej ek
  · obtain ⟨e, c, hc⟩ := r3.ios p hp'
    have hn : p.1 ∉ vs := fun hm => by
      have := plainAt_cell hp3 hm
      unfold cellAt at this
      rw [hc] at this; cases this
    exact ⟨by rw [← o.2 _ hn]; exact e, c, by rw [unwipe_out hn]; exact hc⟩
end
theorem Ext.own_l {F H F' H' : Hp} {σ σ' σ1 : St} {ρ ρ' ρ1 : Rho} (x : Ext F H σ1 ρ1 F' H' σ' ρ') (h : ∀ a, OwnA σ1 ρ1 a ↔ OwnA σ ρ a) : Ext F H σ ρ F' H' σ' ρ' :=
  ⟨x.sub, fun a o ha n => x.keep a o ha fun w => n ((h a).mp w), fun a w => (x.own a w).imp (h a).mp id, x.stay⟩
theorem Ext.own_r {F H F' H' : Hp} {σ σ' σ1 : St} {ρ ρ' ρ1 : Rho} (x : Ext F H σ ρ F' H' σ' ρ') (h : ∀ a, OwnA σ1 ρ1 a ↔ OwnA σ' ρ' a) : Ext F H σ ρ F' H' σ1 ρ1 :=
  ⟨x.sub, x.keep, fun a w => x.own a ((h a).mp w), x.stay⟩
theorem OutEq.wiped {σ σ2 : St} {vs : List Nat} (o : OutEq vs (wipe σ vs) σ2) : OutEq vs σ σ2 := ⟨by rw [o.1, wipe_len], fun j h => by rw [o.2 j h, wipe_out h]⟩
theorem wipe_in {σ : St} {j : Nat} {v : Option V} : ∀ {vs : List Nat}, j ∈ vs → (wipe σ vs)[j]? = some v → v = none
  | v' :: vs, h, e => by
    have e : ((wipe σ vs).set v' none)[j]? = some v := e
    rw [List.getElem?_set] at e
    by_cases z : v' = j
    · subst z
      by_cases l : v' < (wipe σ vs).length
      · simp only [if_true, l, Option.some.injEq] at e; exact e.symm
      · simp [l] at e
    · simp only [z, if_false] at e
      rcases List.mem_cons.mp h with h | h
      · exact absurd h.symm z
      · exact wipe_in h e
theorem OutEq.wipe_eq {σ σ2 : St} {vs : List Nat} (o : OutEq vs (wipe σ vs) σ2) : wipe σ2 vs = wipe σ vs := by
  refine List.ext_getElem? fun j => ?_
  by_cases h : j ∈ vs
  · have hl : (wipe σ2 vs).length = (wipe σ vs).length := by rw [wipe_len, o.1]
    cases q : (wipe σ vs)[j]? with
    | none =>
      rw [List.getElem?_eq_none_iff] at q ⊢
      omega
    | some v =>
      have hj := (List.getElem?_eq_some_iff.mp q).1
      have q2 : (wipe σ2 vs)[j]? = some (wipe σ2 vs)[j] := List.getElem?_eq_getElem (by omega)
      rw [wipe_in h q]
      have := wipe_in h q2
      rw [q2, this]
  · rw [wipe_out h, o.2 j h]
end Z
/-! Comprehensions as expressions; calls of defs; a def's body. -/
namespace Z
open PySem PySem.Spec PyProof.Rows L2

def mYes : MT := fun ρ => some (true, ρ)
def loopC (vs : List Nat) (g : MG) (tt : MT) (te : ME) : List D → Rho → List D → Option (List D × Rho)
  | [], ρ, acc => some (acc, ρ)
  | d :: ds, ρ, acc => if plainAt ρ vs then match g d (wipeR ρ vs) with
      | some ρ1 => match tt ρ1 with
        | some (true, ρ2) => match te ρ2 with
          | some (y, ρ3) => if plainAt ρ3 vs && decide (acc.length < LIM) then loopC vs g tt te ds (unwipe ρ3 ρ vs) (acc ++ [y]) else none
          | none => none
        | some (false, ρ2) => if plainAt ρ2 vs then loopC vs g tt te ds (unwipe ρ2 ρ vs) acc else none
        | none => none
      | none => none
    else none
def mLc (mi : MI) (vs : List Nat) (g : MG) (tt : MT) (te : ME) : MN := fun ρ => match mi ρ with
  | some (ds, ρ1) => loopC vs g tt te ds ρ1 []
  | none => none
theorem lc_read {K : PySem.W.Frag} {mg : Mg} {mi : MI} {vs : List Nat} {g : MG} {tt : MT} {te : ME} {σ : St} {H : Hp} {Q : VK} (h : tN K mg (mLc mi vs g tt te) σ H Q) : tLc (tI K mg mi) (tG K mg vs g) (tT K mg tt) (tE K mg te) vs σ H Q := by
  obtain ⟨io, F, ρ, res, ρ', r, hm, q⟩ := h
  unfold mLc at hm
  split at hm <;> try cases hm
  rename_i ds ρ1 h1
  refine ⟨io, F, ρ, ds, ρ1, r, h1, fun J F1 H1 x1 r1 ok => fun D hD => ?_⟩
  have hD0 : H D = none := x1.stay D hD
  refine ⟨fun i m H2 => ∃ F2 ρ2 acc us, m = ds.length - i ∧ i ≤ ds.length ∧ Ext F1 H1 σ ρ1 F2 H2 σ ρ2 ∧ R K mg io F2 H2 σ ρ2 ∧ H2 D = some (.lst us) ∧ F2 D = none ∧ ¬ OwnA σ ρ2 D ∧ RepL K mg F2 acc us ∧ loopC vs g tt te (ds.drop i) ρ2 acc = some (res, ρ'),
    ⟨ds.length, F1, ρ1, [], [], by simp, Nat.zero_le _, ⟨Same.refl _, fun a o ha _ => ⟨by rw [upd_ne (ne_of_none ha hD)]; exact ha, rfl⟩, fun _ w => .inl w, fun b hb => ?_⟩, r1.addH hD, upd_same, r1.freeF hD, r1.notOwn hD, .nil, by simpa using hm⟩, ?_⟩
  · by_cases z : b = D
    · subst z; exact hD
    · rw [upd_ne z] at hb; exact hb
  rintro i m H2 ⟨F2, ρ2, acc, us, rfl, hi, x2, r2, hv, hf, hn, rl, hl⟩
  obtain ⟨ok1, ok2⟩ := ok i F2 H2 x2.sub r2.sub
  by_cases hlt : i < ds.length
  · have hd : ds[i]? = some ds[i] := List.getElem?_eq_getElem hlt
    rw [List.drop_eq_getElem_cons hlt] at hl
    simp only [loopC] at hl
    split at hl <;> try cases hl
    rename_i hp
    split at hl <;> try cases hl
    rename_i ρ3 h3
    obtain ⟨go, yl⟩ := ok1 _ hd
    -- what the next turn starts from
    refine .inr ⟨go, fun H4 => ∃ F4 ρ4 acc4 us4, Ext F1 H1 σ ρ1 F4 H4 σ ρ4 ∧ R K mg io F4 H4 σ ρ4 ∧ H4 D = some (.lst us4) ∧ F4 D = none ∧ ¬ OwnA σ ρ4 D ∧ RepL K mg F4 acc4 us4 ∧ loopC vs g tt te (ds.drop (i + 1)) ρ4 acc4 = some (res, ρ'),
      fun H4 ⟨F4, ρ4, acc4, us4, x4, r4, w⟩ => ⟨ds.length - (i + 1), by omega, F4, ρ4, acc4, us4, rfl, hlt, x4, r4, w⟩, fun x H3 y => ?_⟩
    obtain ⟨F3, gr, px⟩ := yl x H3 y
    have r3 := r2.grow gr
    refine ⟨io, F3, wipeR ρ2 vs, _, ρ3, r3.wipe hp, px, h3, fun σ4 F4 H4 x4 r4 o4 => ⟨o4.wipe_eq, ?_⟩⟩
    have x4' : Ext F2 H2 σ ρ2 F4 H4 σ4 ρ3 := gr.ext.trans (x4.own_l (wipe_own hp))
    split at hl
    · rename_i ρ5 h5
      split at hl <;> try cases hl
      rename_i y ρ6 h6
      split at hl <;> try cases hl
      rename_i hpl
      simp only [Bool.and_eq_true, decide_eq_true_eq] at hpl
      refine ⟨io, F4, ρ3, _, ρ5, r4, h5, fun F5 H5 x5 r5 => iteT ⟨io, F5, ρ5, y, ρ6, r5, h6, fun v F6 H6 x6 r6 p6 => ?_⟩⟩
      have x26 : Ext F2 H2 σ ρ2 F6 H6 σ4 ρ6 := (x4'.trans x5).trans x6
      obtain ⟨hv6, hf6⟩ := x26.keep D _ hv hn
      have hn6 : ¬ OwnA σ4 ρ6 D := ext_noOwn x26 hv hn
      have r7 : R K mg io F6 H6 σ (Z.unwipe ρ6 ρ2 vs) := R.unwipe r2 r6 x26.sub o4.wiped hp hpl.1
      have hown := unwipe_own r2 r6 o4.wiped hp hpl.1
      have x27 : Ext F2 H2 σ ρ2 F6 H6 σ (Z.unwipe ρ6 ρ2 vs) := x26.own_r hown
      have hn7 : ¬ OwnA σ (Z.unwipe ρ6 ρ2 vs) D := fun w => hn6 ((hown D).mp w)
      have hfD : F6 D = none := hf6.trans hf
      refine ⟨us, hv6, by rw [rl.len]; exact Nat.lt_of_lt_of_le hpl.2 lim_line, F6, _, acc ++ [y], us ++ [v], ?_, ?_, upd_same, hfD, hn7, (rl.mono x26.sub).append (.one p6), hl⟩
      · -- the list made grows: it is no slot's
        have x17 := x2.trans x27
        refine ⟨x17.sub, fun a o ha na => ?_, x17.own, fun b hb => ?_⟩
        · obtain ⟨h7, f7⟩ := x17.keep a o ha na
          exact ⟨by rw [upd_ne (ne_of_none ha hD)]; exact h7, f7⟩
        · by_cases z : b = D
          · subst z; exact hD
          · rw [upd_ne z] at hb; exact x17.stay b hb
      · refine ⟨r7.len, fun b u hb => ?_, r7.dat, fun j c hj => ?_, r7.inj, r7.ios⟩
        · have : b ≠ D := by rintro rfl; rw [hfD] at hb; cases hb
          rw [upd_ne this]; exact r7.sub _ _ hb
        · obtain ⟨a, e, f, w⟩ := r7.cel j c hj
          have : a ≠ D := by rintro rfl; exact hn7 ⟨j, c, hj, e⟩
          refine ⟨a, e, f, ?_⟩
          exact w.move (fun o' ho' => by rw [upd_ne this]; exact ho') (Same.refl _)
    · rename_i ρ5 h5
      split at hl <;> try cases hl
      rename_i hpl
      refine ⟨io, F4, ρ3, _, ρ5, r4, h5, fun F5 H5 x5 r5 => iteF ?_⟩
      have x25 : Ext F2 H2 σ ρ2 F5 H5 σ4 ρ5 := x4'.trans x5
      obtain ⟨hv6, hf6⟩ := x25.keep D _ hv hn
      have hn6 : ¬ OwnA σ4 ρ5 D := ext_noOwn x25 hv hn
      have r7 : R K mg io F5 H5 σ (Z.unwipe ρ5 ρ2 vs) := R.unwipe r2 r5 x25.sub o4.wiped hp hpl
      have hown := unwipe_own r2 r5 o4.wiped hp hpl
      have x27 : Ext F2 H2 σ ρ2 F5 H5 σ (Z.unwipe ρ5 ρ2 vs) := x25.own_r hown
      exact ⟨F5, _, acc, us, x2.trans x27, r7, hv6, hf6.trans hf, fun w => hn6 ((hown D).mp w), rl.mono x25.sub, hl⟩
    · cases hl
  · have e : i = ds.length := by omega
    subst e
    rw [List.drop_length] at hl
    simp only [loopC] at hl
    cases hl
    exact .inl ⟨ok2 rfl, q D us F2 H2 (x1.trans x2) r2 hD0 hv hf hn rl⟩
abbrev STs (X : Cx) (ifs : List Expr) (m : MT) : Prop := PTs X ifs (tT X.K X.mgx m)
section
variable {X : Cx} {pos : Pos}
theorem sts_nil : STs X [] mYes := ⟨fun pins s σ H Q I ⟨io, F, ρ, b, ρ', r, hm, q⟩ => by
  cases hm
  exact pts_nil.run pins s σ H Q I (q F H .refl r)⟩
theorem sts_one {c : Expr} {m : MT} (h : ST X c m) : STs X [c] m := pts_one h
theorem sn_lc {elt tg iter : Expr} {ifs : List Expr} {scope : Scope} {own : List (Str × Nat)} {mi : MI} {g : MG} {tt : MT} {te : ME} (hN : X.N.Nodup) (hi : SI X tg iter mi) (ok : BlkOk X.N X.env.scope scope own)
    (hg : ∀ (s : Shared) (H : Hp) (C : Addr) (cl : List (Str × Addr)) (fp : List Addr), SG (X.blk s H scope (compEnvC scope cl C X.env) fp) (own.map (·.2)) tg g) (ht : ∀ (s : Shared) (H : Hp) (C : Addr) (cl : List (Str × Addr)) (fp : List Addr), STs (X.blk s H scope (compEnvC scope cl C X.env) fp) ifs tt)
    (he : ∀ (s : Shared) (H : Hp) (C : Addr) (cl : List (Str × Addr)) (fp : List Addr), SE (X.blk s H scope (compEnvC scope cl C X.env) fp) elt te) (hc : X.calm = true := by rfl) (hs : ∀ x, foldedSetIterable iter X.env x = pure x := by intro _; rfl) :
    SN X (.ListComp elt [⟨tg, iter, ifs, 0⟩] scope pos) (mLc mi (own.map (·.2)) g tt te) := Z.pe_mk fun σ H Q h => ⟨_, L2.pe_lc (g := tG X.K X.mgx (own.map (·.2)) g) (tt := tT X.K X.mgx tt) (te := tE X.K X.mgx te) hc hN hi ok hg ht he hs, lc_read h⟩
/-- name = [..] on one row -/
theorem ss_setLc (i : Nat) {y : Str} {py : Pos} {elt tg iter : Expr} {ifs : List Expr} {scope : Scope} {own : List (Str × Nat)} {spos : Pos} {mi : MI} {g : MG} {tt : MT} {te : ME} (hN : X.N.Nodup) (hi : SI X tg iter mi) (ok : BlkOk X.N X.env.scope scope own)
    (hg : ∀ (s : Shared) (H : Hp) (C : Addr) (cl : List (Str × Addr)) (fp : List Addr), SG (X.blk s H scope (compEnvC scope cl C X.env) fp) (own.map (·.2)) tg g) (ht : ∀ (s : Shared) (H : Hp) (C : Addr) (cl : List (Str × Addr)) (fp : List Addr), STs (X.blk s H scope (compEnvC scope cl C X.env) fp) ifs tt)
    (he : ∀ (s : Shared) (H : Hp) (C : Addr) (cl : List (Str × Addr)) (fp : List Addr), SE (X.blk s H scope (compEnvC scope cl C X.env) fp) elt te) (hc : X.calm = true := by rfl) (hy : X.N[i]? = some y := by rfl) (hyl : X.env.scope.names.lookup y = some .local := by rfl)
    (hsw : swapsWith (.ListComp elt [⟨tg, iter, ifs, 0⟩] scope pos) (some (.Name y py)) spos.line X.env = pure true := by exact sw_true rfl rfl rfl (by decide +kernel)) (hs : ∀ x, foldedSetIterable iter X.env x = pure x := by intro _; rfl) :
    SS X (.Assign [.Name y py] (.ListComp elt [⟨tg, iter, ifs, 0⟩] scope pos) spos) (mSet i (mVn (mLc mi (own.map (·.2)) g tt te))) := ps_mk fun D σ H ⟨io, F, ρ, fl, ρ', r, hm, q⟩ => by
  refine ⟨_, L2.ps_setLc (g := tG X.K X.mgx (own.map (·.2)) g) (tt := tT X.K X.mgx tt) (te := tE X.K X.mgx te) hc hN hy hyl hsw hi ok hg ht he hs, ?_⟩
  unfold mSet at hm
  split at hm <;> try cases hm
  rename_i n ρ1 h1
  split at hm <;> cases hm
  rename_i ρ2 h2
  unfold mVn at h1
  split at h1 <;> cases h1
  rename_i ds h1
  refine lc_read ⟨io, F, ρ, ds, ρ1, r, h1, fun p vs F' H' x r' hp hv hf hn rl => ?_⟩
  obtain ⟨r2, x2⟩ := R.putV (n := .new ds) x r' h2 ⟨p, vs, rfl, hv, hf, hn, rl⟩ ⟨p, rfl, hp⟩
  exact q _ F' H' x2 r2
end
end Z
/-! Defs: their promise, their calls. At most one argument is changed. -/
namespace Z
open PySem PySem.Spec PyProof.Rows L2

/-- a def on data: the arguments (a value, or a list of the caller's that it changes), the value, the list as changed -/
abbrev Gf := List Sl → Option (D × Option Cell)
def ioL : List Sl → List V → Nat → List (Nat × Addr)
  | .io _ :: ss, .ref a :: vs, k => (k, a) :: ioL ss vs (k + 1)
  | _ :: ss, _ :: vs, k => ioL ss vs (k + 1)
  | _, _, _ => []
def ArgsOk (K : PySem.W.Frag) (mg : Mg) (F H : Hp) : List Sl → List V → Prop
  | [], vs => vs = []
  | .d x :: ss, vs => ∃ v r, vs = v :: r ∧ Rep K mg F x v ∧ ArgsOk K mg F H ss r
  | .io c :: ss, vs => ∃ a r, vs = .ref a :: r ∧ F a = none ∧ CellOk K mg F H a c ∧ ArgsOk K mg F H ss r
  | _ :: _, _ => False
def outOk (K : PySem.W.Frag) (mg : Mg) (F H : Hp) : List (Nat × Addr) → Option Cell → Prop
  | [], _ => True
  | p :: _, c => ∃ c', c = some c' ∧ F p.2 = none ∧ CellOk K mg F H p.2 c'
def spD (K : PySem.W.Frag) (mg : Mg) (g : Gf) : Sp := fun vs H Q _ => ∃ F sl d c, Same F H ∧ ArgsOk K mg F H sl vs ∧ (ioL sl vs 0).length ≤ 1 ∧ g sl = some (d, c) ∧
  ∀ v F' H', Same F F' → Same F' H' → (∀ a o, H a = some o → a ∉ (ioL sl vs 0).map (·.2) → H' a = some o ∧ F' a = F a) → (∀ a, H' a = none → H a = none) → outOk K mg F' H' (ioL sl vs 0) c → Rep K mg F' d v → Q v H'

section
variable {K : PySem.W.Frag} {mg : Mg} {F H : Hp}
theorem ArgsOk.len : ∀ {sl : List Sl} {vs : List V}, ArgsOk K mg F H sl vs → vs.length = sl.length
  | [], _, h => by simp only [ArgsOk] at h; subst h; rfl
  | .d x :: ss, _, h => by
    simp only [ArgsOk] at h
    obtain ⟨v, r, rfl, _, t⟩ := h
    rw [List.length_cons, List.length_cons, t.len]
  | .io c :: ss, _, h => by
    simp only [ArgsOk] at h
    obtain ⟨v, r, rfl, _, _, t⟩ := h
    rw [List.length_cons, List.length_cons, t.len]
  | .un :: _, _, h => by simp only [ArgsOk] at h
  | .own _ :: _, _, h => by simp only [ArgsOk] at h
/-- what stands at a place -/
theorem ArgsOk.at : ∀ {sl : List Sl} {vs : List V} {i k : Nat} {s : Sl}, ArgsOk K mg F H sl vs → sl[i]? = some s →
    (∃ x v, s = .d x ∧ vs[i]? = some v ∧ Rep K mg F x v) ∨ ∃ c a, s = .io c ∧ vs[i]? = some (.ref a) ∧ F a = none ∧ CellOk K mg F H a c ∧ (k + i, a) ∈ ioL sl vs k
  | [], _, _, _, _, _, e => by simp at e
  | .d x :: ss, _, 0, k, s, h, e => by
    simp only [ArgsOk] at h
    obtain ⟨v, r, rfl, p, t⟩ := h
    simp only [List.getElem?_cons_zero, Option.some.injEq] at e
    subst e
    exact .inl ⟨x, v, rfl, rfl, p⟩
  | .d x :: ss, _, i + 1, k, s, h, e => by
    simp only [ArgsOk] at h
    obtain ⟨v, r, rfl, p, t⟩ := h
    simp only [List.getElem?_cons_succ] at e ⊢
    rcases t.at (k := k + 1) e with h | ⟨c, a, h1, h2, h3, h4, h5⟩
    · exact .inl h
    · refine .inr ⟨c, a, h1, h2, h3, h4, ?_⟩
      simp only [ioL]
      rw [show k + (i + 1) = k + 1 + i by omega]; exact h5
  | .io c :: ss, _, 0, k, s, h, e => by
    simp only [ArgsOk] at h
    obtain ⟨a, r, rfl, p, q, t⟩ := h
    simp only [List.getElem?_cons_zero, Option.some.injEq] at e
    subst e
    refine .inr ⟨c, a, rfl, rfl, p, q, ?_⟩
    simp only [ioL]
    exact List.mem_cons_self
  | .io c :: ss, _, i + 1, k, s, h, e => by
    simp only [ArgsOk] at h
    obtain ⟨a, r, rfl, p, q, t⟩ := h
    simp only [List.getElem?_cons_succ] at e ⊢
    rcases t.at (k := k + 1) e with h | ⟨c, a, h1, h2, h3, h4, h5⟩
    · exact .inl h
    · refine .inr ⟨c, a, h1, h2, h3, h4, ?_⟩
      simp only [ioL]
      rw [show k + (i + 1) = k + 1 + i by omega]; exact List.mem_cons_of_mem _ h5
  | .un :: _, _, _, _, _, h, _ => by simp only [ArgsOk] at h
  | .own _ :: _, _, _, _, _, h, _ => by simp only [ArgsOk] at h
theorem ArgsOk.mem : ∀ {sl : List Sl} {vs : List V} {k : Nat} {p : Nat × Addr}, ArgsOk K mg F H sl vs → p ∈ ioL sl vs k → ∃ i c, p.1 = k + i ∧ sl[i]? = some (.io c) ∧ vs[i]? = some (.ref p.2)
  | [], _, _, _, h, e => by simp only [ioL] at e; cases e
  | .d x :: ss, _, k, p, h, e => by
    simp only [ArgsOk] at h
    obtain ⟨v, r, rfl, _, t⟩ := h
    simp only [ioL] at e
    obtain ⟨i, c, h1, h2, h3⟩ := t.mem e
    exact ⟨i + 1, c, by omega, h2, h3⟩
  | .io c :: ss, _, k, p, h, e => by
    simp only [ArgsOk] at h
    obtain ⟨a, r, rfl, _, _, t⟩ := h
    simp only [ioL] at e
    rcases List.mem_cons.mp e with rfl | e
    · exact ⟨0, c, rfl, rfl, rfl⟩
    · obtain ⟨i, c, h1, h2, h3⟩ := t.mem e
      exact ⟨i + 1, c, by omega, h2, h3⟩
  | .un :: _, _, _, _, h, _ => by simp only [ArgsOk] at h
  | .own _ :: _, _, _, _, h, _ => by simp only [ArgsOk] at h
end

/-- the place of the argument that is changed -/
def ioIx : List Sl → Nat → Option Nat
  | [], _ => none
  | .io _ :: _, k => some k
  | _ :: ss, k => ioIx ss (k + 1)
theorem ioIx_eq {K : PySem.W.Frag} {mg : Mg} {F H : Hp} : ∀ {sl : List Sl} {vs : List V} {k : Nat}, ArgsOk K mg F H sl vs → ioIx sl k = (ioL sl vs k).head?.map (·.1)
  | [], _, _, h => by simp only [ioIx, ioL]; rfl
  | .d x :: ss, _, k, h => by
    simp only [ArgsOk] at h
    obtain ⟨v, r, rfl, _, t⟩ := h
    simp only [ioIx, ioL]
    exact ioIx_eq t
  | .io c :: ss, _, k, h => by
    simp only [ArgsOk] at h
    obtain ⟨a, r, rfl, _, _, t⟩ := h
    simp only [ioIx, ioL]
    rfl
  | .un :: _, _, _, h => by simp only [ArgsOk] at h
  | .own _ :: _, _, _, h => by simp only [ArgsOk] at h
def ioOut (ρ : Rho) : Option Nat → Option Cell
  | none => none
  | some i => match ρ[i]? with
    | some (.io c) => some c
    | _ => none
/-- a def's body run on its arguments: np parameters, nl other names -/
def runD (np nl : Nat) (m : MS) : Gf := fun sl => if sl.length = np then match m (sl ++ List.replicate nl .un) with
    | some (.rt d, ρ) => some (d, ioOut ρ (ioIx sl 0))
    | some (.nx, ρ) => some (.non, ioOut ρ (ioIx sl 0))
    | _ => none
  else none

section
variable {P : Program} {w : World} {K : PySem.W.Frag} {mg : Mg} {base : Heap}
theorem R.start {F H : Hp} {sl : List Sl} {vs : List V} {nl : Nat} (s : Same F H) (a : ArgsOk K mg F H sl vs) (hl : (ioL sl vs 0).length ≤ 1) : R K mg (ioL sl vs 0) F H (vs.map some ++ List.replicate nl none) (sl ++ List.replicate nl .un) := by
  have hlen := a.len
  have at_ : ∀ {i : Nat} {s : Sl}, (sl ++ List.replicate nl Sl.un)[i]? = some s → s ≠ .un → i < sl.length ∧ sl[i]? = some s := fun {i s} e n => by
    by_cases h : i < sl.length
    · rw [List.getElem?_append_left h] at e
      exact ⟨h, e⟩
    · rw [List.getElem?_append_right (by omega), List.getElem?_replicate] at e
      split at e
      · cases e; exact absurd rfl n
      · cases e
  have σat : ∀ {i : Nat} {v : V}, vs[i]? = some v → (vs.map some ++ List.replicate nl none)[i]? = some (some v) := fun {i v} e => by
    have h : i < vs.length := (List.getElem?_eq_some_iff.mp e).1
    rw [List.getElem?_append_left (by rw [List.length_map]; exact h), List.getElem?_map, e]
    rfl
  have cel : ∀ (i : Nat) (c : Cell), cellAt (sl ++ List.replicate nl Sl.un) i = some c → ∃ a', (vs.map some ++ List.replicate nl none)[i]? = some (some (.ref a')) ∧ F a' = none ∧ CellOk K mg F H a' c ∧ (i, a') ∈ ioL sl vs 0 := fun i c h => by
    unfold cellAt at h
    cases q : (sl ++ List.replicate nl Sl.un)[i]? with
    | none => rw [q] at h; cases h
    | some s =>
      rw [q] at h
      have h : s.cell? = some c := h
      obtain ⟨_, e⟩ := at_ q (by rintro rfl; cases h)
      rcases a.at (k := 0) e with ⟨x, v, rfl, _, _⟩ | ⟨c', a', rfl, h2, h3, h4, h5⟩
      · cases h
      · cases h
        exact ⟨a', σat h2, h3, h4, by simpa using h5⟩
  refine ⟨by simp [hlen], s, fun i x h => ?_, fun i c h => ?_, fun i j c c' b hi hj ei ej => ?_, fun p hp => ?_⟩
  · obtain ⟨_, e⟩ := at_ h (by intro z; cases z)
    rcases a.at (k := 0) e with ⟨y, v, e1, e2, e3⟩ | ⟨c, a', e1, _⟩
    · cases e1
      exact ⟨v, σat e2, e3⟩
    · cases e1
  · obtain ⟨a', h1, h2, h3, _⟩ := cel i c h
    exact ⟨a', h1, h2, h3⟩
  · obtain ⟨_, _, _, _, m1⟩ := cel i c hi
    obtain ⟨_, _, _, _, m2⟩ := cel j c' hj
    match hL : ioL sl vs 0, hl with
    | [], _ => rw [hL] at m1; cases m1
    | [p], _ =>
      rw [hL] at m1 m2
      have e1 := List.mem_singleton.mp m1
      have e2 := List.mem_singleton.mp m2
      rw [← e1] at e2
      exact (congrArg Prod.fst e2).symm
  · obtain ⟨i, c, e1, e2, e3⟩ := a.mem hp
    have e1 : p.1 = i := by omega
    rw [e1]
    have hi : i < sl.length := (List.getElem?_eq_some_iff.mp e2).1
    exact ⟨σat e3, c, by rw [List.getElem?_append_left hi]; exact e2⟩
/-- what a body reads from its promise -/
theorem body_rd {N : List Str} {np : Nat} {m : MS} {vs : List V} {H : Hp} {Q : VK} {E : XK} (h : spD K mg (runD np (N.length - np) m) vs H Q E) : tS K mg m { nx := fun _ H' => Q .non H', rt := Q } (L2.start N vs) H := by
    obtain ⟨F, sl, d, c, hs, a, hl, hg, q⟩ := h
    unfold runD at hg
    split at hg <;> try cases hg
    rename_i hnp
    have hst : L2.start N vs = vs.map some ++ List.replicate (N.length - np) none := by
      unfold L2.start
      rw [a.len, hnp]
    have r0 := R.start (K := K) (mg := mg) (nl := N.length - np) hs a hl
    have fin : ∀ (ρ' : Rho) (σ' : St) (F' H' : Hp) (d' : D) (v : V), Ext F H (L2.start N vs) (sl ++ List.replicate (N.length - np) .un) F' H' σ' ρ' → R K mg (ioL sl vs 0) F' H' σ' ρ' → Rep K mg F' d' v → some (d', ioOut ρ' (ioIx sl 0)) = some (d, c) → Q v H' := fun ρ' σ' F' H' d' v x r p e => by
      cases e
      have hown : ∀ b, OwnA (L2.start N vs) (sl ++ List.replicate (N.length - np) .un) b → b ∈ (ioL sl vs 0).map (·.2) := fun b ⟨i, c, hi, e⟩ => by
        unfold cellAt at hi
        cases z : (sl ++ List.replicate (N.length - np) Sl.un)[i]? with
        | none => rw [z] at hi; cases hi
        | some s' =>
          rw [z] at hi
          by_cases hlt : i < sl.length
          · rw [List.getElem?_append_left hlt] at z
            rcases a.at (k := 0) z with ⟨y, v, rfl, _, _⟩ | ⟨c', a', rfl, h2, h3, h4, h5⟩
            · cases hi
            · have hv : i < vs.length := by rw [a.len]; exact hlt
              rw [hst, List.getElem?_append_left (by rw [List.length_map]; exact hv), List.getElem?_map, h2] at e
              cases e
              exact List.mem_map.mpr ⟨_, h5, rfl⟩
          · rw [List.getElem?_append_right (by omega), List.getElem?_replicate] at z
            split at z
            · cases z; cases hi
            · cases z
      refine q v F' H' x.sub r.sub (fun b o hb nb => x.keep b o hb fun w => nb (hown b w)) x.stay ?_ p
      have hix := ioIx_eq (k := 0) a
      match hL : ioL sl vs 0 with
      | [] => trivial
      | p :: t =>
        rw [hL] at hix
        have hix : ioIx sl 0 = some p.1 := hix
        obtain ⟨e1, c', e2⟩ := r.ios p (by rw [hL]; exact List.mem_cons_self)
        refine ⟨c', by rw [hix]; simp only [ioOut, e2], ?_⟩
        obtain ⟨a', e3, f3, q3⟩ := r.cel p.1 c' (by unfold cellAt; rw [e2]; rfl)
        rw [e1] at e3
        cases e3
        exact ⟨f3, q3⟩
    rw [← hst] at r0
    split at hg
    · rename_i d' ρ' hm
      exact ⟨ioL sl vs 0, F, _, _, ρ', r0, hm, fun σ' F' H' x r v p => fin ρ' σ' F' H' d' v x r p hg⟩
    · rename_i ρ' hm
      exact ⟨ioL sl vs 0, F, _, _, ρ', r0, hm, fun σ' F' H' x r => fin ρ' σ' F' H' .non .non x r (by simp only [Rep]) hg⟩
    · cases hg
theorem runD_len {np nl : Nat} {m : MS} {vs : List V} {H : Hp} {Q : VK} {E : XK} (h : spD K mg (runD np nl m) vs H Q E) : vs.length = np := by
  obtain ⟨F, sl, d, c, _, a, _, hg, _⟩ := h
  unfold runD at hg
  split at hg
  · rename_i e; rw [a.len, e]
  · cases hg
/-- THE RULE for a def -/
theorem fnD {mg : Str → Option Value} {x qual : Str} {st : Stmt} {f : Addr} {fd : FuncData} {N ps : List Str} {k : Nat} {m : MS} (Fn : Fun K x qual st f fd) (S : FnScope N ps (defScope st))
    (hbody : ∀ (cdv : Value) (A : Around) (outer : List Env) (s : Shared) (H : Hp) (E : XK), Room k (A.deeper (envOfC qual (defScope st) s.heap.objs.size f cdv)) →
      SB (cxOf CX0 P w K mg base N qual (defScope st) f cdv A outer s H E).nox (defBody st) m) : FnOk P w K mg base CX0 (k + 1) f fd ps (spD K ⟨mg, P, w⟩ (runD ps.length (N.length - ps.length) m)) :=
  Fn.ok S (fun _ _ _ _ h => runD_len h) fun cdv A outer s H _ _ E hr h => ⟨_, hbody cdv A outer s H E hr, body_rd h⟩
end

/-! ### the call of a def -/
def toSl (ρ : Rho) : Od → Option Sl
  | .val d => some (.d d)
  | .sl i => match ρ[i]? with
    | some (.d x) => some (.d x)
    | some (.own c) => some (.io c)
    | some (.io c) => some (.io c)
    | _ => none
def toSls (ρ : Rho) : List Od → Option (List Sl)
  | [] => some []
  | o :: os => match toSl ρ o, toSls ρ os with
    | some s, some ss => some (s :: ss)
    | _, _ => none
/-- the slots whose lists are handed on -/
def ownIx (ρ : Rho) : List Od → List Nat
  | [] => []
  | .sl i :: os => match cellAt ρ i with
    | some _ => i :: ownIx ρ os
    | none => ownIx ρ os
  | _ :: os => ownIx ρ os
def putC (ρ : Rho) (i : Nat) (c : Cell) : Rho := match ρ[i]? with
  | some s => ρ.set i (s.put c)
  | none => ρ
def mCall (g : Gf) (m : MA) : ME := fun ρ => match m ρ with
  | some (os, ρ1) => match toSls ρ1 os with
    | some sls => match g sls with
      | some (d, c) => match ownIx ρ1 os with
        | [] => some (d, ρ1)
        | [i] => match c with
          | some c' => some (d, putC ρ1 i c')
          | none => none
        | _ => none
      | none => none
    | none => none
  | none => none
section
variable {K : PySem.W.Frag} {mg : Mg} {io : List (Nat × Addr)} {F H : Hp} {σ : St} {ρ : Rho}
theorem R.args (r : R K mg io F H σ ρ) : ∀ {os : List Od} {vs : List V} {sls : List Sl}, RepOs K mg F σ os vs → toSls ρ os = some sls → ArgsOk K mg F H sls vs ∧
    ∀ k, Paired (fun (i : Nat) (p : Nat × Addr) => σ[i]? = some (some (.ref p.2)) ∧ ∃ c, cellAt ρ i = some c) (ownIx ρ os) (ioL sls vs k)
  | [], _, _, h, e => by
    simp only [toSls] at e
    cases e
    simp only [RepOs] at h
    subst h
    exact ⟨by simp only [ArgsOk], fun k => by simp only [ownIx, ioL]; exact .nil⟩
  | o :: os, _, _, h, e => by
    simp only [RepOs] at h
    obtain ⟨v, t, rfl, p, ht⟩ := h
    simp only [toSls] at e
    split at e <;> cases e
    rename_i s ss h1 h2
    obtain ⟨a1, a2⟩ := R.args r ht h2
    cases o with
    | val d =>
      simp only [toSl] at h1
      cases h1
      refine ⟨by simp only [ArgsOk]; exact ⟨v, t, rfl, p, a1⟩, fun k => ?_⟩
      simp only [ownIx, ioL]
      exact a2 _
    | sl i =>
      have p : σ[i]? = some (some v) := p
      simp only [toSl] at h1
      split at h1 <;> cases h1
      · rename_i x hx
        obtain ⟨v', e', q⟩ := r.dat i _ hx
        rw [p] at e'; cases e'
        refine ⟨by simp only [ArgsOk]; exact ⟨v, t, rfl, q, a1⟩, fun k => ?_⟩
        have hn : cellAt ρ i = none := by unfold cellAt; rw [hx]; rfl
        simp only [ownIx, ioL, hn]
        exact a2 _
      · rename_i c hx
        have hn : cellAt ρ i = some c := by unfold cellAt; rw [hx]; rfl
        obtain ⟨a, e', f, q⟩ := r.cel i _ hn
        rw [p] at e'; cases e'
        refine ⟨by simp only [ArgsOk]; exact ⟨a, t, rfl, f, q, a1⟩, fun k => ?_⟩
        simp only [ownIx, ioL, hn]
        exact .cons ⟨p, c, hn⟩ (a2 _)
      · rename_i c hx
        have hn : cellAt ρ i = some c := by unfold cellAt; rw [hx]; rfl
        obtain ⟨a, e', f, q⟩ := r.cel i _ hn
        rw [p] at e'; cases e'
        refine ⟨by simp only [ArgsOk]; exact ⟨a, t, rfl, f, q, a1⟩, fun k => ?_⟩
        simp only [ownIx, ioL, hn]
        exact .cons ⟨p, c, hn⟩ (a2 _)
theorem pnil_r {α β : Type} {P : α → β → Prop} {l : List β} (h : Paired P [] l) : l = [] := by cases h; rfl
/-- the list of slot i is changed by a callee, and new things are there -/
theorem R.wrG {F' H' : Hp} {i : Nat} {a : Addr} {c c' : Cell} (r : R K mg io F H σ ρ) (hc : cellAt ρ i = some c) (ha : σ[i]? = some (some (.ref a))) (s1 : Same F F') (s2 : Same F' H') (keep : ∀ b o, H b = some o → b ≠ a → H' b = some o ∧ F' b = F b) (stay : ∀ b, H' b = none → H b = none)
    (hf : F' a = none) (hv : CellOk K mg F' H' a c') : R K mg io F' H' σ (putC ρ i c') ∧ Ext F H σ ρ F' H' σ (putC ρ i c') := by
  obtain ⟨s, hs, hsc⟩ : ∃ s, ρ[i]? = some s ∧ s.cell? = some c := by
    unfold cellAt at hc
    cases q : ρ[i]? with
    | none => rw [q] at hc; cases hc
    | some s => rw [q] at hc; exact ⟨s, rfl, hc⟩
  have hp : putC ρ i c' = ρ.set i (s.put c') := by unfold putC; rw [hs]
  rw [hp]
  have hlt := cellAt_lt hc
  have hsc' : (s.put c').cell? = some c' := by cases s <;> first | rfl | cases hsc
  have hcs : ∀ j d, cellAt (ρ.set i (s.put c')) j = some d → (i = j ∧ d = c') ∨ (i ≠ j ∧ cellAt ρ j = some d) := fun j d hj => by
    rw [set_cellAt] at hj
    by_cases z : i = j
    · subst z
      simp only [hlt, and_self, if_true, hsc', Option.some.injEq] at hj
      exact .inl ⟨rfl, hj.symm⟩
    · simp only [z, false_and, if_false] at hj
      exact .inr ⟨z, hj⟩
  have old : ∀ j d, cellAt (ρ.set i (s.put c')) j = some d → ∃ d', cellAt ρ j = some d' := fun j d hj => by
    rcases hcs j d hj with ⟨rfl, rfl⟩ | ⟨_, hj⟩
    · exact ⟨c, hc⟩
    · exact ⟨d, hj⟩
  refine ⟨⟨by rw [List.length_set]; exact r.len, s2, fun j x hj => ?_, fun j d hj => ?_, fun j k d d' b hj hk ej ek => ?_, fun q hq => ?_⟩, ⟨s1, fun b u hb n => ?_, fun b ⟨j, d, hj, hb⟩ => ?_, stay⟩⟩
  · rcases set_at hj with ⟨z, e, _⟩ | ⟨z, hj⟩
    · cases s <;> first | (cases hsc; done) | cases e
    · obtain ⟨v, e, q⟩ := r.dat j x hj
      exact ⟨v, e, q.mono s1⟩
  · rcases hcs j d hj with ⟨rfl, rfl⟩ | ⟨z, hj⟩
    · exact ⟨a, ha, hf, hv⟩
    · obtain ⟨b, e, fb, q⟩ := r.cel j d hj
      have hba : b ≠ a := by rintro rfl; exact z (r.inj i j _ _ _ hc hj ha e)
      obtain ⟨o, ho⟩ := q.here
      obtain ⟨_, k2⟩ := keep b o ho hba
      refine ⟨b, e, k2.trans fb, ?_⟩
      exact q.move (fun o' ho' => (keep b o' ho' hba).1) s1
  · obtain ⟨d1, h1⟩ := old j d hj
    obtain ⟨d2, h2⟩ := old k d' hk
    exact r.inj j k d1 d2 b h1 h2 ej ek
  · obtain ⟨e, d, hd⟩ := r.ios q hq
    refine ⟨e, ?_⟩
    by_cases z : i = q.1
    · subst z
      rw [hs] at hd; cases hd
      exact ⟨c', by rw [List.getElem?_set_self hlt]; rfl⟩
    · exact ⟨d, by rw [List.getElem?_set_ne z]; exact hd⟩
  · have : b ≠ a := by rintro rfl; exact n ⟨i, c, hc, ha⟩
    exact keep b u hb this
  · obtain ⟨d1, h1⟩ := old j d hj
    exact .inl ⟨j, d1, h1, hb⟩
/-- from what the callee promises -/
theorem call_post {g : Gf} {m : MA} {Q : VK} {os : List Od} {vs : List V} {ρ1 ρ' : Rho} {d : D} {F1 H1 : Hp} (x1 : Ext F H σ ρ F1 H1 σ ρ1) (r1 : R K mg io F1 H1 σ ρ1) (p : RepOs K mg F1 σ os vs) (hm : m ρ = some (os, ρ1)) (hc : mCall g m ρ = some (d, ρ'))
    (q : ∀ v F' H', Ext F H σ ρ F' H' σ ρ' → R K mg io F' H' σ ρ' → Rep K mg F' d v → Q v H') (E : XK) : spD K mg g vs H1 Q E := by
  unfold mCall at hc
  rw [hm] at hc
  simp only at hc
  split at hc <;> try cases hc
  rename_i sls h2
  split at hc <;> try cases hc
  rename_i d' c h3
  obtain ⟨a1, a2⟩ := r1.args p h2
  have a2 := a2 0
  split at hc <;> try cases hc
  · rename_i h4
    rw [h4] at a2
    have hL := pnil_r a2
    refine ⟨F1, sls, _, c, r1.sub, a1, by rw [hL]; exact Nat.zero_le _, h3, fun v F' H' s1 s2 keep stay _ rp => ?_⟩
    have gr : Grow F1 H1 F' H' := ⟨s1, s2, fun a o ha => keep a o ha (by rw [hL]; simp)⟩
    exact q v F' H' (x1.trans gr.ext) (r1.grow gr) rp
  · rename_i i h4
    split at hc <;> cases hc
    rename_i c'
    rw [h4] at a2
    obtain ⟨pr, hL, ei, cc, hcc⟩ : ∃ pr, ioL sls vs 0 = [pr] ∧ σ[i]? = some (some (.ref pr.2)) ∧ ∃ c, cellAt ρ1 i = some c := by
      generalize hz : ioL sls vs 0 = L at a2
      cases a2 with
      | cons h t =>
        cases t
        exact ⟨_, rfl, h.1, h.2⟩
    refine ⟨F1, sls, _, some c', r1.sub, a1, by rw [hL]; exact Nat.le_refl _, h3, fun v F' H' s1 s2 keep stay out rp => ?_⟩
    rw [hL] at keep out
    obtain ⟨c2, e2, hf, hv⟩ := out
    cases e2
    obtain ⟨r2, x2⟩ := r1.wrG hcc ei s1 s2 (fun b o hb nb => keep b o hb (by simpa using nb)) stay hf hv
    exact q v F' H' (x1.trans x2) r2 rp
end
/-- a def as it is known to its callers -/
structure Kn (P : Program) (w : World) (K : PySem.W.Frag) (mg : Str → Option Value) (base : Heap) (k : Nat) (x : Str) (g : Gf) : Prop where
  ex : ∃ (f : Addr) (fd : FuncData) (ps : List Str), mg x = some (.ref f) ∧ PySem.W.keepIn K (.ref f) = true ∧ Binds K fd ps [] ∧ FnOk P w K mg base CX0 k f fd ps (spD K ⟨mg, P, w⟩ g)
theorem Kn.mono {P : Program} {w : World} {K : PySem.W.Frag} {mg : Str → Option Value} {base : Heap} {j k : Nat} {x : Str} {g : Gf} (c : Kn P w K mg base j x g) (h : j ≤ k) : Kn P w K mg base k x g :=
  let ⟨f, fd, ps, a, b, d, e⟩ := c.ex
  ⟨f, fd, ps, a, b, d, e.mono h⟩
abbrev Kn.of (X : Cx) (k : Nat) (x : Str) (g : Gf) : Prop := Kn X.prog X.w X.K X.mgx X.base k x g
section
variable {X : Cx} {e : Expr} {es : List Expr} {p pos : Pos} {x : Str} {k j : Nat} {g : Gf} {m : MA}
theorem se_call (c : Kn.of X k x g) (hr : Room j X.A) (hk : k ≤ j) (ha : SA X (e :: es) m) (hg : Gl X x := by rfl) (hdb : (x == ("__debug__" : Str)) = false := by decide) (he : starEach (e :: es) X.env = (false, eval e X.env) :: starEach es X.env := by rfl) (hpl : (backTo pos (starEach es X.env)).any (·.1) = false := by rfl) :
    SE X (.Call (.Name x p) (e :: es) [] pos) (mCall g m) := Z.pe_mk fun σ H Q ⟨io, F, ρ, d, ρ', r, hm, q⟩ => by
  obtain ⟨f, fd, ps, hmg, hkp, hb, F0⟩ := c.ex
  refine ⟨_, pe_call F0 (hr.mono hk) hg hmg hkp hb .nil pass0 ha hdb he hpl, ?_⟩
  obtain ⟨os, ρ1, h1⟩ : ∃ os ρ1, m ρ = some (os, ρ1) := by
    unfold mCall at hm
    split at hm
    · rename_i os ρ1 h1; exact ⟨os, ρ1, h1⟩
    · cases hm
  refine ⟨io, F, ρ, os, ρ1, r, h1, fun vs F1 H1 x1 r1 p1 => ?_⟩
  show spD X.K X.mgx g (vs ++ []) H1 Q E0
  rw [List.append_nil]
  exact call_post x1 r1 p1 h1 hm q _
theorem se_call0 (c : Kn.of X k x g) (hr : Room j X.A) (hk : k ≤ j) (hg : Gl X x := by rfl) (hdb : (x == ("__debug__" : Str)) = false := by decide) :
    SE X (.Call (.Name x p) [] [] pos) (mCall g mA0) := Z.pe_mk fun σ H Q ⟨io, F, ρ, d, ρ', r, hm, q⟩ => by
  obtain ⟨f, fd, ps, hmg, hkp, hb, F0⟩ := c.ex
  refine ⟨_, pe_call0 F0 (hr.mono hk) hg hmg hkp hb .nil pass0 hdb, ?_⟩
  show spD X.K X.mgx g ([] ++ []) H Q E0
  exact call_post (m := mA0) (os := []) (vs := []) .refl r (by simp only [RepOs]) rfl hm q _
end
end Z
/-! More rules: constants of the module, slices, isinstance, indexes, sorted texts, a def held by a name. -/
namespace Z
open PySem PySem.Spec PyProof.Rows L2

/-- a constant of the module -/
def Gc (K : PySem.W.Frag) (mg : Mg) (x : Str) (d : D) : Prop := ∃ u v, mg x = some u ∧ RelV v u ∧ ∀ F, Rep K mg F d v
section
variable {X : Cx} {e a b : Expr} {es : List Expr} {p pos : Pos} {x : Str}
theorem se_g {d : D} (h : Gc X.K X.mgx x d) (hg : Gl X x := by rfl) (hd : (x == ("__debug__" : Str)) = false := by decide) : SE X (.Name x pos) (mC d) := Z.pe_mk fun σ H Q ⟨io, F, ρ, d', ρ', r, hm, q⟩ => by
  cases hm
  obtain ⟨u, v, hm, rv, rp⟩ := h
  exact ⟨_, pe_glob hg hm rv hd, q v F H .refl r (rp F)⟩
/-- an item of a written dict with text keys -/
def getT (T : List (Str × D)) : D → Option D
  | .str z => T.lookup z
  | _ => none
def Gd (K : PySem.W.Frag) (w : World) (mg : Mg) (x : Str) (T : List (Str × D)) : Prop := ∃ a, mg x = some (.ref a) ∧ ∀ z d, T.lookup z = some d → ∃ v, KDct K w a z v ∧ ∀ F, Rep K mg F d v
def mGet (T : List (Str × D)) (m : MO) : ME := fun ρ => match m ρ with
  | some (o, ρ') => match res ρ' o with
    | some d => match getT T d with
      | some d' => some (d', ρ')
      | none => none
    | none => none
  | none => none
theorem se_gd {T : List (Str × D)} {m : MO} (h : Gd X.K X.w X.mgx x T) (hb : SO X b m) (hg : Gl X x := by rfl) (hd : (x == ("__debug__" : Str)) = false := by decide) (hs : PlainIx b := by intro _ _; rfl) : SE X (.Subscript (.Name x p) b pos) (mGet T m) := Z.pe_mk fun σ H Q ⟨io, F, ρ, d', ρ', r, hm, q⟩ => by
  obtain ⟨a, hmg, hT⟩ := h
  refine ⟨_, pe_ix ix_kdict (pe_glob (v := .ref a) hg hmg rfl hd) hb hs, ?_⟩
  unfold mGet at hm
  split at hm <;> try cases hm
  rename_i o ρ1 h1
  split at hm <;> try cases hm
  rename_i d hd'
  split at hm <;> cases hm
  rename_i h3
  refine ⟨io, F, ρ, o, _, r, h1, fun v F1 H1 x1 r1 p1 => ?_⟩
  have p2 := r1.res p1 hd'
  cases d <;> simp only [getT] at h3 <;> try cases h3
  rename_i z
  obtain ⟨v', kd, rp⟩ := hT z _ h3
  exact ⟨a, z, v', rfl, p2.str, kd, q v' F1 H1 x1 r1 (rp F1)⟩

/-! ### a def that a name holds -/
def mCallV (G : Str → Option Gf) (i : Nat) (m : MA) : ME := fun ρ => match ρ[i]? with
  | some (.d (.fn n)) => match G n with
    | some g => mCall g m ρ
    | none => none
  | _ => none
theorem se_callV {j k : Nat} {G : Str → Option Gf} {m : MA} (i : Nat) (hG : ∀ n g, G n = some g → Kn.of X k n g) (hr : Room j X.A) (hk : k ≤ j) (ha : SA X (e :: es) m) (hN : X.N[i]? = some x := by rfl) (hv : Vis X.env.scope x := by first | exact Or.inl rfl | exact Or.inr (Or.inl rfl) | exact Or.inr (Or.inr rfl))
    (hdb : (x == ("__debug__" : Str)) = false := by decide) (hcd : (x == ("__classdict__" : Str)) = false := by decide)
    (he : starEach (e :: es) X.env = (false, eval e X.env) :: starEach es X.env := by rfl) (hpl : (backTo pos (starEach es X.env)).any (·.1) = false := by rfl) : SE X (.Call (.Name x p) (e :: es) [] pos) (mCallV G i m) := Z.pe_mk fun σ H Q ⟨io, F, ρ, d, ρ', r, hm, q⟩ => by
  unfold mCallV at hm
  split at hm <;> try cases hm
  rename_i n hn
  split at hm <;> try cases hm
  rename_i g hg
  obtain ⟨f, fd, ps, hmg, hkp, hb, F0⟩ := (hG n g hg).ex
  refine ⟨_, pe_callL (i := i) (f := f) (dvs := []) (E := E0) (F0.mono hk) hr hN hv hkp hb .nil pass0 ha hdb hcd he hpl, ?_⟩
  obtain ⟨v, e0, p0⟩ := r.dat i _ hn
  simp only [Rep] at p0
  obtain ⟨f', rfl, hmg'⟩ := p0
  have hmg' := hmg.symm.trans hmg'
  cases hmg'
  obtain ⟨os, ρ1, h1⟩ : ∃ os ρ1, m ρ = some (os, ρ1) := by
    unfold mCall at hm
    split at hm
    · rename_i os ρ1 h1; exact ⟨os, ρ1, h1⟩
    · cases hm
  refine ⟨e0, io, F, ρ, os, ρ1, r, h1, fun vs F1 H1 x1 r1 p1 => ?_⟩
  show spD X.K X.mgx g (vs ++ []) H1 Q E0
  rw [List.append_nil]
  exact call_post x1 r1 p1 h1 hm q _

/-! ### slices -/
abbrev MP := Rho → Option (Option Int × Rho)
def tP (K : PySem.W.Frag) (mg : Mg) (m : MP) : TO := fun σ H Q => ∃ io F ρ o ρ', R K mg io F H σ ρ ∧ m ρ = some (o, ρ') ∧ ∀ F' H', Ext F H σ ρ F' H' σ ρ' → R K mg io F' H' σ ρ' → Q o H'
abbrev SP' (X : Cx) (e : Option Expr) (m : MP) : Prop := PO X e (tP X.K X.mgx m)
def mP0 : MP := fun ρ => some (none, ρ)
theorem sp_none : SP' X none mP0 := ⟨fun pins s σ H Q I ⟨io, F, ρ, o, ρ', r, hm, q⟩ => by
  cases hm
  exact po_none.run pins s σ H Q I (q F H .refl r)⟩
def mP1 (m : MO) : MP := fun ρ => match m ρ with
  | some (o, ρ') => match res ρ' o with
    | some (.int i) => some (some i, ρ')
    | _ => none
  | none => none
theorem sp_some {m : MO} (h : SO X e m) : SP' X (some e) (mP1 m) := ⟨fun pins s σ H Q I ⟨io, F, ρ, o, ρ', r, hm, q⟩ => by
  unfold mP1 at hm
  split at hm <;> try cases hm
  rename_i od ρ1 h1
  split at hm <;> cases hm
  rename_i i hi
  exact (po_some h).run pins s σ H Q I ⟨io, F, ρ, od, _, r, h1, fun v F' H' x r' p => ⟨i, (r'.res p hi).int, q F' H' x r'⟩⟩⟩
def cutL {α : Type} (xs : List α) (lo hi : Option Int) : List α := (xs.drop (HT.sIx xs.length 0 lo)).take (HT.sIx xs.length xs.length hi - HT.sIx xs.length 0 lo)
def sliceD (d : D) (lo hi : Option Int) : Option D := match d with
  | .lst xs => some (.lst (cutL xs lo hi))
  | .tup xs => some (.tup (cutL xs lo hi))
  | _ => none
def mSlice (m : MO) (ml mh : MP) : ME := fun ρ => match m ρ with
  | some (o, ρ1) => match ml ρ1 with
    | some (lo, ρ2) => match mh ρ2 with
      | some (hi, ρ3) => match res ρ3 o with
        | some d => match sliceD d lo hi with
          | some d' => some (d', ρ3)
          | none => none
        | none => none
      | none => none
    | none => none
  | none => none
theorem cut_rep {K : PySem.W.Frag} {mg : Mg} {F : Hp} {ds : List D} {vs : List V} (r : RepL K mg F ds vs) (lo hi : Option Int) : RepL K mg F (cutL ds lo hi) (cutV vs lo hi) := by
  unfold cutL cutV
  rw [r.len]
  exact (r.drop _).take _
theorem se_slice {p2 : Pos} {lo hi : Option Expr} {m : MO} {ml mh : MP} (h : SO X e m) (hl : SP' X lo ml) (hh : SP' X hi mh) : SE X (.Subscript e (.Slice lo hi none p2) pos) (mSlice m ml mh) := Z.pe_mk fun σ H Q ⟨io, F, ρ, d, ρ', r, hm, q⟩ => by
  unfold mSlice at hm
  split at hm <;> try cases hm
  rename_i o ρ1 h1
  split at hm <;> try cases hm
  rename_i lo ρ2 h2
  split at hm <;> try cases hm
  rename_i hi ρ3 h3
  split at hm <;> try cases hm
  rename_i d' h4
  split at hm <;> cases hm
  rename_i h5
  have go : ∀ (t : V → Option Int → Option Int → Hp → VK → Prop), SlR X t → (∀ v F' H', R X.K X.mgx io F' H' σ ρ' → RepP X.K X.mgx F' H' d' v → Post X.K X.mgx F' H' Q d → t v lo hi H' Q) → ∃ u, PE X (.Subscript e (.Slice _ _ none p2) pos) u ∧ u σ H Q := fun t ht hq =>
    ⟨_, pe_slice ht h hl hh, io, F, ρ, o, ρ1, r, h1, fun v F1 H1 x1 r1 p1 => ⟨io, F1, ρ1, lo, ρ2, r1, h2, fun F2 H2 x2 r2 => ⟨io, F2, ρ2, hi, ρ', r2, h3, fun F3 H3 x3 r3 => by
      have x23 := x2.trans x3
      refine hq v F3 H3 r3 (r3.res (p1.mono x23.sub) h4) fun u F' H' gr rp => q u F' H' ((x1.trans x23).trans gr.ext) (r3.grow gr) rp⟩⟩⟩
  cases d' <;> simp only [sliceD] at h5 <;> cases h5
  · rename_i xs
    refine go _ sl_list fun v F' H' r' p po => ?_
    obtain ⟨a, vs, rfl, h1, rl⟩ := p.lst r'.sub
    exact ⟨a, vs, rfl, SqL.of h1, po.newL r'.sub (cut_rep rl lo hi)⟩
  · rename_i xs
    refine go _ sl_tupX fun v F' H' r' p po => ?_
    obtain ⟨a, vs, rfl, h1, rl⟩ := p.tupX
    refine ⟨a, vs, rfl, Same.tup r'.sub h1.t, fun ⟨z1, z2⟩ => ?_, fun _ => po.newT r'.sub (cut_rep rl lo hi)⟩
    rw [rl.len] at z1 z2
    have hcut : cutL xs lo hi = xs := by
      unfold cutL
      rw [z1, z2, List.drop_zero, Nat.sub_zero, List.take_length]
    rw [hcut] at po
    exact po.here r'.sub (by simp only [Rep]; exact ⟨a, vs, rfl, h1, rl⟩)

/-! ### isinstance -/
inductive Ty5 where
  | int | bool | list | tuple | str
  deriving DecidableEq
def Ty5.nm : Ty5 → String
  | .int => "int" | .bool => "bool" | .list => "list" | .tuple => "tuple" | .str => "str"
def isiB (T : Ty5) : D → Option Bool
  | .non => some false
  | .bl _ => some (T == .bool || T == .int)
  | .int _ => some (T == .int)
  | .str _ => some (T == .str)
  | .lst _ => some (T == .list)
  | .scr _ => some (T == .list)
  | .tup _ => some (T == .tuple)
  | .prs _ => none
  | .obj _ _ _ => none
  | .dic _ _ => none
  | .dct _ _ => none
  | .fn _ => none
  | .raw _ => none
def mIsi (T : Ty5) (m : MO) : ME := fun ρ => match m ρ with
  | some (o, ρ') => match res ρ' o with
    | some d => match isiB T d with
      | some b => some (.bl b, ρ')
      | none => none
    | none => none
  | none => none
theorem kb_non (T : Ty5) : kitB "NoneType" T.nm = some false := by cases T <;> decide +kernel
theorem kb_bl (T : Ty5) : kitB "bool" T.nm = some (T == .bool || T == .int) := by cases T <;> decide +kernel
theorem kb_int (T : Ty5) : kitB "int" T.nm = some (T == .int) := by cases T <;> decide +kernel
theorem kb_str (T : Ty5) : kitB "str" T.nm = some (T == .str) := by cases T <;> decide +kernel
theorem kb_list (T : Ty5) : kitB "list" T.nm = some (T == .list) := by cases T <;> decide +kernel
theorem kb_tuple (T : Ty5) : kitB "tuple" T.nm = some (T == .tuple) := by cases T <;> decide +kernel
theorem se_isi (T : Ty5) {y : Str} {py : Pos} {m : MO} (h : SO X e m) (hm : X.mg "isinstance" = none) (hy : X.mg y = none) (hyv : bootBuiltins y = some (.type T.nm)) (hg : Gl X "isinstance" := by rfl) (hgy : Gl X y := by rfl) (hv : bootBuiltins "isinstance" = some (.builtin "isinstance") := by decide +kernel)
    (hyn : y ≠ "__name__" := by decide) (hyd : (y == ("__debug__" : Str)) = false := by decide)
    (hs1 : starEach [e, .Name y py] X.env = (false, eval e X.env) :: starEach [.Name y py] X.env := by rfl) (hs2 : starEach [.Name y py] X.env = (false, eval (.Name y py) X.env) :: starEach [] X.env := by rfl) (hpl : (backTo pos (starEach [.Name y py] X.env)).any (·.1) = false := by rfl) :
    SE X (.Call (.Name "isinstance" p) [e, .Name y py] [] pos) (mIsi T m) := Z.pe_mk fun σ H Q ⟨io, F, ρ, d, ρ', r, hm', q⟩ => by
  refine ⟨_, pe_callB call_isi hg hm hv (pa_cons h (pa_cons (pe_bltn (v := .ty T.nm) hgy hy hyv rfl hyn hyd) pa_nil hs2) hs1) (by decide) (by decide) hs1 hpl, ?_⟩
  unfold mIsi at hm'
  split at hm' <;> try cases hm'
  rename_i o ρ1 h1
  split at hm' <;> try cases hm'
  rename_i d' h2
  split at hm' <;> cases hm'
  rename_i b h3
  refine ⟨io, F, ρ, o, _, r, h1, fun v F1 H1 x1 r1 p1 => ?_⟩
  have p2 := r1.res p1 h2
  have fin : ∀ (t : String), TyX X.K H1 v (.type t) → kitB t T.nm = some b → rIsi X.K [v, .ty T.nm] H1 Q := fun t ht hb =>
    ⟨v, .ty T.nm, .type t, .type T.nm, b, rfl, .ty _, ht, kit_ty hb, q _ F1 H1 x1 r1 (by simp only [Rep])⟩
  cases d' <;> simp only [isiB] at h3 <;> cases h3
  · cases p2.non; exact fin "NoneType" (.base .non) (kb_non T)
  · cases p2.bl; exact fin "bool" (.base (.bl _)) (kb_bl T)
  · cases p2.int; exact fin "int" (.base (.int _)) (kb_int T)
  · cases p2.str; exact fin "str" (.base (.str _)) (kb_str T)
  · obtain ⟨a, rfl, hl⟩ := p2.scr r1.sub
    rcases hl with (hl | ⟨ob, hl⟩) | ⟨ob, its, n, hl, hc, _⟩
    · exact fin "list" (.base (.lst hl)) (kb_list T)
    · exact fin "list" (.base (.frz hl)) (kb_list T)
    · exact fin "list" (.kList hl hc) (kb_list T)
  · obtain ⟨a, vs, rfl, hl, _⟩ := p2.lst r1.sub
    exact fin "list" (.base (.lst hl)) (kb_list T)
  · obtain ⟨a, vs, rfl, hl, _⟩ := p2.tup
    rcases Same.tup r1.sub hl with (hl | ⟨ob, hl⟩) | ⟨ob, its, n, hl, hc, _⟩
    · exact fin "tuple" (.base (.tup hl)) (kb_tuple T)
    · exact fin "tuple" (.fTuple hl) (kb_tuple T)
    · exact fin "tuple" (.kTuple hl hc) (kb_tuple T)
end
end Z
/-! sorted of texts; lists made by * and +, owned. -/
namespace Z
open PySem PySem.Spec PyProof.Rows L2

theorem ltc_anti : ∀ {a b : List Nat}, ltCps a b = false → ltCps b a = false → a = b
  | [], [], _, _ => rfl
  | [], _ :: _, h, _ => by simp [ltCps] at h
  | _ :: _, [], _, h => by simp [ltCps] at h
  | a :: r, b :: t, h, h' => by
    simp only [ltCps, Bool.or_eq_false_iff, Bool.and_eq_false_iff, decide_eq_false_iff_not, beq_eq_false_iff_ne] at h h'
    have e : a = b := by omega
    subst e
    rw [ltc_anti (h.2.resolve_left fun z => z rfl) (h'.2.resolve_left fun z => z rfl)]
theorem ltc_trans : ∀ {a b c : List Nat}, ltCps b a = false → ltCps c b = false → ltCps c a = false
  | [], _, [], _, _ => rfl
  | [], b, c :: u, _, _ => by simp [ltCps]
  | a :: r, [], c, h, _ => by simp [ltCps] at h
  | a :: r, b :: t, [], _, h => by simp [ltCps] at h
  | a :: r, b :: t, c :: u, h, h' => by
    simp only [ltCps, Bool.or_eq_false_iff, Bool.and_eq_false_iff, decide_eq_false_iff_not, beq_eq_false_iff_ne] at h h' ⊢
    refine ⟨by omega, ?_⟩
    by_cases e : c = a
    · right
      have e1 : b = a := by omega
      have e2 : c = b := by omega
      exact ltc_trans (h.2.resolve_left fun z => z e1) (h'.2.resolve_left fun z => z e2)
    · exact .inl e
theorem ltc_total : ∀ a b : List Nat, ltCps a b = false ∨ ltCps b a = false
  | [], [] => .inl rfl
  | [], _ :: _ => .inr (by simp [ltCps])
  | _ :: _, [] => .inl (by simp [ltCps])
  | a :: r, b :: t => by
    simp only [ltCps, Bool.or_eq_false_iff, Bool.and_eq_false_iff, decide_eq_false_iff_not, beq_eq_false_iff_ne]
    by_cases e : a = b
    · subst e
      rcases ltc_total r t with h | h
      · exact .inl ⟨by omega, .inr h⟩
      · exact .inr ⟨by omega, .inr h⟩
    · by_cases l : a < b
      · exact .inr ⟨by omega, .inl (fun z => e z.symm)⟩
      · exact .inl ⟨l, .inl e⟩
def leS (a b : Str) : Bool := !ltCps b.cps.toList a.cps.toList
theorem leS_anti {a b : Str} (h : leS a b = true) (h' : leS b a = true) : a = b := by
  simp only [leS, Bool.not_eq_true'] at h h'
  exact Str.ext' (Array.toList_inj.mp (ltc_anti h' h))
theorem leS_trans {a b c : Str} (h : leS a b = true) (h' : leS b c = true) : leS a c = true := by
  simp only [leS, Bool.not_eq_true'] at h h' ⊢
  exact ltc_trans h h'
def insS (x : Str) : List Str → List Str
  | [] => [x]
  | y :: ys => if leS x y then x :: y :: ys else y :: insS x ys
def sortS : List Str → List Str
  | [] => []
  | x :: xs => insS x (sortS xs)
theorem insS_perm (x : Str) : ∀ ys : List Str, (insS x ys).Perm (x :: ys)
  | [] => .refl _
  | y :: ys => by
    unfold insS
    split
    · exact .refl _
    · exact ((insS_perm x ys).cons y).trans (.swap x y ys)
theorem sortS_perm : ∀ xs : List Str, (sortS xs).Perm xs
  | [] => .refl _
  | x :: xs => (insS_perm x _).trans ((sortS_perm xs).cons x)
theorem insS_sorted (x : Str) : ∀ {ys : List Str}, ys.Pairwise (fun a b => leS a b = true) → (insS x ys).Pairwise (fun a b => leS a b = true)
  | [], _ => List.pairwise_singleton _ _
  | y :: ys, h => by
    obtain ⟨h1, h2⟩ := List.pairwise_cons.mp h
    unfold insS
    split
    · rename_i hl
      refine List.pairwise_cons.mpr ⟨fun z hz => ?_, h⟩
      rcases List.mem_cons.mp hz with rfl | hz
      · exact hl
      · exact leS_trans hl (h1 z hz)
    · rename_i hl
      have hyx : leS y x = true := by
        simp only [leS, Bool.not_eq_true'] at hl ⊢
        rcases ltc_total y.cps.toList x.cps.toList with z | z
        · rw [z] at hl; exact absurd rfl hl
        · exact z
      refine List.pairwise_cons.mpr ⟨fun z hz => ?_, insS_sorted x h2⟩
      rcases List.mem_cons.mp ((insS_perm x ys).mem_iff.mp hz) with rfl | hz
      · exact hyx
      · exact h1 z hz
theorem sortS_sorted : ∀ xs : List Str, (sortS xs).Pairwise (fun a b => leS a b = true)
  | [] => List.Pairwise.nil
  | x :: xs => insS_sorted x (sortS_sorted xs)
theorem rising_pw : ∀ {xs : List Str} {p : Str}, risingS p xs = true → (p :: xs).Pairwise (fun a b => leS a b = true)
  | [], p, _ => List.pairwise_singleton _ _
  | x :: xs, p, h => by
    simp only [risingS, Bool.and_eq_true] at h
    have ih := rising_pw h.2
    refine List.pairwise_cons.mpr ⟨fun z hz => ?_, ih⟩
    rcases List.mem_cons.mp hz with rfl | hz
    · exact h.1
    · exact leS_trans h.1 ((List.pairwise_cons.mp ih).1 z hz)
theorem sorted_pw {xs : List Str} (h : sortedS xs = true) : xs.Pairwise (fun a b => leS a b = true) := by
  cases xs with
  | nil => exact List.Pairwise.nil
  | cons x xs => exact rising_pw h
theorem sort_one {xs ys : List Str} (p : ys.Perm xs) (h : sortedS ys = true) : ys = sortS xs :=
  List.Perm.eq_of_pairwise (fun a b _ _ h h' => leS_anti h h') (sorted_pw h) (sortS_sorted xs) (p.trans (sortS_perm xs).symm)
def strsD : List D → Option (List Str)
  | [] => some []
  | .str x :: ds => match strsD ds with
    | some xs => some (x :: xs)
    | none => none
  | _ :: _ => none
theorem RepL.strs {K : PySem.W.Frag} {mg : Mg} {F : Hp} : ∀ {ds : List D} {vs : List V} {xs : List Str}, RepL K mg F ds vs → strsD ds = some xs → vs = xs.map V.str
  | [], _, _, h, e => by simp only [strsD] at e; cases e; simpa only [RepL, List.map_nil] using h
  | d :: ds, _, _, h, e => by
    simp only [RepL] at h
    obtain ⟨v, r, rfl, q, t⟩ := h
    cases d <;> simp only [strsD] at e <;> try cases e
    split at e <;> cases e
    rename_i bs hb
    simp only [Rep] at q
    subst q
    rw [List.map_cons, RepL.strs t hb]
theorem rep_strs {K : PySem.W.Frag} {mg : Mg} {F : Hp} : ∀ xs : List Str, RepL K mg F (xs.map D.str) (xs.map V.str)
  | [] => .nil
  | x :: xs => .cons (by simp only [Rep]) (rep_strs xs)
/-- sorted of a list of texts -/
def sortD : List D → Option D
  | [.lst ds] => match strsD ds with
    | some xs => if xs.length < 64 then some (.lst ((sortS xs).map D.str)) else none
    | none => none
  | _ => none
section
variable {X : Cx}
theorem n_sorted : OpN X (.builtin "sorted") sortD := by
  intro ds d h
  unfold sortD at h
  split at h <;> try cases h
  split at h <;> try cases h
  rename_i xs hx
  split at h <;> cases h
  rename_i hl
  refine ⟨_, cr_sortedS, fun F H vs Q s p q => ?_⟩
  obtain ⟨v, rfl, pp⟩ := p.one
  obtain ⟨a, vs, rfl, h1, r1⟩ := pp.lst s
  have := r1.strs hx
  subst this
  refine ⟨a, xs, rfl, SqL.of h1, hl, fun ys p hp hs hn => ?_⟩
  rw [sort_one hp hs]
  exact q.newL s (rep_strs _) p hn

/-! ### new lists by an operator, owned -/
/-- the result is a new list -/
def PostN (K : PySem.W.Frag) (mg : Mg) (F H : Hp) (Q : VK) (ds : List D) : Prop := ∀ p vs, H p = none → RepL K mg F ds vs → Q (.ref p) (upd H p (.lst vs))
def Pure2N (K : PySem.W.Frag) (mg : Mg) (r : R2) (dx dy : D) (ds : List D) : Prop :=
  ∀ F H v w Q, Same F H → RepP K mg F H dx v → RepP K mg F H dy w → PostN K mg F H Q ds → r v w H Q
def Op2N (X : Cx) (f : Value → Value → Sem Value) (g : D → D → Option (List D)) : Prop := ∀ dx dy ds, g dx dy = some ds → ∃ r, OpR X f r ∧ Pure2N X.K X.mgx r dx dy ds
def mBN (g : D → D → Option (List D)) (ma mb : MO) : MN := fun ρ => match ma ρ with
  | some (x, ρ1) => match mb ρ1 with
    | some (y, ρ2) => match res ρ2 x, res ρ2 y with
      | some dx, some dy => match g dx dy with
        | some d => some (d, ρ2)
        | none => none
      | _, _ => none
    | none => none
  | none => none
theorem sn_op {a b : Expr} {ma mb : MO} {pos : Pos} {g : D → D → Option (List D)} {op : Operator} (hg : Op2N X (binaryOp op) g) (ha : SO X a ma) (hb : SO X b mb) : SN X (.BinOp a op b pos) (mBN g ma mb) := Z.pe_mk fun σ H Q ⟨io, F, ρ, d, ρ', r, hm, q⟩ => by
  unfold mBN at hm
  split at hm <;> try cases hm
  rename_i x ρ1 h1
  split at hm <;> try cases hm
  rename_i y ρ2 h2
  split at hm <;> try cases hm
  rename_i dx dy hx hy
  split at hm <;> cases hm
  rename_i hd
  obtain ⟨rr, ho, p⟩ := hg dx dy _ hd
  refine ⟨_, pe_op ho ha hb, io, F, ρ, x, ρ1, r, h1, fun v F1 H1 x1 r1 p1 => ⟨io, F1, ρ1, y, _, r1, h2, fun w F2 H2 x2 r2 p2 => ?_⟩⟩
  refine p F2 H2 v w Q r2.sub (r2.res (p1.mono x2.sub) hx) (r2.res p2 hy) fun l vs hl rl => ?_
  have x12 := x1.trans x2
  refine q l vs F2 _ (x12.trans ⟨Same.refl _, fun b o hb _ => ⟨by rw [upd_ne (ne_of_none hb hl)]; exact hb, rfl⟩, fun _ w => .inl w, fun b hb => ?_⟩) (r2.addH hl) (x12.stay l hl) upd_same (r2.freeF hl) (r2.notOwn hl) rl
  by_cases z : b = l
  · subst z; exact hl
  · rw [upd_ne z] at hb; exact hb
def repN : D → D → Option (List D)
  | .lst xs, .int k => if -1000 < k ∧ k < 1000 ∧ xs.length < 60 then some (List.replicate k.toNat xs).flatten else none
  | _, _ => none
theorem o_repN : Op2N X (binaryOp .Mult) repN := by
  intro dx dy d h
  unfold repN at h
  split at h <;> try cases h
  rename_i xs k
  split at h <;> cases h
  rename_i hl
  refine ⟨_, op_rep, fun F H v w Q s p1 p2 q => ?_⟩
  obtain ⟨a, vs, rfl, h1, r1⟩ := p1.lst s
  refine ⟨a, k, vs, rfl, p2.int, h1, by omega, by omega, ?_, fun p hp => q p _ hp (r1.rep _)⟩
  have h2 : vs.length < 60 := by rw [r1.len]; exact hl.2.2
  have h3 : k.toNat ≤ 1000 := by omega
  have : vs.length * k.toNat ≤ 60 * 1000 := Nat.mul_le_mul (by omega) h3
  exact Nat.le_trans this (Nat.le_trans (by decide) lim_line)
def catN : D → D → Option (List D)
  | .lst xs, .lst ys => if xs.length + ys.length ≤ LIM then some (xs ++ ys) else none
  | _, _ => none
theorem o_catN : Op2N X (binaryOp .Add) catN := by
  intro dx dy d h
  unfold catN at h
  split at h <;> try cases h
  rename_i xs ys
  split at h <;> cases h
  rename_i hl
  refine ⟨_, op_cat, fun F H v w Q s p1 p2 q => ?_⟩
  obtain ⟨a, vs, rfl, h1, r1⟩ := p1.lst s
  obtain ⟨b, ws, rfl, h2, r2⟩ := p2.lst s
  exact ⟨a, b, vs, ws, rfl, rfl, h1, h2, by rw [r1.len, r2.len]; exact Nat.le_trans hl lim_line, fun p hp => q p _ hp (r1.append r2)⟩
end
end Z
/-! the index of a text in a written tuple; -n; is True; ranges as tuples and lists. -/
namespace Z
open PySem PySem.Spec PyProof.Rows L2
section
variable {X : Cx} {e a : Expr} {p pos : Pos}
/-- t.index(x) -/
def idxF (z : D) : List D → Nat → Option Nat
  | [], _ => none
  | x :: xs, i => if eqFl x z then some i else idxF z xs (i + 1)
theorem idxF_at {z : D} : ∀ {xs : List D} {i j : Nat}, idxF z xs i = some j → i ≤ j ∧ (∃ y, xs[j - i]? = some y ∧ eqFl y z = true) ∧ ∀ m y, m < j - i → xs[m]? = some y → eqFl y z = false
  | [], _, _, h => by simp [idxF] at h
  | x :: xs, i, j, h => by
    simp only [idxF] at h
    split at h
    · rename_i e
      cases h
      refine ⟨Nat.le_refl _, ⟨x, by rw [Nat.sub_self]; rfl, e⟩, fun m y hm => absurd hm (by omega)⟩
    · rename_i e
      obtain ⟨h1, ⟨y, h2, h4⟩, h3⟩ := idxF_at h
      refine ⟨by omega, ⟨y, ?_, h4⟩, fun m y hm hy => ?_⟩
      · rw [show j - i = (j - (i + 1)) + 1 by omega, List.getElem?_cons_succ]
        exact h2
      · cases m with
        | zero => rw [List.getElem?_cons_zero] at hy; cases hy; simpa using e
        | succ m => rw [List.getElem?_cons_succ] at hy; exact h3 m y (by omega) hy
def mTIdx (mo m : MO) : ME := fun ρ => match mo ρ with
  | some (oo, ρ1) => match res ρ1 oo with
    | some (.tup xs) => match m ρ1 with
      | some (o, ρ') => match res ρ' o with
        | some z => if z.flat && xs.all D.flat then match idxF z xs 0 with
            | some j => some (.int j, ρ')
            | none => none
          else none
        | none => none
      | none => none
    | _ => none
  | none => none
theorem se_tidx {o : Expr} {mo m : MO} {apos : Pos} (ho : SO X o mo) (h : SO X e m)
    (hbase : attributeBase o "index" X.env (eval o X.env) = eval o X.env := by rfl)
    (hfew : ((backTo pos (starEach [e] X.env)).all (fun x => !x.1) && (backToKw pos (keywordEach [] X.env)).all (fun x => x.1.isSome)
      && decide (([e] : List Expr).length + ([] : List Keyword).length + (if ([] : List Keyword).isEmpty then 0 else 1) < 30)) = true := by rfl)
    (hline : (apos.endLine == pos.line) = true := by rfl) (hs1 : starEach [e] X.env = (false, eval e X.env) :: starEach [] X.env := by rfl) (hplain : (backTo pos (starEach [] X.env)).any (·.1) = false := by rfl) :
    SE X (.Call (.Attribute o "index" apos) [e] [] pos) (mTIdx mo m) := Z.pe_mk fun σ H Q ⟨io, F, ρ, d, ρ', r, hm, q⟩ => by
  refine ⟨_, pe_bmT PySem.F.slot_tuple_index PySem.F.type_tuple_index mt_indexT ho (pa_cons h pa_nil hs1) hbase hfew hline hs1 hplain, ?_⟩
  unfold mTIdx at hm
  split at hm <;> try cases hm
  rename_i oo ρ1 h1
  split at hm <;> try cases hm
  rename_i xs hx
  split at hm <;> try cases hm
  rename_i od ρ2 h2
  split at hm <;> try cases hm
  rename_i z hz
  split at hm <;> try cases hm
  rename_i hf
  simp only [Bool.and_eq_true] at hf
  split at hm <;> cases hm
  rename_i j hj
  obtain ⟨_, ⟨y, hy, ey⟩, hno⟩ := idxF_at hj
  refine ⟨io, F, ρ, oo, ρ1, r, h1, fun v F1 H1 x1 r1 p1 => ?_⟩
  obtain ⟨a, vs, rfl, ht, rl⟩ := (r1.res p1 hx).tupX
  refine ⟨⟨a, vs, rfl, ht.mono r1.sub⟩, io, F1, ρ1, od, _, r1, h2, fun w F2 H2 x2 r2 p2 => ?_⟩
  have pz := (r2.res p2 hz).flat hf.1
  have rl := rl.mono x2.sub
  have ht := ht.mono x2.sub
  refine ⟨a, vs, w, j, rfl, rfl, Same.tup r2.sub ht.t, pz.flat hf.1, rl.flat hf.2, ?_, fun m z' hm hz' => ?_, q _ F2 H2 (x1.trans x2) r2 (by simp only [Rep])⟩
  · obtain ⟨u, hu, pu⟩ := rl.get (i := j) (d := y) (by simpa using hy)
    exact ⟨u, hu, by rw [pu.eqV pz (List.all_eq_true.mp hf.2 _ (List.mem_of_getElem? hy)) hf.1]; exact ey⟩
  · have hm' : m < xs.length := by
      have := (List.getElem?_eq_some_iff.mp hz').1
      rw [rl.len] at this; exact this
    have hx' : xs[m]? = some xs[m] := List.getElem?_eq_getElem hm'
    obtain ⟨u, hu, pu⟩ := rl.get hx'
    rw [hz'] at hu; cases hu
    rw [pu.eqV pz (List.all_eq_true.mp hf.2 _ (List.mem_of_getElem? hx')) hf.1]
    exact hno m _ (by simpa using hm) hx'
/-- -n -/
def mNeg (m : MO) : ME := fun ρ => match m ρ with
  | some (o, ρ') => match res ρ' o with
    | some (.int i) => some (.int (-i), ρ')
    | _ => none
  | none => none
theorem se_neg {m : MO} (h : SO X e m) : SE X (.UnaryOp .USub e pos) (mNeg m) := Z.pe_mk fun σ H Q ⟨io, F, ρ, d, ρ', r, hm, q⟩ => by
  refine ⟨_, pe_un un_neg h, ?_⟩
  unfold mNeg at hm
  split at hm <;> try cases hm
  rename_i o ρ1 h1
  split at hm <;> cases hm
  rename_i i hi
  exact ⟨io, F, ρ, o, _, r, h1, fun v F1 H1 x1 r1 p1 => ⟨i, (r1.res p1 hi).int, q _ F1 H1 x1 r1 (by simp only [Rep])⟩⟩
/-- tuple(range(n)), list(range(n)) -/
theorem rg_rep {K : PySem.W.Frag} {mg : Mg} {F : Hp} (a b : Int) : RepL K mg F (rngL a (b - a).toNat) (rgV a b) := by
  unfold rngL rgV
  induction (List.range (b - a).toNat) with
  | nil => exact .nil
  | cons x xs ih => exact .cons (by simp only [Rep]) ih
def mTupRg (m : MO) : ME := fun ρ => match m ρ with
  | some (o, ρ') => match res ρ' o with
    | some (.int n) => if 0 ≤ n ∧ n ≤ 1000 then some (.tup (rngL 0 n.toNat), ρ') else none
    | _ => none
  | none => none
theorem se_tupRg {p2 pos2 : Pos} {m : MO} (h : SO X e m) (hmt : X.mg "tuple" = none) (hmr : X.mg "range" = none) (hgt : Gl X "tuple" := by rfl) (hgr : Gl X "range" := by rfl) (na : starEach [e] X.env = (false, eval e X.env) :: starEach [] X.env := by rfl)
    (na2 : starEach [.Call (.Name "range" p2) [e] [] pos2] X.env = (false, eval (.Call (.Name "range" p2) [e] [] pos2) X.env) :: starEach [] X.env := by rfl) (hc : X.calm = true := by rfl) :
    SE X (.Call (.Name "tuple" p) [.Call (.Name "range" p2) [e] [] pos2] [] pos) (mTupRg m) := Z.pe_mk fun σ H Q ⟨io, F, ρ, d, ρ', r, hm, q⟩ => by
  refine ⟨_, pe_tupRgX hc hgt hmt (prg_1 hgr hmr h na) na2, ?_⟩
  unfold mTupRg at hm
  split at hm <;> try cases hm
  rename_i o ρ1 h1
  split at hm <;> try cases hm
  rename_i n hn
  split at hm <;> cases hm
  rename_i hl
  refine ⟨io, F, ρ, o, _, r, h1, fun v F1 H1 x1 r1 p1 => ⟨n, (r1.res p1 hn).int, .of_le (by omega) (by omega) (by omega) hl.1, fun t its ht => ?_⟩⟩
  have g : Grow F1 H1 (upd F1 t (.frz (xT its) (.tup (rgV 0 n)))) (upd H1 t (.frz (xT its) (.tup (rgV 0 n)))) := .new r1.sub ht
  refine q _ _ _ (x1.trans g.ext) (r1.grow g) ?_
  simp only [Rep]
  have := rg_rep (K := X.K) (mg := X.mgx) (F := upd F1 t (.frz (xT its) (.tup (rgV 0 n)))) 0 n
  rw [Int.sub_zero] at this
  exact ⟨t, rgV 0 n, rfl, .inl ⟨its, upd_same⟩, this⟩
end
end Z
/-! i in range(n); is True, is not True. -/
namespace Z
open PySem PySem.Spec PyProof.Rows L2
section
variable {X : Cx} {e a : Expr} {p pos : Pos}
theorem cr_range1 : CallR X (.type "range") (fun vs H Q => ∃ j, vs = [V.int j] ∧ ∀ p, H p = none → Q (.ref p) (upd H p (.rng 0 j))) := by
  intro pins s σ H vs us Q I r h
  obtain ⟨j, rfl, q⟩ := h
  cases r with
  | cons rj r =>
  cases r
  obtain ⟨u, rfl⟩ := rj
  refine call_range_1 ⟨.ref s.heap.objs.size, upd H s.heap.objs.size (.rng 0 j), I.laid (t' := s.toks + 2) (fun b o e => Heap.get?_push_of_some _ e) (Nat.le_refl _) ?_, rfl, q _ (I.hok.fresh (Nat.le_refl _))⟩
  exact ⟨_, _, _, Heap.get?_push_size _ rfl⟩
def mInRg (ma m : MO) : ME := fun ρ => match ma ρ with
  | some (x, ρ1) => match m ρ1 with
    | some (o, ρ') => match res ρ' x, res ρ' o with
      | some (.int i), some (.int n) => some (.bl (decide (0 ≤ i ∧ i < n)), ρ')
      | _, _ => none
    | none => none
  | none => none
theorem se_inRg {p2 pos2 : Pos} {ma m : MO} (ha : SO X a ma) (h : SO X e m) (hmr : X.mg "range" = none) (hgr : Gl X "range" := by rfl)
    (he : starEach [e] X.env = (false, eval e X.env) :: starEach [] X.env := by rfl) (hpl : (backTo pos2 (starEach [] X.env)).any (·.1) = false := by rfl)
    (hm : behindInMarks .In (.Call (.Name "range" p2) [e] [] pos2) = false := by first | exact nomark _ | rfl) :
    SE X (.Compare a [.In] [.Call (.Name "range" p2) [e] [] pos2] pos) (mInRg ma m) := Z.pe_mk fun σ H Q ⟨io, F, ρ, d, ρ', r, hm', q⟩ => by
  refine ⟨_, pe_cmpR op_in_rng ha (pe_callTy cr_range1 hgr hmr boot_range (pa_cons h pa_nil he) (by decide) (by decide) he hpl) hm, ?_⟩
  unfold mInRg at hm'
  split at hm' <;> try cases hm'
  rename_i x ρ1 h1
  split at hm' <;> try cases hm'
  rename_i o ρ2 h2
  split at hm' <;> cases hm'
  rename_i i n hi hn
  refine ⟨io, F, ρ, x, ρ1, r, h1, fun v F1 H1 x1 r1 p1 => ⟨io, F1, ρ1, o, _, r1, h2, fun w F2 H2 x2 r2 p2 => ?_⟩⟩
  refine ⟨n, ?_, fun t ht => ?_⟩
  · rw [(r2.res p2 hn).int]
  have g : Grow F2 H2 (upd F2 t (.rng 0 n)) (upd H2 t (.rng 0 n)) := .new r2.sub ht
  refine ⟨i, t, 0, n, (r2.res (p1.mono x2.sub) hi).int, rfl, upd_same, ?_⟩
  exact q _ _ _ ((x1.trans x2).trans g.ext) (r2.grow g) (by simp only [Rep])
def isBD : D → D → Option D
  | .bl a, .bl b => some (.bl (decide (a = b)))
  | _, _ => none
def isnBD : D → D → Option D
  | .bl a, .bl b => some (.bl (!decide (a = b)))
  | _, _ => none
theorem o_isB : Op2 X (compareOp .Is) isBD := by
  intro dx dy d h
  unfold isBD at h
  split at h
  · rename_i a b
    cases h
    exact ⟨_, op_isBl, fun F H v w Q s p1 p2 q => ⟨a, b, p1.bl, p2.bl, q.bl s⟩⟩
  · cases h
theorem o_isnB : Op2 X (compareOp .IsNot) isnBD := by
  intro dx dy d h
  unfold isnBD at h
  split at h
  · rename_i a b
    cases h
    exact ⟨_, op_notBl, fun F H v w Q s p1 p2 q => ⟨a, b, p1.bl, p2.bl, q.bl s⟩⟩
  · cases h
end
end Z
/-! Comprehensions with two clauses. -/
namespace Z
open PySem PySem.Spec PyProof.Rows L2
def loopC2 (vs : List Nat) (g : MG) (tt : MT) (mi1 : MI) (vs1 : List Nat) (g1 : MG) (tt1 : MT) (te : ME) : List D → Rho → List D → Option (List D × Rho)
  | [], ρ, acc => some (acc, ρ)
  | d :: ds, ρ, acc => if plainAt ρ vs then match g d (wipeR ρ vs) with
      | some ρ1 => match tt ρ1 with
        | some (true, ρ2) => match mi1 ρ2 with
          | some (es, ρ3) => match loopC vs1 g1 tt1 te es ρ3 acc with
            | some (acc', ρ4) => if plainAt ρ4 vs then loopC2 vs g tt mi1 vs1 g1 tt1 te ds (unwipe ρ4 ρ vs) acc' else none
            | none => none
          | none => none
        | some (false, ρ2) => if plainAt ρ2 vs then loopC2 vs g tt mi1 vs1 g1 tt1 te ds (unwipe ρ2 ρ vs) acc else none
        | none => none
      | none => none
    else none
def mLc2 (mi : MI) (vs : List Nat) (g : MG) (tt : MT) (mi1 : MI) (vs1 : List Nat) (g1 : MG) (tt1 : MT) (te : ME) : MN := fun ρ => match mi ρ with
  | some (ds, ρ1) => loopC2 vs g tt mi1 vs1 g1 tt1 te ds ρ1 []
  | none => none
theorem lc2_read {K : PySem.W.Frag} {mg : Mg} {mi mi1 : MI} {vs vs1 : List Nat} {g g1 : MG} {tt tt1 : MT} {te : ME} {σ : St} {H : Hp} {Q : VK} (h : tN K mg (mLc2 mi vs g tt mi1 vs1 g1 tt1 te) σ H Q) : tLc2 (tI K mg mi) (tG K mg vs g) (tT K mg tt) (tI K mg mi1) (tG K mg vs1 g1) (tT K mg tt1) (tE K mg te) vs vs1 σ H Q := by
  obtain ⟨io, F, ρ, res, ρ', r, hm, q⟩ := h
  unfold mLc2 at hm
  split at hm <;> try cases hm
  rename_i ds ρ1 h1
  refine ⟨io, F, ρ, ds, ρ1, r, h1, fun J F1 H1 x1 r1 ok => fun D hD => ?_⟩
  have hD0 : H D = none := x1.stay D hD
  refine ⟨fun i m H2 => ∃ F2 ρ2 acc us, m = ds.length - i ∧ i ≤ ds.length ∧ Ext F1 H1 σ ρ1 F2 H2 σ ρ2 ∧ R K mg io F2 H2 σ ρ2 ∧ H2 D = some (.lst us) ∧ F2 D = none ∧ ¬ OwnA σ ρ2 D ∧ RepL K mg F2 acc us ∧ loopC2 vs g tt mi1 vs1 g1 tt1 te (ds.drop i) ρ2 acc = some (res, ρ'),
    ⟨ds.length, F1, ρ1, [], [], by simp, Nat.zero_le _, ⟨Same.refl _, fun a o ha _ => ⟨by rw [upd_ne (ne_of_none ha hD)]; exact ha, rfl⟩, fun _ w => .inl w, fun b hb => ?_⟩, r1.addH hD, upd_same, r1.freeF hD, r1.notOwn hD, .nil, by simpa using hm⟩, ?_⟩
  · by_cases z : b = D
    · subst z; exact hD
    · rw [upd_ne z] at hb; exact hb
  rintro i m H2 ⟨F2, ρ2, acc, us, rfl, hi, x2, r2, hv, hf, hn, rl, hl⟩
  obtain ⟨ok1, ok2⟩ := ok i F2 H2 x2.sub r2.sub
  by_cases hlt : i < ds.length
  · have hd : ds[i]? = some ds[i] := List.getElem?_eq_getElem hlt
    rw [List.drop_eq_getElem_cons hlt] at hl
    simp only [loopC2] at hl
    split at hl <;> try cases hl
    rename_i hp
    split at hl <;> try cases hl
    rename_i ρ3 h3
    obtain ⟨go, yl⟩ := ok1 _ hd
    refine .inr ⟨go, fun H4 => ∃ F4 ρ4 acc4 us4, Ext F1 H1 σ ρ1 F4 H4 σ ρ4 ∧ R K mg io F4 H4 σ ρ4 ∧ H4 D = some (.lst us4) ∧ F4 D = none ∧ ¬ OwnA σ ρ4 D ∧ RepL K mg F4 acc4 us4 ∧ loopC2 vs g tt mi1 vs1 g1 tt1 te (ds.drop (i + 1)) ρ4 acc4 = some (res, ρ'),
      fun H4 ⟨F4, ρ4, acc4, us4, x4, r4, w⟩ => ⟨ds.length - (i + 1), by omega, F4, ρ4, acc4, us4, rfl, hlt, x4, r4, w⟩, fun x H3 y => ?_⟩
    obtain ⟨F3, gr, px⟩ := yl x H3 y
    have r3 := r2.grow gr
    refine ⟨io, F3, wipeR ρ2 vs, _, ρ3, r3.wipe hp, px, h3, fun σ4 F4 H4 x4 r4 o4 => ⟨o4.wipe_eq, ?_⟩⟩
    have x4' : Ext F2 H2 σ ρ2 F4 H4 σ4 ρ3 := gr.ext.trans (x4.own_l (wipe_own hp))
    split at hl
    · rename_i ρ5 h5
      split at hl <;> try cases hl
      rename_i es ρ6 h6
      split at hl <;> try cases hl
      rename_i accE ρE hE
      split at hl <;> try cases hl
      rename_i hpE
      refine ⟨io, F4, ρ3, _, ρ5, r4, h5, fun F5 H5 x5 r5 => iteT ⟨io, F5, ρ5, es, ρ6, r5, h6, fun J1 F6 H6 x6 r6 oki => ?_⟩⟩
      have x26 : Ext F2 H2 σ ρ2 F6 H6 σ4 ρ6 := (x4'.trans x5).trans x6
      obtain ⟨hv6, hf6⟩ := x26.keep D _ hv hn
      have hn6 : ¬ OwnA σ4 ρ6 D := ext_noOwn x26 hv hn
      refine ⟨fun j n H7 => ∃ F7 ρ7 acc7 us7, n = es.length - j ∧ j ≤ es.length ∧ Ext F1 H1 σ ρ1 F7 H7 σ4 ρ7 ∧ Same F6 F7 ∧ R K mg io F7 H7 σ4 ρ7 ∧ H7 D = some (.lst us7) ∧ F7 D = none ∧ ¬ OwnA σ4 ρ7 D ∧ RepL K mg F7 acc7 us7 ∧ loopC vs1 g1 tt1 te (es.drop j) ρ7 acc7 = some (accE, ρE),
        ⟨es.length, F6, ρ6, acc, us, by simp, Nat.zero_le _, x2.trans x26, Same.refl _, r6, hv6, hf6.trans hf, hn6, rl.mono x26.sub, by simpa using hE⟩, ?_⟩
      rintro j n H7 ⟨F7, ρ7, acc7, us7, rfl, hj, x7, s7, r7, hv7, hf7, hn7, rl7, hl7⟩
      obtain ⟨okA, okB⟩ := oki j F7 H7 s7 r7.sub
      by_cases hltj : j < es.length
      · have hdj : es[j]? = some es[j] := List.getElem?_eq_getElem hltj
        rw [List.drop_eq_getElem_cons hltj] at hl7
        simp only [loopC] at hl7
        split at hl7 <;> try cases hl7
        rename_i hpj
        split at hl7 <;> try cases hl7
        rename_i ρ8 h8
        obtain ⟨goj, ylj⟩ := okA _ hdj
        refine .inr ⟨goj, fun HB => ∃ FB ρB accB usB, Ext F1 H1 σ ρ1 FB HB σ4 ρB ∧ Same F6 FB ∧ R K mg io FB HB σ4 ρB ∧ HB D = some (.lst usB) ∧ FB D = none ∧ ¬ OwnA σ4 ρB D ∧ RepL K mg FB accB usB ∧ loopC vs1 g1 tt1 te (es.drop (j + 1)) ρB accB = some (accE, ρE),
          fun HB ⟨FB, ρB, accB, usB, xB, sB, rB, w⟩ => ⟨es.length - (j + 1), by omega, FB, ρB, accB, usB, rfl, hltj, xB, sB, rB, w⟩, fun x H8 y => ?_⟩
        obtain ⟨F8, gr8, px8⟩ := ylj x H8 y
        have r8 := r7.grow gr8
        refine ⟨io, F8, wipeR ρ7 vs1, _, ρ8, r8.wipe hpj, px8, h8, fun σ9 F9 H9 x9 r9 o9 => ⟨o9.wipe_eq, ?_⟩⟩
        have x9' : Ext F7 H7 σ4 ρ7 F9 H9 σ9 ρ8 := gr8.ext.trans (x9.own_l (wipe_own hpj))
        split at hl7
        · rename_i ρ10 h10
          split at hl7 <;> try cases hl7
          rename_i z ρ11 h11
          split at hl7 <;> try cases hl7
          rename_i hpl
          simp only [Bool.and_eq_true, decide_eq_true_eq] at hpl
          refine ⟨io, F9, ρ8, _, ρ10, r9, h10, fun F10 H10 x10 r10 => iteT ⟨io, F10, ρ10, z, ρ11, r10, h11, fun v F11 H11 x11 r11 p11 => ?_⟩⟩
          have xx : Ext F7 H7 σ4 ρ7 F11 H11 σ9 ρ11 := (x9'.trans x10).trans x11
          obtain ⟨hvx, hfx⟩ := xx.keep D _ hv7 hn7
          have hnx : ¬ OwnA σ9 ρ11 D := ext_noOwn xx hv7 hn7
          have rx : R K mg io F11 H11 σ4 (Z.unwipe ρ11 ρ7 vs1) := R.unwipe r7 r11 xx.sub o9.wiped hpj hpl.1
          have hown := unwipe_own r7 r11 o9.wiped hpj hpl.1
          have xy : Ext F7 H7 σ4 ρ7 F11 H11 σ4 (Z.unwipe ρ11 ρ7 vs1) := xx.own_r hown
          have hny : ¬ OwnA σ4 (Z.unwipe ρ11 ρ7 vs1) D := fun w => hnx ((hown D).mp w)
          have hfD : F11 D = none := hfx.trans hf7
          refine ⟨us7, hvx, by rw [rl7.len]; exact Nat.lt_of_lt_of_le hpl.2 lim_line, F11, _, acc7 ++ [z], us7 ++ [v], ?_, s7.trans xx.sub, ?_, upd_same, hfD, hny, (rl7.mono xx.sub).append (.one p11), hl7⟩
          · have x17 := x7.trans xy
            refine ⟨x17.sub, fun a o ha na => ?_, x17.own, fun b hb => ?_⟩
            · obtain ⟨h7, f7⟩ := x17.keep a o ha na
              exact ⟨by rw [upd_ne (ne_of_none ha hD)]; exact h7, f7⟩
            · by_cases z : b = D
              · subst z; exact hD
              · rw [upd_ne z] at hb; exact x17.stay b hb
          · refine ⟨rx.len, fun b u hb => ?_, rx.dat, fun j c hj => ?_, rx.inj, rx.ios⟩
            · have : b ≠ D := by rintro rfl; rw [hfD] at hb; cases hb
              rw [upd_ne this]; exact rx.sub _ _ hb
            · obtain ⟨a, e, f, w⟩ := rx.cel j c hj
              have : a ≠ D := by rintro rfl; exact hny ⟨j, c, hj, e⟩
              refine ⟨a, e, f, ?_⟩
              exact w.move (fun o' ho' => by rw [upd_ne this]; exact ho') (Same.refl _)
        · rename_i ρ10 h10
          split at hl7 <;> try cases hl7
          rename_i hpl
          refine ⟨io, F9, ρ8, _, ρ10, r9, h10, fun F10 H10 x10 r10 => iteF ?_⟩
          have xx : Ext F7 H7 σ4 ρ7 F10 H10 σ9 ρ10 := x9'.trans x10
          obtain ⟨hvx, hfx⟩ := xx.keep D _ hv7 hn7
          have hnx : ¬ OwnA σ9 ρ10 D := ext_noOwn xx hv7 hn7
          have rx : R K mg io F10 H10 σ4 (Z.unwipe ρ10 ρ7 vs1) := R.unwipe r7 r10 xx.sub o9.wiped hpj hpl
          have hown := unwipe_own r7 r10 o9.wiped hpj hpl
          have xy : Ext F7 H7 σ4 ρ7 F10 H10 σ4 (Z.unwipe ρ10 ρ7 vs1) := xx.own_r hown
          exact ⟨F10, _, acc7, us7, x7.trans xy, s7.trans xx.sub, rx, hvx, hfx.trans hf7, fun w => hnx ((hown D).mp w), rl7.mono xx.sub, hl7⟩
        · cases hl7
      · have e : j = es.length := by omega
        subst e
        rw [List.drop_length] at hl7
        simp only [loopC] at hl7
        cases hl7
        have s27 : Same F2 F7 := x26.sub.trans s7
        have rx := R.unwipe r2 r7 s27 o4.wiped hp hpE
        have hown := unwipe_own r2 r7 o4.wiped hp hpE
        exact .inl ⟨okB rfl, F7, _, _, us7, x7.own_r hown, rx, hv7, hf7, fun w => hn7 ((hown D).mp w), rl7, hl⟩
    · rename_i ρ5 h5
      split at hl <;> try cases hl
      rename_i hpl
      refine ⟨io, F4, ρ3, _, ρ5, r4, h5, fun F5 H5 x5 r5 => iteF ?_⟩
      have x25 : Ext F2 H2 σ ρ2 F5 H5 σ4 ρ5 := x4'.trans x5
      obtain ⟨hv6, hf6⟩ := x25.keep D _ hv hn
      have hn6 : ¬ OwnA σ4 ρ5 D := ext_noOwn x25 hv hn
      have r7 : R K mg io F5 H5 σ (Z.unwipe ρ5 ρ2 vs) := R.unwipe r2 r5 x25.sub o4.wiped hp hpl
      have hown := unwipe_own r2 r5 o4.wiped hp hpl
      have x27 : Ext F2 H2 σ ρ2 F5 H5 σ (Z.unwipe ρ5 ρ2 vs) := x25.own_r hown
      exact ⟨F5, _, acc, us, x2.trans x27, r7, hv6, hf6.trans hf, fun w => hn6 ((hown D).mp w), rl.mono x25.sub, hl⟩
    · cases hl
  · have e : i = ds.length := by omega
    subst e
    rw [List.drop_length] at hl
    simp only [loopC2] at hl
    cases hl
    exact .inl ⟨ok2 rfl, q D us F2 H2 (x1.trans x2) r2 hD0 hv hf hn rl⟩
section
variable {X : Cx} {pos : Pos}
theorem sn_lc2 (vs1 : List Nat) {elt tg iter tg1 iter1 : Expr} {ifs ifs1 : List Expr} {scope : Scope} {own : List (Str × Nat)} {mi mi1 : MI} {g g1 : MG} {tt tt1 : MT} {te : ME} (hN : X.N.Nodup) (hi : SI X tg iter mi) (ok : BlkOk X.N X.env.scope scope own)
    (hg : ∀ (s : Shared) (H : Hp) (C : Addr) (cl : List (Str × Addr)) (fp : List Addr), SG (X.blk s H scope (compEnvC scope cl C X.env) fp) (own.map (·.2)) tg g) (ht : ∀ (s : Shared) (H : Hp) (C : Addr) (cl : List (Str × Addr)) (fp : List Addr), STs (X.blk s H scope (compEnvC scope cl C X.env) fp) ifs tt)
    (hi1 : ∀ (s : Shared) (H : Hp) (C : Addr) (cl : List (Str × Addr)) (fp : List Addr), SI (X.blk s H scope (compEnvC scope cl C X.env) fp) tg1 iter1 mi1)
    (hg1 : ∀ (s : Shared) (H : Hp) (C : Addr) (cl : List (Str × Addr)) (fp : List Addr), SG (X.blk s H scope (compEnvC scope cl C X.env) fp) vs1 tg1 g1) (ht1 : ∀ (s : Shared) (H : Hp) (C : Addr) (cl : List (Str × Addr)) (fp : List Addr), STs (X.blk s H scope (compEnvC scope cl C X.env) fp) ifs1 tt1)
    (he : ∀ (s : Shared) (H : Hp) (C : Addr) (cl : List (Str × Addr)) (fp : List Addr), SE (X.blk s H scope (compEnvC scope cl C X.env) fp) elt te) (hv : ∀ i ∈ vs1, i ∈ own.map (·.2) := by decide) (hc : X.calm = true := by rfl) (hs : ∀ x, foldedSetIterable iter X.env x = pure x := by intro _; rfl) (hs1 : ∀ env x, foldedSetIterable iter1 env x = pure x := by intro _ _; rfl) :
    SN X (.ListComp elt [⟨tg, iter, ifs, 0⟩, ⟨tg1, iter1, ifs1, 0⟩] scope pos) (mLc2 mi (own.map (·.2)) g tt mi1 vs1 g1 tt1 te) := Z.pe_mk fun σ H Q h => ⟨_, L2.pe_lc2 (g := tG X.K X.mgx (own.map (·.2)) g) (g1 := tG X.K X.mgx vs1 g1) (tt := tT X.K X.mgx tt) (tt1 := tT X.K X.mgx tt1) (te := tE X.K X.mgx te) hc hN hi ok hv hg ht hi1 hg1 ht1 he hs hs1, lc2_read h⟩
end
end Z
/-! sum(lists, start). -/
namespace Z
open PySem PySem.Spec PyProof.Rows L2

/-- lists that stand at these places -/
def LsAt (h : Heap) : List Addr → List (List Value) → Prop
  | [], [] => True
  | c :: cs, vs :: vss => (∃ n, IsL h c vs.toArray n) ∧ LsAt h cs vss
  | _, _ => False
theorem LsAt.keep {h h' : Heap} : ∀ {cs : List Addr} {vss : List (List Value)}, LsAt h cs vss → (∀ c ∈ cs, ∀ o, h.get? c = some o → h'.get? c = some o) → LsAt h' cs vss
  | [], [], _, _ => trivial
  | [], _ :: _, x, _ => x.elim
  | _ :: _, [], x, _ => x.elim
  | c :: cs, vs :: vss, ⟨⟨n, a⟩, b⟩, k => ⟨⟨n, k c List.mem_cons_self _ a⟩, b.keep fun d hd => k d (List.mem_cons_of_mem _ hd)⟩
section
variable {prog : Program} {w : World} {A : Around} {R : Result → Shared → Prop} {I : Addr} {fp wr : List Addr} {n : Nat} {P : Nat → Value → Prop} {St : Nat → Heap → Prop}
theorem sum_turns (W : Walks prog w A.in1 I fp wr n P St) (S lo : Addr) (hf : ∀ b ∈ fp, b < S) (hlo : lo ≤ S) :
    ∀ (cs : List Addr) (vss : List (List Value)) (i : Nat) (s : Shared) (t : Addr) (c : Nat) (acc : List Value) (m : Nat), i + cs.length = n → (∀ j d, cs[j]? = some d → ∀ v, P (i + j) v → v = .ref d) → (∀ d ∈ cs, d ∉ wr ∧ d ≠ S) → LsAt s.heap cs vss → St i s.heap →
    s.heap.get? S = some { cls := .type "list", dict := none, data := .seq #[.ref t] c, slots := #[] } → t ∉ wr → t ≠ S → IsL s.heap t acc.toArray m → acc.length + vss.flatten.length ≤ sizeLine →
    (∀ h' tk t' m', (∀ b o, b ∉ wr → b ≠ S → s.heap.get? b = some o → h'.get? b = some o) → IsL h' t' (acc ++ vss.flatten).toArray m' → ((cs = [] ∧ t' = t) ∨ (cs ≠ [] ∧ lo ≤ t')) → R (.ok (.ret (.ref t'))) { s with heap := h', toks := tk }) →
    codeAny (model prog w) A (.builtin "sum.loop" ⟨[.ref I, .ref S, rawInt 2, rawInt 0], []⟩) R s := by
  have hSf : S ∉ fp := fun h => Nat.lt_irrefl _ (hf S h)
  have hSw : S ∉ wr := fun h => hSf (W.sub _ h)
  intro cs
  induction cs with
  | nil =>
    intro vss i s t c acc m hn _ _ hl hst hS ht1 ht2 ht hz hR
    cases vss with
    | cons _ _ => exact hl.elim
    | nil =>
      have hin : i = n := by simpa using hn
      subst hin
      refine codeAny_builtin F.entry_sum_loop ?_
      rw [Around.under_plainId F.plain_sum_loop _]
      show wpAny _ A.in1 (seqItems? (.ref S) >>= _) _ _ s
      refine wpAny_bind (wpAny_seqItems hS rfl ?_)
      show wpAny _ A.in1 (tryCatch (pyNext (.ref I)) _ >>= _) _ _ s
      refine wpAny_bind (wpAny_tryCatch (W.done s _ _ hst fun h' tk hk' => ?_))
      exact wpAny_pure (hR h' tk t m (fun b o hb _ e => hk' b o hb e) (by simpa using hk' t _ ht1 ht) (.inl ⟨rfl, rfl⟩))
  | cons d cs ih =>
    intro vss i s t c acc m hn hp hd hl hst hS ht1 ht2 ht hz hR
    cases vss with
    | nil => exact hl.elim
    | cons vs vss =>
      obtain ⟨⟨q, hv⟩, hl'⟩ := hl
      have hlt : i < n := by rw [← hn, List.length_cons]; omega
      obtain ⟨hd1, hd2⟩ := hd d List.mem_cons_self
      refine codeAny_builtin F.entry_sum_loop ?_
      rw [Around.under_plainId F.plain_sum_loop _]
      show wpAny _ A.in1 (seqItems? (.ref S) >>= _) _ _ s
      refine wpAny_bind (wpAny_seqItems hS rfl ?_)
      show wpAny _ A.in1 (tryCatch (pyNext (.ref I)) _ >>= _) _ _ s
      refine wpAny_bind (wpAny_tryCatch (W.item i s _ _ hlt hst fun v h' tk hP hst' hk' => ?_))
      have hvv := hp 0 d rfl v hP
      subst hvv
      have hS' := hk' S _ hSw hS
      have ht' := hk' t _ ht1 ht
      have hd' := hk' d _ hd1 hv
      have hsz : S < h'.objs.size := Heap.lt_size hS'
      have hfl : (vs :: vss).flatten.length = vs.length + vss.flatten.length := by rw [List.flatten_cons, List.length_append]
      rw [hfl] at hz
      show wpAny _ A.in1 ((holding [Value.ref d] (binaryOp .Add (.ref t) (.ref d))).attempt >>= _) _ _ _
      refine wpAny_bind (wpAny_attempt (wpAny_holding (PySem.P.add_list ht' hd' ?_ (by rw [List.size_toArray, List.size_toArray]; omega))))
      have ea : acc.toArray ++ vs.toArray = (acc ++ vs).toArray := by simp
      rw [ea]
      have hp1 : h'.objs.size ≠ S := Nat.ne_of_gt hsz
      have hp2 : h'.objs.size ∉ fp := fun h => Nat.lt_asymm (hf _ h) hsz
      have hpw : h'.objs.size ∉ wr := fun h => hp2 (W.sub _ h)
      have hS1 := Heap.get?_push_of_some { cls := .type "list", data := .seq (acc ++ vs).toArray } hS'
      show wpAny _ A.in1 (updateSeq S (fun _ => #[.ref h'.objs.size]) >>= _) _ _ _
      refine wpAny_bind (wpAny_updateSeq hS1 rfl ?_)
      have hS2 := Heap.get?_update_self (Obj.mapSeq fun _ => #[Value.ref h'.objs.size]) hS1 rfl
      refine wpAny_bind (wpAny_letGo ?_)
      have k1 : ∀ b o, b ≠ S → h'.get? b = some o → (((h'.push { cls := .type "list", data := .seq (acc ++ vs).toArray }).update S (Obj.mapSeq fun _ => #[Value.ref h'.objs.size])).update S (Obj.mapSeq fun _ => #[Value.ref h'.objs.size])).get? b = some o := fun b o hb e => by
        rw [Heap.get?_update_other _ _ (Ne.symm hb), Heap.get?_update_other _ _ (Ne.symm hb)]
        exact Heap.get?_push_of_some _ e
      have kp : IsL (((h'.push { cls := .type "list", data := .seq (acc ++ vs).toArray }).update S (Obj.mapSeq fun _ => #[Value.ref h'.objs.size])).update S (Obj.mapSeq fun _ => #[Value.ref h'.objs.size])) h'.objs.size (acc ++ vs).toArray 0 := by
        unfold IsL
        rw [Heap.get?_update_other _ _ (Ne.symm hp1), Heap.get?_update_other _ _ (Ne.symm hp1)]
        exact Heap.get?_push_size _ rfl
      refine wpAny_bind (wpAny_updateSeq hS2 rfl (wpAny_pure ⟨plainId_quiet F.plain_sum_loop _, ?_⟩))
      refine ih vss (i + 1) _ h'.objs.size _ (acc ++ vs) 0 (by rw [← hn, List.length_cons]; omega) (fun j e he v hv => hp (j + 1) e (by simpa using he) v (by rw [← Nat.add_assoc, Nat.add_right_comm]; exact hv)) (fun e he => hd e (List.mem_cons_of_mem _ he)) ?_ ?_ (Heap.get?_update_self _ hS2 rfl) hpw hp1 kp (by rw [List.length_append]; omega) fun h'' tk'' t'' m'' hk'' hL ho => ?_
      · exact (hl'.keep (h' := h') fun e he o q => hk' e o (hd e (List.mem_cons_of_mem _ he)).1 q).keep fun e he o q => k1 e o (hd e (List.mem_cons_of_mem _ he)).2 q
      · exact W.frame _ _ _ hst' fun b hb o e => k1 b o (fun z => hSf (z ▸ hb)) e
      · refine hR h'' tk'' t'' m'' (fun b o hb hbS e => hk'' b o hb hbS (k1 b o hbS (hk' b o hb e))) (by rw [List.flatten_cons, ← List.append_assoc]; exact hL) (.inr ⟨by simp, ?_⟩)
        rcases ho with ⟨_, rfl⟩ | ⟨_, h⟩
        · exact Nat.le_trans hlo (Nat.le_of_lt hsz)
        · exact h
end
theorem args_sum2 (a b : Value) : argsOk "sum" ⟨[a, b], []⟩ := by unfold argsOk; kernel_rfl
section
variable {prog : Program} {w : World} {A : Around} {E : Value → Shared → Prop} {s : Shared}
theorem call_sum_lists {l t : Addr} {cs : List Addr} {vss : List (List Value)} {acc : List Value} {m : Nat} {Q : Value → Shared → Prop} (hh : A.handled = none) (hl : s.heap.IsList l (cs.map Value.ref).toArray) (hv : LsAt s.heap cs vss) (ht : IsL s.heap t acc.toArray m) (hz : acc.length + vss.flatten.length ≤ sizeLine)
    (h : ∀ h' tk t' m', (∀ b o, s.heap.get? b = some o → h'.get? b = some o) → IsL h' t' (acc ++ vss.flatten).toArray m' → ((cs = [] ∧ t' = t) ∨ (cs ≠ [] ∧ s.heap.objs.size ≤ t')) → Q (.ref t') { s with heap := h', toks := tk }) :
    wpAny (model prog w) A (call (.builtin "sum") [.ref l, .ref t]) Q E s := by
  refine call_function_tree F.kind_sum F.plain_sum F.entry_sum (args_sum2 _ _) ?_
  unfold Builtin.«sum»
  simp only [List.length_cons, List.length_nil]
  rw [if_neg (by decide)]
  refine wpAny_bind (wpAny_of_eq (show Builtin.Builtins.bindParams "sum" ["start"] 0 ⟨[.ref t], []⟩ = pure [some (.ref t)] from rfl) ?_)
  have hlt : l < s.heap.objs.size := by obtain ⟨_, e, _⟩ := hl; exact Heap.lt_size e
  refine wpAny_bind (wpAny_pyIter_list hl ?_)
  refine wpAny_bind (wpAny_pure ?_)
  simp only [List.forIn_cons, List.forIn_nil]
  have htp : ∀ o : Obj, IsL (s.heap.push o) t acc.toArray m := fun o => ht.push o
  refine wpAny_bind (wpAny_bind (wpAny_bind (wpAny_isInstance (T := "list") (b := false) ⟨_, htp _, rfl⟩ F.sub_list_str ?_)))
  simp only [Bool.false_eq_true, if_false]
  refine wpAny_pure (wpAny_bind (wpAny_bind (wpAny_isInstance (T := "list") (b := false) ⟨_, htp _, rfl⟩ F.sub_list_bytes ?_)))
  simp only [Bool.false_eq_true, if_false]
  refine wpAny_pure (wpAny_bind (wpAny_bind (wpAny_isInstance (T := "list") (b := false) ⟨_, htp _, rfl⟩ F.sub_list_bytearray ?_)))
  simp only [Bool.false_eq_true, if_false]
  refine wpAny_pure (wpAny_pure ?_)
  refine wpAny_bind (wpAny_newObj_type ?_)
  have hs1 : (s.heap.push { cls := .type "list_iterator", data := .fields #[.ref l, .int 0 0] }).objs.size = s.heap.objs.size + 1 := Heap.size_push ..
  have W := Walks.list (prog := prog) (w := w) (A := A.in1) hh s.heap.objs.size l (Nat.ne_of_lt hlt) (cs.map Value.ref).toArray
  have k0 : ∀ b o, s.heap.get? b = some o → ((s.heap.push { cls := .type "list_iterator", data := .fields #[.ref l, .int 0 0] }).push { cls := .type "list", data := .seq #[Value.ref t] }).get? b = some o := fun b o e => Heap.get?_push_of_some _ (Heap.get?_push_of_some _ e)
  have kl : ∀ b o, s.heap.get? b = some o → b ≠ s.heap.objs.size ∧ b ≠ s.heap.objs.size + 1 := fun b o e => by
    have := Heap.lt_size e
    exact ⟨Nat.ne_of_lt this, Nat.ne_of_lt (Nat.lt_succ_of_lt this)⟩
  refine wpAny_pure ⟨plainId_quiet F.plain_sum_loop _, sum_turns W (s.heap.push { cls := .type "list_iterator", data := .fields #[.ref l, .int 0 0] }).objs.size s.heap.objs.size (fun b hb => ?_) (by rw [hs1]; exact Nat.le_succ _) cs vss 0 _ t 0 acc m (by simp) (fun j d hd v hv => ?_) (fun d hd => ?_) (hv.keep fun d _ o e => k0 d o e) ⟨⟨_, Heap.get?_push_of_some _ (Heap.get?_push_size _ rfl), rfl, rfl⟩, (hl.push _).push _⟩ (Heap.get?_push_size _ rfl) ?_ ?_ (k0 t _ ht) hz fun h' tk t' m' hk hL ho => ?_⟩
  · rw [hs1]
    rcases List.mem_cons.mp hb with rfl | hb
    · exact Nat.lt_succ_self _
    · rw [List.mem_singleton.mp hb]; exact Nat.lt_succ_of_lt hlt
  · simp only [Nat.zero_add, List.getElem?_toArray, List.getElem?_map, hd, Option.map_some, Option.some.injEq] at hv
    exact hv.symm
  · have hin : ∃ o, s.heap.get? d = some o := by
      clear ht htp hl hz h W hlt
      induction cs generalizing vss with
      | nil => cases hd
      | cons e cs ih =>
        cases vss with
        | nil => exact hv.elim
        | cons vs vss =>
          obtain ⟨⟨n, h1⟩, h2⟩ := hv
          rcases List.mem_cons.mp hd with rfl | hd
          · exact ⟨_, h1⟩
          · exact ih h2 hd
    obtain ⟨o, ho⟩ := hin
    obtain ⟨z1, z2⟩ := kl d o ho
    rw [hs1]
    exact ⟨by simpa using z1, z2⟩
  · simpa using (kl t _ ht).1
  · rw [hs1]; exact (kl t _ ht).2
  · refine h h' tk t' m' (fun b o e => ?_) hL ho
    obtain ⟨z1, z2⟩ := kl b o e
    exact hk b o (by simpa using z1) (by rw [hs1]; exact z2) (k0 b o e)
end
/-! ### over values -/
def LsOk (H : Hp) : List Addr → List (List V) → Prop
  | [], [] => True
  | c :: cs, xs :: xss => H c = some (.lst xs) ∧ LsOk H cs xss
  | _, _ => False
theorem LsOk.at {X : Cx} {pins : List (Addr × Obj)} {s : Shared} {σ : L2.St} {H : Hp} (I : Inv X pins σ H s) : ∀ {cs : List Addr} {xss : List (List V)}, LsOk H cs xss → ∃ vss : List (List Value), LsAt s.heap cs vss ∧ Vals xss.flatten vss.flatten
  | [], [], _ => ⟨[], trivial, .nil⟩
  | [], _ :: _, x => x.elim
  | _ :: _, [], x => x.elim
  | c :: cs, xs :: xss, ⟨h1, h2⟩ => by
    obtain ⟨vss, a, b⟩ := h2.at I
    obtain ⟨z, its, n, r, hl, e⟩ := I.lstM h1
    exact ⟨its :: vss, ⟨⟨_, e⟩, a⟩, by rw [List.flatten_cons, List.flatten_cons]; exact r.append b⟩
theorem vals_refs : ∀ {cs : List Addr} {us : List Value}, Vals (cs.map V.ref) us → us = cs.map Value.ref
  | [], _, r => by cases r; rfl
  | c :: cs, _, r => by
    rw [List.map_cons] at r
    cases r with
    | cons h t =>
      rw [List.map_cons, vals_refs t]
      exact congrArg (· :: _) h
def rSumL (K : PySem.W.Frag) : List V → Hp → VK → Prop := fun vs H Q => ∃ (a b : Addr) (cs : List Addr) (xss : List (List V)) (ys : List V), vs = [.ref a, .ref b] ∧ SqL K H a (cs.map V.ref) ∧ LsOk H cs xss ∧ H b = some (.lst ys) ∧ ys.length + xss.flatten.length ≤ sizeLine ∧
  (cs = [] → Q (.ref b) H) ∧ (cs ≠ [] → ∀ p, H p = none → Q (.ref p) (upd H p (.lst (ys ++ xss.flatten))))
theorem call_sumL {X : Cx} (hc : X.calm = true) : CallR X (.builtin "sum") (rSumL X.K) := by
  intro pins s σ H vs us Q I rv h
  obtain ⟨a, b, cs, xss, ys, rfl, ha, hcs, hb, hz, q0, q1⟩ := h
  obtain ⟨ua, ub, rfl, ra, rb⟩ : ∃ ua ub, us = [ua, ub] ∧ RelV (.ref a) ua ∧ RelV (.ref b) ub := by
    cases rv with
    | cons h t => cases t with
      | cons h' t' => cases t'; exact ⟨_, _, rfl, h, h'⟩
  cases ra
  cases rb
  obtain ⟨its, r1, hl, _⟩ := I.list ha
  obtain ⟨z, its2, n2, r2, hl2, e2⟩ := I.lstM hb
  obtain ⟨vss, hv, rf⟩ := hcs.at I
  rw [vals_refs r1] at hl
  refine call_sum_lists (I.ok.hd hc) hl.isList hv e2 (by rw [← r2.length, ← rf.length]; exact hz) fun h' tk t' m' hk hL ho => ?_
  rcases ho with ⟨e, rfl⟩ | ⟨e, lo⟩
  · exact ⟨.ref t', H, I.kept hk, rfl, q0 e⟩
  · refine ⟨.ref t', _, I.laid (t' := tk) (o := .lst (ys ++ xss.flatten)) hk lo ⟨by rw [List.length_append]; exact hz, its2 ++ vss.flatten, m', r2.append rf, hL⟩, rfl, q1 e t' (I.hok.fresh lo)⟩
/-! ### over data -/
def flD : List D → Option (List D)
  | [] => some []
  | .lst xs :: ds => match flD ds with
    | some ys => some (xs ++ ys)
    | none => none
  | _ :: _ => none
theorem RepL.lists {K : PySem.W.Frag} {mg : Mg} {F H : Hp} (s : Same F H) : ∀ {ds : List D} {vs : List V} {zs : List D}, RepL K mg F ds vs → flD ds = some zs → ∃ (cs : List Addr) (xss : List (List V)), vs = cs.map V.ref ∧ LsOk H cs xss ∧ RepL K mg F zs xss.flatten
  | [], _, _, h, e => by simp only [flD] at e; cases e; simp only [RepL] at h; subst h; exact ⟨[], [], rfl, trivial, by simp [RepL]⟩
  | d :: ds, _, _, h, e => by
    simp only [RepL] at h
    obtain ⟨v, r, rfl, q, t⟩ := h
    cases d <;> simp only [flD] at e <;> try cases e
    split at e <;> cases e
    rename_i ys hy
    obtain ⟨cs, xss, rfl, h1, h2⟩ := RepL.lists s t hy
    simp only [Rep] at q
    obtain ⟨a, ws, rfl, h3, h4⟩ := q
    exact ⟨a :: cs, ws :: xss, rfl, ⟨s _ _ h3, h1⟩, by rw [List.flatten_cons]; exact h4.append h2⟩
/-- sum(lists, start): the start is a value -/
def mSumL (m : MA) : ME := fun ρ => match m ρ with
  | some ([o, .val (.lst ys)], ρ') => match res ρ' o with
    | some (.lst xss) => match flD xss with
      | some zs => if ys.length + zs.length ≤ LIM then some (.lst (ys ++ zs), ρ') else none
      | none => none
    | _ => none
  | _ => none
theorem se_sumL {X : Cx} {x : Str} {p pos : Pos} {e : Expr} {es : List Expr} {m : MA} (hc : X.calm = true) (hl : Gl X x) (hm0 : X.mg x = none) (hv : bootBuiltins x = some (.builtin "sum")) (ha : SA X (e :: es) m) (hn : x ≠ "__name__" := by decide) (hdb : (x == ("__debug__" : Str)) = false := by decide)
    (he : starEach (e :: es) X.env = (false, eval e X.env) :: starEach es X.env := by rfl) (hpl : (backTo pos (starEach es X.env)).any (·.1) = false := by rfl) : SE X (.Call (.Name x p) (e :: es) [] pos) (mSumL m) := Z.pe_mk fun σ H Q ⟨io, F, ρ, d, ρ', r, hm, q⟩ => by
  unfold mSumL at hm
  split at hm <;> try cases hm
  rename_i o ys ρ1 h1
  split at hm <;> try cases hm
  rename_i xss ho
  split at hm <;> try cases hm
  rename_i zs hz
  split at hm <;> cases hm
  rename_i hlen
  refine ⟨_, pe_callB (call_sumL hc) hl hm0 hv ha hn hdb he hpl, io, F, ρ, _, _, r, h1, fun vs F' H' x r' pp => ?_⟩
  simp only [RepOs] at pp
  obtain ⟨v, _, rfl, po, v2, _, rfl, pv, rfl⟩ := pp
  have s := r'.sub
  have post : Post X.K X.mgx F' H' Q (.lst (ys ++ zs)) := fun u F2 H2 gr rp => q u F2 H2 (x.trans gr.ext) (r'.grow gr) rp
  obtain ⟨a, ws, rfl, h3, r1⟩ := (r'.res po ho).lst s
  obtain ⟨cs, wss, rfl, h4, r2⟩ := r1.lists s hz
  have pv' : Rep X.K X.mgx F' (.lst ys) v2 := pv
  simp only [Rep] at pv'
  obtain ⟨b, us, rfl, hb, rb⟩ := pv'
  refine ⟨a, b, cs, wss, us, rfl, SqL.of h3, h4, s _ _ hb, by rw [rb.len, r2.len]; exact Nat.le_trans hlen lim_line, fun e => ?_, fun _ => post.newL s (rb.append r2)⟩
  subst e
  cases wss with
  | cons _ _ => exact h4.elim
  | nil =>
    have : zs = [] := r2.nil_iff.mp rfl
    subst this
    exact post.here s (by simp only [Rep, List.append_nil]; exact ⟨b, us, rfl, hb, rb⟩)
end Z
/-! slices of texts, int(text), xs[::2], sums of ints, list(range(n)), index and remove of a list of one's own. -/
namespace Z
open PySem PySem.Spec PyProof.Rows L2

/-! ### every other item -/
def evens {α : Type} : List α → List α
  | [] => []
  | [x] => [x]
  | x :: _ :: r => x :: evens r
theorem evens_map {α β : Type} (f : α → β) : ∀ xs : List α, evens (xs.map f) = (evens xs).map f
  | [] => rfl
  | [_] => rfl
  | _ :: _ :: r => by simp only [List.map_cons, evens, evens_map f r]
theorem evens_len {α : Type} : ∀ xs : List α, (evens xs).length ≤ xs.length
  | [] => Nat.le_refl _
  | [_] => Nat.le_refl _
  | _ :: _ :: r => by
    have := evens_len r
    simp only [evens, List.length_cons]
    omega
theorem evens_pick {α : Type} : ∀ xs : List α, ((List.range ((xs.length + 1) / 2)).map (2 * ·)).filterMap (xs[·]?) = evens xs
  | [] => by
    have h : (([] : List α).length + 1) / 2 = 0 := by rw [List.length_nil]
    rw [h]; rfl
  | [x] => by
    have h : ([x].length + 1) / 2 = 1 := by rw [List.length_singleton]
    rw [h]; rfl
  | x :: y :: r => by
    have e : ((x :: y :: r).length + 1) / 2 = (r.length + 1) / 2 + 1 := by simp only [List.length_cons]; omega
    rw [e, List.range_succ_eq_map, List.map_cons, List.filterMap_cons]
    simp only [Nat.mul_zero, List.getElem?_cons_zero, evens]
    congr 1
    rw [← evens_pick r, List.map_map, List.filterMap_map, List.filterMap_map]
    congr 1
theorem pick_even (its : Array Value) : slicePick its none none (some 2) = (evens its.toList).toArray := by
  unfold slicePick
  congr 1
  have h : sliceRange (sliceBounds none none (some 2) its.size).1 (sliceBounds none none (some 2) its.size).2.1 (sliceBounds none none (some 2) its.size).2.2 = (List.range ((its.toList.length + 1) / 2)).map (2 * ·) := by
    show (List.range (if (2 : Int) > 0 then (if (0 : Int) < (its.size : Int) then ((its.size : Int) - 0 + 2 - 1) / 2 else 0) else _).toNat).map (fun k : Nat => ((0 : Int) + 2 * (k : Int)).toNat) = _
    rw [if_pos (by decide), Array.length_toList]
    have e1 : (if (0 : Int) < (its.size : Int) then ((its.size : Int) - 0 + 2 - 1) / 2 else 0).toNat = (its.size + 1) / 2 := by
      by_cases z : its.size = 0
      · rw [z]; decide
      · rw [if_pos (by omega)]; omega
    rw [e1]
    refine List.map_congr_left fun k _ => ?_
    omega
  have hf : (fun i : Nat => its[i]?) = fun i : Nat => its.toList[i]? := funext fun i => (Array.getElem?_toList).symm
  rw [h, ← evens_pick, hf]
theorem Vals.evens : ∀ {xs : List V} {us : List Value}, Vals xs us → Vals (Z.evens xs) (Z.evens us)
  | [], _, r => by cases r; exact .nil
  | [x], _, r => by
    cases r with
    | cons h t => cases t; exact .cons h .nil
  | x :: y :: r, _, q => by
    cases q with
    | cons h t => cases t with
      | cons h' t' => exact .cons h (Vals.evens t')
theorem RepL.evens {K : PySem.W.Frag} {mg : Mg} {F : Hp} : ∀ {ds : List D} {vs : List V}, RepL K mg F ds vs → RepL K mg F (Z.evens ds) (Z.evens vs)
  | [], _, h => by simp only [RepL] at h; subst h; simp only [Z.evens, RepL]
  | [d], _, h => by
    simp only [RepL] at h
    obtain ⟨v, r, rfl, q, rfl⟩ := h
    exact .one q
  | d :: e :: ds, _, h => by
    simp only [RepL] at h
    obtain ⟨v, r, rfl, q, w, t, rfl, _, h'⟩ := h
    exact RepL.cons q (RepL.evens h')
section
variable {X : Cx} {e : Expr} {es : List Expr} {pos : Pos}
def tEv (K : PySem.W.Frag) (te : TE) : TE := fun σ H Q => te σ H fun x H1 => ∃ a xs, x = .ref a ∧ SqL K H1 a xs ∧ ∀ p, H1 p = none → Q (.ref p) (upd H1 p (.lst (evens xs)))
theorem pe_ev {te : TE} {k : Nat} {p1 p3 : Pos} (he : PE X e te) : PE X (.Subscript e (.Slice none none (some (.Constant (.int 2) k p1)) p3) pos) (tEv X.K te) := ⟨fun pins s σ H Q I h => by
  refine Subscript_ (thn (he.run pins s σ H _ I h) fun v s1 ⟨x, H1, I1, rx, a, xs, ex, hx, q⟩ => ?_)
  subst ex
  cases rx
  have hst : PO X (some (.Constant (.int 2) k p1)) (tPart (tC (.int 2))) := po_some pe_int
  refine wpAny_Slice (thn (po_none.run pins s1 σ H1 (fun o H2 => o = none ∧ H2 = H1) I1 ⟨rfl, rfl⟩) fun vl s2 ⟨l, H2, I2, pl, el, e2⟩ => ?_)
  subst el e2
  refine thn (po_none.run pins s2 σ H2 (fun o H3 => o = none ∧ H3 = H2) I2 ⟨rfl, rfl⟩) fun vu s3 ⟨u, H3, I3, pu, eu, e3⟩ => ?_
  subst eu e3
  refine thn (hst.run pins s3 σ H3 (fun o H4 => o = some 2 ∧ H4 = H3) I3 ⟨2, rfl, rfl, rfl⟩) fun vs s4 ⟨o, H4, I4, ps, eo, e4⟩ => ?_
  subst eo e4
  have I5 : Inv X pins σ H4 { s4 with heap := s4.heap.push { cls := .type "slice", data := .fields #[vl, vu, vs] } } := I4.kept (t' := s4.toks) fun b ob q => Heap.get?_push_of_some _ q
  obtain ⟨its, r, ht, hz⟩ := I5.list hx
  have hlen := r.length
  show wpAny (model X.prog X.w) X.A (subscriptTail e (.Slice none none (some (.Constant (.int 2) k p1)) p3) (.ref a) (.ref s4.heap.objs.size)) (EP X pins σ Q) X.xe { s4 with heap := s4.heap.push { cls := .type "slice", data := .fields #[vl, vu, vs] } }
  refine tail_any (ops := [.ref a, .ref s4.heap.objs.size]) ht.isList.typeIs (PySem.slot_list_getitem.lookup) ?_ (by with_unfolding_all rfl)
  refine wpAny_getItem_list_slice ht.isList (Heap.IsSliceOf.new _ vl vu vs) pl pu ps (by decide) ?_ (by rw [List.size_toArray]; omega)
  rw [pick_even]
  refine ⟨.ref _, _, I5.laid (t' := s4.toks) (o := .lst (evens xs)) (fun b ob q => Heap.get?_push_of_some _ q) (Nat.le_refl _) ?_, rfl, q _ (I5.hok.fresh (Nat.le_refl _))⟩
  exact ⟨Nat.le_trans (evens_len xs) hz, _, 0, Vals.evens r, Heap.get?_push_size _ rfl⟩⟩
def mStep2 (m : MO) : ME := fun ρ => match m ρ with
  | some (o, ρ') => match res ρ' o with
    | some (.lst xs) => some (.lst (evens xs), ρ')
    | _ => none
  | none => none
theorem se_step2 {k : Nat} {p1 p3 : Pos} {m : MO} (h : SO X e m) : SE X (.Subscript e (.Slice none none (some (.Constant (.int 2) k p1)) p3) pos) (mStep2 m) := Z.pe_mk fun σ H Q ⟨io, F, ρ, d, ρ', r, hm, q⟩ => by
  unfold mStep2 at hm
  split at hm <;> try cases hm
  rename_i o ρ1 h1
  split at hm <;> cases hm
  rename_i xs hx
  refine ⟨_, pe_ev h, io, F, ρ, o, _, r, h1, fun v F1 H1 x1 r1 p1 => ?_⟩
  obtain ⟨a, vs, rfl, hl, rl⟩ := (r1.res p1 hx).lst r1.sub
  have post : Post X.K X.mgx F1 H1 Q (.lst (evens xs)) := fun u F2 H2 gr rp => q u F2 H2 (x1.trans gr.ext) (r1.grow gr) rp
  exact ⟨a, vs, rfl, SqL.of hl, post.newL r1.sub rl.evens⟩

/-! ### texts -/
def mSliceS (m : MO) (ml mh : MP) : ME := fun ρ => match m ρ with
  | some (o, ρ1) => match ml ρ1 with
    | some (lo, ρ2) => match mh ρ2 with
      | some (hi, ρ3) => match res ρ3 o with
        | some (.str x) => if x.length ≤ LIM then some (.str (cutS x lo hi), ρ3) else none
        | _ => none
      | none => none
    | none => none
  | none => none
theorem se_sliceS {p2 : Pos} {lo hi : Option Expr} {m : MO} {ml mh : MP} (h : SO X e m) (hl : SP' X lo ml) (hh : SP' X hi mh) : SE X (.Subscript e (.Slice lo hi none p2) pos) (mSliceS m ml mh) := Z.pe_mk fun σ H Q ⟨io, F, ρ, d, ρ', r, hm, q⟩ => by
  unfold mSliceS at hm
  split at hm <;> try cases hm
  rename_i o ρ1 h1
  split at hm <;> try cases hm
  rename_i lo ρ2 h2
  split at hm <;> try cases hm
  rename_i hi ρ3 h3
  split at hm <;> try cases hm
  rename_i x h4
  split at hm <;> cases hm
  rename_i hlen
  refine ⟨_, pe_slice sl_str h hl hh, io, F, ρ, o, ρ1, r, h1, fun v F1 H1 x1 r1 p1 => ⟨io, F1, ρ1, lo, ρ2, r1, h2, fun F2 H2 x2 r2 => ⟨io, F2, ρ2, hi, _, r2, h3, fun F3 H3 x3 r3 => ?_⟩⟩⟩
  have p3 := r3.res ((p1.mono x2.sub).mono x3.sub) h4
  exact ⟨x, p3.str, Nat.le_trans hlen lim_line, q _ F3 H3 ((x1.trans x2).trans x3) r3 (by simp only [Rep])⟩
def intD : List D → Option D
  | [.str x] => match PySem.intText? x with
    | some n => if x.length ≤ 640 then some (.int n) else none
    | none => none
  | _ => none
theorem n_int : OpN X (.type "int") intD := by
  intro ds d h
  unfold intD at h
  split at h <;> try cases h
  split at h <;> try cases h
  split at h <;> cases h
  rename_i x _ n hn hl
  refine ⟨_, call_int_str, fun F H vs Q s p q => ?_⟩
  obtain ⟨v, rfl, pp⟩ := p.one
  exact ⟨x, n, by rw [pp.str], hn, hl, q.int s⟩

/-! ### sums of ints -/
def intsD : List D → Option (List Int)
  | [] => some []
  | .int i :: ds => match intsD ds with
    | some ns => some (i :: ns)
    | none => none
  | _ :: _ => none
theorem RepL.ints {K : PySem.W.Frag} {mg : Mg} {F : Hp} : ∀ {ds : List D} {vs : List V} {ns : List Int}, RepL K mg F ds vs → intsD ds = some ns → vs = ns.map V.int
  | [], _, _, h, e => by simp only [intsD] at e; cases e; simpa only [RepL, List.map_nil] using h
  | d :: ds, _, _, h, e => by
    simp only [RepL] at h
    obtain ⟨v, r, rfl, q, t⟩ := h
    cases d <;> simp only [intsD] at e <;> try cases e
    split at e <;> cases e
    rename_i ns hn
    simp only [Rep] at q
    subst q
    rw [List.map_cons, RepL.ints t hn]
def sumID : List D → Option D
  | [.lst ds] => match intsD ds with
    | some ns => some (.int ns.sum)
    | none => none
  | _ => none
theorem n_sumI (hc : X.calm = true) : OpN X (.builtin "sum") sumID := by
  intro ds d h
  unfold sumID at h
  split at h <;> try cases h
  split at h <;> cases h
  rename_i ns hn
  refine ⟨_, cr_sum hc, fun F H vs Q s p q => ?_⟩
  obtain ⟨v, rfl, pp⟩ := p.one
  obtain ⟨a, vs, rfl, h1, r1⟩ := pp.lst s
  have := r1.ints hn
  subst this
  exact ⟨a, ns, rfl, SqL.of h1, q.int s⟩

/-! ### list(range(n)) -/
def mLstRg (m : MO) : MN := fun ρ => match m ρ with
  | some (o, ρ') => match res ρ' o with
    | some (.int n) => if 0 ≤ n ∧ n ≤ 1000 then some (rngL 0 n.toNat, ρ') else none
    | _ => none
  | none => none
theorem sn_lstRg {p p2 pos2 : Pos} {m : MO} (h : SO X e m) (hmt : X.mg "list" = none) (hmr : X.mg "range" = none) (hgt : Gl X "list" := by rfl) (hgr : Gl X "range" := by rfl) (na : starEach [e] X.env = (false, eval e X.env) :: starEach [] X.env := by rfl)
    (na2 : starEach [.Call (.Name "range" p2) [e] [] pos2] X.env = (false, eval (.Call (.Name "range" p2) [e] [] pos2) X.env) :: starEach [] X.env := by rfl) (hc : X.calm = true := by rfl) :
    SN X (.Call (.Name "list" p) [.Call (.Name "range" p2) [e] [] pos2] [] pos) (mLstRg m) := Z.pe_mk fun σ H Q ⟨io, F, ρ, d, ρ', r, hm, q⟩ => by
  refine ⟨_, pe_listRg hc hgt hmt (prg_1 hgr hmr h na) na2, ?_⟩
  unfold mLstRg at hm
  split at hm <;> try cases hm
  rename_i o ρ1 h1
  split at hm <;> try cases hm
  rename_i n hn
  split at hm <;> cases hm
  rename_i hl
  refine ⟨io, F, ρ, o, _, r, h1, fun v F1 H1 x1 r1 p1 => ⟨n, (r1.res p1 hn).int, .of_le (by omega) (by omega) (by omega) hl.1, fun a ha => ?_⟩⟩
  have hH : H a = none := x1.stay a ha
  have rg := rg_rep (K := X.K) (mg := X.mgx) (F := F1) 0 n
  rw [Int.sub_zero] at rg
  exact q a _ F1 _ (x1.trans ⟨Same.refl _, fun b o hb _ => ⟨by rw [upd_ne (ne_of_none hb ha)]; exact hb, rfl⟩, fun _ w => .inl w, fun b hb => by
    by_cases z : b = a
    · subst z; exact ha
    · rw [upd_ne z] at hb; exact hb⟩) (r1.addH ha) hH upd_same (r1.freeF ha) (r1.notOwn ha) rg

/-! ### index and remove -/
def mLIdx (mo m : MO) : ME := fun ρ => match mo ρ with
  | some (oo, ρ1) => match res ρ1 oo with
    | some (.lst _) => match m ρ1 with
      | some (o, ρ') => match res ρ' oo, res ρ' o with
        | some (.lst xs), some z => if z.flat && xs.all D.flat then match idxF z xs 0 with
            | some j => some (.int j, ρ')
            | none => none
          else none
        | _, _ => none
      | none => none
    | _ => none
  | none => none
theorem se_lidx {o : Expr} {mo m : MO} {apos : Pos} (ho : SO X o mo) (h : SO X e m)
    (hbase : attributeBase o "index" X.env (eval o X.env) = eval o X.env := by rfl)
    (hfew : ((backTo pos (starEach [e] X.env)).all (fun x => !x.1) && (backToKw pos (keywordEach [] X.env)).all (fun x => x.1.isSome)
      && decide (([e] : List Expr).length + ([] : List Keyword).length + (if ([] : List Keyword).isEmpty then 0 else 1) < 30)) = true := by rfl)
    (hline : (apos.endLine == pos.line) = true := by rfl) (hs1 : starEach [e] X.env = (false, eval e X.env) :: starEach [] X.env := by rfl) (hplain : (backTo pos (starEach [] X.env)).any (·.1) = false := by rfl) :
    SE X (.Call (.Attribute o "index" apos) [e] [] pos) (mLIdx mo m) := Z.pe_mk fun σ H Q ⟨io, F, ρ, d, ρ', r, hm, q⟩ => by
  refine ⟨_, pe_bm PySem.F.plainAttrs_list PySem.F.slot_list_index PySem.F.type_list_index mt_index ho (pa_cons h pa_nil hs1) hbase hfew hline hs1 hplain, ?_⟩
  unfold mLIdx at hm
  split at hm <;> try cases hm
  rename_i oo ρ1 h1
  split at hm <;> try cases hm
  rename_i xs0 hx0
  split at hm <;> try cases hm
  rename_i od ρ2 h2
  split at hm <;> try cases hm
  rename_i xs z hx hz
  split at hm <;> try cases hm
  rename_i hf
  simp only [Bool.and_eq_true] at hf
  split at hm <;> cases hm
  rename_i j hj
  obtain ⟨_, ⟨y, hy, ey⟩, hno⟩ := idxF_at hj
  refine ⟨io, F, ρ, oo, ρ1, r, h1, fun v F1 H1 x1 r1 p1 => ?_⟩
  obtain ⟨a0, vs0, rfl, ht0, _⟩ := (r1.res p1 hx0).lst r1.sub
  refine ⟨.inl ⟨rfl, _, SqL.of ht0⟩, io, F1, ρ1, od, _, r1, h2, fun w F2 H2 x2 r2 p2 => ?_⟩
  have pz := (r2.res p2 hz).flat hf.1
  obtain ⟨a, vs, ea, ht, rl⟩ := (r2.res (p1.mono x2.sub) hx).lst r2.sub
  cases ea
  obtain ⟨u, hu, pu⟩ := rl.get (i := j) (d := y) (by simpa using hy)
  refine ⟨_, vs, w, j, u, rfl, rfl, SqL.of ht, pz.flat hf.1, rl.flat hf.2, hu, ?_, fun m z' hm hz' => ?_, q _ F2 H2 (x1.trans x2) r2 (by simp only [Rep])⟩
  · rw [pu.eqV pz (List.all_eq_true.mp hf.2 _ (List.mem_of_getElem? hy)) hf.1]; exact ey
  · have hm' : m < xs.length := by
      have := (List.getElem?_eq_some_iff.mp hz').1
      rw [rl.len] at this; exact this
    have hx' : xs[m]? = some xs[m] := List.getElem?_eq_getElem hm'
    obtain ⟨u, hu, pu⟩ := rl.get hx'
    rw [hz'] at hu; cases hu
    rw [pu.eqV pz (List.all_eq_true.mp hf.2 _ (List.mem_of_getElem? hx')) hf.1]
    exact hno m _ (by simpa using hm) hx'
def fstI (k : Int) : List Int → Nat → Option Nat
  | [], _ => none
  | x :: xs, i => if x = k then some i else fstI k xs (i + 1)
theorem fstI_at {k : Int} : ∀ {xs : List Int} {i j : Nat}, fstI k xs i = some j → i ≤ j ∧ xs[j - i]? = some k ∧ ∀ m : Nat, m < j - i → xs[m]? ≠ some k
  | [], _, _, h => by simp [fstI] at h
  | x :: xs, i, j, h => by
    simp only [fstI] at h
    split at h
    · rename_i e
      cases h
      refine ⟨Nat.le_refl _, by rw [Nat.sub_self, e]; rfl, fun m hm => absurd hm (by omega)⟩
    · rename_i e
      obtain ⟨h1, h2, h3⟩ := fstI_at h
      refine ⟨by omega, ?_, fun m hm hy => ?_⟩
      · rw [show j - i = (j - (i + 1)) + 1 by omega, List.getElem?_cons_succ]
        exact h2
      · cases m with
        | zero => rw [List.getElem?_cons_zero] at hy; cases hy; exact e rfl
        | succ m => rw [List.getElem?_cons_succ] at hy; exact h3 m (by omega) hy
theorem intsD_erase : ∀ {ds : List D} {ns : List Int} (j : Nat), intsD ds = some ns → intsD (ds.eraseIdx j) = some (ns.eraseIdx j)
  | [], _, j, e => by simp only [intsD] at e; cases e; rfl
  | d :: ds, _, j, e => by
    cases d <;> simp only [intsD] at e <;> try cases e
    split at e <;> cases e
    rename_i ns hn
    cases j with
    | zero => exact hn
    | succ j => simp only [List.eraseIdx_cons_succ, intsD, intsD_erase j hn]
theorem RepL.of_ints {K : PySem.W.Frag} {mg : Mg} {F : Hp} : ∀ {ds : List D} {ns : List Int}, intsD ds = some ns → RepL K mg F ds (ns.map V.int)
  | [], _, e => by simp only [intsD] at e; cases e; simp only [List.map_nil, RepL]
  | d :: ds, _, e => by
    cases d <;> simp only [intsD] at e <;> try cases e
    split at e <;> cases e
    rename_i ns hn
    exact RepL.cons (by simp only [Rep]) (RepL.of_ints hn)
/-- x.remove(e), x a name, a list of ints of its own -/
def mRem (i : Nat) (m : ME) : MS := fun ρ => match ownL ρ i with
  | some _ => match m ρ with
    | some (.int k, ρ1) => match ownL ρ1 i with
      | some ds => match intsD ds with
        | some ns => match fstI k ns 0 with
          | some j => some (.nx, putL ρ1 i (ds.eraseIdx j))
          | none => none
        | none => none
      | none => none
    | _ => none
  | none => none
theorem ss_remove (i : Nat) {x : Str} {p apos cpos : Pos} {m : ME} (h : SE X e m) (hN : X.N[i]? = some x := by rfl) (hv : Vis X.env.scope x := by first | exact Or.inl rfl | exact Or.inr (Or.inl rfl) | exact Or.inr (Or.inr rfl)) (hd : (x == ("__debug__" : Str)) = false := by decide) (hcd : (x == ("__classdict__" : Str)) = false := by decide)
    (hs : swapsWith (.Call (.Attribute (.Name x p) "remove" apos) [e] [] cpos) none pos.line X.env = pure false := by rfl)
    (hbase : attributeBase (.Name x p) "remove" X.env (eval (.Name x p) X.env) = eval (.Name x p) X.env := by rfl)
    (hfew : ((backTo cpos (starEach [e] X.env)).all (fun x => !x.1) && (backToKw cpos (keywordEach [] X.env)).all (fun x => x.1.isSome)
      && decide (([e] : List Expr).length + ([] : List Keyword).length + (if ([] : List Keyword).isEmpty then 0 else 1) < 30)) = true := by rfl)
    (hline : (apos.endLine == cpos.line) = true := by rfl) (hs1 : starEach [e] X.env = (false, eval e X.env) :: starEach [] X.env := by rfl) (hplain : (backTo cpos (starEach [] X.env)).any (·.1) = false := by rfl) :
    SS X (.Expr (.Call (.Attribute (.Name x p) "remove" apos) [e] [] cpos) pos) (mRem i m) := ps_mk fun D σ H ⟨io, F, ρ, fl, ρ', r, hm, q⟩ => by
  refine ⟨_, L2.ps_expr (pe_bm PySem.F.plainAttrs_list PySem.F.slot_list_remove PySem.F.type_list_remove mt_remove (pe_var hN hv hd hcd) (pa_cons h pa_nil hs1) hbase hfew hline hs1 hplain) hs, ?_⟩
  unfold mRem at hm
  split at hm <;> try cases hm
  rename_i ds0 h0
  split at hm <;> try cases hm
  rename_i k ρ1 h1
  split at hm <;> try cases hm
  rename_i ds h2
  split at hm <;> try cases hm
  rename_i ns hn
  split at hm <;> cases hm
  rename_i j hj
  obtain ⟨_, f2, f3⟩ := fstI_at hj
  obtain ⟨a, vs0, e0, hv0, _⟩ := r.ownL h0
  refine ⟨_, e0, .inl ⟨rfl, _, SqL.of hv0⟩, io, F, ρ, _, ρ1, r, h1, fun v F1 H1 x1 r1 p1 => ?_⟩
  obtain ⟨a', vs, e1, hv, rl, go⟩ := r1.ownL h2
  rw [e0] at e1; cases e1
  simp only [Rep] at p1
  subst p1
  have ev := rl.ints hn
  subst ev
  obtain ⟨r2, x2⟩ := go (ds.eraseIdx j) ((ns.eraseIdx j).map V.int) (.of_ints (intsD_erase j hn))
  exact ⟨_, ns, k, j, rfl, rfl, hv, f2, f3, q _ _ _ (x1.trans x2) r2⟩
end
end Z
/-! dict keys that are tuples of tuples. -/
namespace Z
open PySem PySem.Spec PyProof.Rows L2
section
variable {P : Program} {w : World}
/-- the inner tuples: of None, ints, texts -/
abbrev K1 := List (Option Key)
abbrev kd1 (P : Program) (w : World) : HeapKind P w K1 := tupleKind (noneKind P w)
/-- the items of an outer tuple -/
inductive In2 (P : Program) (w : World) (h : Heap) : List K1 → List Value → Prop
  | nil : In2 P w h [] []
  | cons {k : K1} {b : Addr} {ks : List K1} {vs : List Value} (x : (kd1 P w).is h k b) (t : In2 P w h ks vs) : In2 P w h (k :: ks) (.ref b :: vs)
def Is2 (P : Program) (w : World) (h : Heap) (ks : List K1) (a : Addr) : Prop := ∃ o its n, h.get? a = some o ∧ o.cls = .type "tuple" ∧ o.data = .seq its n ∧ In2 P w h ks its.toList
theorem In2.inj {h : Heap} {x y : List K1} {vs : List Value} (a : In2 P w h x vs) (b : In2 P w h y vs) : x = y := by
  induction a generalizing y with
  | nil => cases b; rfl
  | cons p _ ih => cases b with
    | cons q t => rw [(kd1 P w).inj p q, ih t]
theorem In2.len {h : Heap} {x : List K1} {vs : List Value} (a : In2 P w h x vs) : x.length = vs.length := by
  induction a with
  | nil => rfl
  | cons _ _ ih => rw [List.length_cons, List.length_cons, ih]
theorem In2.keep {h h' : Heap} {x : List K1} {vs : List Value} (a : In2 P w h x vs) (k : ∀ c b, (kd1 P w).is h c b → (kd1 P w).is h' c b) : In2 P w h' x vs := by
  induction a with
  | nil => exact .nil
  | cons p _ ih => exact .cons (k _ _ p) ih
theorem Is2.ty {s : Shared} {ks : List K1} {a : Addr} (x : Is2 P w s.heap ks a) : s.TypeIs (.ref a) "tuple" := let ⟨o, _, _, ho, hc, _⟩ := x; ⟨o, ho, hc⟩
theorem Is2.inj {h : Heap} {a : Addr} {x y : List K1} (p : Is2 P w h x a) (q : Is2 P w h y a) : x = y := by
  obtain ⟨o, its, n, h1, _, h2, h3⟩ := p
  obtain ⟨o', its', n', h1', _, h2', h3'⟩ := q
  rw [h1] at h1'; cases h1'
  rw [h2] at h2'; cases h2'
  exact h3.inj h3'
theorem Is2.keep {h h' : Heap} {ks : List K1} {a d : Addr} {o : Obj} {es : Array DictEntry} {ep : Nat} (x : Is2 P w h ks a) (ho : h.get? d = some o) (hd : o.data = .dict es ep) (hs : Heap.SameBut d h h') : Is2 P w h' ks a := by
  obtain ⟨u, its, n, h1, h2, h3, h4⟩ := x
  have ne : a ≠ d := by
    rintro rfl
    rw [ho] at h1; cases h1
    rw [hd] at h3; exact nomatch h3
  exact ⟨u, its, n, (hs.2 a ne).trans h1, h2, h3, h4.keep fun c b q => (kd1 P w).keeps q ho hd hs⟩
/-- any heap with the old objects -/
theorem Is2.grow {h h' : Heap} {ks : List K1} {a : Addr} (x : Is2 P w h ks a) (k : ∀ b o, h.get? b = some o → h'.get? b = some o) : Is2 P w h' ks a := by
  obtain ⟨u, its, n, h1, h2, h3, h4⟩ := x
  exact ⟨u, its, n, k _ _ h1, h2, h3, h4.keep fun c b ⟨o, i, m, q1, q2⟩ => ⟨o, i, m, k _ _ q1, q2⟩⟩
def hash2 (P : Program) (w : World) (ks : List K1) : Int := reduceHash (Builtin.Tuple.tupleHashOf (ks.map (kd1 P w).hash))
def draw2 (P : Program) (w : World) : List K1 → Nat
  | [] => 0
  | k :: ks => (kd1 P w).draws k + draw2 P w ks
theorem draw2_app : ∀ a b : List K1, draw2 P w (a ++ b) = draw2 P w a + draw2 P w b
  | [], b => by simp [draw2]
  | k :: a, b => by simp only [List.cons_append, draw2, draw2_app a b, Nat.add_assoc]
variable {A : Around} {E : Value → Shared → Prop} {s : Shared}
theorem hash_run {ks : List K1} {a : Addr} {Q : Int → Shared → Prop} (hu : A.units + 1 < cLine) (hk : Is2 P w s.heap ks a) (h : Q (hash2 P w ks) { s with toks := s.toks + (draw2 P w ks + 1) }) : wpAny (model P w) A (pyHash (.ref a)) Q E s := by
  have hT := hk.ty
  obtain ⟨o, its, n, ho, _, hd, hi⟩ := hk
  unfold pyHash
  first | unfold pyHashByItsType | skip
  first | refine wpAny_bind (wpAny_cRoomFor_or (.inr (Nat.lt_of_succ_lt hu)) ?_) | skip
  refine wpAny_bind (wpAny_specialOf hT F.slot_tuple_hash.lookup ?_)
  show wpAny _ _ (if (some (Value.builtin "tuple.__hash__") == some Value.none) = true then _ else _) Q E s
  rw [if_neg (by rw [beq_builtin_none]; exact Bool.false_ne_true)]
  refine wpAny_bind (wpAny_specialOf hT F.slot_tuple_hash.lookup ?_)
  show wpAny _ _ (callSpecialIfBoundUnlessNone? (.ref a) "__hash__" _ >>= _) Q E s
  refine wpAny_bind (wpAny_callSpecialIfBoundUnlessNone?_slot hT F.slot_tuple_hash (wpAny_call_entry F.slot_tuple_hash hT F.entry_tuple_hash ?_ (F.args_tuple_hash_1 _)))
  show wpAny _ _ (Builtin.Tuple.tupleItemsOf (.ref a) >>= _) _ _ s
  refine wpAny_bind (wpAny_tupleItemsOf ho hd ?_)
  refine wpAny_bind ?_
  rw [← Array.forIn_toList]
  refine wpAny_forIn_list _ (fun rest (b : Array Int) s' => ∃ done left, ks = done ++ left ∧ In2 P w s.heap left rest ∧ b.toList = done.map (kd1 P w).hash ∧ s' = { s with toks := s.toks + draw2 P w done }) _ ?_ ?_ _ _ ⟨[], ks, rfl, hi, rfl, rfl⟩
  · rintro x rest b s' ⟨done, left, rfl, hl, hb, rfl⟩
    cases hl with
    | @cons k c ks' _ h1 hl' =>
      have e : draw2 P w (done ++ [k]) = draw2 P w done + (kd1 P w).draws k := by rw [draw2_app]; simp [draw2]
      refine wpAny_bind ((kd1 P w).pyHash (k := k) ?_ h1 ?_)
      · exact hu
      · first
          | exact wpAny_pure ⟨done ++ [k], ks', by simp, hl', by simp [hb], by rw [e]; simp [Nat.add_assoc]⟩
          | exact wpAny_bind (wpAny_pure (wpAny_pure ⟨done ++ [k], ks', by simp, hl', by simp [hb], by rw [e]; simp [Nat.add_assoc]⟩))
  · rintro b s' ⟨done, left, rfl, hl, hb, rfl⟩
    cases hl
    rw [List.append_nil] at h
    show wpAny _ _ (retInt (Builtin.Tuple.tupleHashOf b.toList)) _ _ _
    rw [hb]
    refine wpAny_ret_mkInt ?_
    show wpAny _ _ (if (decide (-(2 : Int) ^ 63 ≤ Builtin.Tuple.tupleHashOf (done.map (kd1 P w).hash)) && decide (Builtin.Tuple.tupleHashOf (done.map (kd1 P w).hash) < 2 ^ 63)) = true then _ else _) Q E _
    unfold hash2 reduceHash at h
    split
    · rename_i hr
      rw [if_pos hr] at h
      exact wpAny_pure (by simpa [Nat.add_assoc] using h)
    · rename_i hr
      rw [if_neg hr] at h
      exact wpAny_bind (wpAny_rule (wpAny_pure (by simpa [Nat.add_assoc] using h)))
theorem items_run {x y : List K1} {a b : Addr} {R : PySem.Fin → Shared → Prop} (hu : A.units < cLine) (hx : Is2 P w s.heap x a) (hy : Is2 P w s.heap y b) (h : R (.done (.ret (.bool (decide (x = y))))) s) : wpAny (model P w) A (Builtin.«tuple.__eq__» ⟨[.ref a, .ref b], []⟩) R E s := by
  have hTb := hy.ty
  obtain ⟨oa, xs, na, hoa, _, hda, hia⟩ := hx
  obtain ⟨ob, ys, nb, hob, _, hdb, hib⟩ := hy
  show wpAny _ _ (isInstance (.ref b) (.type "tuple") >>= _) _ _ s
  refine wpAny_bind (wpAny_isInstance hTb isSubtype_tuple_tuple ?_)
  simp only [Bool.not_true, Bool.false_eq_true, if_false]
  refine wpAny_bind (wpAny_tupleItemsOf hoa hda ?_)
  refine wpAny_bind (wpAny_tupleItemsOf hob hdb ?_)
  refine wpAny_bind ?_
  refine wpAny_forIn_list _ (fun rest r s' => r.1 = none ∧ s' = s ∧ ∃ x' y' xs' ys', rest = List.zip xs' ys' ∧ In2 P w s.heap x' xs' ∧ In2 P w s.heap y' ys' ∧ (x' = y' ↔ x = y) ∧ (xs'.length == ys'.length) = (xs.size == ys.size)) _ ?_ ?_ _ _ ⟨rfl, rfl, x, y, xs.toList, ys.toList, rfl, hia, hib, Iff.rfl, by simp⟩
  · rintro ⟨u, v⟩ rest r s' ⟨hr, rfl, x', y', xs', ys', hz, hx', hy', hd, hl⟩
    cases hx' with
    | nil => simp at hz
    | @cons k1 c1 x2 xs2 p1 t1 => cases hy' with
      | nil => simp at hz
      | @cons k2 c2 y2 ys2 p2 t2 =>
        simp only [List.zip_cons_cons, List.cons.injEq, Prod.mk.injEq] at hz
        obtain ⟨⟨rfl, rfl⟩, rfl⟩ := hz
        refine wpAny_bind ((kd1 P w).eqBool (x := k1) (y := k2) ?_ p1 p2 ?_)
        · exact hu
        · by_cases hk : k1 = k2
          · subst hk
            rw [decide_eq_true rfl]
            simp only [Bool.not_true, Bool.false_eq_true, if_false]
            refine wpAny_pure ⟨rfl, rfl, x2, y2, xs2, ys2, rfl, t1, t2, ?_, by simpa using hl⟩
            rw [← hd]
            simp
          · rw [decide_eq_false hk]
            simp only [Bool.not_false, if_true]
            have hf : decide (x = y) = false := decide_eq_false fun z => hk (by have := hd.mpr z; injection this)
            rw [hf] at h
            exact wpAny_bind (wpAny_pure (wpAny_pure (wpAny_pure h)))
  · rintro ⟨r1, r2⟩ s' ⟨hr, rfl, x', y', xs', ys', hz, hx', hy', hd, hl⟩
    simp only at hr
    subst hr
    refine wpAny_pure ?_
    have hfin : (xs.size == ys.size) = decide (x = y) := by
      rw [← hl]
      cases hx' with
      | nil => cases hy' with
        | nil => rw [decide_eq_true (hd.mp rfl)]; rfl
        | cons _ _ => rw [decide_eq_false (fun z => nomatch hd.mpr z)]; rfl
      | cons _ _ => cases hy' with
        | nil => rw [decide_eq_false (fun z => nomatch hd.mpr z)]; rfl
        | cons _ _ => simp at hz
    show R (.done (.ret (.bool (xs.size == ys.size)))) s'
    rw [hfin]; exact h
theorem eq_run {x y : List K1} {a b : Addr} {Q : Bool → Shared → Prop} (hu : A.units + 1 < cLine) (hx : Is2 P w s.heap x a) (hy : Is2 P w s.heap y b) (h : Q (decide (x = y)) s) : wpAny (model P w) A (eqBool (.ref a) (.ref b)) Q E s := by
  unfold eqBool
  try with_reducible refine wpAny_holding ?_
  show wpAny _ _ (if (Value.ref a == Value.ref b) = true then _ else _) Q E s
  by_cases hab : (Value.ref a == Value.ref b) = true
  · rw [if_pos hab]
    have e : a = b := by have := eq_of_beq hab; injection this
    subst e
    obtain rfl := hx.inj hy
    exact wpAny_bind (wpAny_rule (wpAny_pure (by simpa using h)))
  · rw [if_neg hab]
    exact wpAny_bind (wpAny_richCompare_same_room (op := .Eq) hx.ty hy.ty F.slot_tuple_eq
      (wpAny_call_entry F.slot_tuple_eq hx.ty F.entry_tuple_eq (items_run hu hx hy ⟨_, rfl, (fun e => nomatch e), wpAny_truthy_bool h⟩) (F.args_tuple_eq_2 _ _)) (Nat.lt_of_succ_lt hu))
theorem quiet1 {k : K1} {a : Addr} {n : Nat} {Q : Bool → Shared → Prop} (hk : (kd1 P w).is s.heap k a) (h : Q true s) : wpAny (model P w) A (eqIsQuiet (n + 1) (.ref a)) Q E s := by
  have hT : s.TypeIs (.ref a) "tuple" := IsTupleKey.typeIs hk
  obtain ⟨o, items, m, ho, _, hd, hi⟩ := hk
  unfold eqIsQuiet
  refine wpAny_bind (wpAny_specialOf hT F.slot_tuple_eq.lookup ?_)
  show wpAny _ _ (isInstance (.ref a) (.type "tuple") >>= _) _ _ s
  refine wpAny_bind (wpAny_isInstance hT isSubtype_tuple_tuple ?_)
  simp only [Bool.not_true, Bool.false_eq_true, if_false]
  refine wpAny_bind (wpAny_seqItems ho hd ?_)
  refine wpAny_bind ?_
  show wpAny _ _ (forIn items _ _) _ _ s
  rw [← Array.forIn_toList]
  refine wpAny_forIn_list _ (fun rest r s' => r.1 = none ∧ s' = s ∧ ∀ v ∈ rest, carriedByValue v = true) _ ?_ ?_ _ _ ⟨rfl, rfl, hi.byValue⟩
  · rintro v rest r s' ⟨hr, rfl, hall⟩
    rw [eqIsQuiet_byValue _ (hall v List.mem_cons_self)]
    refine wpAny_bind (wpAny_pure ?_)
    simp only [Bool.not_true, Bool.false_eq_true, if_false]
    exact wpAny_pure ⟨rfl, rfl, fun u hu' => hall u (List.mem_cons_of_mem _ hu')⟩
  · rintro ⟨r1, r2⟩ s' ⟨hr, rfl, _⟩
    simp only at hr
    subst hr
    exact wpAny_pure h
theorem quiet_run {ks : List K1} {a : Addr} {Q : Bool → Shared → Prop} (hk : Is2 P w s.heap ks a) (h : Q true s) : wpAny (model P w) A (eqIsQuiet 8 (.ref a)) Q E s := by
  have hT := hk.ty
  obtain ⟨o, items, m, ho, _, hd, hi⟩ := hk
  unfold eqIsQuiet
  refine wpAny_bind (wpAny_specialOf hT F.slot_tuple_eq.lookup ?_)
  show wpAny _ _ (isInstance (.ref a) (.type "tuple") >>= _) _ _ s
  refine wpAny_bind (wpAny_isInstance hT isSubtype_tuple_tuple ?_)
  simp only [Bool.not_true, Bool.false_eq_true, if_false]
  refine wpAny_bind (wpAny_seqItems ho hd ?_)
  refine wpAny_bind ?_
  show wpAny _ _ (forIn items _ _) _ _ s
  rw [← Array.forIn_toList]
  refine wpAny_forIn_list _ (fun rest r s' => r.1 = none ∧ s' = s ∧ ∃ ks', In2 P w s.heap ks' rest) _ ?_ ?_ _ _ ⟨rfl, rfl, ks, hi⟩
  · rintro v rest r s' ⟨hr, rfl, ks', hl⟩
    cases hl with
    | @cons k c ks2 _ h1 t =>
      refine wpAny_bind (quiet1 (n := 6) h1 ?_)
      simp only [Bool.not_true, Bool.false_eq_true, if_false]
      exact wpAny_pure ⟨rfl, rfl, ks2, t⟩
  · rintro ⟨r1, r2⟩ s' ⟨hr, rfl, _⟩
    simp only at hr
    subst hr
    exact wpAny_pure h
end
/-- tuples of tuples of None, ints, texts -/
def kd2 (P : Program) (w : World) : HeapKind P w (List K1) where
  is := Is2 P w
  hash := hash2 P w
  draws := fun ks => draw2 P w ks + 1
  room := fun A => A.units + 1 < cLine
  inj := fun p q => p.inj q
  keeps := fun x ho hd hs => x.keep ho hd hs
  pyHash := fun hu hk h => hash_run hu hk h
  eqBool := fun hu hx hy h => eq_run hu hx hy h
  quiet := fun hk h => quiet_run hk h
end Z
/-! a dict whose keys are tuples of tuples. -/
namespace Z
open PySem PySem.Spec PyProof.Rows L2

/-! ### keys of data -/
def atomOf : D → Option (Option Key)
  | .non => some none
  | .int i => some (some (.inl i))
  | .str x => some (some (.inr x))
  | _ => none
def atomsOf : List D → Option K1
  | [] => some []
  | d :: ds => match atomOf d, atomsOf ds with
    | some k, some ks => some (k :: ks)
    | _, _ => none
def tupsOf : List D → Option (List K1)
  | [] => some []
  | .tup es :: ds => match atomsOf es, tupsOf ds with
    | some k, some ks => some (k :: ks)
    | _, _ => none
  | _ :: _ => none
def keyOf : D → Option (List K1)
  | .tup ds => tupsOf ds
  | _ => none
section
variable {X : Cx} {pins : List (Addr × Obj)} {σ : L2.St} {F H : Hp} {s : Shared}
theorem atoms_are {ds : List D} {vs : List V} {us : List Value} {ks : K1} (r : RepL X.K X.mgx F ds vs) (ru : Vals vs us) (h : atomsOf ds = some ks) : ItemsAre (noneKind X.prog X.w) ks us := by
  induction ds generalizing vs us ks with
  | nil =>
    simp only [RepL] at r
    subst r
    cases ru
    simp only [atomsOf] at h
    cases h
    exact .nil
  | cons d ds ih =>
    simp only [RepL] at r
    obtain ⟨v, t, rfl, q, rt⟩ := r
    cases ru with
    | cons h1 h2 =>
      simp only [atomsOf] at h
      split at h <;> try cases h
      rename_i k ks' e1 e2
      refine .cons ?_ (ih rt h2 e2)
      cases d <;> simp only [atomOf] at e1 <;> cases e1 <;> simp only [Rep] at q <;> subst q
      · cases h1; rfl
      · obtain ⟨t, rfl⟩ := h1
        exact mixKind_int X.prog X.w _ t
      · obtain ⟨t, rfl⟩ := h1
        exact mixKind_str X.prog X.w _ t
theorem tup_at (I : Inv X pins σ H s) (sF : Same F H) {ds : List D} {v : V} {u : Value} (r : Rep X.K X.mgx F (.tup ds) v) (ru : RelV v u) : ∃ a vs its n o, u = .ref a ∧ v = .ref a ∧ s.heap.get? a = some o ∧ o.cls = .type "tuple" ∧ o.data = .seq its n ∧ Vals vs its.toList ∧ RepL X.K X.mgx F ds vs := by
  simp only [Rep] at r
  obtain ⟨a, vs, rfl, ht, rl⟩ := r
  cases ru
  obtain ⟨its, rv, ⟨o, ho, hc, n, hd⟩, _⟩ := I.tuple (Same.tup sF ht.t)
  exact ⟨a, vs, _, n, o, rfl, rfl, ho, hc, hd, by simpa using rv, rl⟩
theorem tups_are (I : Inv X pins σ H s) (sF : Same F H) {ds : List D} {vs : List V} {us : List Value} {ks : List K1} (r : RepL X.K X.mgx F ds vs) (ru : Vals vs us) (h : tupsOf ds = some ks) : In2 X.prog X.w s.heap ks us := by
  induction ds generalizing vs us ks with
  | nil =>
    simp only [RepL] at r
    subst r
    cases ru
    simp only [tupsOf] at h
    cases h
    exact .nil
  | cons d ds ih =>
    simp only [RepL] at r
    obtain ⟨v, t, rfl, q, rt⟩ := r
    cases ru with
    | cons h1 h2 =>
      cases d <;> simp only [tupsOf] at h <;> try cases h
      split at h <;> try cases h
      rename_i k ks' e1 e2
      obtain ⟨a, ws, its, n, o, rfl, rfl, ho, hc, hd, rv, rl⟩ := tup_at I sF q h1
      exact .cons ⟨o, its, n, ho, hc, hd, atoms_are rl rv e1⟩ (ih rt h2 e2)
theorem key_is2 (I : Inv X pins σ H s) (sF : Same F H) {d : D} {a : Addr} {k : List K1} (r : Rep X.K X.mgx F d (.ref a)) (h : keyOf d = some k) : Is2 X.prog X.w s.heap k a := by
  cases d <;> simp only [keyOf] at h <;> try cases h
  obtain ⟨b, ws, its, n, o, e, e', ho, hc, hd, rv, rl⟩ := tup_at (u := .ref a) I sF r rfl
  cases e
  exact ⟨o, its, n, ho, hc, hd, tups_are I sF rl rv h⟩
/-! ### the dict -/
abbrev NumX := List (List K1 × Addr × Value)
def DTO (P : Program) (w : World) (a : Addr) (xs : NumX) : HO := .ext fun h => ∃ o es ep, h.get? a = some o ∧ o.ExactDict ∧ o.data = .dict es ep ∧ es.toList = xs.map (entryOfKey (kd2 P w)) ∧ (xs.map (·.1)).Nodup
theorem dto_ok {P : Program} {w : World} {H : Hp} {h : Heap} {a : Addr} {xs : NumX} (d : h.DictOfH (kd2 P w) a xs) : ObjOk P w H h a (DTO P w a xs) := by
  obtain ⟨o, es, ep, h1, h2, h3, h4, _, h5⟩ := d
  exact ⟨⟨o, es, ep, h1, h2, h3, h4, h5⟩, ⟨o, h1⟩, fun g1 g2 ⟨o, es, ep, q1, q2⟩ k => ⟨o, es, ep, k _ q1, q2⟩⟩
def KeysIn (K : PySem.W.Frag) (mg : Mg) (F : Hp) (xs : NumX) : Prop := ∀ x ∈ xs, ∃ d, keyOf d = some x.1 ∧ Rep K mg F d (.ref x.2.1)
theorem KeysIn.mono {K : PySem.W.Frag} {mg : Mg} {F F' : Hp} {xs : NumX} (s : Same F F') (h : KeysIn K mg F xs) : KeysIn K mg F' xs := fun x hx => let ⟨d, a, b⟩ := h x hx; ⟨d, a, b.mono s⟩
theorem dto_at (I : Inv X pins σ H s) (sF : Same F H) {nd : Addr} {xs : NumX} (e : H nd = some (DTO X.prog X.w nd xs)) (k : KeysIn X.K X.mgx F xs) : s.heap.DictOfH (kd2 X.prog X.w) nd xs := by
  obtain ⟨⟨o, es, ep, h1, h2, h3, h4, h5⟩, _⟩ := I.hok nd _ e
  refine ⟨o, es, ep, h1, h2, h3, h4, fun x hx => ?_, h5⟩
  obtain ⟨d, q1, q2⟩ := k x hx
  exact key_is2 I sF q2 q1
/-- what a look asks: the key, the dict -/
structure Look (K : PySem.W.Frag) (mg : Mg) (P : Program) (w : World) (H : Hp) (a nd : Addr) (k : List K1) (xs : NumX) : Prop where
  ex : ∃ F d, Same F H ∧ Rep K mg F d (.ref a) ∧ keyOf d = some k ∧ KeysIn K mg F xs
  here : H nd = some (DTO P w nd xs)
  big : (nd == sysModules) = false
theorem room2 {A : Around} (hu : A.units + 64 < cLine) {P : Program} {w : World} : (kd2 P w).room A.in1 := by
  show A.units + 1 + 1 < cLine
  omega
def rDNot (K : PySem.W.Frag) (mg : Mg) (P : Program) (w : World) : R2 := fun x y H Q => ∃ a nd k xs, x = .ref a ∧ y = .ref nd ∧ Look K mg P w H a nd k xs ∧ Q (.bl (!(atKey xs k).isSome)) H
theorem op_dnot (hu : X.A.units + 64 < cLine) : OpR X (compareOp .NotIn) (rDNot X.K X.mgx X.prog X.w) := by
  intro pins s σ H x y v u Q I rx ry ⟨a, nd, k, xs, e1, e2, L, q⟩
  subst e1 e2
  cases rx
  cases ry
  obtain ⟨F, d, sF, rd, hk, kin⟩ := L.ex
  exact wpAny_notIn_heap (room2 hu) (key_is2 I sF rd hk) L.big (dto_at I sF L.here kin) ⟨.bl (!(atKey xs k).isSome), H, I.tok _, rfl, q⟩
def tDkGet (K : PySem.W.Frag) (mg : Mg) (P : Program) (w : World) (td ty : TE) : TE := fun σ H Q => td σ H fun x H1 => ty σ H1 fun y H2 => ∃ a nd k xs p u v, x = .ref nd ∧ y = .ref a ∧ Look K mg P w H2 a nd k xs ∧ atKey xs k = some (p, u) ∧ RelV v u ∧ Q v H2
theorem pe_dkGet {o i : Expr} {pos : Pos} {td ty : TE} (hu : X.A.units + 64 < cLine) (ho : PE X o td) (hi : PE X i ty) (hs : NoSl i) : PE X (.Subscript o i pos) (tDkGet X.K X.mgx X.prog X.w td ty) := ⟨fun pins s σ H Q I h => by
  refine subD_of PySem.F.slot_dict_getitem.lookup hs (thn (ho.run pins s σ H _ I h) fun u s1 ⟨x, H1, I1, rx, q1⟩ => thn (hi.run pins s1 σ H1 _ I1 q1) fun iv s2 ⟨y, H2, I2, ry, a, nd, k, xs, p, w, v, e1, e2, L, l, rv, q2⟩ => ?_)
  subst e1 e2
  cases rx
  cases ry
  obtain ⟨F, d, sF, rd, hk, kin⟩ := L.ex
  have dd := dto_at I2 sF L.here kin
  exact ⟨dd.typeIs, wpAny_getItem_heap (room2 hu) (key_is2 I2 sF rd hk) dd l ⟨v, H2, I2.tok _, rv, q2⟩⟩⟩
def rDSet (K : PySem.W.Frag) (mg : Mg) (P : Program) (w : World) : TSet := fun o i v H Q => ∃ a nd k xs, o = .ref nd ∧ i = .ref a ∧ Look K mg P w H a nd k xs ∧ xs.length < 100000 ∧ ∀ u, RelV v u → Q (upd H nd (DTO P w nd (storedH xs k a u)))
theorem ps_dset (hu : X.A.units + 64 < cLine) : PSet X (rDSet X.K X.mgx X.prog X.w) := by
  intro pins s σ H o i v ov iv u Q I ro ri rv ⟨a, nd, k, xs, e1, e2, L, hl, q⟩
  subst e1 e2
  cases ro
  cases ri
  obtain ⟨F, d, sF, rd, hk, kin⟩ := L.ex
  have dd := dto_at I sF L.here kin
  refine wpAny_setItem_heap (hsz := by rw [sizeLine_eq]; omega) (room2 hu) (key_is2 I sF rd hk) dd fun h' dd' hs => ⟨_, ?_, q u rv⟩
  have he : ∃ q, h'.get? nd = some q := let ⟨o, _, _, e, _⟩ := dd'; ⟨o, e⟩
  exact d_write I (by rw [L.here]; exact True.intro) hs he (dto_ok dd')
/-! ### {key: value} -/
def tDk1 (K : PySem.W.Frag) (mg : Mg) (P : Program) (w : World) (tk tv : TE) : TE := fun σ H Q => ∀ p, H p = none → (p == sysModules) = false → tk σ (upd H p (DTO P w p [])) fun x H1 => tv σ H1 fun y H2 => ∃ a k, x = .ref a ∧ Look K mg P w H2 a p k [] ∧ ∀ u, RelV y u → Q (.ref p) (upd H2 p (DTO P w p [(k, a, u)]))
theorem pe_dk1 {ek ev : Expr} {pos : Pos} {tk tv : TE} (hu : X.A.units + 64 < cLine) (hk : PE X ek tk) (hv : PE X ev tv) : PE X (.Dict [some ek] [ev] pos) (tDk1 X.K X.mgx X.prog X.w tk tv) := ⟨fun pins s σ H Q I q => by
  have hbig : (s.heap.objs.size == sysModules) = false := beq_eq_false_iff_ne.mpr (Ne.symm (Nat.ne_of_lt I.big))
  have I1 := I.laid (a := s.heap.objs.size) (o := DTO X.prog X.w s.heap.objs.size []) (h' := s.heap.push { cls := .type "dict", data := .dict #[] }) (t' := s.toks) (fun _ _ q => Heap.get?_push_of_some _ q) (Nat.le_refl _) (dto_ok (.new s.heap))
  have q := q _ (I.hok.fresh (Nat.le_refl _)) hbig
  have hn := pairTrees_length [some ek] [ev] X.env pos rfl rfl
  rw [arm_eval_Dict, zip_pairTrees [some ek] [ev] X.env pos rfl rfl, dictDisplay_pairs _ (by intro z; rw [z] at hn; cases hn) (by rw [hn]; show (1 : Nat) < 17; decide)]
  refine wpAny_bind (wpAny_standAt (wpAny_bind ?_))
  unfold subDict
  refine wpAny_bind (wpAny_alloc ?_)
  refine wpAny_bind (wpAny_holding ?_)
  rw [if_pos (by rw [hn]; show (1 : Nat) ≤ 15; decide)]
  refine wpAny_bind (pairTrees_cons_walk (thn (hk.run pins _ σ _ _ I1 q) fun u s1 ⟨x, H1, I2, rx, q1⟩ => thn (hv.run pins s1 σ H1 _ I2 q1) fun u2 s2 ⟨y, H2, I3, ry, a, k, ex, L, q2⟩ => pairTrees_nil_walk ?_))
  subst ex
  cases rx
  obtain ⟨F, d, sF, rd, hkk, kin⟩ := L.ex
  have dd := dto_at I3 sF L.here kin
  refine wpAny_holding ?_
  rw [List.forIn_cons]
  refine wpAny_bind (wpAny_bind (wpAny_bind (wpAny_dictSet_heap (hsz := Nat.zero_le _) (show X.A.units + 1 < cLine by omega) (key_is2 I3 sF rd hkk) dd fun h' dd' hs => wpAny_pure ?_)))
  show wpAny _ _ (forIn [] _ _) _ _ _
  rw [List.forIn_nil]
  refine wpAny_pure (wpAny_pure (wpAny_pure (wpAny_pure ?_)))
  have he : ∃ q, h'.get? s.heap.objs.size = some q := let ⟨o, _, _, e, _⟩ := dd'; ⟨o, e⟩
  exact ⟨.ref s.heap.objs.size, _, d_write I3 (by rw [L.here]; exact True.intro) hs he (dto_ok dd'), rfl, q2 u2 ry⟩⟩
end
end Z
/-! instances: their fields read; a machine made. -/
namespace Z
open PySem PySem.Spec PyProof.Rows L2

/-! ### fields -/
def fldAt : List Str → List D → Str → Option D
  | n :: ns, d :: ds, f => if n = f then some d else fldAt ns ds f
  | _, _, _ => none
theorem fld_at {K : PySem.W.Frag} {mg : Mg} {F : Hp} {f : Str} : ∀ {fs : List (Str × V)} {ns : List Str} {ds : List D} {d : D}, fs.map (·.1) = ns → RepL K mg F ds (fs.map (·.2)) → fldAt ns ds f = some d → ∃ v, fs.lookup f = some v ∧ Rep K mg F d v
  | [], ns, ds, d, e, r, h => by subst e; simp [fldAt] at h
  | p :: fs, ns, ds, d, e, r, h => by
    subst e
    cases ds with
    | nil => simp [fldAt] at h
    | cons x ds =>
      simp only [List.map_cons, RepL] at r
      obtain ⟨v, t, e, q, rt⟩ := r
      simp only [List.cons.injEq] at e
      obtain ⟨rfl, rfl⟩ := e
      simp only [List.map_cons, fldAt] at h
      obtain ⟨p1, p2⟩ := p
      by_cases c : p1 = f
      · rw [if_pos c] at h
        cases h
        subst c
        exact ⟨p2, by simp [List.lookup_cons], q⟩
      · rw [if_neg c] at h
        obtain ⟨v, h1, h2⟩ := fld_at rfl rt h
        exact ⟨v, by rw [List.lookup_cons]; simp only [show (f == p1) = false from beq_eq_false_iff_ne.mpr (fun z => c z.symm)]; exact h1, h2⟩
/-- the class of that name, its instances' field f -/
structure KcOk (K : PySem.W.Frag) (mg : Mg) (cn : Str) (fs : List Str) : Prop where
  at_ : ∀ Ca, mg cn = some (.ref Ca) → Cls K Ca ∧ ∀ f ∈ fs, NoAttr K Ca f
def mAttr (cn f : Str) (m : ME) : ME := fun ρ => match m ρ with
  | some (.obj C ns ds, ρ') => if C = cn then match fldAt ns ds f with
      | some d => some (d, ρ')
      | none => none
    else none
  | _ => none
section
variable {X : Cx} {e : Expr} {pos : Pos}
theorem se_attr {cn f : Str} {fs : List Str} {m : ME} (c : KcOk X.K X.mgx cn fs) (hf : f ∈ fs) (h : SE X e m) (hb : attributeBase e f X.env (eval e X.env) = eval e X.env := by rfl) : SE X (.Attribute e f pos) (mAttr cn f m) := Z.pe_mk fun σ H Q ⟨io, F, ρ, d, ρ', r, hm, q⟩ => by
  unfold mAttr at hm
  split at hm <;> try cases hm
  rename_i C ns ds ρ1 h1
  split at hm <;> try cases hm
  rename_i hC
  split at hm <;> cases hm
  rename_i hd
  subst hC
  refine ⟨_, pe_fld h hb, io, F, ρ, _, _, r, h1, fun v F1 H1 x1 r1 p1 => ?_⟩
  simp only [Rep] at p1
  obtain ⟨a, Ca, dx, fv, rfl, e1, e2, em, en, rl⟩ := p1
  obtain ⟨v, l, rv⟩ := fld_at en rl hd
  obtain ⟨c1, c2⟩ := c.at_ Ca em
  exact ⟨a, Ca, dx, fv, v, rfl, r1.sub _ _ e1, c1, c2 f hf, l, q v F1 H1 x1 r1 rv⟩
end
/-! ### states under changes that no slot sees -/
section
variable {K : PySem.W.Frag} {mg : Mg} {io : List (Nat × Addr)} {F H : Hp} {σ : St} {ρ : Rho}
theorem R.poke {p : Addr} {o : HO} (r : R K mg io F H σ ρ) (hf : F p = none) (hn : ¬ OwnA σ ρ p) : R K mg io F (upd H p o) σ ρ where
  len := r.len
  sub := fun b u e => by
    have : b ≠ p := by rintro rfl; rw [hf] at e; cases e
    rw [upd_ne this]; exact r.sub _ _ e
  dat := r.dat
  cel := fun i c h => by
    obtain ⟨a, e, f, q⟩ := r.cel i c h
    have : a ≠ p := by rintro rfl; exact hn ⟨i, c, h, e⟩
    refine ⟨a, e, f, ?_⟩
    exact q.move (fun o' ho' => by rw [upd_ne this]; exact ho') (Same.refl _)
  inj := r.inj
  ios := r.ios
/-- a slot that nothing is known of -/
theorem R.setU {i : Nat} {v : V} (r : R K mg [] F H σ ρ) (h : ρ[i]? = some .un) : R K mg [] F H (σ.set i (some v)) ρ ∧ ∀ a, OwnA (σ.set i (some v)) ρ a → OwnA σ ρ a := by
  have ne : ∀ j c, cellAt ρ j = some c → i ≠ j := fun j c hj => by
    rintro rfl
    unfold cellAt at hj
    rw [h] at hj
    cases hj
  have at' : ∀ j, i ≠ j → (σ.set i (some v))[j]? = σ[j]? := fun j z => List.getElem?_set_ne z
  refine ⟨⟨by rw [List.length_set]; exact r.len, r.sub, fun j x hj => ?_, fun j c hj => ?_, fun j k c c' a hj hk ej ek => ?_, fun p hp => (by cases hp)⟩, fun a ⟨j, c, hj, e⟩ => ⟨j, c, hj, by rw [at' j (ne j c hj)] at e; exact e⟩⟩
  · have : i ≠ j := by rintro rfl; rw [h] at hj; cases hj
    obtain ⟨v, e, q⟩ := r.dat j x hj
    exact ⟨v, by rw [at' j this]; exact e, q⟩
  · obtain ⟨a, e, q⟩ := r.cel j c hj
    exact ⟨a, by rw [at' j (ne j c hj)]; exact e, q⟩
  · rw [at' j (ne j c hj)] at ej
    rw [at' k (ne k c' hk)] at ek
    exact r.inj j k c c' a hj hk ej ek
end
/-! ### the numbers of states -/
abbrev Nums := List (List K1 × Int)
def atN (ps : Nums) (k : List K1) : Option Int := (ps.find? fun p => decide (p.1 = k)).map (·.2)
def NumsAre : NumX → Nums → Prop
  | [], [] => True
  | x :: xs, p :: ps => x.1 = p.1 ∧ (∃ t, x.2.2 = .int p.2 t) ∧ NumsAre xs ps
  | _, _ => False
theorem NumsAre.snoc : ∀ {xs : NumX} {ps : Nums} {x : List K1 × Addr × Value} {p : List K1 × Int}, NumsAre xs ps → x.1 = p.1 → (∃ t, x.2.2 = .int p.2 t) → NumsAre (xs ++ [x]) (ps ++ [p])
  | [], [], _, _, _, e, t => ⟨e, t, trivial⟩
  | [], _ :: _, _, _, h, _, _ => h.elim
  | _ :: _, [], _, _, h, _, _ => h.elim
  | _ :: xs, _ :: ps, _, _, ⟨a, b, c⟩, e, t => ⟨a, b, c.snoc e t⟩
theorem NumsAre.len : ∀ {xs : NumX} {ps : Nums}, NumsAre xs ps → xs.length = ps.length
  | [], [], _ => rfl
  | [], _ :: _, h => h.elim
  | _ :: _, [], h => h.elim
  | _ :: xs, _ :: ps, ⟨_, _, c⟩ => by rw [List.length_cons, List.length_cons, c.len]
theorem NumsAre.at : ∀ {xs : NumX} {ps : Nums} {k : List K1}, NumsAre xs ps → (atN ps k = none ∧ atKey xs k = none) ∨ ∃ i p t, atN ps k = some i ∧ atKey xs k = some (p, .int i t)
  | [], [], k, _ => .inl ⟨rfl, rfl⟩
  | [], _ :: _, _, h => h.elim
  | _ :: _, [], _, h => h.elim
  | x :: xs, p :: ps, k, ⟨a, ⟨t, b⟩, c⟩ => by
    by_cases e : p.1 = k
    · have e' : x.1 = k := a.trans e
      refine .inr ⟨p.2, x.2.1, t, by simp [atN, List.find?_cons, e], ?_⟩
      obtain ⟨x1, x2, x3⟩ := x
      simp only at e' b
      subst b
      simp [atKey, List.find?_cons, e']
    · have e' : ¬ x.1 = k := fun z => e (a.symm.trans z)
      rcases c.at (k := k) with ⟨h1, h2⟩ | ⟨i, q, u, h1, h2⟩
      · exact .inl ⟨by simpa [atN, List.find?_cons, e] using h1, by simpa [atKey, List.find?_cons, e'] using h2⟩
      · exact .inr ⟨i, q, u, by simpa [atN, List.find?_cons, e] using h1, by simpa [atKey, List.find?_cons, e'] using h2⟩
end Z
/-! the body of a machine's __init__: self, its three lists and the dict of numbers beside the slots. -/
namespace Z
open PySem PySem.Spec PyProof.Rows L2

structure Adr where
  (x dx nd bm be bp C : Addr)
def Adr.all (A : Adr) : List Addr := [A.x, A.dx, A.nd, A.bm, A.be, A.bp]
structure Wo where
  nums : Nums
  mv : List D
  en : List D
  pt : List D
def mFs (A : Adr) : List (Str × V) := [(("moves" : Str), .ref A.bm), (("ends" : Str), .ref A.be), (("paths" : Str), .ref A.bp)]
structure W (K : PySem.W.Frag) (mg : Mg) (P : Program) (w : World) (A : Adr) (F0 H0 F H : Hp) (σ : St) (ρ : Rho) (o : Wo) : Prop where
  r : R K mg [] F H σ ρ
  s0 : σ[0]? = some (some (.ref A.x))
  s4 : σ[4]? = some (some (.ref A.nd))
  hx : H A.x = some (.ins A.C A.dx (mFs A))
  hdx : H A.dx = some (.own A.x)
  hm : ∃ vs, H A.bm = some (.lst vs) ∧ RepL K mg F o.mv vs
  he : ∃ vs, H A.be = some (.lst vs) ∧ RepL K mg F o.en vs
  hp : ∃ vs, H A.bp = some (.lst vs) ∧ RepL K mg F o.pt vs
  hd : ∃ xs, H A.nd = some (DTO P w A.nd xs) ∧ KeysIn K mg F xs ∧ NumsAre xs o.nums
  big : (A.nd == sysModules) = false
  nF : ∀ q ∈ A.all, F q = none
  nO : ∀ q ∈ A.all, ¬ OwnA σ ρ q
  dist : A.all.Nodup
  sF : Same F0 F
  kp : ∀ a o, H0 a = some o → a ≠ A.x → a ≠ A.dx → H a = some o ∧ F a = F0 a
  fr : ∀ q ∈ [A.nd, A.bm, A.be, A.bp], H0 q = none
  ow : ∀ a, OwnA σ ρ a → H0 a = none
  st : ∀ a, H a = none → H0 a = none
section
variable {K : PySem.W.Frag} {mg : Mg} {P : Program} {w : World} {A : Adr} {F0 H0 F H F' H' : Hp} {σ σ' : St} {ρ ρ' : Rho} {o : Wo}
theorem W.is (h : W K mg P w A F0 H0 F H σ ρ o) : ∀ q ∈ A.all, ∃ u, H q = some u := by
  intro q hq
  simp only [Adr.all, List.mem_cons, List.not_mem_nil, or_false] at hq
  rcases hq with rfl | rfl | rfl | rfl | rfl | rfl
  · exact ⟨_, h.hx⟩
  · exact ⟨_, h.hdx⟩
  · obtain ⟨_, e, _⟩ := h.hd; exact ⟨_, e⟩
  · obtain ⟨_, e, _⟩ := h.hm; exact ⟨_, e⟩
  · obtain ⟨_, e, _⟩ := h.he; exact ⟨_, e⟩
  · obtain ⟨_, e, _⟩ := h.hp; exact ⟨_, e⟩
theorem W.ext (h : W K mg P w A F0 H0 F H σ ρ o) (x : Ext F H σ ρ F' H' σ' ρ') (r' : R K mg [] F' H' σ' ρ') (e0 : σ'[0]? = σ[0]?) (e4 : σ'[4]? = σ[4]?) : W K mg P w A F0 H0 F' H' σ' ρ' o := by
  have at' : ∀ q ∈ A.all, ∀ u, H q = some u → H' q = some u ∧ F' q = F q := fun q hq u e => x.keep q u e (h.nO q hq)
  have i1 : A.x ∈ A.all := by simp [Adr.all]
  have i2 : A.dx ∈ A.all := by simp [Adr.all]
  have i3 : A.nd ∈ A.all := by simp [Adr.all]
  have i4 : A.bm ∈ A.all := by simp [Adr.all]
  have i5 : A.be ∈ A.all := by simp [Adr.all]
  have i6 : A.bp ∈ A.all := by simp [Adr.all]
  refine ⟨r', e0.trans h.s0, e4.trans h.s4, (at' _ i1 _ h.hx).1, (at' _ i2 _ h.hdx).1, ?_, ?_, ?_, ?_, h.big, fun q hq => ?_, fun q hq wn => ?_, h.dist, h.sF.trans x.sub, fun a u ha n1 n2 => ?_, h.fr, fun a wn => ?_, fun a ha => h.st a (x.stay a ha)⟩
  · obtain ⟨vs, e, q⟩ := h.hm; exact ⟨vs, (at' _ i4 _ e).1, q.mono x.sub⟩
  · obtain ⟨vs, e, q⟩ := h.he; exact ⟨vs, (at' _ i5 _ e).1, q.mono x.sub⟩
  · obtain ⟨vs, e, q⟩ := h.hp; exact ⟨vs, (at' _ i6 _ e).1, q.mono x.sub⟩
  · obtain ⟨xs, e, q, n⟩ := h.hd; exact ⟨xs, (at' _ i3 _ e).1, q.mono x.sub, n⟩
  · obtain ⟨u, e⟩ := h.is q hq
    rw [(at' q hq u e).2]; exact h.nF q hq
  · obtain ⟨u, e⟩ := h.is q hq
    rcases x.own q wn with z | z
    · exact h.nO q hq z
    · rw [e] at z; cases z
  · obtain ⟨q1, q2⟩ := h.kp a u ha n1 n2
    obtain ⟨q3, q4⟩ := x.keep a u q1 fun wn => by rw [h.ow a wn] at ha; cases ha
    exact ⟨q3, q4.trans q2⟩
  · rcases x.own a wn with z | z
    · exact h.ow a z
    · exact h.st a z
/-- one of the things beside the slots is written -/
theorem W.poke (h : W K mg P w A F0 H0 F H σ ρ o) {q : Addr} {u : HO} {o' : Wo} (hq : q ∈ [A.nd, A.bm, A.be, A.bp])
    (hm : ∃ vs, upd H q u A.bm = some (.lst vs) ∧ RepL K mg F o'.mv vs) (he : ∃ vs, upd H q u A.be = some (.lst vs) ∧ RepL K mg F o'.en vs) (hp : ∃ vs, upd H q u A.bp = some (.lst vs) ∧ RepL K mg F o'.pt vs)
    (hd : ∃ xs, upd H q u A.nd = some (DTO P w A.nd xs) ∧ KeysIn K mg F xs ∧ NumsAre xs o'.nums) : W K mg P w A F0 H0 F (upd H q u) σ ρ o' := by
  have hin : q ∈ A.all := by
    simp only [List.mem_cons, List.not_mem_nil, or_false] at hq
    simp only [Adr.all, List.mem_cons, List.not_mem_nil, or_false]
    exact .inr (.inr hq)
  have ds := h.dist
  simp only [Adr.all, List.nodup_cons, List.mem_cons, List.not_mem_nil, or_false, not_or] at ds
  simp only [List.mem_cons, List.not_mem_nil, or_false] at hq
  have nx : A.x ≠ q := by
    rcases hq with rfl | rfl | rfl | rfl
    · exact ds.1.2.1
    · exact ds.1.2.2.1
    · exact ds.1.2.2.2.1
    · exact ds.1.2.2.2.2
  have ndx : A.dx ≠ q := by
    rcases hq with rfl | rfl | rfl | rfl
    · exact ds.2.1.1
    · exact ds.2.1.2.1
    · exact ds.2.1.2.2.1
    · exact ds.2.1.2.2.2
  have hfr := h.fr q (by simpa using hq)
  refine ⟨h.r.poke (h.nF q hin) (h.nO q hin), h.s0, h.s4, by rw [upd_ne nx]; exact h.hx, by rw [upd_ne ndx]; exact h.hdx, hm, he, hp, hd, h.big, h.nF, h.nO, h.dist, h.sF, fun a v ha n1 n2 => ?_, h.fr, h.ow, fun a ha => ?_⟩
  · have : a ≠ q := by rintro rfl; rw [hfr] at ha; cases ha
    rw [upd_ne this]
    exact h.kp a v ha n1 n2
  · by_cases z : a = q
    · subst z; rw [upd_same] at ha; cases ha
    · rw [upd_ne z] at ha; exact h.st a ha
structure Ne6 (A : Adr) : Prop where
  (nm : A.nd ≠ A.bm) (ne : A.nd ≠ A.be) (np : A.nd ≠ A.bp) (me : A.bm ≠ A.be) (mp : A.bm ≠ A.bp) (ep : A.be ≠ A.bp)
theorem W.ne6 (h : W K mg P w A F0 H0 F H σ ρ o) : Ne6 A := by
  have ds := h.dist
  simp only [Adr.all, List.nodup_cons, List.mem_cons, List.not_mem_nil, or_false, not_or] at ds
  exact ⟨ds.2.2.1.1, ds.2.2.1.2.1, ds.2.2.1.2.2, ds.2.2.2.1.1, ds.2.2.2.1.2, ds.2.2.2.2.1⟩
theorem W.putM (h : W K mg P w A F0 H0 F H σ ρ o) {vs : List V} {ds : List D} (rl : RepL K mg F ds vs) : W K mg P w A F0 H0 F (upd H A.bm (.lst vs)) σ ρ { o with mv := ds } := by
  have n := h.ne6
  refine h.poke (by simp) ⟨vs, upd_same, rl⟩ ?_ ?_ ?_
  · rw [upd_ne n.me.symm]; exact h.he
  · rw [upd_ne n.mp.symm]; exact h.hp
  · rw [upd_ne n.nm]; exact h.hd
theorem W.putE (h : W K mg P w A F0 H0 F H σ ρ o) {vs : List V} {ds : List D} (rl : RepL K mg F ds vs) : W K mg P w A F0 H0 F (upd H A.be (.lst vs)) σ ρ { o with en := ds } := by
  have n := h.ne6
  refine h.poke (by simp) ?_ ⟨vs, upd_same, rl⟩ ?_ ?_
  · rw [upd_ne n.me]; exact h.hm
  · rw [upd_ne n.ep.symm]; exact h.hp
  · rw [upd_ne n.ne]; exact h.hd
theorem W.putP (h : W K mg P w A F0 H0 F H σ ρ o) {vs : List V} {ds : List D} (rl : RepL K mg F ds vs) : W K mg P w A F0 H0 F (upd H A.bp (.lst vs)) σ ρ { o with pt := ds } := by
  have n := h.ne6
  refine h.poke (by simp) ?_ ?_ ⟨vs, upd_same, rl⟩ ?_
  · rw [upd_ne n.mp]; exact h.hm
  · rw [upd_ne n.ep]; exact h.he
  · rw [upd_ne n.np]; exact h.hd
theorem W.putN (h : W K mg P w A F0 H0 F H σ ρ o) {xs : NumX} {ps : Nums} (k : KeysIn K mg F xs) (na : NumsAre xs ps) : W K mg P w A F0 H0 F (upd H A.nd (DTO P w A.nd xs)) σ ρ { o with nums := ps } := by
  have n := h.ne6
  refine h.poke (by simp) ?_ ?_ ?_ ⟨xs, upd_same, k, na⟩
  · rw [upd_ne n.nm.symm]; exact h.hm
  · rw [upd_ne n.ne.symm]; exact h.he
  · rw [upd_ne n.np.symm]; exact h.hp
end
/-! ### the judgement -/
abbrev MW := Rho → Wo → Option (Rho × Wo)
section
variable (K : PySem.W.Frag) (mg : Mg) (P : Program) (w : World) (A : Adr) (F0 H0 : Hp)
def tW (m : MW) : TS := fun D σ H => ∃ F ρ o ρ' o', W K mg P w A F0 H0 F H σ ρ o ∧ m ρ o = some (ρ', o') ∧ ∀ σ' F' H', Same F F' → W K mg P w A F0 H0 F' H' σ' ρ' o' → D.nx σ' H'
def tWT (c : Rho → Wo → Option Bool) : TT := fun σ H Q => ∃ F ρ o b, W K mg P w A F0 H0 F H σ ρ o ∧ c ρ o = some b ∧ ∀ F' H', Same F F' → W K mg P w A F0 H0 F' H' σ ρ o → Q b H'
end
abbrev PW (X : Cx) (A : Adr) (F0 H0 : Hp) (st : Stmt) (m : MW) : Prop := PS X st (tW X.K X.mgx X.prog X.w A F0 H0 m)
abbrev PWs (X : Cx) (A : Adr) (F0 H0 : Hp) (sts : List Stmt) (m : MW) : Prop := PSs X sts (tW X.K X.mgx X.prog X.w A F0 H0 m)
abbrev PWT (X : Cx) (A : Adr) (F0 H0 : Hp) (e : Expr) (c : Rho → Wo → Option Bool) : Prop := PT X e (tWT X.K X.mgx X.prog X.w A F0 H0 c)
section
variable {X : Cx} {A : Adr} {F0 H0 : Hp} {st : Stmt} {rest body : List Stmt} {e tg : Expr} {pos : Pos} {m n : MW}
def wSeq (m n : MW) : MW := fun ρ o => match m ρ o with
  | some (ρ1, o1) => n ρ1 o1
  | none => none
theorem pw_cons (h : PW X A F0 H0 st m) (h' : PWs X A F0 H0 rest n) : PWs X A F0 H0 (st :: rest) (wSeq m n) := pss_mk fun D σ H ⟨F, ρ, o, ρ', o', w, hm, q⟩ => by
  refine ⟨_, pss_cons h h', ?_⟩
  unfold wSeq at hm
  split at hm <;> try cases hm
  rename_i ρ1 o1 h1
  exact ⟨F, ρ, o, ρ1, o1, w, h1, fun σ1 F1 H1 s1 w1 => ⟨F1, ρ1, o1, ρ', o', w1, hm, fun σ2 F2 H2 s2 w2 => q σ2 F2 H2 (s1.trans s2) w2⟩⟩
theorem pw_one (h : PW X A F0 H0 st m) : PWs X A F0 H0 [st] m := pss_one h
theorem pw_nil : PWs X A F0 H0 [] (fun ρ o => some (ρ, o)) := pss_mk fun D σ H ⟨F, ρ, o, ρ', o', w, hm, q⟩ => by
  cases hm
  exact ⟨_, pss_nil, q σ F H (Same.refl F) w⟩
def wIf (c : Rho → Wo → Option Bool) (m n : MW) : MW := fun ρ o => match c ρ o with
  | some true => m ρ o
  | some false => n ρ o
  | none => none
theorem pw_if {c : Expr} {s1 s2 : List Stmt} {mc : Rho → Wo → Option Bool} (hc : PWT X A F0 H0 c mc) (ha : PWs X A F0 H0 s1 m) (hb : PWs X A F0 H0 s2 n) : PW X A F0 H0 (.If c s1 s2 pos) (wIf mc m n) := ps_mk fun D σ H ⟨F, ρ, o, ρ', o', w, hm, q⟩ => by
  refine ⟨_, ps_if hc ha hb, ?_⟩
  unfold wIf at hm
  split at hm
  · rename_i h1
    exact ⟨F, ρ, o, _, w, h1, fun F1 H1 s1 w1 => iteT ⟨F1, ρ, o, ρ', o', w1, hm, fun σ2 F2 H2 s2 w2 => q σ2 F2 H2 (s1.trans s2) w2⟩⟩
  · rename_i h1
    exact ⟨F, ρ, o, _, w, h1, fun F1 H1 s1 w1 => iteF ⟨F1, ρ, o, ρ', o', w1, hm, fun σ2 F2 H2 s2 w2 => q σ2 F2 H2 (s1.trans s2) w2⟩⟩
  · cases hm
def wLoop (c : Rho → Wo → Option Bool) (b : MW) : Nat → MW
  | 0 => fun _ _ => none
  | k + 1 => fun ρ o => match c ρ o with
    | some false => some (ρ, o)
    | some true => match b ρ o with
      | some (ρ1, o1) => wLoop c b k ρ1 o1
      | none => none
    | none => none
theorem pw_while {k : Nat} {c : Expr} {mc : Rho → Wo → Option Bool} (hc : PWT X A F0 H0 c mc) (hb : PWs X A F0 H0 body m) (hp : PassesOwn (model X.prog X.w) X.A X.env X.xe) : PW X A F0 H0 (.While c body [] pos) (wLoop mc m k) := ps_mk fun D σ H ⟨F, ρ, o, ρ', o', w, hm, q⟩ => by
  refine ⟨_, L2.ps_while hp hc hb, ?_⟩
  refine ⟨fun j σ2 H2 => ∃ F2 ρ2 o2, Same F F2 ∧ W X.K X.mgx X.prog X.w A F0 H0 F2 H2 σ2 ρ2 o2 ∧ wLoop mc m j ρ2 o2 = some (ρ', o'), ⟨k, F, ρ, o, Same.refl F, w, hm⟩, ?_⟩
  rintro j σ2 H2 ⟨F2, ρ2, o2, s2, w2, hl⟩
  cases j with
  | zero => cases hl
  | succ j =>
    simp only [wLoop] at hl
    split at hl
    · rename_i h3
      cases hl
      exact ⟨F2, _, _, _, w2, h3, fun F3 H3 s3 w3 => iteF (q σ2 F3 H3 (s2.trans s3) w3)⟩
    · rename_i h3
      split at hl <;> try cases hl
      rename_i ρ4 o4 h4
      exact ⟨F2, ρ2, o2, _, w2, h3, fun F3 H3 s3 w3 => iteT ⟨fun σ4 H4 => ∃ F4, Same F F4 ∧ W X.K X.mgx X.prog X.w A F0 H0 F4 H4 σ4 ρ4 o4, fun σ4 H4 ⟨F4, s4, w4⟩ => ⟨j, by omega, F4, ρ4, o4, s4, w4, hl⟩, F3, ρ2, o2, ρ4, o4, w3, h4, fun σ5 F5 H5 s5 w5 => ⟨F5, (s2.trans s3).trans s5, w5⟩⟩⟩
    · cases hl
def wFor (g : MG) (b : MW) : List D → MW
  | [], ρ, o => some (ρ, o)
  | d :: ds, ρ, o => match g d ρ with
    | some ρ1 => match b ρ1 o with
      | some (ρ2, o2) => wFor g b ds ρ2 o2
      | none => none
    | none => none
def wForS (mi : MI) (g : MG) (b : MW) : MW := fun ρ o => match mi ρ with
  | some (ds, ρ1) => wFor g b ds ρ1 o
  | none => none
theorem pw_for {sl : List Nat} {iter : Expr} {mi : MI} {g : MG} (hi : SI X tg iter mi) (hg : SG X sl tg g) (hb : PWs X A F0 H0 body m) (h0 : 0 ∉ sl) (h4 : 4 ∉ sl) (hp : PassesOwn (model X.prog X.w) X.A X.env X.xe) (hc : X.calm = true := by rfl) (hs : ∀ x, foldedSetIterable iter X.env x = pure x := by intro _; rfl) :
    PW X A F0 H0 (.For tg iter body [] pos) (wForS mi g m) := ps_mk fun D σ H ⟨F, ρ, o, ρ', o', w, hm, q⟩ => by
  refine ⟨_, L2.ps_for hp hc hi hg hb hs, ?_⟩
  unfold wForS at hm
  split at hm <;> try cases hm
  rename_i ds ρ1 h1
  refine ⟨[], F, ρ, ds, ρ1, w.r, h1, fun J F1 H1 x1 r1 ok => ?_⟩
  have w1 := w.ext x1 r1 rfl rfl
  refine ⟨fun i k σ2 H2 => ∃ F2 ρ2 o2, k = ds.length - i ∧ i ≤ ds.length ∧ Same F1 F2 ∧ W X.K X.mgx X.prog X.w A F0 H0 F2 H2 σ2 ρ2 o2 ∧ wFor g m (ds.drop i) ρ2 o2 = some (ρ', o'), ⟨ds.length, F1, ρ1, o, by simp, Nat.zero_le _, Same.refl _, w1, by simpa using hm⟩, ?_⟩
  rintro i k σ2 H2 ⟨F2, ρ2, o2, rfl, hi, s2, w2, hl⟩
  obtain ⟨ok1, ok2⟩ := ok i F2 H2 s2 w2.r.sub
  by_cases hlt : i < ds.length
  · have hd : ds[i]? = some ds[i] := List.getElem?_eq_getElem hlt
    rw [List.drop_eq_getElem_cons hlt] at hl
    simp only [wFor] at hl
    split at hl <;> try cases hl
    rename_i ρ3 h3
    split at hl <;> try cases hl
    rename_i ρ5 o5 h5
    obtain ⟨go, yl⟩ := ok1 _ hd
    refine .inr ⟨go, fun σ4 H4 => ∃ F4, Same F1 F4 ∧ W X.K X.mgx X.prog X.w A F0 H0 F4 H4 σ4 ρ5 o5, fun σ4 H4 ⟨F4, s4, w4⟩ => ⟨ds.length - (i + 1), by omega, F4, ρ5, o5, rfl, hlt, s4, w4, hl⟩, fun x H3 y => ?_⟩
    obtain ⟨F3, gr, px⟩ := yl x H3 y
    have w3 := w2.ext gr.ext (w2.r.grow gr) rfl rfl
    refine ⟨[], F3, ρ2, _, ρ3, w3.r, px, h3, fun σ4 F4 H4 x4 r4 oe => ?_⟩
    have w4 := w3.ext x4 r4 (oe.2 0 h0) (oe.2 4 h4)
    exact ⟨F4, ρ3, o2, ρ5, o5, w4, h5, fun σ6 F6 H6 s6 w6 => ⟨F6, ((s2.trans gr.sub).trans x4.sub).trans s6, w6⟩⟩
  · have e : i = ds.length := by omega
    subst e
    rw [List.drop_length] at hl
    simp only [wFor] at hl
    cases hl
    exact .inl ⟨ok2 rfl, q σ2 F2 H2 (x1.sub.trans s2) w2⟩
end
end Z
/-! the statements of a machine's __init__. -/
namespace Z
open PySem PySem.Spec PyProof.Rows L2

inductive Fi where | mv | en | pt
def Fi.nm : Fi → Str
  | .mv => "moves" | .en => "ends" | .pt => "paths"
def Fi.at (A : Adr) : Fi → Addr
  | .mv => A.bm | .en => A.be | .pt => A.bp
def Fi.of (o : Wo) : Fi → List D
  | .mv => o.mv | .en => o.en | .pt => o.pt
def Fi.put (o : Wo) (ds : List D) : Fi → Wo
  | .mv => { o with mv := ds } | .en => { o with en := ds } | .pt => { o with pt := ds }
structure ClOk (K : PySem.W.Frag) (C : Addr) : Prop where
  c : Cls K C
  n : ∀ f : Fi, NoAttr K C f.nm
section
variable {K : PySem.W.Frag} {mg : Mg} {P : Program} {w : World} {A : Adr} {F0 H0 F H F' H' : Hp} {σ σ' : St} {ρ ρ' : Rho} {o : Wo}
theorem W.fld (h : W K mg P w A F0 H0 F H σ ρ o) (f : Fi) : ∃ vs, H (f.at A) = some (.lst vs) ∧ RepL K mg F (f.of o) vs := by
  cases f
  · exact h.hm
  · exact h.he
  · exact h.hp
theorem W.putF (h : W K mg P w A F0 H0 F H σ ρ o) (f : Fi) {vs : List V} {ds : List D} (rl : RepL K mg F ds vs) : W K mg P w A F0 H0 F (upd H (f.at A) (.lst vs)) σ ρ (f.put o ds) := by
  cases f
  · exact h.putM rl
  · exact h.putE rl
  · exact h.putP rl
theorem rd_self (h : W K mg P w A F0 H0 F H σ ρ o) (c : ClOk K A.C) (f : Fi) {Q : VK} (q : Q (.ref (f.at A)) H) : tFld K (tVar 0) f.nm σ H Q :=
  ⟨_, h.s0, A.x, A.C, A.dx, mFs A, _, rfl, h.hx, c.c, c.n f, by cases f <;> rfl, q⟩
theorem W.setD (h : W K mg P w A F0 H0 F H σ ρ o) {i : Nat} {d : D} {v : V} (e : putD i d ρ = some ρ') (p : Rep K mg F d v) (n0 : i ≠ 0) (n4 : i ≠ 4) : W K mg P w A F0 H0 F H (σ.set i (some v)) ρ' o := by
  obtain ⟨r2, x2⟩ := h.r.putD e p
  exact h.ext x2 r2 (List.getElem?_set_ne n0) (List.getElem?_set_ne n4)
/-- a slot's list is written -/
theorem W.own (h : W K mg P w A F0 H0 F H σ ρ o) {i : Nat} {ds : List D} (e : ownL ρ i = some ds) : ∃ a vs, σ[i]? = some (some (.ref a)) ∧ H a = some (.lst vs) ∧ RepL K mg F ds vs ∧ ∀ es ws, RepL K mg F es ws → W K mg P w A F0 H0 F (upd H a (.lst ws)) σ (putL ρ i es) o := by
  obtain ⟨a, vs, e1, e2, rl, go⟩ := h.r.ownL e
  refine ⟨a, vs, e1, e2, rl, fun es ws rw' => ?_⟩
  obtain ⟨r2, x2⟩ := go es ws rw'
  exact h.ext x2 r2 rfl rfl
end
section
variable {X : Cx} {A : Adr} {F0 H0 : Hp} {e tg : Expr} {pos : Pos}
def wAsg (m : ME) (g : MG) : MW := fun ρ o => match m ρ with
  | some (d, ρ1) => match g d ρ1 with
    | some ρ2 => some (ρ2, o)
    | none => none
  | none => none
theorem pw_asg {sl : List Nat} {m : ME} {g : MG} (he : SE X e m) (hg : SG X sl tg g) (h0 : 0 ∉ sl) (h4 : 4 ∉ sl) (hs : swapsWithSole [tg] e pos.line X.env = pure false := by rfl) (hw : swappedStores [tg] e X.env = pure none := by rfl) (h1 : (assignEach [tg] X.env).map (·.2) = [assign tg X.env] := by rfl) :
    PW X A F0 H0 (.Assign [tg] e pos) (wAsg m g) := ps_mk fun D σ H ⟨F, ρ, o, ρ', o', w, hm, q⟩ => by
  refine ⟨_, L2.ps_asg he hg hs hw h1, ?_⟩
  unfold wAsg at hm
  split at hm <;> try cases hm
  rename_i d ρ1 h1
  split at hm <;> cases hm
  rename_i h2
  exact ⟨[], F, ρ, d, ρ1, w.r, h1, fun v F1 H1 x1 r1 p1 => ⟨[], F1, ρ1, d, _, r1, p1, h2, fun σ2 F2 H2 x2 r2 oe => q σ2 F2 H2 (x1.sub.trans x2.sub) ((w.ext x1 r1 rfl rfl).ext x2 r2 (oe.2 0 h0) (oe.2 4 h4))⟩⟩
def wSet (i : Nat) (m : MV) : MW := fun ρ o => match m ρ with
  | some (n, ρ1) => match putV i n ρ1 with
    | some ρ2 => some (ρ2, o)
    | none => none
  | none => none
theorem pw_set (i : Nat) {x : Str} {pos' : Pos} {m : MV} (hN : X.N.Nodup) (h : SV X e m) (n0 : i ≠ 0 := by decide) (n4 : i ≠ 4 := by decide) (hi : X.N[i]? = some x := by rfl) (hx : Loc X.env.scope x := by first | exact Or.inl rfl | exact Or.inr rfl) (hs : swapsWith e (some (.Name x pos')) pos.line X.env = pure false := by rfl) (hf : X.fn x = true ∨ X.env.scope.names.lookup x = some .local := by first | exact .inl rfl | exact .inr rfl) :
    PW X A F0 H0 (.Assign [.Name x pos'] e pos) (wSet i m) := ps_mk fun D σ H ⟨F, ρ, o, ρ', o', w, hm, q⟩ => by
  refine ⟨_, L2.ps_set hN hi hx h hs hf, ?_⟩
  unfold wSet at hm
  split at hm <;> try cases hm
  rename_i n ρ1 h1
  split at hm <;> cases hm
  rename_i h2
  refine ⟨[], F, ρ, n, ρ1, w.r, h1, fun v F1 H1 x1 r1 p1 hn => ?_⟩
  obtain ⟨r2, x2⟩ := R.putV x1 r1 h2 p1 hn
  exact q _ F1 H1 x2.sub (w.ext x2 r2 (List.getElem?_set_ne n0) (List.getElem?_set_ne n4))
/-- x = len(self.f) -/
def wLen (i : Nat) (f : Fi) : MW := fun ρ o => match putD i (.int (f.of o).length) ρ with
  | some ρ1 => some (ρ1, o)
  | none => none
theorem pe_lenF {fp p1 p2 p3 : Pos} {sf : Str} {f : Fi} (hl : Gl X "len") (hm0 : X.mg "len" = none) (hN0 : X.N[0]? = some sf) (hv : Vis X.env.scope sf) (hd : (sf == ("__debug__" : Str)) = false) (hcd : (sf == ("__classdict__" : Str)) = false)
    (hb : attributeBase (.Name sf p1) f.nm X.env (eval (.Name sf p1) X.env) = eval (.Name sf p1) X.env) (he : starEach [.Attribute (.Name sf p1) f.nm p2] X.env = (false, eval (.Attribute (.Name sf p1) f.nm p2) X.env) :: starEach [] X.env) (hpl : (backTo p3 (starEach [] X.env)).any (·.1) = false) :
    PE X (.Call (.Name "len" fp) [.Attribute (.Name sf p1) f.nm p2] [] p3) (tCB (fun xs H Q => ∃ p ys, xs = [.ref p] ∧ (SqL X.K H p ys ∨ SqT X.K H p ys) ∧ Q (.int ys.length) H) (tCons (tFld X.K (tVar 0) f.nm) tNil)) :=
  pe_callB call_len_seq hl hm0 PySem.boot_len (pa_cons (pe_fld (pe_var hN0 hv hd hcd) hb) pa_nil he) (by decide) (by decide) he hpl
theorem pw_len (i : Nat) (f : Fi) {x sf : Str} {pos' fp p1 p2 p3 : Pos} (c : ClOk X.K A.C) (hN : X.N.Nodup) (hm0 : X.mg "len" = none) (n0 : i ≠ 0 := by decide) (n4 : i ≠ 4 := by decide) (hi : X.N[i]? = some x := by rfl) (hx : Loc X.env.scope x := by first | exact Or.inl rfl | exact Or.inr rfl)
    (hs : swapsWith (.Call (.Name "len" fp) [.Attribute (.Name sf p1) f.nm p2] [] p3) (some (.Name x pos')) pos.line X.env = pure false := by rfl) (hf : X.fn x = true ∨ X.env.scope.names.lookup x = some .local := by first | exact .inl rfl | exact .inr rfl)
    (hl : Gl X "len" := by rfl) (hN0 : X.N[0]? = some sf := by rfl) (hv : Vis X.env.scope sf := by first | exact Or.inl rfl | exact Or.inr (Or.inl rfl) | exact Or.inr (Or.inr rfl)) (hd : (sf == ("__debug__" : Str)) = false := by decide) (hcd : (sf == ("__classdict__" : Str)) = false := by decide)
    (hb : attributeBase (.Name sf p1) f.nm X.env (eval (.Name sf p1) X.env) = eval (.Name sf p1) X.env := by rfl) (he : starEach [.Attribute (.Name sf p1) f.nm p2] X.env = (false, eval (.Attribute (.Name sf p1) f.nm p2) X.env) :: starEach [] X.env := by rfl) (hpl : (backTo p3 (starEach [] X.env)).any (·.1) = false := by rfl) :
    PW X A F0 H0 (.Assign [.Name x pos'] (.Call (.Name "len" fp) [.Attribute (.Name sf p1) f.nm p2] [] p3) pos) (wLen i f) := ps_mk fun D σ H ⟨F, ρ, o, ρ', o', w, hm, q⟩ => by
  refine ⟨_, L2.ps_set hN hi hx (pe_lenF hl hm0 hN0 hv hd hcd hb he hpl) hs hf, ?_⟩
  unfold wLen at hm
  split at hm <;> cases hm
  rename_i h2
  obtain ⟨vs, e, rl⟩ := w.fld f
  refine rd_self w c f ⟨_, vs, rfl, .inl (SqL.of e), ?_⟩
  exact q _ F H (Same.refl F) (w.setD h2 (by simp only [Rep]; rw [rl.len]) n0 n4)
/-- len(self.f) < len(x) -/
def wLt (f : Fi) (i : Nat) : Rho → Wo → Option Bool := fun ρ o => match ownL ρ i with
  | some ds => some (decide (((f.of o).length : Int) < (ds.length : Int)))
  | none => none
theorem pw_lt (f : Fi) (i : Nat) {x sf : Str} {fp p1 p2 p3 gp p4 p5 : Pos} (c : ClOk X.K A.C) (hm0 : X.mg "len" = none) (hi : X.N[i]? = some x := by rfl) (hvx : Vis X.env.scope x := by first | exact Or.inl rfl | exact Or.inr (Or.inl rfl) | exact Or.inr (Or.inr rfl)) (hdx : (x == ("__debug__" : Str)) = false := by decide) (hcdx : (x == ("__classdict__" : Str)) = false := by decide)
    (hl : Gl X "len" := by rfl) (hN0 : X.N[0]? = some sf := by rfl) (hv : Vis X.env.scope sf := by first | exact Or.inl rfl | exact Or.inr (Or.inl rfl) | exact Or.inr (Or.inr rfl)) (hd : (sf == ("__debug__" : Str)) = false := by decide) (hcd : (sf == ("__classdict__" : Str)) = false := by decide)
    (hb : attributeBase (.Name sf p1) f.nm X.env (eval (.Name sf p1) X.env) = eval (.Name sf p1) X.env := by rfl) (he : starEach [.Attribute (.Name sf p1) f.nm p2] X.env = (false, eval (.Attribute (.Name sf p1) f.nm p2) X.env) :: starEach [] X.env := by rfl) (hpl : (backTo p3 (starEach [] X.env)).any (·.1) = false := by rfl)
    (he2 : starEach [.Name x p4] X.env = (false, eval (.Name x p4) X.env) :: starEach [] X.env := by rfl) (hpl2 : (backTo p5 (starEach [] X.env)).any (·.1) = false := by rfl) :
    PWT X A F0 H0 (.Compare (.Call (.Name "len" fp) [.Attribute (.Name sf p1) f.nm p2] [] p3) [.Lt] [.Call (.Name "len" gp) [.Name x p4] [] p5] pos) (wLt f i) := pt_mk fun σ H Q ⟨F, ρ, o, b, w, hm, q⟩ => by
  refine ⟨_, pt_cmpR op_lt (pe_lenF hl hm0 hN0 hv hd hcd hb he hpl) (pe_callB call_len_seq hl hm0 PySem.boot_len (pa_cons (pe_var hi hvx hdx hcdx) pa_nil he2) (by decide) (by decide) he2 hpl2) (nomark _), ?_⟩
  unfold wLt at hm
  split at hm <;> cases hm
  rename_i ds hds
  obtain ⟨vs, e, rl⟩ := w.fld f
  obtain ⟨a, us, e1, e2, rl2, _⟩ := w.own hds
  refine rd_self w c f ⟨_, vs, rfl, .inl (SqL.of e), _, e1, _, us, rfl, .inl (SqL.of e2), _, _, rfl, rfl, _, rfl, ?_⟩
  rw [rl.len, rl2.len]
  exact q F H (Same.refl F) w
/-- x not in numbers -/
def wNot (i : Nat) : Rho → Wo → Option Bool := fun ρ o => match ρ[i]? with
  | some (.d d) => match keyOf d with
    | some k => some (!(atN o.nums k).isSome)
    | none => none
  | _ => none
theorem NumsAre.some_eq {xs : NumX} {ps : Nums} (h : NumsAre xs ps) (k : List K1) : (atKey xs k).isSome = (atN ps k).isSome := by
  rcases h.at (k := k) with ⟨a, b⟩ | ⟨i, p, t, a, b⟩ <;> rw [a, b] <;> rfl
theorem W.look {K : PySem.W.Frag} {mg : Mg} {P : Program} {w : World} {F H : Hp} {σ : St} {ρ : Rho} {o : Wo} (h : W K mg P w A F0 H0 F H σ ρ o) {xs : NumX} (e : H A.nd = some (DTO P w A.nd xs)) (kin : KeysIn K mg F xs) {d : D} {k : List K1} (hk : keyOf d = some k) {v : V} (p : Rep K mg F d v) : ∃ a, v = .ref a ∧ Look K mg P w H a A.nd k xs := by
  cases d <;> simp only [keyOf] at hk <;> try cases hk
  have p' := p
  simp only [Rep] at p'
  obtain ⟨a, vs, rfl, _⟩ := p'
  exact ⟨a, rfl, ⟨F, _, h.r.sub, p, hk, kin⟩, e, h.big⟩
theorem pw_not (i : Nat) {x nm : Str} {p1 p2 : Pos} (hu : X.A.units + 64 < cLine) (hi : X.N[i]? = some x := by rfl) (hvx : Vis X.env.scope x := by first | exact Or.inl rfl | exact Or.inr (Or.inl rfl) | exact Or.inr (Or.inr rfl)) (hdx : (x == ("__debug__" : Str)) = false := by decide) (hcdx : (x == ("__classdict__" : Str)) = false := by decide)
    (h4 : X.N[4]? = some nm := by rfl) (hv4 : Vis X.env.scope nm := by first | exact Or.inl rfl | exact Or.inr (Or.inl rfl) | exact Or.inr (Or.inr rfl)) (hd4 : (nm == ("__debug__" : Str)) = false := by decide) (hcd4 : (nm == ("__classdict__" : Str)) = false := by decide) (hm : behindInMarks .NotIn (.Name nm p2) = false := by first | exact nomark _ | rfl) :
    PWT X A F0 H0 (.Compare (.Name x p1) [.NotIn] [.Name nm p2] pos) (wNot i) := pt_mk fun σ H Q ⟨F, ρ, o, b, w, hm', q⟩ => by
  refine ⟨_, pt_cmpR (op_dnot hu) (pe_var hi hvx hdx hcdx) (pe_var h4 hv4 hd4 hcd4) hm, ?_⟩
  unfold wNot at hm'
  split at hm' <;> try cases hm'
  rename_i d hd
  split at hm' <;> cases hm'
  rename_i k hk
  obtain ⟨v, ev, p⟩ := w.r.dat i d hd
  obtain ⟨xs, e, kin, na⟩ := w.hd
  obtain ⟨a, rfl, L⟩ := w.look e kin hk p
  refine ⟨_, ev, _, w.s4, a, A.nd, k, xs, rfl, rfl, L, _, rfl, ?_⟩
  rw [na.some_eq]
  exact q F H (Same.refl F) w
/-- numbers[x] = len(y) -/
def wPut (i j : Nat) : MW := fun ρ o => match ρ[i]?, ownL ρ j with
  | some (.d d), some ds => match keyOf d with
    | some k => match atN o.nums k with
      | none => if o.nums.length < 100000 then some (ρ, { o with nums := o.nums ++ [(k, (ds.length : Int))] }) else none
      | some _ => none
    | none => none
  | _, _ => none
theorem pw_put (i j : Nat) {x y nm : Str} {p1 p2 p3 gp p4 p5 : Pos} (hu : X.A.units + 64 < cLine) (hm0 : X.mg "len" = none) (hi : X.N[i]? = some x := by rfl) (hvx : Vis X.env.scope x := by first | exact Or.inl rfl | exact Or.inr (Or.inl rfl) | exact Or.inr (Or.inr rfl)) (hdx : (x == ("__debug__" : Str)) = false := by decide) (hcdx : (x == ("__classdict__" : Str)) = false := by decide)
    (hj : X.N[j]? = some y := by rfl) (hvy : Vis X.env.scope y := by first | exact Or.inl rfl | exact Or.inr (Or.inl rfl) | exact Or.inr (Or.inr rfl)) (hdy : (y == ("__debug__" : Str)) = false := by decide) (hcdy : (y == ("__classdict__" : Str)) = false := by decide)
    (h4 : X.N[4]? = some nm := by rfl) (hv4 : Vis X.env.scope nm := by first | exact Or.inl rfl | exact Or.inr (Or.inl rfl) | exact Or.inr (Or.inr rfl)) (hd4 : (nm == ("__debug__" : Str)) = false := by decide) (hcd4 : (nm == ("__classdict__" : Str)) = false := by decide) (hl : Gl X "len" := by rfl)
    (he2 : starEach [.Name y p4] X.env = (false, eval (.Name y p4) X.env) :: starEach [] X.env := by rfl) (hpl2 : (backTo p5 (starEach [] X.env)).any (·.1) = false := by rfl)
    (ha : ∀ v, assign (.Subscript (.Name nm p1) (.Name x p2) p3) X.env v = (do
      let ov ← holding [v] (eval (.Name nm p1) X.env)
      let iv ← holding [v, ov] (eval (.Name x p2) X.env)
      standAt p3
      holding [v, ov, iv] (setItem ov iv v)
      release [v, ov, iv] []) := by intro _; rfl)
    (hs : swapsWithSole [.Subscript (.Name nm p1) (.Name x p2) p3] (.Call (.Name "len" gp) [.Name y p4] [] p5) pos.line X.env = pure false := by rfl) (hw : swappedStores [.Subscript (.Name nm p1) (.Name x p2) p3] (.Call (.Name "len" gp) [.Name y p4] [] p5) X.env = pure none := by rfl)
    (h1 : (assignEach [.Subscript (.Name nm p1) (.Name x p2) p3] X.env).map (·.2) = [assign (.Subscript (.Name nm p1) (.Name x p2) p3) X.env] := by rfl) :
    PW X A F0 H0 (.Assign [.Subscript (.Name nm p1) (.Name x p2) p3] (.Call (.Name "len" gp) [.Name y p4] [] p5) pos) (wPut i j) := ps_mk fun D σ H ⟨F, ρ, o, ρ', o', w, hm, q⟩ => by
  refine ⟨_, L2.ps_asg (pe_callB call_len_seq hl hm0 PySem.boot_len (pa_cons (pe_var hj hvy hdy hcdy) pa_nil he2) (by decide) (by decide) he2 hpl2) (L2.pg_sub (pe_var h4 hv4 hd4 hcd4) (pe_var hi hvx hdx hcdx) (ps_dset hu) ha) hs hw h1, ?_⟩
  unfold wPut at hm
  split at hm <;> try cases hm
  rename_i d ds hd hds
  split at hm <;> try cases hm
  rename_i k hk
  split at hm <;> try cases hm
  rename_i hn
  split at hm <;> cases hm
  rename_i hlen
  obtain ⟨v, ev, p⟩ := w.r.dat i d hd
  obtain ⟨xs, e, kin, na⟩ := w.hd
  obtain ⟨a, rfl, L⟩ := w.look e kin hk p
  obtain ⟨b, us, e1, e2, rl2, _⟩ := w.own hds
  refine ⟨_, e1, _, us, rfl, .inl (SqL.of e2), _, w.s4, _, ev, a, A.nd, k, xs, rfl, rfl, L, by rw [na.len]; exact hlen, fun u ru => ?_⟩
  obtain ⟨t, rfl⟩ := ru
  have hnone : atKey xs k = none := by
    rcases na.at (k := k) with ⟨_, z⟩ | ⟨i, _, _, z, _⟩
    · exact z
    · rw [hn] at z; cases z
  rw [storedH_new hnone]
  refine q _ F _ (Same.refl F) (w.putN (ps := o.nums ++ [(k, (ds.length : Int))]) (fun y hy => ?_) (na.snoc rfl ⟨t, by rw [rl2.len]⟩))
  rcases List.mem_append.mp hy with hy | hy
  · exact kin y hy
  · rw [List.mem_singleton.mp hy]
    exact ⟨d, hk, p⟩
end
end Z
/-! more statements of a machine's __init__; the whole. -/
namespace Z
open PySem PySem.Spec PyProof.Rows L2
section
variable {X : Cx} {A : Adr} {F0 H0 : Hp} {e : Expr} {pos : Pos}
/-- x.append(e), x a name -/
def wApp (i : Nat) (m : ME) : MW := fun ρ o => match ownL ρ i with
  | some _ => match m ρ with
    | some (d, ρ1) => match ownL ρ1 i with
      | some ds => if ds.length < LIM then some (putL ρ1 i (ds ++ [d]), o) else none
      | none => none
    | none => none
  | none => none
theorem pw_app (i : Nat) {x : Str} {p apos cpos : Pos} {m : ME} (h : SE X e m) (hN : X.N[i]? = some x := by rfl) (hv : Vis X.env.scope x := by first | exact Or.inl rfl | exact Or.inr (Or.inl rfl) | exact Or.inr (Or.inr rfl)) (hd : (x == ("__debug__" : Str)) = false := by decide) (hcd : (x == ("__classdict__" : Str)) = false := by decide)
    (hs : swapsWith (.Call (.Attribute (.Name x p) "append" apos) [e] [] cpos) none pos.line X.env = pure false := by rfl)
    (hbase : attributeBase (.Name x p) "append" X.env (eval (.Name x p) X.env) = eval (.Name x p) X.env := by rfl)
    (hfew : ((backTo cpos (starEach [e] X.env)).all (fun x => !x.1) && (backToKw cpos (keywordEach [] X.env)).all (fun x => x.1.isSome)
      && decide (([e] : List Expr).length + ([] : List Keyword).length + (if ([] : List Keyword).isEmpty then 0 else 1) < 30)) = true := by rfl)
    (hline : (apos.endLine == cpos.line) = true := by rfl) (hs1 : starEach [e] X.env = (false, eval e X.env) :: starEach [] X.env := by rfl) (hplain : (backTo cpos (starEach [] X.env)).any (·.1) = false := by rfl) :
    PW X A F0 H0 (.Expr (.Call (.Attribute (.Name x p) "append" apos) [e] [] cpos) pos) (wApp i m) := ps_mk fun D σ H ⟨F, ρ, o, ρ', o', w, hm, q⟩ => by
  refine ⟨_, L2.ps_expr (pe_bm PySem.F.plainAttrs_list PySem.F.slot_list_append PySem.F.type_list_append mt_append (pe_var hN hv hd hcd) (pa_cons h pa_nil hs1) hbase hfew hline hs1 hplain) hs, ?_⟩
  unfold wApp at hm
  split at hm <;> try cases hm
  rename_i ds0 h0
  split at hm <;> try cases hm
  rename_i d ρ1 h1
  split at hm <;> try cases hm
  rename_i ds h2
  split at hm <;> cases hm
  rename_i hl
  obtain ⟨a, vs0, e0, hv0, _⟩ := w.own h0
  refine ⟨_, e0, .inl ⟨rfl, _, SqL.of hv0⟩, [], F, ρ, d, ρ1, w.r, h1, fun v F1 H1 x1 r1 p1 => ?_⟩
  obtain ⟨a', vs, e1, hv, rl, go⟩ := (w.ext x1 r1 rfl rfl).own h2
  rw [e0] at e1; cases e1
  exact ⟨a, vs, v, rfl, rfl, hv, by rw [rl.len]; exact Nat.lt_of_lt_of_le hl lim_line, q _ _ _ x1.sub (go (ds ++ [d]) (vs ++ [v]) (rl.append (.one p1)))⟩
/-- self.f.append(e) -/
def wFApp (f : Fi) (m : ME) : MW := fun ρ o => match m ρ with
  | some (d, ρ1) => if (f.of o).length < LIM then some (ρ1, f.put o (f.of o ++ [d])) else none
  | none => none
theorem pw_fapp (f : Fi) {sf : Str} {p1 p2 apos cpos : Pos} {m : ME} (c : ClOk X.K A.C) (h : SE X e m) (hN0 : X.N[0]? = some sf := by rfl) (hv : Vis X.env.scope sf := by first | exact Or.inl rfl | exact Or.inr (Or.inl rfl) | exact Or.inr (Or.inr rfl)) (hd : (sf == ("__debug__" : Str)) = false := by decide) (hcd : (sf == ("__classdict__" : Str)) = false := by decide)
    (hb : attributeBase (.Name sf p1) f.nm X.env (eval (.Name sf p1) X.env) = eval (.Name sf p1) X.env := by rfl)
    (hs : swapsWith (.Call (.Attribute (.Attribute (.Name sf p1) f.nm p2) "append" apos) [e] [] cpos) none pos.line X.env = pure false := by rfl)
    (hbase : attributeBase (.Attribute (.Name sf p1) f.nm p2) "append" X.env (eval (.Attribute (.Name sf p1) f.nm p2) X.env) = eval (.Attribute (.Name sf p1) f.nm p2) X.env := by rfl)
    (hfew : ((backTo cpos (starEach [e] X.env)).all (fun x => !x.1) && (backToKw cpos (keywordEach [] X.env)).all (fun x => x.1.isSome)
      && decide (([e] : List Expr).length + ([] : List Keyword).length + (if ([] : List Keyword).isEmpty then 0 else 1) < 30)) = true := by rfl)
    (hline : (apos.endLine == cpos.line) = true := by rfl) (hs1 : starEach [e] X.env = (false, eval e X.env) :: starEach [] X.env := by rfl) (hplain : (backTo cpos (starEach [] X.env)).any (·.1) = false := by rfl) :
    PW X A F0 H0 (.Expr (.Call (.Attribute (.Attribute (.Name sf p1) f.nm p2) "append" apos) [e] [] cpos) pos) (wFApp f m) := ps_mk fun D σ H ⟨F, ρ, o, ρ', o', w, hm, q⟩ => by
  refine ⟨_, L2.ps_expr (pe_bm PySem.F.plainAttrs_list PySem.F.slot_list_append PySem.F.type_list_append mt_append (pe_fld (pe_var hN0 hv hd hcd) hb) (pa_cons h pa_nil hs1) hbase hfew hline hs1 hplain) hs, ?_⟩
  unfold wFApp at hm
  split at hm <;> try cases hm
  rename_i d ρ1 h1
  split at hm <;> cases hm
  rename_i hl
  obtain ⟨vs0, hv0, _⟩ := w.fld f
  unfold tDrop tBM
  refine rd_self w c f ?_
  refine ⟨.inl ⟨rfl, _, SqL.of hv0⟩, [], F, ρ, d, _, w.r, h1, fun v F1 H1 x1 r1 p1 => ?_⟩
  have w1 := w.ext x1 r1 rfl rfl
  obtain ⟨vs, hv1, rl⟩ := w1.fld f
  exact ⟨_, vs, v, rfl, rfl, hv1, by rw [rl.len]; exact Nat.lt_of_lt_of_le hl lim_line, q _ _ _ x1.sub (w1.putF f (rl.append (.one p1)))⟩
/-- self.f.append((*self.f[x], y)) -/
def wPath (f : Fi) (i j : Nat) : MW := fun ρ o => match ρ[i]?, ρ[j]? with
  | some (.d (.int n)), some (.d s) => match atI (f.of o) n with
    | some (.tup ds) => if ds.length + 1 ≤ LIM ∧ (f.of o).length < LIM then some (ρ, f.put o (f.of o ++ [.tup (ds ++ [s])])) else none
    | _ => none
  | _, _ => none
theorem pw_path (f : Fi) (i j : Nat) {sf x y : Str} {p1 p2 p3 p4 p5 p6 p7 p8 p9 apos cpos : Pos} {tk : Nat} (c : ClOk X.K A.C) (hi : X.N[i]? = some x := by rfl) (hvx : Vis X.env.scope x := by first | exact Or.inl rfl | exact Or.inr (Or.inl rfl) | exact Or.inr (Or.inr rfl)) (hdx : (x == ("__debug__" : Str)) = false := by decide) (hcdx : (x == ("__classdict__" : Str)) = false := by decide)
    (hj : X.N[j]? = some y := by rfl) (hvy : Vis X.env.scope y := by first | exact Or.inl rfl | exact Or.inr (Or.inl rfl) | exact Or.inr (Or.inr rfl)) (hdy : (y == ("__debug__" : Str)) = false := by decide) (hcdy : (y == ("__classdict__" : Str)) = false := by decide)
    (hN0 : X.N[0]? = some sf := by rfl) (hv : Vis X.env.scope sf := by first | exact Or.inl rfl | exact Or.inr (Or.inl rfl) | exact Or.inr (Or.inr rfl)) (hd : (sf == ("__debug__" : Str)) = false := by decide) (hcd : (sf == ("__classdict__" : Str)) = false := by decide)
    (hb : attributeBase (.Name sf p1) f.nm X.env (eval (.Name sf p1) X.env) = eval (.Name sf p1) X.env := by rfl) (hb2 : attributeBase (.Name sf p3) f.nm X.env (eval (.Name sf p3) X.env) = eval (.Name sf p3) X.env := by rfl) (hpx : PlainIx (.Name x p5) := by intro _ _; rfl)
    (hst : starEach (.Starred (.Subscript (.Attribute (.Name sf p3) f.nm p4) (.Name x p5) p6) p7 :: [.Name y p8]) X.env = (true, eval (.Subscript (.Attribute (.Name sf p3) f.nm p4) (.Name x p5) p6) X.env) :: starEach [.Name y p8] X.env := by rfl) (hsy : starEach [.Name y p8] X.env = (false, eval (.Name y p8) X.env) :: starEach [] X.env := by rfl)
    (hs : swapsWith (.Call (.Attribute (.Attribute (.Name sf p1) f.nm p2) "append" apos) [.Tuple [.Starred (.Subscript (.Attribute (.Name sf p3) f.nm p4) (.Name x p5) p6) p7, .Name y p8] tk p9] [] cpos) none pos.line X.env = pure false := by rfl)
    (hbase : attributeBase (.Attribute (.Name sf p1) f.nm p2) "append" X.env (eval (.Attribute (.Name sf p1) f.nm p2) X.env) = eval (.Attribute (.Name sf p1) f.nm p2) X.env := by rfl)
    (hfew : ((backTo cpos (starEach [.Tuple [.Starred (.Subscript (.Attribute (.Name sf p3) f.nm p4) (.Name x p5) p6) p7, .Name y p8] tk p9] X.env)).all (fun x => !x.1) && (backToKw cpos (keywordEach [] X.env)).all (fun x => x.1.isSome)
      && decide (([.Tuple [.Starred (.Subscript (.Attribute (.Name sf p3) f.nm p4) (.Name x p5) p6) p7, .Name y p8] tk p9] : List Expr).length + ([] : List Keyword).length + (if ([] : List Keyword).isEmpty then 0 else 1) < 30)) = true := by rfl)
    (hline : (apos.endLine == cpos.line) = true := by rfl) (hs1 : starEach [.Tuple [.Starred (.Subscript (.Attribute (.Name sf p3) f.nm p4) (.Name x p5) p6) p7, .Name y p8] tk p9] X.env = (false, eval (.Tuple [.Starred (.Subscript (.Attribute (.Name sf p3) f.nm p4) (.Name x p5) p6) p7, .Name y p8] tk p9) X.env) :: starEach [] X.env := by rfl) (hplain : (backTo cpos (starEach [] X.env)).any (·.1) = false := by rfl) :
    PW X A F0 H0 (.Expr (.Call (.Attribute (.Attribute (.Name sf p1) f.nm p2) "append" apos) [.Tuple [.Starred (.Subscript (.Attribute (.Name sf p3) f.nm p4) (.Name x p5) p6) p7, .Name y p8] tk p9] [] cpos) pos) (wPath f i j) := ps_mk fun D σ H ⟨F, ρ, o, ρ', o', w, hm, q⟩ => by
  refine ⟨_, L2.ps_expr (pe_bm PySem.F.plainAttrs_list PySem.F.slot_list_append PySem.F.type_list_append mt_append (pe_fld (pe_var hN0 hv hd hcd) hb) (pa_cons (pe_tupX (StX.pa_star (pe_ix ix_list (pe_fld (pe_var hN0 hv hd hcd) hb2) (pe_var hi hvx hdx hcdx) hpx) (pa_cons (pe_var hj hvy hdy hcdy) pa_nil hsy) hst)) pa_nil hs1) hbase hfew hline hs1 hplain) hs, ?_⟩
  unfold wPath at hm
  split at hm <;> try cases hm
  rename_i n s hn hy
  split at hm <;> try cases hm
  rename_i ds hds
  split at hm <;> cases hm
  rename_i hl
  obtain ⟨vs0, hv0, rl0⟩ := w.fld f
  obtain ⟨vn, en, pn⟩ := w.r.dat i _ hn
  obtain ⟨vy, ey, py⟩ := w.r.dat j _ hy
  simp only [Rep] at pn
  subst pn
  obtain ⟨jx, yv, hyv, hxv, hiv⟩ := atI_len rl0.len hds fun j x e => let ⟨y, hy, _⟩ := rl0.get e; ⟨y, hy⟩
  obtain ⟨yv', hyv', ry⟩ := rl0.get hxv
  rw [hyv] at hyv'; cases hyv'
  have ry0 := ry
  simp only [Rep] at ry
  obtain ⟨a, us, rfl, ht, rlt⟩ := ry
  unfold tDrop tBM
  refine rd_self w c f ?_
  refine ⟨.inl ⟨rfl, _, SqL.of hv0⟩, ?_⟩
  unfold tCons tTupX StX.tStar tOp
  refine rd_self w c f ?_
  refine ⟨_, en, _, vs0, n, .ref a, rfl, rfl, SqL.of hv0, hiv, a, us, rfl, .inl (Same.tup w.r.sub ht.t), _, ey, ?_⟩
  refine ⟨by simp only [List.length_append, List.length_cons, List.length_nil]; rw [rlt.len]; exact Nat.le_trans hl.1 lim_line, fun p its hp => ?_⟩
  have g : Grow F H (upd F p (.frz (xT its) (.tup (us ++ [vy])))) (upd H p (.frz (xT its) (.tup (us ++ [vy])))) := .new w.r.sub hp
  have w1 := w.ext g.ext (w.r.grow g) rfl rfl
  obtain ⟨vs, hv1, rl⟩ := w1.fld f
  refine ⟨_, vs, .ref p, rfl, rfl, hv1, by rw [rl.len]; exact Nat.lt_of_lt_of_le hl.2 lim_line, q _ _ _ g.sub (w1.putF f (rl.append (.one ?_)))⟩
  simp only [Rep]
  exact ⟨p, us ++ [vy], rfl, .inl ⟨its, upd_same⟩, (rlt.append (.one py)).mono g.sub⟩
/-- x.append((numbers[y], e)) -/
def wMove (l i : Nat) (m : ME) : MW := fun ρ o => match ownL ρ l, ρ[i]? with
  | some _, some (.d d) => match keyOf d with
    | some k => match atN o.nums k with
      | some n => match m ρ with
        | some (x, ρ1) => match ownL ρ1 l with
          | some ms => if ms.length < LIM then some (putL ρ1 l (ms ++ [.tup [.int n, x]]), o) else none
          | none => none
        | none => none
      | none => none
    | none => none
  | _, _ => none
theorem pw_move (l i : Nat) {x y nm : Str} {p1 p2 p3 p4 p5 apos cpos : Pos} {tk : Nat} {m : ME} (hu : X.A.units + 64 < cLine) (h : SE X e m) (hl : X.N[l]? = some x := by rfl) (hvl : Vis X.env.scope x := by first | exact Or.inl rfl | exact Or.inr (Or.inl rfl) | exact Or.inr (Or.inr rfl)) (hdl : (x == ("__debug__" : Str)) = false := by decide) (hcdl : (x == ("__classdict__" : Str)) = false := by decide)
    (hi : X.N[i]? = some y := by rfl) (hvi : Vis X.env.scope y := by first | exact Or.inl rfl | exact Or.inr (Or.inl rfl) | exact Or.inr (Or.inr rfl)) (hdi : (y == ("__debug__" : Str)) = false := by decide) (hcdi : (y == ("__classdict__" : Str)) = false := by decide)
    (h4 : X.N[4]? = some nm := by rfl) (hv4 : Vis X.env.scope nm := by first | exact Or.inl rfl | exact Or.inr (Or.inl rfl) | exact Or.inr (Or.inr rfl)) (hd4 : (nm == ("__debug__" : Str)) = false := by decide) (hcd4 : (nm == ("__classdict__" : Str)) = false := by decide) (hns : NoSl (.Name y p3) := by intro _ _; rfl)
    (hsa : starEach [.Subscript (.Name nm p2) (.Name y p3) p4, e] X.env = (false, eval (.Subscript (.Name nm p2) (.Name y p3) p4) X.env) :: starEach [e] X.env := by rfl) (hsb : starEach [e] X.env = (false, eval e X.env) :: starEach [] X.env := by rfl)
    (hs : swapsWith (.Call (.Attribute (.Name x p1) "append" apos) [.Tuple [.Subscript (.Name nm p2) (.Name y p3) p4, e] tk p5] [] cpos) none pos.line X.env = pure false := by rfl)
    (hbase : attributeBase (.Name x p1) "append" X.env (eval (.Name x p1) X.env) = eval (.Name x p1) X.env := by rfl)
    (hfew : ((backTo cpos (starEach [.Tuple [.Subscript (.Name nm p2) (.Name y p3) p4, e] tk p5] X.env)).all (fun x => !x.1) && (backToKw cpos (keywordEach [] X.env)).all (fun x => x.1.isSome)
      && decide (([.Tuple [.Subscript (.Name nm p2) (.Name y p3) p4, e] tk p5] : List Expr).length + ([] : List Keyword).length + (if ([] : List Keyword).isEmpty then 0 else 1) < 30)) = true := by rfl)
    (hline : (apos.endLine == cpos.line) = true := by rfl) (hs1 : starEach [.Tuple [.Subscript (.Name nm p2) (.Name y p3) p4, e] tk p5] X.env = (false, eval (.Tuple [.Subscript (.Name nm p2) (.Name y p3) p4, e] tk p5) X.env) :: starEach [] X.env := by rfl) (hplain : (backTo cpos (starEach [] X.env)).any (·.1) = false := by rfl) :
    PW X A F0 H0 (.Expr (.Call (.Attribute (.Name x p1) "append" apos) [.Tuple [.Subscript (.Name nm p2) (.Name y p3) p4, e] tk p5] [] cpos) pos) (wMove l i m) := ps_mk fun D σ H ⟨F, ρ, o, ρ', o', w, hm, q⟩ => by
  refine ⟨_, L2.ps_expr (pe_bm PySem.F.plainAttrs_list PySem.F.slot_list_append PySem.F.type_list_append mt_append (pe_var hl hvl hdl hcdl) (pa_cons (pe_tupX (pa_cons (pe_dkGet hu (pe_var h4 hv4 hd4 hcd4) (pe_var hi hvi hdi hcdi) hns) (pa_cons h pa_nil hsb) hsa)) pa_nil hs1) hbase hfew hline hs1 hplain) hs, ?_⟩
  unfold wMove at hm
  split at hm <;> try cases hm
  rename_i ds0 d h0 hd
  split at hm <;> try cases hm
  rename_i k hk
  split at hm <;> try cases hm
  rename_i n hn
  split at hm <;> try cases hm
  rename_i xe ρ1 h1
  split at hm <;> try cases hm
  rename_i ms h2
  split at hm <;> cases hm
  rename_i hlen
  obtain ⟨a, vs0, e0, hv0, _⟩ := w.own h0
  obtain ⟨v, ev, p⟩ := w.r.dat i d hd
  obtain ⟨xs, ex, kin, na⟩ := w.hd
  obtain ⟨b, rfl, L⟩ := w.look ex kin hk p
  obtain ⟨pa, t, hat⟩ : ∃ p t, atKey xs k = some (p, .int n t) := by
    rcases na.at (k := k) with ⟨z, _⟩ | ⟨i, p, t, z, z2⟩
    · rw [hn] at z; cases z
    · rw [hn] at z; cases z; exact ⟨p, t, z2⟩
  refine ⟨_, e0, .inl ⟨rfl, _, SqL.of hv0⟩, ?_⟩
  refine ⟨_, w.s4, _, ev, b, A.nd, k, xs, pa, .int n t, .int n, rfl, rfl, L, hat, ⟨t, rfl⟩, [], F, ρ, xe, ρ1, w.r, h1, fun v2 F1 H1 x1 r1 p1 => ?_⟩
  refine ⟨(show (2 : Nat) ≤ sizeLine by decide), fun p its hp => ?_⟩
  have w1 := w.ext x1 r1 rfl rfl
  have g : Grow F1 H1 (upd F1 p (.frz (xT its) (.tup [.int n, v2]))) (upd H1 p (.frz (xT its) (.tup [.int n, v2]))) := .new w1.r.sub hp
  have w2 := w1.ext g.ext (w1.r.grow g) rfl rfl
  obtain ⟨a', vs, e1, hv, rl, go⟩ := w2.own h2
  rw [e0] at e1; cases e1
  refine ⟨_, vs, .ref p, rfl, rfl, hv, by rw [rl.len]; exact Nat.lt_of_lt_of_le hlen lim_line, q _ _ _ (x1.sub.trans g.sub) (go (ms ++ [.tup [.int n, xe]]) (vs ++ [.ref p]) (rl.append (.one ?_)))⟩
  simp only [Rep]
  exact ⟨p, [.int n, v2], rfl, .inl ⟨its, upd_same⟩, RepL.cons (by simp only [Rep]) (.one (p1.mono g.sub))⟩
end
end Z
/-! a machine made: the whole __init__, the call of the class. -/
namespace Z
open PySem PySem.Spec PyProof.Rows L2
def rho0 (k ch : D) : Rho := [.un, .d k, .d ch, .un, .un, .un, .un, .un, .un, .un]
def mFst : ME := mB ixD (mSl 3) (mVal (mC (.int 0)))
def isUn : Option Sl → Bool
  | some .un => true
  | _ => false
theorem of_isUn {o : Option Sl} (h : isUn o = true) : o = some .un := by
  unfold isUn at h
  split at h
  · rfl
  · cases h
def runInit (m1 : MN) (m : MW) (k ch : D) : Option Wo := match m1 (rho0 k ch) with
  | some (sts, ρ1) => match putN 3 sts ρ1 with
    | some ρ2 => match mFst ρ2 with
      | some (st, ρ3) => if isUn ρ3[4]? then match keyOf st with
        | some key => match m ρ3 ⟨[(key, 0)], [], [], [.tup []]⟩ with
          | some (_, o) => some o
          | none => none
        | none => none
        else none
      | none => none
    | none => none
  | none => none
def mNms : List Str := [("moves" : Str), ("ends" : Str), ("paths" : Str)]
def Wo.obj (cn : Str) (o : Wo) : D := .obj cn mNms [.lst o.mv, .lst o.en, .lst o.pt]
/-- what is left of the heap by a making at x, dx -/
structure Made (K : PySem.W.Frag) (mg : Mg) (cn : Str) (o : Wo) (x dx : Addr) (F H F' H' : Hp) : Prop where
  sub : Same F F'
  in_ : Same F' H'
  keep : ∀ a u, H a = some u → a ≠ x → a ≠ dx → H' a = some u ∧ F' a = F a
  stay : ∀ a, H' a = none → H a = none
  rep : Rep K mg F' (o.obj cn) (.ref x)
def tInit (K : PySem.W.Frag) (mg : Mg) (cn : Str) (m1 : MN) (m : MW) : TS := fun D σ H => ∃ x dx C F vk vc k ch o', σ = [some (.ref x), some vk, some vc, none, none, none, none, none, none, none] ∧ H x = some (.ins C dx []) ∧ H dx = some (.own x) ∧ dx ≠ x ∧ ClOk K C ∧ mg cn = some (.ref C) ∧
  Same F H ∧ F x = none ∧ F dx = none ∧ Rep K mg F k vk ∧ Rep K mg F ch vc ∧ runInit m1 m k ch = some o' ∧ ∀ σ' F' H', Made K mg cn o' x dx F H F' H' → D.nx σ' H'
section
variable {K : PySem.W.Frag} {mg : Mg} {P : Program} {w : World} {A : Adr} {F0 H0 F H : Hp} {σ : St} {ρ : Rho} {o : Wo}
/-- at the end all is frozen -/
theorem W.made (h : W K mg P w A F0 H0 F H σ ρ o) {cn : Str} (hc : mg cn = some (.ref A.C)) : ∃ F', Made K mg cn o A.x A.dx F0 H0 F' H := by
  have ds := h.dist
  simp only [Adr.all, List.nodup_cons, List.mem_cons, List.not_mem_nil, or_false, not_or] at ds
  obtain ⟨vm, em, rm⟩ := h.hm
  obtain ⟨ve, ee, re⟩ := h.he
  obtain ⟨vp, ep, rp⟩ := h.hp
  let S := [A.x, A.dx, A.bm, A.be, A.bp]
  let F' : Hp := fun a => if a ∈ S then H a else F a
  have hin : ∀ a ∈ S, a ∈ A.all := fun a ha => by
    simp only [S, List.mem_cons, List.not_mem_nil, or_false] at ha
    simp only [Adr.all, List.mem_cons, List.not_mem_nil, or_false]
    rcases ha with rfl | rfl | rfl | rfl | rfl <;> simp
  have s1 : Same F F' := fun a u e => by
    have : a ∉ S := fun z => by rw [h.nF a (hin a z)] at e; cases e
    show (if a ∈ S then H a else F a) = some u
    rw [if_neg this]; exact e
  have at' : ∀ a ∈ S, F' a = H a := fun a ha => if_pos ha
  refine ⟨F', ⟨h.sF.trans s1, fun a u e => ?_, fun a u e n1 n2 => ?_, h.st, ?_⟩⟩
  · by_cases z : a ∈ S
    · rw [at' a z] at e; exact e
    · have e : (if a ∈ S then H a else F a) = some u := e
      rw [if_neg z] at e
      exact h.r.sub _ _ e
  · obtain ⟨q1, q2⟩ := h.kp a u e n1 n2
    have : a ∉ S := fun z => by
      simp only [S, List.mem_cons, List.not_mem_nil, or_false] at z
      rcases z with z | z | z | z | z
      · exact n1 z
      · exact n2 z
      · rw [z, h.fr A.bm (by simp)] at e; cases e
      · rw [z, h.fr A.be (by simp)] at e; cases e
      · rw [z, h.fr A.bp (by simp)] at e; cases e
    refine ⟨q1, ?_⟩
    show (if a ∈ S then H a else F a) = F0 a
    rw [if_neg this]; exact q2
  · unfold Wo.obj
    simp only [Rep]
    refine ⟨A.x, A.C, A.dx, mFs A, rfl, by rw [at' _ (by simp [S])]; exact h.hx, by rw [at' _ (by simp [S])]; exact h.hdx, hc, rfl, ?_⟩
    show RepL K mg F' [.lst o.mv, .lst o.en, .lst o.pt] [.ref A.bm, .ref A.be, .ref A.bp]
    refine RepL.cons ?_ (RepL.cons ?_ (.one ?_))
    · simp only [Rep]
      exact ⟨A.bm, vm, rfl, by rw [at' _ (by simp [S])]; exact em, rm.mono s1⟩
    · simp only [Rep]
      exact ⟨A.be, ve, rfl, by rw [at' _ (by simp [S])]; exact ee, re.mono s1⟩
    · simp only [Rep]
      exact ⟨A.bp, vp, rfl, by rw [at' _ (by simp [S])]; exact ep, rp.mono s1⟩
end
section
variable {X : Cx} {cn s3 s4 sf : Str} {e1 : Expr} {m1 : MN} {m : MW} {stW : Stmt} {pa p1 pb pc pd pe pf pg p2 ph pi pj p3 ph2 pi2 pj2 p4 ph3 pi3 pj3 pk p5 : Pos} {n1 n2 n3 : Nat}
theorem pi_body (h1 : SN X e1 m1) (hN : X.N.Nodup) (hu : X.A.units + 64 < cLine) (hw : ∀ A F0 H0, ClOk X.K A.C → PW X A F0 H0 stW m)
    (hi3 : X.N[3]? = some s3 := by rfl) (hx3 : Loc X.env.scope s3 := by first | exact Or.inl rfl | exact Or.inr rfl) (hf3 : X.fn s3 = true ∨ X.env.scope.names.lookup s3 = some .local := by first | exact .inl rfl | exact .inr rfl)
    (hv3 : Vis X.env.scope s3 := by first | exact Or.inl rfl | exact Or.inr (Or.inl rfl) | exact Or.inr (Or.inr rfl)) (hd3 : (s3 == ("__debug__" : Str)) = false := by decide) (hcd3 : (s3 == ("__classdict__" : Str)) = false := by decide)
    (hi4 : X.N[4]? = some s4 := by rfl) (hx4 : Loc X.env.scope s4 := by first | exact Or.inl rfl | exact Or.inr rfl) (hf4 : X.fn s4 = true ∨ X.env.scope.names.lookup s4 = some .local := by first | exact .inl rfl | exact .inr rfl)
    (hN0 : X.N[0]? = some sf := by rfl) (hv : Vis X.env.scope sf := by first | exact Or.inl rfl | exact Or.inr (Or.inl rfl) | exact Or.inr (Or.inr rfl)) (hd : (sf == ("__debug__" : Str)) = false := by decide) (hcd : (sf == ("__classdict__" : Str)) = false := by decide)
    (hs1 : swapsWith e1 (some (.Name s3 pa)) p1.line X.env = pure false := by rfl)
    (hs2 : swapsWith (.Dict [some (.Subscript (.Name s3 pc) (.Constant (.int 0) n1 pd) pe)] [.Constant (.int 0) n2 pf] pg) (some (.Name s4 pb)) p2.line X.env = pure false := by rfl)
    (hs3 : swapsWith (.List [] pj) (some (.Attribute (.Name sf ph) "moves" pi)) p3.line X.env = pure false := by rfl)
    (hs4 : swapsWith (.List [] pj2) (some (.Attribute (.Name sf ph2) "ends" pi2)) p4.line X.env = pure false := by rfl)
    (hs5 : swapsWith (.List [.Tuple [] n3 pk] pj3) (some (.Attribute (.Name sf ph3) "paths" pi3)) p5.line X.env = pure false := by rfl)
    (hst : starEach [.Tuple [] n3 pk] X.env = (false, eval (.Tuple [] n3 pk) X.env) :: starEach [] X.env := by rfl) (hpx : PlainIx (.Constant (.int 0) n1 pd) := by intro _ _; rfl) :
    PSs X [.Assign [.Name s3 pa] e1 p1, .Assign [.Name s4 pb] (.Dict [some (.Subscript (.Name s3 pc) (.Constant (.int 0) n1 pd) pe)] [.Constant (.int 0) n2 pf] pg) p2, .Assign [.Attribute (.Name sf ph) "moves" pi] (.List [] pj) p3, .Assign [.Attribute (.Name sf ph2) "ends" pi2] (.List [] pj2) p4, .Assign [.Attribute (.Name sf ph3) "paths" pi3] (.List [.Tuple [] n3 pk] pj3) p5, stW]
      (tInit X.K X.mgx cn m1 m) := pss_mk fun D σ H ⟨x, dx, C, F, vk, vc, k, ch, o', es, hx, hdx, hne, cl, hmg, sF, fx, fdx, rk, rc, hrun, q⟩ => by
  unfold runInit at hrun
  split at hrun <;> try cases hrun
  rename_i sts ρ1 e1'
  split at hrun <;> try cases hrun
  rename_i ρ2 e2'
  split at hrun <;> try cases hrun
  rename_i st ρ3 e3'
  split at hrun <;> try cases hrun
  rename_i hun
  split at hrun <;> try cases hrun
  rename_i key hkey
  split at hrun <;> cases hrun
  rename_i ρ4 e4'
  subst es
  have nil : ∀ a, ¬ OwnA [some (.ref x), some vk, some vc, none, none, none, none, none, none, none] (rho0 k ch) a := fun a ⟨i, c, hi, _⟩ => by
    unfold cellAt rho0 at hi
    match i, hi with
    | 0, hi => cases hi
    | 1, hi => cases hi
    | 2, hi => cases hi
    | 3, hi => cases hi
    | 4, hi => cases hi
    | 5, hi => cases hi
    | 6, hi => cases hi
    | 7, hi => cases hi
    | 8, hi => cases hi
    | 9, hi => cases hi
    | i + 10, hi => simp at hi
  have r0 : R X.K X.mgx [] F H [some (.ref x), some vk, some vc, none, none, none, none, none, none, none] (rho0 k ch) := by
    refine ⟨rfl, sF, fun i d hi => ?_, fun i c hi => ?_, fun i j c c' a hi _ _ _ => ?_, fun p hp => (by cases hp)⟩
    · unfold rho0 at hi
      match i, hi with
      | 0, hi => cases hi
      | 1, hi => cases hi; exact ⟨vk, rfl, rk⟩
      | 2, hi => cases hi; exact ⟨vc, rfl, rc⟩
      | 3, hi => cases hi
      | 4, hi => cases hi
      | 5, hi => cases hi
      | 6, hi => cases hi
      | 7, hi => cases hi
      | 8, hi => cases hi
      | 9, hi => cases hi
      | i + 10, hi => simp at hi
    · unfold cellAt rho0 at hi
      match i, hi with
      | 0, hi => cases hi
      | 1, hi => cases hi
      | 2, hi => cases hi
      | 3, hi => cases hi
      | 4, hi => cases hi
      | 5, hi => cases hi
      | 6, hi => cases hi
      | 7, hi => cases hi
      | 8, hi => cases hi
      | 9, hi => cases hi
      | i + 10, hi => simp at hi
    · unfold cellAt rho0 at hi
      match i, hi with
      | 0, hi => cases hi
      | 1, hi => cases hi
      | 2, hi => cases hi
      | 3, hi => cases hi
      | 4, hi => cases hi
      | 5, hi => cases hi
      | 6, hi => cases hi
      | 7, hi => cases hi
      | 8, hi => cases hi
      | 9, hi => cases hi
      | i + 10, hi => simp at hi
  have hwx : PS X stW (fun D σ H => ∃ A F0 H0, ClOk X.K A.C ∧ tW X.K X.mgx X.prog X.w A F0 H0 m D σ H) := ps_mk fun D σ H ⟨A, F0, H0, c, h⟩ => ⟨_, hw A F0 H0 c, h⟩
  have hfst : SE X (.Subscript (.Name s3 pc) (.Constant (.int 0) n1 pd) pe) mFst := se_ix ix_all (so_sl 3 hi3 hv3 hd3 hcd3) (so_e se_int) hpx
  refine ⟨_, pss_cons (ps_set hN hi3 hx3 h1 hs1 hf3) (pss_cons (ps_set hN hi4 hx4 (pe_dk1 hu hfst pe_int) hs2 hf4) (pss_cons (ps_fld (pe_var hN0 hv hd hcd) (pe_lst pa_nil) hs3) (pss_cons (ps_fld (pe_var hN0 hv hd hcd) (pe_lst pa_nil) hs4) (pss_cons (ps_fld (pe_var hN0 hv hd hcd) (pe_lst (pa_cons (pe_tupX pa_nil) pa_nil hst)) hs5) (pss_one hwx))))), ?_⟩
  refine ⟨[], F, _, sts, ρ1, r0, e1', fun p vs F1 H1 x1 r1 hp hv' hf hn rl => ?_⟩
  obtain ⟨r2, o2⟩ := r1.putN e2' hv' hf hn rl
  have kx := x1.keep x _ hx (nil x)
  have kdx := x1.keep dx _ hdx (nil dx)
  refine fun nd hnd hbig => ?_
  have r3 : R X.K X.mgx [] F1 (upd H1 nd (DTO X.prog X.w nd [])) _ ρ2 := r2.addH hnd
  have nnd := r2.notOwn hnd
  refine ⟨[], F1, ρ2, st, ρ3, r3, e3', fun v F2 H2 x3 r4 p4 => ?_⟩
  have knd := x3.keep nd _ upd_same nnd
  have ndx : nd ≠ x := fun z => by rw [z, kx.1] at hnd; cases hnd
  have nddx : nd ≠ dx := fun z => by rw [z, kdx.1] at hnd; cases hnd
  obtain ⟨a, rfl⟩ : ∃ a, v = .ref a := by
    cases st <;> simp only [keyOf] at hkey <;> try cases hkey
    simp only [Rep] at p4
    obtain ⟨a, _, rfl, _⟩ := p4
    exact ⟨a, rfl⟩
  refine ⟨a, key, rfl, ⟨⟨F2, st, r4.sub, p4, hkey, fun x hx => (by cases hx)⟩, knd.1, hbig⟩, fun u ru => ?_⟩
  obtain ⟨t, rfl⟩ := ru
  -- who owns: nothing of the start
  have own1 : ∀ b, OwnA _ ρ3 b → H b = none := fun b hb => by
    rcases x3.own b hb with z | z
    · rcases o2 b z with z | z
      · rcases x1.own b z with z | z
        · exact absurd z (nil b)
        · exact z
      · rw [z]; exact hp
    · by_cases e : b = nd
      · rw [e, upd_same] at z; cases z
      · rw [upd_ne e] at z; exact x1.stay b z
  have st2 : ∀ b, H2 b = none → H b = none := fun b hb => by
    have z := x3.stay b hb
    by_cases e : b = nd
    · rw [e, upd_same] at z; cases z
    · rw [upd_ne e] at z; exact x1.stay b z
  have own2 : ∀ q o, H q = some o → ¬ OwnA _ ρ3 q := fun q o hq w => by rw [own1 q w] at hq; cases hq
  have kp2 : ∀ b o, H b = some o → H2 b = some o ∧ F2 b = F b := fun b o hb => by
    have q1 := x1.keep b o hb (nil b)
    have nb : b ≠ nd := fun z => by rw [z, hnd] at q1; cases q1.1
    have nw : ¬ OwnA _ ρ2 b := fun w => by
      rcases o2 b w with z | z
      · rcases x1.own b z with z | z
        · exact nil b z
        · rw [z] at hb; cases hb
      · rw [z, hp] at hb; cases hb
    have q2 := x3.keep b o (by rw [upd_ne nb]; exact q1.1) nw
    exact ⟨q2.1, q2.2.trans q1.2⟩
  have fnd : F2 nd = none := by rw [knd.2]; exact r2.freeF hnd
  have nnd3 : ¬ OwnA _ ρ3 nd := fun w => by
    rcases x3.own nd w with z | z
    · exact nnd z
    · rw [upd_same] at z; cases z
  have hnd0 : H nd = none := x1.stay nd hnd
  obtain ⟨r5, o5⟩ := (r4.poke (o := DTO X.prog X.w nd [(key, a, .int 0 t)]) fnd nnd3).setU (i := 4) (v := .ref nd) (of_isUn hun)
  have hx2 := kp2 x _ hx
  have hdx2 := kp2 dx _ hdx
  have nx0 := fun w => own2 x _ hx (o5 x w)
  have ndx0 := fun w => own2 dx _ hdx (o5 dx w)
  have nnd0 := fun w => nnd3 (o5 nd w)
  have s0 : ((([some (.ref x), some vk, some vc, none, none, none, none, none, none, none] : St).set 3 (some (.ref p))).set 4 (some (.ref nd)))[0]? = some (some (.ref x)) := rfl
  have s4' : ((([some (.ref x), some vk, some vc, none, none, none, none, none, none, none] : St).set 3 (some (.ref p))).set 4 (some (.ref nd)))[4]? = some (some (.ref nd)) := rfl
  -- self.moves = []
  refine ⟨Nat.zero_le _, fun bm hbm => ?_⟩
  have b1 : bm ≠ nd := fun z => by rw [z, upd_same] at hbm; cases hbm
  have b2 : H2 bm = none := by rw [upd_ne b1] at hbm; exact hbm
  have b3 : bm ≠ x := fun z => by rw [z, hx2.1] at b2; cases b2
  have b4 : bm ≠ dx := fun z => by rw [z, hdx2.1] at b2; cases b2
  have nbm := r5.notOwn hbm
  have fbm := r5.freeF hbm
  have r6 := r5.addH (o := .lst []) hbm
  have r7 := r6.poke (o := .ins C dx [(("moves" : Str), .ref bm)]) (by rw [hx2.2]; exact fx) nx0
  refine ⟨_, s0, x, C, dx, [], rfl, by rw [upd_ne b3.symm, upd_ne ndx.symm]; exact hx2.1, cl.c, cl.n .mv, by decide, ?_⟩
  -- self.ends = []
  refine ⟨Nat.zero_le _, fun be hbe => ?_⟩
  have c0 : be ≠ x := fun z => by rw [z, upd_same] at hbe; cases hbe
  have c1 : be ≠ bm := fun z => by rw [upd_ne c0, z, upd_same] at hbe; cases hbe
  have c2 : be ≠ nd := fun z => by rw [upd_ne c0, upd_ne c1, z, upd_same] at hbe; cases hbe
  have c3 : H2 be = none := by rw [upd_ne c0, upd_ne c1, upd_ne c2] at hbe; exact hbe
  have c4 : be ≠ dx := fun z => by rw [z, hdx2.1] at c3; cases c3
  have nbe := r7.notOwn hbe
  have fbe := r7.freeF hbe
  have r8 := r7.addH (o := .lst []) hbe
  have r9 := r8.poke (o := .ins C dx [(("moves" : Str), .ref bm), (("ends" : Str), .ref be)]) (by rw [hx2.2]; exact fx) nx0
  refine ⟨_, s0, x, C, dx, [(("moves" : Str), .ref bm)], rfl, by rw [upd_ne c0.symm, upd_same]; rfl, cl.c, cl.n .en, (show (1 : Nat) < 1000 by decide), ?_⟩
  -- self.paths = [()]
  refine ⟨Nat.zero_le _, fun tp its htp => ?_⟩
  have d0 : tp ≠ x := fun z => by rw [z, upd_same] at htp; cases htp
  have d1 : tp ≠ be := fun z => by rw [upd_ne d0, z, upd_same] at htp; cases htp
  have d2 : tp ≠ bm := fun z => by rw [upd_ne d0, upd_ne d1, upd_ne d0, z, upd_same] at htp; cases htp
  have d3 : tp ≠ nd := fun z => by rw [upd_ne d0, upd_ne d1, upd_ne d0, upd_ne d2, z, upd_same] at htp; cases htp
  have d4 : H2 tp = none := by rw [upd_ne d0, upd_ne d1, upd_ne d0, upd_ne d2, upd_ne d3] at htp; exact htp
  have d5 : tp ≠ dx := fun z => by rw [z, hdx2.1] at d4; cases d4
  have g := Grow.new (o := .frz (xT its) (.tup [])) r9.sub htp
  have r10 := r9.grow g
  refine ⟨(show (1 : Nat) ≤ sizeLine by decide), fun bp hbp => ?_⟩
  have nbp := r10.notOwn hbp
  have fbp := r10.freeF hbp
  have r11 := r10.addH (o := .lst [.ref tp]) hbp
  have e0 : bp ≠ tp := fun z => by rw [z, upd_same] at hbp; cases hbp
  have e1 : bp ≠ x := fun z => by rw [upd_ne e0, z, upd_same] at hbp; cases hbp
  have e2 : bp ≠ be := fun z => by rw [upd_ne e0, upd_ne e1, z, upd_same] at hbp; cases hbp
  have e3 : bp ≠ bm := fun z => by rw [upd_ne e0, upd_ne e1, upd_ne e2, upd_ne e1, z, upd_same] at hbp; cases hbp
  have e4 : bp ≠ nd := fun z => by rw [upd_ne e0, upd_ne e1, upd_ne e2, upd_ne e1, upd_ne e3, z, upd_same] at hbp; cases hbp
  have e5 : H2 bp = none := by rw [upd_ne e0, upd_ne e1, upd_ne e2, upd_ne e1, upd_ne e3, upd_ne e4] at hbp; exact hbp
  have e6 : bp ≠ dx := fun z => by rw [z, hdx2.1] at e5; cases e5
  have fx3 : upd F2 tp (.frz (xT its) (.tup [])) x = none := by rw [upd_ne d0.symm, hx2.2]; exact fx
  have r12 := r11.poke (o := .ins C dx [(("moves" : Str), .ref bm), (("ends" : Str), .ref be), (("paths" : Str), .ref bp)]) fx3 nx0
  refine ⟨_, s0, x, C, dx, [(("moves" : Str), .ref bm), (("ends" : Str), .ref be)], rfl, by rw [upd_ne e1.symm, upd_ne d0.symm, upd_same]; rfl, cl.c, cl.n .pt, (show (2 : Nat) < 1000 by decide), ?_⟩
  have fdx3 : upd F2 tp (.frz (xT its) (.tup [])) dx = none := by rw [upd_ne d5.symm, hdx2.2]; exact fdx
  have fo : ∀ b, b ≠ tp → F2 b = none → upd F2 tp (.frz (xT its) (.tup [])) b = none := fun b n e => by rw [upd_ne n]; exact e
  have sub3 : Same F2 (upd F2 tp (.frz (xT its) (.tup []))) := g.sub
  have sub0 : Same F F2 := x1.sub.trans x3.sub
  refine ⟨⟨x, dx, nd, bm, be, bp, C⟩, F, H, cl, _, ρ3, ⟨[(key, 0)], [], [], [.tup []]⟩, ρ4, _, ⟨r12, s0, s4', upd_same, ?_, ⟨[], ?_, .nil⟩, ⟨[], ?_, .nil⟩, ⟨[.ref tp], ?_, .one ?_⟩, ⟨[(key, a, .int 0 t)], ?_, fun y hy => ?_, rfl, ⟨t, rfl⟩, trivial⟩, hbig, fun b hb => ?_, fun b hb w => ?_, ?_, sub0.trans sub3, fun b o hb n1 n2 => ?_, fun b hb => ?_, fun b w => own1 b (o5 b w), fun b hb => ?_⟩, e4', fun σ' F' H' _ w => ?_⟩
  · rw [upd_ne hne, upd_ne e6.symm, upd_ne d5.symm, upd_ne hne, upd_ne c4.symm, upd_ne hne, upd_ne b4.symm, upd_ne nddx.symm]; exact hdx2.1
  · rw [upd_ne b3, upd_ne e3.symm, upd_ne d2.symm, upd_ne b3, upd_ne c1.symm, upd_ne b3, upd_same]
  · rw [upd_ne c0, upd_ne e2.symm, upd_ne d1.symm, upd_ne c0, upd_same]
  · rw [upd_ne e1, upd_same]
  · simp only [Rep]
    exact ⟨tp, [], rfl, .inl ⟨its, upd_same⟩, .nil⟩
  · rw [upd_ne ndx, upd_ne e4.symm, upd_ne d3.symm, upd_ne ndx, upd_ne c2.symm, upd_ne ndx, upd_ne b1.symm, upd_same]
  · rw [List.mem_singleton.mp hy]
    exact ⟨st, hkey, p4.mono sub3⟩
  · simp only [Adr.all, List.mem_cons, List.not_mem_nil, or_false] at hb
    rcases hb with rfl | rfl | rfl | rfl | rfl | rfl
    · exact fx3
    · exact fdx3
    · exact fo _ d3.symm fnd
    · exact fo _ d2.symm fbm
    · exact fo _ d1.symm fbe
    · exact fbp
  · simp only [Adr.all, List.mem_cons, List.not_mem_nil, or_false] at hb
    rcases hb with rfl | rfl | rfl | rfl | rfl | rfl
    · exact nx0 w
    · exact ndx0 w
    · exact nnd0 w
    · exact nbm w
    · exact nbe w
    · exact nbp w
  · simp only [Adr.all, List.nodup_cons, List.mem_cons, List.not_mem_nil, or_false, not_or]
    exact ⟨⟨hne.symm, ndx.symm, b3.symm, c0.symm, e1.symm⟩, ⟨nddx.symm, b4.symm, c4.symm, e6.symm⟩, ⟨b1.symm, c2.symm, e4.symm⟩, ⟨c1.symm, e3.symm⟩, e2.symm, id, List.nodup_nil⟩
  · have q1 := kp2 b o hb
    have m1' : b ≠ nd := fun z => by rw [z, hnd0] at hb; cases hb
    have m2 : b ≠ bm := fun z => by rw [z, b2] at q1; cases q1.1
    have m3 : b ≠ be := fun z => by rw [z, c3] at q1; cases q1.1
    have m4 : b ≠ tp := fun z => by rw [z, d4] at q1; cases q1.1
    have m5 : b ≠ bp := fun z => by rw [z, e5] at q1; cases q1.1
    have n1 : b ≠ x := n1
    have n2 : b ≠ dx := n2
    refine ⟨?_, ?_⟩
    · rw [upd_ne n1, upd_ne m5, upd_ne m4, upd_ne n1, upd_ne m3, upd_ne n1, upd_ne m2, upd_ne m1']; exact q1.1
    · rw [upd_ne m4]; exact q1.2
  · simp only [List.mem_cons, List.not_mem_nil, or_false] at hb
    rcases hb with rfl | rfl | rfl | rfl
    · exact hnd0
    · exact st2 _ b2
    · exact st2 _ c3
    · exact st2 _ e5
  · by_cases y1 : b = x
    · rw [y1, upd_same] at hb; cases hb
    by_cases y2 : b = bp
    · rw [upd_ne y1, y2, upd_same] at hb; cases hb
    by_cases y3 : b = tp
    · rw [y3]; exact st2 _ d4
    by_cases y4 : b = be
    · rw [y4]; exact st2 _ c3
    by_cases y5 : b = bm
    · rw [y5]; exact st2 _ b2
    by_cases y6 : b = nd
    · rw [y6]; exact hnd0
    · rw [upd_ne y1, upd_ne y2, upd_ne y3, upd_ne y1, upd_ne y4, upd_ne y1, upd_ne y5, upd_ne y6] at hb
      exact st2 b hb
  · obtain ⟨F3, md⟩ := w.made hmg
    exact q σ' F3 H' md
end
end Z
/-! the call of a class whose __init__ makes a machine. -/
namespace Z
open PySem PySem.Spec PyProof.Rows L2
def spInit (K : PySem.W.Frag) (mg : Mg) (cn : Str) (C : Addr) (g : D → D → Option Wo) : Sp := fun vs H Q _ => ∃ x dx F vk vc k ch o', vs = [.ref x, vk, vc] ∧ H x = some (.ins C dx []) ∧ H dx = some (.own x) ∧ dx ≠ x ∧
  Same F H ∧ F x = none ∧ F dx = none ∧ Rep K mg F k vk ∧ Rep K mg F ch vc ∧ g k ch = some o' ∧ ∀ F' H', Made K mg cn o' x dx F H F' H' → Q .non H'
section
variable {P : Program} {w : World} {K : PySem.W.Frag} {mg : Str → Option Value} {base : Heap}
theorem fnInit {x qual cn : Str} {st : Stmt} {f C : Addr} {fd : FuncData} {N ps : List Str} {k : Nat} {m1 : MN} {m : MW} (Fn : Fun K x qual st f fd) (S : FnScope N ps (defScope st)) (hN : N.length = 10) (hps : ps.length = 3) (cl : ClOk K C) (hmg : mg cn = some (.ref C))
    (hbody : ∀ (cdv : Value) (A : Around) (outer : List Env) (s : Shared) (H : Hp) (E : XK), Room k (A.deeper (envOfC qual (defScope st) s.heap.objs.size f cdv)) →
      PSs (cxOf CX0 P w K mg base N qual (defScope st) f cdv A outer s H E).nox (defBody st) (tInit K ⟨mg, P, w⟩ cn m1 m)) : FnOk P w K mg base CX0 (k + 1) f fd ps (spInit K ⟨mg, P, w⟩ cn C (runInit m1 m)) := by
  refine Fn.ok S (fun vs H Q E h => ?_) fun cdv A outer s H vs Q E hr h => ?_
  · obtain ⟨x, dx, F, vk, vc, k, ch, o', rfl, _⟩ := h
    rw [hps]; rfl
  · obtain ⟨x, dx, F, vk, vc, k, ch, o', rfl, hx, hdx, hne, sF, fx, fdx, rk, rc, hg, q⟩ := h
    refine ⟨_, hbody cdv A outer s H E hr, x, dx, C, F, vk, vc, k, ch, o', ?_, hx, hdx, hne, cl, hmg, sF, fx, fdx, rk, rc, hg, fun σ' F' H' md => q F' H' md⟩
    unfold L2.start
    rw [hN]
    rfl
end
/-- a class as it is known to its makers -/
structure KnC (P : Program) (w : World) (K : PySem.W.Frag) (mg : Mg) (base : Heap) (k : Nat) (cn : Str) (g : D → D → Option Wo) : Prop where
  ex : ∃ (C f : Addr) (fd : FuncData) (ps : List Str), mg cn = some (.ref C) ∧ Mk K C f ∧ Binds K fd ps [] ∧ FnOk P w K mg base CX0 k f fd ps (spInit K mg cn C g)
theorem KnC.mono {P : Program} {w : World} {K : PySem.W.Frag} {mg : Mg} {base : Heap} {j k : Nat} {x : Str} {g : D → D → Option Wo} (c : KnC P w K mg base j x g) (h : j ≤ k) : KnC P w K mg base k x g :=
  let ⟨C, f, fd, ps, a, b, d, e⟩ := c.ex
  ⟨C, f, fd, ps, a, b, d, e.mono h⟩
abbrev KnC.of (X : Cx) (k : Nat) (x : Str) (g : D → D → Option Wo) : Prop := KnC X.prog X.w X.K X.mgx X.base k x g
def mMake (cn : Str) (g : D → D → Option Wo) (m : MA) : ME := fun ρ => match m ρ with
  | some (os, ρ1) => match toSls ρ1 os with
    | some [.d k, .d ch] => match g k ch with
      | some o => some (o.obj cn, ρ1)
      | none => none
    | _ => none
  | none => none
section
variable {X : Cx} {e : Expr} {es : List Expr} {p pos : Pos} {x : Str} {k j : Nat} {g : D → D → Option Wo} {m : MA}
theorem se_make (c : KnC.of X k x g) (hr : Room j X.A) (hk : k + 1 ≤ j) (ha : SA X (e :: es) m) (hg : Gl X x := by rfl) (hdb : (x == ("__debug__" : Str)) = false := by decide) (he : starEach (e :: es) X.env = (false, eval e X.env) :: starEach es X.env := by rfl) (hpl : (backTo pos (starEach es X.env)).any (·.1) = false := by rfl) :
    SE X (.Call (.Name x p) (e :: es) [] pos) (mMake x g m) := Z.pe_mk fun σ H Q ⟨io, F, ρ, d, ρ', r, hm, q⟩ => by
  obtain ⟨C, f, fd, ps, hmg, hM, hb, F0⟩ := c.ex
  refine ⟨_, pe_make hM F0 (hr.mono hk) hg hmg hb .nil pass0 ha hdb he hpl, ?_⟩
  unfold mMake at hm
  split at hm <;> try cases hm
  rename_i os ρ1 h1
  split at hm <;> try cases hm
  rename_i dk dc h2
  split at hm <;> cases hm
  rename_i o h3
  refine ⟨io, F, ρ, os, ρ', r, h1, fun vs F1 H1 x1 r1 p1 a b ha1 hb1 hab => ?_⟩
  obtain ⟨a1, _⟩ := r1.args p1 h2
  simp only [ArgsOk] at a1
  obtain ⟨v1, t1, rfl, q1, v2, t2, rfl, q2, rfl⟩ := a1
  have ne : ∀ c u, H1 c = some u → c ≠ a ∧ c ≠ b := fun c u e => ⟨(by rintro rfl; rw [ha1] at e; cases e), (by rintro rfl; rw [hb1] at e; cases e)⟩
  have s0 : ∀ c u, H1 c = some u → upd (upd H1 b (.own a)) a (.ins C b []) c = some u := fun c u e => by
    obtain ⟨n1, n2⟩ := ne c u e
    rw [upd_ne n1, upd_ne n2]; exact e
  refine ⟨a, b, F1, v1, v2, dk, dc, o, rfl, upd_same, by rw [upd_ne hab]; exact upd_same, hab, fun c u e => s0 c u (r1.sub _ _ e), r1.freeF ha1, r1.freeF hb1, q1, q2, h3, fun F' H' md => ⟨rfl, ?_⟩⟩
  have gr : Grow F1 H1 F' H' := ⟨md.sub, md.in_, fun c u e => md.keep c u (s0 c u e) (ne c u e).1 (ne c u e).2⟩
  exact q _ F' H' (x1.trans gr.ext) (r1.grow gr) md.rep
end
end Z
/-! enumerate, gcd, {i: a, j: b}. -/
namespace Z
open PySem PySem.Spec PyProof.Rows L2

/-! ### enumerate(list) -/
def enumD (n : Nat) : List D → List D
  | [] => []
  | d :: ds => .prs [.int n, d] :: enumD (n + 1) ds
theorem enumD_get : ∀ {ds : List D} {n i : Nat} {d : D}, (enumD n ds)[i]? = some d → ∃ x, ds[i]? = some x ∧ d = .prs [.int ((n + i : Nat) : Int), x]
  | [], n, i, d, h => by simp [enumD] at h
  | x :: ds, n, 0, d, h => by
    simp only [enumD, List.getElem?_cons_zero, Option.some.injEq] at h
    exact ⟨x, rfl, h.symm⟩
  | x :: ds, n, i + 1, d, h => by
    simp only [enumD, List.getElem?_cons_succ] at h
    obtain ⟨y, h1, h2⟩ := enumD_get h
    refine ⟨y, by simpa using h1, ?_⟩
    rw [h2, show n + 1 + i = n + (i + 1) by omega]
theorem enumD_len : ∀ (ds : List D) (n : Nat), (enumD n ds).length = ds.length
  | [], _ => rfl
  | _ :: ds, n => by simp only [enumD, List.length_cons, enumD_len ds (n + 1)]
section
variable {K : PySem.W.Frag} {mg : Mg} {F : Hp} {a : Addr} {us : List V} {xs : List D}
theorem it_enum (h1 : SqL K F a us) (r1 : RepL K mg F xs us) : ItOk K mg F (Ite K a) (enumD 0 xs) := fun i F1 H1 s1 s2 => by
  have q1 : SqL K H1 a us := s2.seq (s1.seq h1)
  refine ⟨fun d hd => ?_, fun e => ⟨us, q1, ?_⟩⟩
  · obtain ⟨x, hx, rfl⟩ := enumD_get hd
    obtain ⟨u, hu, pu⟩ := r1.get hx
    refine ⟨⟨us, u, q1, hu⟩, fun z H2 w => ?_⟩
    obtain ⟨T, u', rfl, hT, rfl, f1⟩ := w
    have e1 := f1 us q1
    rw [hu] at e1; cases e1
    refine ⟨_, .new s2 hT, ?_⟩
    simp only [Rep]
    have g := Grow.new (o := .tup [.int (i : Nat), u]) s2 hT
    refine ⟨T, [.int (i : Nat), u], rfl, SqT.of upd_same, .cons ?_ (.cons ((pu.mono s1).mono g.sub) .nil)⟩
    simp only [Rep]
    rw [Nat.zero_add]
  · rw [enumD_len] at e
    rw [r1.len]
    omega
end
def mIE (m : MA) : MI := fun ρ => match m ρ with
  | some (os, ρ') => match valL os with
    | some [.lst xs] => some (enumD 0 xs, ρ')
    | _ => none
  | none => none
section
variable {X : Cx} {pos : Pos}
theorem si_enum {e : Expr} {p tpos : Pos} {elts : List Expr} {kk : Nat} {m : MA} (ha : SA X [e] m) (hm : X.mg "enumerate" = none) (hg : Gl X "enumerate" := by rfl) (hs : starEach [e] X.env = [(false, eval e X.env)] := by rfl) :
    SI X (.Tuple elts kk tpos) (.Call (.Name "enumerate" p) [e] [] pos) (mIE m) := pi_mk fun σ H Q ⟨io, F, ρ, ds, ρ', r, hm', q⟩ => by
  refine ⟨_, pi_enum hg hm ha hs, ?_⟩
  unfold mIE at hm'
  split at hm' <;> try cases hm'
  rename_i os ρ1 h1
  split at hm' <;> cases hm'
  rename_i xs h2
  refine ⟨io, F, ρ, os, _, r, h1, fun vs F1 H1 x1 r1 p1 => ?_⟩
  have rl := p1.vals h2
  simp only [RepL] at rl
  obtain ⟨v, t, rfl, pv, rfl⟩ := rl
  simp only [Rep] at pv
  obtain ⟨a, us, rfl, ha, ra⟩ := pv
  exact ⟨a, us, rfl, SqL.of (r1.sub _ _ ha), q _ F1 H1 x1 r1 (it_enum (SqL.of ha) ra)⟩
/-! ### math.gcd -/
def mGcd (m : MA) : ME := fun ρ => match m ρ with
  | some (os, ρ') => match valL os with
    | some [.int i, .int j] => some (.int (Nat.gcd i.natAbs j.natAbs : Nat), ρ')
    | _ => none
  | none => none
theorem se_gcd {e : Expr} {es : List Expr} {p : Pos} {m : MA} (ha : SA X (e :: es) m) (hm : X.mg "gcd" = some (.builtin "math.gcd")) (hg : Gl X "gcd" := by rfl)
    (he : starEach (e :: es) X.env = (false, eval e X.env) :: starEach es X.env := by rfl) (hpl : (backTo pos (starEach es X.env)).any (·.1) = false := by rfl) : SE X (.Call (.Name "gcd" p) (e :: es) [] pos) (mGcd m) := Z.pe_mk fun σ H Q ⟨io, F, ρ, d, ρ', r, hm', q⟩ => by
  refine ⟨_, pe_callBfun cr_gcd hg hm ha (by decide) he hpl, ?_⟩
  unfold mGcd at hm'
  split at hm' <;> try cases hm'
  rename_i os ρ1 h1
  split at hm' <;> cases hm'
  rename_i i j h2
  refine ⟨io, F, ρ, os, _, r, h1, fun vs F1 H1 x1 r1 p1 => ?_⟩
  have rl := p1.vals h2
  simp only [RepL] at rl
  obtain ⟨v, t, rfl, pv, w, t', rfl, pw, rfl⟩ := rl
  simp only [Rep] at pv pw
  subst pv pw
  exact ⟨i, j, rfl, q _ F1 H1 x1 r1 (by simp only [Rep])⟩
/-! ### {i: a, j: b}, d[i] -/
theorem R.frzO {K : PySem.W.Frag} {mg : Mg} {io : List (Nat × Addr)} {F H : Hp} {σ : St} {ρ : Rho} {p : Addr} {u : HO} (r : R K mg io F H σ ρ) (hp : H p = some u) (hf : F p = none) (hn : ¬ OwnA σ ρ p) : R K mg io (upd F p u) H σ ρ ∧ Same F (upd F p u) := by
  have sF : Same F (upd F p u) := fun b o e => by
    have : b ≠ p := by rintro rfl; rw [hf] at e; cases e
    rw [upd_ne this]; exact e
  refine ⟨⟨r.len, fun b o e => ?_, fun i d h => ?_, fun i c h => ?_, r.inj, r.ios⟩, sF⟩
  · by_cases z : b = p
    · subst z; rw [upd_same] at e; cases e; exact hp
    · rw [upd_ne z] at e; exact r.sub _ _ e
  · obtain ⟨v, e, q⟩ := r.dat i d h
    exact ⟨v, e, q.mono sF⟩
  · obtain ⟨a, e, f, q⟩ := r.cel i c h
    have : a ≠ p := by rintro rfl; exact hn ⟨i, c, h, e⟩
    refine ⟨a, e, by rw [upd_ne this]; exact f, ?_⟩
    exact q.move (fun _ e => e) sF
/-! #### a display whose keys are written: from the left -/
def mAllE : List ME → Rho → Option (List D × Rho)
  | [], ρ => some ([], ρ)
  | m :: ms, ρ => match m ρ with
    | some (d, ρ1) => match mAllE ms ρ1 with
      | some (ds, ρ2) => some (d :: ds, ρ2)
      | none => none
    | none => none
def mDicN (ks : List Key) (ms : List ME) : ME := fun ρ => match mAllE ms ρ with
  | some (ds, ρ') => some (.dic ks ds, ρ')
  | none => none
/-- the pairs' trees -/
structure SPr (X : Cx) (pos : Pos) (keys : List (Option Expr)) (values : List Expr) (ks : List Key) (ms : List ME) (trs : List (TE × TE)) : Prop where
  pps : PPs X pos keys values trs
  len : keys.length = ks.length
  read : ∀ (io : List (Nat × Addr)) (F H : Hp) (σ : St) (ρ : Rho) (ds : List D) (ρ' : Rho) (Q : List (V × V) → Hp → Prop), R X.K X.mgx io F H σ ρ → mAllE ms ρ = some (ds, ρ') →
    (∀ (vs : List V) F' H', Ext F H σ ρ F' H' σ ρ' → R X.K X.mgx io F' H' σ ρ' → RepL X.K X.mgx F' ds vs → vs.length = ks.length → Q ((ks.map kV).zip vs) H') → tPairs trs σ H Q
theorem spr_nil : SPr X pos [] [] [] [] [] := ⟨pps_nil, rfl, fun io F H σ ρ ds ρ' Q r hm q => by
  simp only [mAllE] at hm
  cases hm
  simp only [tPairs]
  exact q [] F H .refl r .nil rfl⟩
theorem spr_cons {k v : Expr} {keys : List (Option Expr)} {values : List Expr} {kk : Key} {ks : List Key} {m : ME} {ms : List ME} {trs : List (TE × TE)} (hk : PE X k (tC (kV kk))) (hv : SE X v m) (h : SPr X pos keys values ks ms trs) :
    SPr X pos (some k :: keys) (v :: values) (kk :: ks) (m :: ms) ((tC (kV kk), tE X.K X.mgx m) :: trs) := ⟨pps_cons hk hv h.pps, by rw [List.length_cons, List.length_cons, h.len], fun io F H σ ρ ds ρ' Q r hm q => by
  simp only [mAllE] at hm
  split at hm <;> try cases hm
  rename_i d ρ1 h1
  split at hm <;> cases hm
  rename_i ds h2
  simp only [tPairs]
  refine ⟨io, F, ρ, d, ρ1, r, h1, fun v F1 H1 x1 r1 p1 => h.read io F1 H1 σ ρ1 ds ρ' _ r1 h2 fun vs F2 H2 x2 r2 rl hl => ?_⟩
  exact q (v :: vs) F2 H2 (x1.trans x2) r2 (.cons (p1.mono x2.sub) rl) (by rw [List.length_cons, List.length_cons, hl])⟩
theorem merge_nd : ∀ (ps acc : List (Key × V)), ((acc ++ ps).map (·.1)).Nodup → mergeK acc ps = acc ++ ps
  | [], acc, _ => by simp [mergeK]
  | p :: ps, acc, h => by
    have hn : valV acc p.1 = none := by
      cases z : valV acc p.1 with
      | none => rfl
      | some v =>
        have hin : p.1 ∈ acc.map (·.1) := by
          simp only [valV, Option.map_eq_some_iff] at z
          obtain ⟨q, hq, _⟩ := z
          have := List.find?_some hq
          exact List.mem_map.mpr ⟨q, List.mem_of_find?_eq_some hq, by simpa using this⟩
        rw [List.map_append, List.nodup_append] at h
        exact absurd rfl (h.2.2 _ hin _ (by rw [List.map_cons]; exact List.mem_cons_self))
    have e : mergeK acc (p :: ps) = mergeK (acc ++ [p]) ps := by
      show List.foldl _ (putK acc p.1 p.2) ps = _
      rw [putK_new p.2 hn]
      rfl
    rw [e, merge_nd ps (acc ++ [p]) (by rw [List.append_assoc]; exact h), List.append_assoc]
    rfl
/-- a thing made first, filled in later, then frozen -/
theorem R.frzNew {K : PySem.W.Frag} {mg : Mg} {io : List (Nat × Addr)} {F H F2 H2 : Hp} {σ : St} {ρ ρ2 : Rho} {p : Addr} {o0 : HO} (r : R K mg io F H σ ρ) (hp : H p = none) (x : Ext F (upd H p o0) σ ρ F2 H2 σ ρ2) (r2 : R K mg io F2 H2 σ ρ2) :
    H2 p = some o0 ∧ F2 p = none ∧ ¬ OwnA σ ρ2 p ∧ ∀ o, Same F2 (upd F2 p o) ∧ R K mg io (upd F2 p o) (upd H2 p o) σ ρ2 ∧ Ext F H σ ρ (upd F2 p o) (upd H2 p o) σ ρ2 := by
  have n0 := r.notOwn hp
  have k1 := x.keep p _ upd_same n0
  have n2 : ¬ OwnA σ ρ2 p := fun w => by
    rcases x.own p w with z | z
    · exact n0 z
    · rw [upd_same] at z; cases z
  have f2 : F2 p = none := by rw [k1.2]; exact r.freeF hp
  refine ⟨k1.1, f2, n2, fun o => ?_⟩
  obtain ⟨r4, s4⟩ := (r2.poke (o := o) f2 n2).frzO upd_same f2 n2
  refine ⟨s4, r4, x.sub.trans s4, fun a u ha na => ?_, fun a w => ?_, fun a ha => ?_⟩
  · have np : a ≠ p := ne_of_none ha hp
    obtain ⟨g1, g2⟩ := x.keep a u (by rw [upd_ne np]; exact ha) na
    exact ⟨by rw [upd_ne np]; exact g1, by rw [upd_ne np, g2]⟩
  · have np : a ≠ p := by rintro rfl; exact n2 w
    rcases x.own a w with z | z
    · exact .inl z
    · rw [upd_ne np] at z; exact .inr z
  · have np : a ≠ p := by rintro rfl; rw [upd_same] at ha; cases ha
    rw [upd_ne np] at ha
    have := x.stay a ha
    rw [upd_ne np] at this; exact this
theorem zip_fst {α β : Type} : ∀ (a : List α) (b : List β), a.length = b.length → (a.zip b).map (·.1) = a
  | [], _, _ => by simp
  | x :: a, [], h => by simp at h
  | x :: a, y :: b, h => by simp only [List.zip_cons_cons, List.map_cons]; rw [zip_fst a b (by simpa using h)]
theorem zip_snd {α β : Type} : ∀ (a : List α) (b : List β), a.length = b.length → (a.zip b).map (·.2) = b
  | [], [], _ => rfl
  | [], y :: b, h => by simp at h
  | x :: a, [], h => by simp at h
  | x :: a, y :: b, h => by simp only [List.zip_cons_cons, List.map_cons]; rw [zip_snd a b (by simpa using h)]
theorem zip_kv : ∀ (ks : List Key) (vs : List V), (ks.map kV).zip vs = (ks.zip vs).map (fun kv => (kV kv.1, kv.2))
  | [], _ => by simp
  | k :: ks, [] => by simp
  | k :: ks, v :: vs => by simp only [List.map_cons, List.zip_cons_cons]; rw [zip_kv ks vs]
theorem se_dicN {keys : List (Option Expr)} {values : List Expr} {ks : List Key} {ms : List ME} {trs : List (TE × TE)} (h : SPr X pos keys values ks ms trs) (hall : keys.all (·.isSome) = true := by rfl) (hl : keys.length = values.length := by rfl)
    (hne : keys ≠ [] := by simp) (hfew : keys.length ≤ 15 := by decide) (hnd : ks.Nodup := by decide) : SE X (.Dict keys values pos) (mDicN ks ms) := Z.pe_mk fun σ H Q ⟨io, F, ρ, d, ρ', r, hm, q⟩ => by
  refine ⟨_, pe_ghE (pe_disp h.pps hall hl hne hfew), ?_⟩
  unfold mDicN at hm
  split at hm <;> cases hm
  rename_i ds h1
  refine fun p hp => h.read io F _ σ ρ ds _ _ (r.addH hp) h1 fun vs F2 H2 x2 r2 rl hlen => ?_
  obtain ⟨a1, a2, a3, a4⟩ := r.frzNew hp x2 r2
  have hmg : mergeK [] (ks.zip vs) = ks.zip vs := by
    rw [merge_nd _ [] (by rw [List.nil_append, zip_fst _ _ hlen.symm]; exact hnd), List.nil_append]
  refine ⟨a1, ks.zip vs, zip_kv ks vs, by rw [List.length_zip, hlen, ← h.len]; omega, p, _, upd_same, True.intro, fun od => ?_⟩
  rw [hmg, upd_upd]
  obtain ⟨s4, r4, x4⟩ := a4 (.frz od (.dK (ks.zip vs)))
  refine q _ _ _ x4 r4 ?_
  simp only [Rep]
  exact ⟨p, od, _, rfl, upd_same, zip_fst _ _ hlen.symm, by rw [zip_snd _ _ hlen.symm]; exact rl.mono s4⟩
/-- a key of a dict with whole numbers and texts -/
def keyD : D → Option Key
  | .int i => some (.inl i)
  | .str x => some (.inr x)
  | _ => none
theorem keyD_v {K : PySem.W.Frag} {mg : Mg} {F : Hp} {d : D} {v : V} {k : Key} (r : Rep K mg F d v) (h : keyD d = some k) : v = kV k := by
  cases d <;> simp only [keyD] at h <;> cases h <;> (simp only [Rep] at r; exact r)
/-- what stands at a key -/
def lookD {κ : Type} [DecidableEq κ] : List κ → List D → κ → Option D
  | k :: ks, d :: ds, i => if k = i then some d else lookD ks ds i
  | _, _, _ => none
theorem look_at {κ : Type} [DecidableEq κ] {K : PySem.W.Frag} {mg : Mg} {F : Hp} {i : κ} : ∀ {ks : List κ} {ds : List D} {kvs : List (κ × V)}, kvs.map (·.1) = ks → RepL K mg F ds (kvs.map (·.2)) →
    (∀ d, lookD ks ds i = some d → ∃ v, valV kvs i = some v ∧ Rep K mg F d v) ∧ (lookD ks ds i = none → valV kvs i = none)
  | _, ds, [], rfl, _ => ⟨fun d h => by simp [lookD] at h, fun _ => rfl⟩
  | _, ds, p :: kvs, rfl, r => by
    cases ds with
    | nil =>
      simp only [List.map_cons, RepL] at r
      cases r
    | cons x ds =>
      simp only [List.map_cons, RepL] at r
      obtain ⟨v, t, e', q, rt⟩ := r
      simp only [List.cons.injEq] at e'
      obtain ⟨rfl, rfl⟩ := e'
      obtain ⟨g1, g2⟩ := look_at (i := i) rfl rt
      simp only [List.map_cons, lookD]
      by_cases c : p.1 = i
      · rw [if_pos c, valV_pos c]
        exact ⟨fun d h => ⟨p.2, rfl, by cases h; exact q⟩, fun h => by cases h⟩
      · rw [if_neg c, valV_neg c]
        exact ⟨g1, g2⟩
def mDGet (m n : ME) : ME := fun ρ => match m ρ with
  | some (.dic ks ds, ρ1) => match n ρ1 with
    | some (x, ρ2) => match keyD x with
      | some k => match lookD ks ds k with
        | some d => some (d, ρ2)
        | none => none
      | none => none
    | none => none
  | _ => none
theorem se_dget {o i : Expr} {m n : ME} (hu : X.A.units + 64 < cLine) (ho : SE X o m) (hi : SE X i n) (hs : NoSl i := by intro _ _; rfl) : SE X (.Subscript o i pos) (mDGet m n) := Z.pe_mk fun σ H Q ⟨io, F, ρ, d, ρ', r, hm, q⟩ => by
  refine ⟨_, pe_dget (by omega) ho hi hs, ?_⟩
  unfold mDGet at hm
  split at hm <;> try cases hm
  rename_i ks ds ρ1 e1
  split at hm <;> try cases hm
  rename_i x ρ2 e2
  split at hm <;> try cases hm
  rename_i k e4
  split at hm <;> cases hm
  rename_i e3
  refine ⟨io, F, ρ, _, ρ1, r, e1, fun v F1 H1 x1 r1 p1 => ⟨io, F1, ρ1, _, ρ', r1, e2, fun u F2 H2 x2 r2 p2 => ?_⟩⟩
  have hu' := keyD_v p2 e4
  simp only [Rep] at p1
  subst hu'
  obtain ⟨a, od, kvs, rfl, ha, hk, rl⟩ := p1
  obtain ⟨z, hz, rz⟩ := (look_at hk rl).1 _ e3
  exact ⟨a, z, rfl, .inl ⟨kvs, k, .inr ⟨od, r2.sub _ _ (x2.sub _ _ ha)⟩, rfl, hz.symm⟩, q _ F2 H2 (x1.trans x2) r2 (rz.mono x2.sub)⟩
end
end Z
/-! Calls whose last arguments are left to whole-number defaults. -/
namespace Z
open PySem PySem.Spec PyProof.Rows L2
structure KnD (P : Program) (w : World) (K : PySem.W.Frag) (mg : Str → Option Value) (base : Heap) (k : Nat) (x : Str) (g : Gf) (dd : List Int) : Prop where
  ex : ∃ (f : Addr) (fd : FuncData) (ps : List Str) (ds : List Value), mg x = some (.ref f) ∧ PySem.W.keepIn K (.ref f) = true ∧ Binds K fd ps ds ∧ Vals (dd.map V.int) ds ∧ FnOk P w K mg base CX0 k f fd ps (spD K ⟨mg, P, w⟩ g)
def mDf (dd : List Int) (m : MA) : MA := fun ρ => match m ρ with
  | some (os, ρ') => some (os ++ dd.map (fun i => Od.val (.int i)), ρ')
  | none => none
theorem RepOs.app2 {K : PySem.W.Frag} {mg : Mg} {F : Hp} {σ : St} : ∀ {os ps : List Od} {vs ws : List V}, RepOs K mg F σ os vs → RepOs K mg F σ ps ws → RepOs K mg F σ (os ++ ps) (vs ++ ws)
  | [], _, _, _, h, h' => by simp only [RepOs] at h; subst h; exact h'
  | o :: os, _, _, _, h, h' => by
    simp only [RepOs] at h
    obtain ⟨v, r, rfl, q, t⟩ := h
    simp only [List.cons_append, RepOs]
    exact ⟨v, _, rfl, q, RepOs.app2 t h'⟩
theorem RepOs.ints {K : PySem.W.Frag} {mg : Mg} {F : Hp} {σ : St} : ∀ dd : List Int, RepOs K mg F σ (dd.map (fun i => Od.val (.int i))) (dd.map V.int)
  | [] => by simp only [List.map_nil, RepOs]
  | i :: dd => by
    simp only [List.map_cons, RepOs]
    exact ⟨_, _, rfl, (by show Rep K mg F (.int i) _; simp only [Rep]), RepOs.ints dd⟩
section
variable {X : Cx} {e : Expr} {es : List Expr} {p pos : Pos} {x : Str} {k j : Nat} {g : Gf} {m : MA}
theorem se_callD {dd : List Int} (c : KnD X.prog X.w X.K X.mgx X.base k x g dd) (hr : Room j X.A) (hk : k ≤ j) (ha : SA X (e :: es) m) (hg : Gl X x := by rfl) (hdb : (x == ("__debug__" : Str)) = false := by decide) (he : starEach (e :: es) X.env = (false, eval e X.env) :: starEach es X.env := by rfl) (hpl : (backTo pos (starEach es X.env)).any (·.1) = false := by rfl) :
    SE X (.Call (.Name x p) (e :: es) [] pos) (mCall g (mDf dd m)) := Z.pe_mk fun σ H Q ⟨io, F, ρ, d, ρ', r, hm, q⟩ => by
  obtain ⟨f, fd, ps, ds, hmg, hkp, hb, hv, F0⟩ := c.ex
  refine ⟨_, pe_call F0 (hr.mono hk) hg hmg hkp hb hv pass0 ha hdb he hpl, ?_⟩
  obtain ⟨os, ρ1, h1⟩ : ∃ os ρ1, m ρ = some (os, ρ1) := by
    unfold mCall mDf at hm
    cases z : m ρ with
    | none => rw [z] at hm; cases hm
    | some y => exact ⟨y.1, y.2, rfl⟩
  refine ⟨io, F, ρ, os, ρ1, r, h1, fun vs F1 H1 x1 r1 p1 => ?_⟩
  show spD X.K X.mgx g (vs ++ dd.map V.int) H1 Q E0
  exact call_post (m := mDf dd m) (os := os ++ dd.map (fun i => Od.val (.int i))) x1 r1 (RepOs.app2 p1 (RepOs.ints dd)) (by unfold mDf; rw [h1]) hm q _
end
section
variable {P : Program} {w : World} {K : PySem.W.Frag} {mg : Str → Option Value} {base : Heap}
/-- a def with defaults, as Fun sees it -/
theorem fnDD {x qual : Str} {st : Stmt} {f : Addr} {fd : FuncData} {N ps : List Str} {k : Nat} {m : MS} {dvs : List V} {kws : List (Str × V)} (Fn : FunD K x qual (defArgs st) (defBody st) (defScope st) dvs kws f fd) (S : FnScope N ps (defScope st))
    (hbody : ∀ (cdv : Value) (A : Around) (outer : List Env) (s : Shared) (H : Hp) (E : XK), Room k (A.deeper (envOfC qual (defScope st) s.heap.objs.size f cdv)) →
      SB (cxOf CX0 P w K mg base N qual (defScope st) f cdv A outer s H E).nox (defBody st) m) : FnOk P w K mg base CX0 (k + 1) f fd ps (spD K ⟨mg, P, w⟩ (runD ps.length (N.length - ps.length) m)) := 
  Fn.ok S (fun _ _ _ _ h => runD_len h) fun cdv A outer s H _ _ E hr h => ⟨_, (hbody cdv A outer s H E hr).nox, body_rd h⟩
end
end Z
/-! Dicts whose keys are whole numbers and texts: made, read, written, walked. -/
namespace Z
open PySem PySem.Spec PyProof.Rows L2

/-! ### a new dict in a slot -/
def mNewDic (i : Nat) : MS := fun ρ => match ρ[i]? with
  | some s => if notIo s then some (.nx, ρ.set i (.own (.dic [] []))) else none
  | none => none
theorem R.newC {K : PySem.W.Frag} {mg : Mg} {io : List (Nat × Addr)} {F H : Hp} {σ : St} {ρ : Rho} {i : Nat} {s : Sl} {p : Addr} {o : HO} {c : Cell} (r : R K mg io F H σ ρ) (hs : ρ[i]? = some s) (hn : notIo s = true) (hp : H p = none) (hc : CellOk K mg F (upd H p o) p c) :
    R K mg io F (upd H p o) (σ.set i (some (.ref p))) (ρ.set i (.own c)) ∧ Ext F H σ ρ F (upd H p o) (σ.set i (some (.ref p))) (ρ.set i (.own c)) := by
  have r1 := r.addH (o := o) hp
  obtain ⟨r2, x2⟩ := r1.setC hs (notIo_ne hn) (r.freeF hp) (r.notOwn hp) hc
  refine ⟨r2, Same.refl _, fun a u ha _ => ⟨by rw [upd_ne (ne_of_none ha hp)]; exact ha, rfl⟩, fun a w => ?_, fun a ha => ?_⟩
  · rcases x2 a w with w | rfl
    · exact .inl w
    · exact .inr hp
  · by_cases z : a = p
    · subst z; exact hp
    · rw [upd_ne z] at ha; exact ha
section
variable {X : Cx} {e i' : Expr} {es : List Expr} {pos : Pos}
theorem ss_newDic (i : Nat) {x : Str} {dpos pos' : Pos} (hN : X.N.Nodup) (hi : X.N[i]? = some x := by rfl) (hx : Loc X.env.scope x := by first | exact Or.inl rfl | exact Or.inr rfl) (hf : X.fn x = true ∨ X.env.scope.names.lookup x = some .local := by first | exact .inl rfl | exact .inr rfl)
    (hs : swapsWith (.Dict [] [] dpos) (some (.Name x pos')) pos.line X.env = pure false := by rfl) : SS X (.Assign [.Name x pos'] (.Dict [] [] dpos) pos) (mNewDic i) := ps_mk fun D σ H ⟨io, F, ρ, fl, ρ', r, hm, q⟩ => by
  refine ⟨_, L2.ps_set hN hi hx pe_dnewK hs hf, ?_⟩
  unfold mNewDic at hm
  split at hm <;> try cases hm
  rename_i s h1
  split at hm <;> cases hm
  rename_i h2
  refine fun p hp => ?_
  obtain ⟨r2, x2⟩ := r.newC (o := .dK []) (c := .dic [] []) h1 h2 hp ⟨[], upd_same, rfl, .nil⟩
  exact q _ _ _ x2 r2
end

/-! ### what an operand holds -/
def resD (ρ : Rho) : Od → Option (List Key × List D)
  | .val (.dic ks ds) => some (ks, ds)
  | .sl i => match ρ[i]? with
    | some (.d (.dic ks ds)) => some (ks, ds)
    | some (.own (.dic ks ds)) => some (ks, ds)
    | some (.io (.dic ks ds)) => some (ks, ds)
    | _ => none
  | _ => none
theorem R.resD {K : PySem.W.Frag} {mg : Mg} {io : List (Nat × Addr)} {F H : Hp} {σ : St} {ρ : Rho} {v : V} (r : R K mg io F H σ ρ) {o : Od} {ks : List Key} {ds : List D} (h : RepO K mg F σ o v) (hd : Z.resD ρ o = some (ks, ds)) : ∃ a kvs, v = .ref a ∧ Rd H a (.dK kvs) ∧ kvs.map (·.1) = ks ∧ RepL K mg F ds (kvs.map (·.2)) := by
  have fr : ∀ {w : V}, Rep K mg F (.dic ks ds) w → ∃ a kvs, w = .ref a ∧ Rd H a (.dK kvs) ∧ kvs.map (·.1) = ks ∧ RepL K mg F ds (kvs.map (·.2)) := fun {w} p => by
    simp only [Rep] at p
    obtain ⟨a, od, kvs, e, q, n, rl⟩ := p
    exact ⟨a, kvs, e, .inr ⟨od, r.sub _ _ q⟩, n, rl⟩
  have ce : ∀ i, cellAt ρ i = some (.dic ks ds) → σ[i]? = some (some v) → ∃ a kvs, v = .ref a ∧ Rd H a (.dK kvs) ∧ kvs.map (·.1) = ks ∧ RepL K mg F ds (kvs.map (·.2)) := fun i hc hv => by
    obtain ⟨a, e, f, kvs, q, n, rl⟩ := r.cel i _ hc
    rw [hv] at e; cases e
    exact ⟨a, kvs, rfl, .inl q, n, rl⟩
  cases o with
  | val x =>
    cases x <;> simp only [Z.resD] at hd <;> try cases hd
    exact fr h
  | sl i =>
    have h : σ[i]? = some (some v) := h
    simp only [Z.resD] at hd
    split at hd <;> try cases hd
    · rename_i hx
      obtain ⟨w, e, p⟩ := r.dat i _ hx
      rw [h] at e; cases e
      exact fr p
    · rename_i hx
      exact ce i (by unfold cellAt; rw [hx]; rfl) h
    · rename_i hx
      exact ce i (by unfold cellAt; rw [hx]; rfl) h
section
variable {X : Cx} {e f o i : Expr} {es : List Expr} {pos apos cpos : Pos}
/-! ### d[k] -/
def mDGetO (mo : MO) (mk : ME) : ME := fun ρ => match mo ρ with
  | some (o, ρ1) => match mk ρ1 with
    | some (x, ρ2) => match resD ρ2 o, keyD x with
      | some (ks, ds), some k => match lookD ks ds k with
        | some d => some (d, ρ2)
        | none => none
      | _, _ => none
    | none => none
  | none => none
theorem se_dgetO {mo : MO} {mk : ME} (hu : X.A.units + 64 < cLine) (ho : SO X o mo) (hi : SE X i mk) (hs : NoSl i := by intro _ _; rfl) : SE X (.Subscript o i pos) (mDGetO mo mk) := Z.pe_mk fun σ H Q ⟨io, F, ρ, d, ρ', r, hm, q⟩ => by
  refine ⟨_, pe_dget (by omega) ho hi hs, ?_⟩
  unfold mDGetO at hm
  split at hm <;> try cases hm
  rename_i o1 ρ1 e1
  split at hm <;> try cases hm
  rename_i x ρ2 e2
  split at hm <;> try cases hm
  rename_i ks ds k e3 e4
  split at hm <;> cases hm
  rename_i e5
  refine ⟨io, F, ρ, _, ρ1, r, e1, fun v F1 H1 x1 r1 p1 => ⟨io, F1, ρ1, _, ρ', r1, e2, fun u F2 H2 x2 r2 p2 => ?_⟩⟩
  have hu' := keyD_v p2 e4
  subst hu'
  obtain ⟨a, kvs, rfl, ha, hk, rl⟩ := r2.resD (p1.mono x2.sub) e3
  obtain ⟨z, hz, rz⟩ := (look_at hk rl).1 _ e5
  exact ⟨a, z, rfl, .inl ⟨kvs, k, ha, rfl, hz.symm⟩, q _ F2 H2 (x1.trans x2) r2 rz⟩
/-! ### d.get(k, x) -/
def mDGetD (mo : MO) (mk mx : ME) : ME := fun ρ => match mo ρ with
  | some (o, ρ1) => match resD ρ1 o with
    | some _ => match mk ρ1 with
      | some (y, ρ2) => match mx ρ2 with
        | some (x, ρ3) => match resD ρ3 o, keyD y with
          | some (ks, ds), some k => some ((lookD ks ds k).getD x, ρ3)
          | _, _ => none
        | none => none
      | none => none
    | none => none
  | none => none
theorem se_dgetD {mo : MO} {mk mx : ME} (hu : X.A.units + 64 < cLine) (ho : SO X o mo) (hi : SE X e mk) (hx : SE X f mx) (m : M2 X o "get" apos e f cpos := by exact ⟨rfl, rfl, rfl, rfl⟩) : SE X (.Call (.Attribute o "get" apos) [e, f] [] cpos) (mDGetD mo mk mx) := Z.pe_mk fun σ H Q ⟨io, F, ρ, d, ρ', r, hm, q⟩ => by
  refine ⟨_, pe_dget2 (by omega) ho hi hx m, ?_⟩
  unfold mDGetD at hm
  split at hm <;> try cases hm
  rename_i o1 ρ1 e1
  split at hm <;> try cases hm
  rename_i p0 e0
  split at hm <;> try cases hm
  rename_i y ρ2 e2
  split at hm <;> try cases hm
  rename_i x ρ3 e3
  split at hm <;> cases hm
  rename_i ks ds k e4 e5
  refine ⟨io, F, ρ, _, ρ1, r, e1, fun v F1 H1 x1 r1 p1 => ?_⟩
  obtain ⟨a, kvs0, rfl, ha0, _, _⟩ := r1.resD p1 (ks := p0.1) (ds := p0.2) e0
  refine ⟨a, rfl, .inl ⟨kvs0, ha0⟩, io, F1, ρ1, _, ρ2, r1, e2, fun u F2 H2 x2 r2 p2 => ⟨io, F2, ρ2, _, _, r2, e3, fun z F3 H3 x3 r3 p3 => ?_⟩⟩
  have hu' := keyD_v p2 e4
  subst hu'
  obtain ⟨a', kvs, ea, ha, hk, rl⟩ := r3.resD (p1.mono (x2.sub.trans x3.sub)) e5
  cases ea
  refine ⟨valV kvs k, .inl ⟨kvs, k, ha, rfl, rfl⟩, q _ F3 H3 ((x1.trans x2).trans x3) r3 ?_⟩
  obtain ⟨l1, l2⟩ := look_at (i := k) hk rl
  cases hl : lookD ks ds k with
  | some d =>
    obtain ⟨w, h1, h2⟩ := l1 d hl
    rw [h1]; exact h2
  | none => rw [l2 hl]; exact p3
/-! ### k in d, k not in d -/
def mDIn (neg : Bool) (mk : ME) (mo : MO) : ME := fun ρ => match mk ρ with
  | some (y, ρ1) => match mo ρ1 with
    | some (o, ρ2) => match resD ρ2 o, keyD y with
      | some (ks, ds), some k => some (.bl (xor neg (lookD ks ds k).isSome), ρ2)
      | _, _ => none
    | none => none
  | none => none
theorem look_some {κ : Type} [DecidableEq κ] {K : PySem.W.Frag} {mg : Mg} {F : Hp} {k : κ} {ks : List κ} {ds : List D} {kvs : List (κ × V)} (hk : kvs.map (·.1) = ks) (rl : RepL K mg F ds (kvs.map (·.2))) : (valV kvs k).isSome = (lookD ks ds k).isSome := by
  obtain ⟨l1, l2⟩ := look_at (i := k) hk rl
  cases hl : lookD ks ds k with
  | some d =>
    obtain ⟨w, h1, h2⟩ := l1 d hl
    rw [h1]; rfl
  | none => rw [l2 hl]; rfl
theorem se_din {mk : ME} {mo : MO} (hu : X.A.units + 64 < cLine) (hi : SE X i mk) (ho : SO X o mo) (hb : behindInMarks .In o = false := by rfl) : SE X (.Compare i [.In] [o] pos) (mDIn false mk mo) := Z.pe_mk fun σ H Q ⟨io, F, ρ, d, ρ', r, hm, q⟩ => by
  refine ⟨_, pe_cmp (pc_din (by omega) hi ho) hb, ?_⟩
  unfold mDIn at hm
  split at hm <;> try cases hm
  rename_i y ρ1 e1
  split at hm <;> try cases hm
  rename_i o1 ρ2 e2
  split at hm <;> cases hm
  rename_i ks ds k e3 e4
  refine ⟨io, F, ρ, _, ρ1, r, e1, fun v F1 H1 x1 r1 p1 => ⟨io, F1, ρ1, _, _, r1, e2, fun u F2 H2 x2 r2 p2 => ?_⟩⟩
  have hu' := keyD_v p1 e3
  subst hu'
  obtain ⟨a, kvs, rfl, ha, hk, rl⟩ := r2.resD p2 e4
  exact ⟨a, valV kvs k, rfl, .inl ⟨kvs, k, ha, rfl, rfl⟩, q _ F2 H2 (x1.trans x2) r2 (by simp only [Rep]; rw [look_some hk rl, Bool.false_xor])⟩
theorem se_dnin {mk : ME} {mo : MO} (hu : X.A.units + 64 < cLine) (hi : SE X i mk) (ho : SO X o mo) (hb : behindInMarks .NotIn o = false := by rfl) : SE X (.Compare i [.NotIn] [o] pos) (mDIn true mk mo) := Z.pe_mk fun σ H Q ⟨io, F, ρ, d, ρ', r, hm, q⟩ => by
  refine ⟨_, pe_cmp (pc_dnotin (by omega) hi ho) hb, ?_⟩
  unfold mDIn at hm
  split at hm <;> try cases hm
  rename_i y ρ1 e1
  split at hm <;> try cases hm
  rename_i o1 ρ2 e2
  split at hm <;> cases hm
  rename_i ks ds k e3 e4
  refine ⟨io, F, ρ, _, ρ1, r, e1, fun v F1 H1 x1 r1 p1 => ⟨io, F1, ρ1, _, _, r1, e2, fun u F2 H2 x2 r2 p2 => ?_⟩⟩
  have hu' := keyD_v p1 e3
  subst hu'
  obtain ⟨a, kvs, rfl, ha, hk, rl⟩ := r2.resD p2 e4
  exact ⟨a, valV kvs k, rfl, .inl ⟨kvs, k, ha, rfl, rfl⟩, q _ F2 H2 (x1.trans x2) r2 (by simp only [Rep]; rw [look_some hk rl, Bool.true_xor])⟩
/-! ### d[k] = e -/
def repD {κ : Type} [DecidableEq κ] : List κ → List D → κ → D → List D
  | k :: ks, d :: ds, i, x => (if k = i then x else d) :: repD ks ds i x
  | _, ds, _, _ => ds
def hasK {κ : Type} [DecidableEq κ] (ks : List κ) (i : κ) : Bool := ks.any fun k => decide (k = i)
def putKs {κ : Type} [DecidableEq κ] (ks : List κ) (i : κ) : List κ := if hasK ks i = true then ks else ks ++ [i]
def putDs {κ : Type} [DecidableEq κ] (ks : List κ) (ds : List D) (i : κ) (x : D) : List D := if hasK ks i = true then repD ks ds i x else ds ++ [x]
theorem rep_at {κ : Type} [DecidableEq κ] {K : PySem.W.Frag} {mg : Mg} {F : Hp} {k : κ} {d : D} {v : V} (p : Rep K mg F d v) : ∀ {ks : List κ} {ds : List D} {kvs : List (κ × V)}, kvs.map (·.1) = ks → RepL K mg F ds (kvs.map (·.2)) →
    RepL K mg F (repD ks ds k d) ((kvs.map (fun kv => if kv.1 = k then (kv.1, v) else kv)).map (·.2))
  | _, ds, [], rfl, r => by cases ds <;> simpa [repD] using r
  | _, ds, q :: kvs, rfl, r => by
    cases ds with
    | nil => simp only [List.map_cons, RepL] at r; cases r
    | cons x ds =>
      simp only [List.map_cons, RepL] at r
      obtain ⟨w, t, e', qq, rt⟩ := r
      simp only [List.cons.injEq] at e'
      obtain ⟨rfl, rfl⟩ := e'
      have g := rep_at p (ks := kvs.map (·.1)) (k := k) rfl rt
      simp only [List.map_cons, repD]
      by_cases c : q.1 = k
      · simp only [c, if_true]; exact .cons p g
      · simp only [c, if_false]; exact .cons qq g
theorem put_at {κ : Type} [DecidableEq κ] {K : PySem.W.Frag} {mg : Mg} {F : Hp} {k : κ} {d : D} {v : V} (p : Rep K mg F d v) {ks : List κ} {ds : List D} {kvs : List (κ × V)} (hk : kvs.map (·.1) = ks) (rl : RepL K mg F ds (kvs.map (·.2))) :
    (putK kvs k v).map (·.1) = putKs ks k ∧ RepL K mg F (putDs ks ds k d) ((putK kvs k v).map (·.2)) := by
  have ha : (kvs.any fun kv => decide (kv.1 = k)) = hasK ks k := by
    subst hk; unfold hasK; rw [List.any_map]; rfl
  unfold putK putKs putDs
  rw [ha]
  by_cases h : hasK ks k = true
  · rw [if_pos h, if_pos h, if_pos h]
    refine ⟨?_, rep_at p hk rl⟩
    rw [List.map_map, ← hk]
    refine List.map_congr_left fun q _ => ?_
    show (if q.1 = k then (q.1, v) else q).1 = q.1
    split <;> rfl
  · rw [if_neg h, if_neg h, if_neg h]
    rw [List.map_append, List.map_append, hk]
    exact ⟨rfl, rl.append (.one p)⟩
/-- the dict that a slot owns -/
def ownD (ρ : Rho) (i : Nat) : Option (List Key × List D) := match ρ[i]? with
  | some (.own (.dic ks ds)) => some (ks, ds)
  | some (.io (.dic ks ds)) => some (ks, ds)
  | _ => none
theorem R.ownD {K : PySem.W.Frag} {mg : Mg} {io : List (Nat × Addr)} {F H : Hp} {σ : St} {ρ : Rho} {i : Nat} {ks : List Key} {ds : List D} (r : R K mg io F H σ ρ) (h : Z.ownD ρ i = some (ks, ds)) :
    ∃ a kvs, σ[i]? = some (some (.ref a)) ∧ H a = some (.dK kvs) ∧ kvs.map (·.1) = ks ∧ RepL K mg F ds (kvs.map (·.2)) ∧ ∀ kvs' ks' ds', kvs'.map (·.1) = ks' → RepL K mg F ds' (kvs'.map (·.2)) → R K mg io F (upd H a (.dK kvs')) σ (putC ρ i (.dic ks' ds')) ∧ Ext F H σ ρ F (upd H a (.dK kvs')) σ (putC ρ i (.dic ks' ds')) := by
  have go : ∀ s, ρ[i]? = some s → s.cell? = some (.dic ks ds) → ∃ a kvs, σ[i]? = some (some (.ref a)) ∧ H a = some (.dK kvs) ∧ kvs.map (·.1) = ks ∧ RepL K mg F ds (kvs.map (·.2)) ∧ ∀ kvs' ks' ds', kvs'.map (·.1) = ks' → RepL K mg F ds' (kvs'.map (·.2)) → R K mg io F (upd H a (.dK kvs')) σ (putC ρ i (.dic ks' ds')) ∧ Ext F H σ ρ F (upd H a (.dK kvs')) σ (putC ρ i (.dic ks' ds')) := fun s hs hc => by
    have hci : cellAt ρ i = some (.dic ks ds) := by unfold cellAt; rw [hs]; exact hc
    obtain ⟨a, e, f, kvs, hv, n, rl⟩ := r.cel i _ hci
    refine ⟨a, kvs, e, hv, n, rl, fun kvs' ks' ds' n' rw' => ?_⟩
    have : putC ρ i (.dic ks' ds') = ρ.set i (s.put (.dic ks' ds')) := by unfold putC; rw [hs]
    rw [this]
    exact r.wr hs hc e ⟨kvs', upd_same, n', rw'⟩
  unfold Z.ownD at h
  split at h <;> cases h
  · rename_i hs; exact go _ hs rfl
  · rename_i hs; exact go _ hs rfl
def mDPut (i : Nat) (mk m : ME) : MS := fun ρ => match m ρ with
  | some (d, ρ1) => match ownD ρ1 i with
    | some _ => match mk ρ1 with
      | some (y, ρ2) => match ownD ρ2 i, keyD y with
        | some (ks, ds), some k => if ks.length < LIM then some (.nx, putC ρ2 i (.dic (putKs ks k) (putDs ks ds k d))) else none
        | _, _ => none
      | none => none
    | none => none
  | none => none
theorem ss_dput (i : Nat) {x : Str} {k : Expr} {p pos' : Pos} {mk m : ME} (hu : X.A.units + 64 < cLine) (hk : SE X k mk) (h : SE X e m) (hN : X.N[i]? = some x := by rfl) (hv : Vis X.env.scope x := by first | exact Or.inl rfl | exact Or.inr (Or.inl rfl) | exact Or.inr (Or.inr rfl)) (hd : (x == ("__debug__" : Str)) = false := by decide) (hcd : (x == ("__classdict__" : Str)) = false := by decide)
    (hs : swapsWith e (some (.Subscript (.Name x p) k pos')) pos.line X.env = pure false := by rfl) : SS X (.Assign [.Subscript (.Name x p) k pos'] e pos) (mDPut i mk m) := ps_mk fun D σ H ⟨io, F, ρ, fl, ρ', r, hm, q⟩ => by
  refine ⟨_, ps_dput (by omega) (pe_var hN hv hd hcd) hk h hs, ?_⟩
  unfold mDPut at hm
  split at hm <;> try cases hm
  rename_i d ρ1 h1
  split at hm <;> try cases hm
  rename_i p0 h0
  split at hm <;> try cases hm
  rename_i y ρ2 h2
  split at hm <;> try cases hm
  rename_i ks ds kk h3 h4
  split at hm <;> cases hm
  rename_i hl
  refine ⟨io, F, ρ, d, ρ1, r, h1, fun v F1 H1 x1 r1 p1 => ?_⟩
  obtain ⟨a, _, ea, _⟩ := r1.ownD (ks := p0.1) (ds := p0.2) h0
  refine ⟨_, ea, io, F1, ρ1, y, ρ2, r1, h2, fun w F2 H2 x2 r2 p2 => ?_⟩
  have hw := keyD_v p2 h4
  subst hw
  obtain ⟨a', kvs, ea', hv, n, rl, go⟩ := r2.ownD h3
  rw [ea] at ea'; cases ea'
  obtain ⟨g1, g2⟩ := put_at (k := kk) (p1.mono x2.sub) n rl
  obtain ⟨r3, x3⟩ := go (putK kvs kk v) _ _ g1 g2
  have hlen : kvs.length < sizeLine := by
    have : kvs.length = ks.length := by rw [← n, List.length_map]
    rw [this]; exact Nat.lt_of_lt_of_le hl lim_line
  exact ⟨a, _, rfl, DPut.k hv hlen, q _ _ _ ((x1.trans x2).trans x3) r3⟩
/-! ### for k, v in d.items(), for k in d -/
def kD : Key → D
  | .inl i => .int i
  | .inr x => .str x
theorem kD_rep {K : PySem.W.Frag} {mg : Mg} {F : Hp} (k : Key) : Rep K mg F (kD k) (kV k) := by cases k <;> (simp only [kD, Rep]; rfl)
def itemsL : List Key → List D → List D
  | k :: ks, d :: ds => .prs [kD k, d] :: itemsL ks ds
  | _, _ => []
theorem items_get : ∀ {ks : List Key} {ds : List D} {i : Nat} {d : D}, (itemsL ks ds)[i]? = some d → ∃ k x, ks[i]? = some k ∧ ds[i]? = some x ∧ d = .prs [kD k, x]
  | [], _, _, _, h => by simp [itemsL] at h
  | _ :: _, [], _, _, h => by simp [itemsL] at h
  | k :: ks, x :: ds, 0, d, h => by
    simp only [itemsL, List.getElem?_cons_zero, Option.some.injEq] at h
    exact ⟨k, x, rfl, rfl, h.symm⟩
  | k :: ks, x :: ds, i + 1, d, h => by
    simp only [itemsL, List.getElem?_cons_succ] at h
    obtain ⟨a, b, h1, h2, h3⟩ := items_get h
    exact ⟨a, b, by simpa using h1, by simpa using h2, h3⟩
theorem items_len : ∀ {ks : List Key} {ds : List D}, ks.length = ds.length → (itemsL ks ds).length = ks.length
  | [], _, _ => by simp [itemsL]
  | _ :: _, [], h => by simp at h
  | _ :: ks, _ :: ds, h => by simp only [itemsL, List.length_cons]; rw [items_len (by simpa using h)]
theorem it_items {K : PySem.W.Frag} {mg : Mg} {F : Hp} {a : Addr} {od : Obj} {kvs : List (Key × V)} {ks : List Key} {ds : List D} (h : F a = some (.frz od (.dK kvs))) (hk : kvs.map (·.1) = ks) (rl : RepL K mg F ds (kvs.map (·.2))) : ItOk K mg F (Iti a od kvs) (itemsL ks ds) := fun i F1 H1 s1 s2 => by
  have hq : H1 a = some (.frz od (.dK kvs)) := s2 _ _ (s1 _ _ h)
  have ll : ks.length = ds.length := by rw [← hk, List.length_map]; have := rl.len; rw [List.length_map] at this; exact this
  refine ⟨fun d hd => ?_, fun e => ⟨hq, ?_⟩⟩
  · obtain ⟨k, x, h1, h2, rfl⟩ := items_get hd
    obtain ⟨v, hv, pv⟩ := rl.get h2
    rw [← hk, List.getElem?_map] at h1
    rw [List.getElem?_map] at hv
    cases z : kvs[i]? with
    | none => rw [z] at h1; cases h1
    | some kv =>
      rw [z] at h1 hv
      obtain rfl : kv.1 = k := Option.some.inj h1
      obtain rfl : kv.2 = v := Option.some.inj hv
      refine ⟨⟨hq, (List.getElem?_eq_some_iff.mp z).1⟩, fun y H2 w => ?_⟩
      obtain ⟨T, k', v', e, rfl, hT, rfl⟩ := w
      rw [z] at e
      cases e
      refine ⟨_, .new s2 hT, ?_⟩
      simp only [Rep]
      have g := Grow.new (o := .tup [kV k', v']) s2 hT
      exact ⟨T, [kV k', v'], rfl, SqT.of upd_same, .cons (kD_rep _) (.one ((pv.mono s1).mono g.sub))⟩
  · rw [items_len ll, ← hk, List.length_map] at e
    omega
def mIItems (m : ME) : MI := fun ρ => match m ρ with
  | some (.dic ks ds, ρ') => some (itemsL ks ds, ρ')
  | _ => none
theorem si_items {elts : List Expr} {kk : Nat} {tpos : Pos} {m : ME} (h : SE X e m) (hbase : attributeBase e "items" X.env (eval e X.env) = eval e X.env := by rfl) (hline : (apos.endLine == cpos.line) = true := by rfl) :
    SI X (.Tuple elts kk tpos) (.Call (.Attribute e "items" apos) [] [] cpos) (mIItems m) := pi_mk fun σ H Q ⟨io, F, ρ, ds, ρ', r, hm, q⟩ => by
  refine ⟨_, pi_items h hbase hline, ?_⟩
  unfold mIItems at hm
  split at hm <;> cases hm
  rename_i ks ds h1
  refine ⟨io, F, ρ, _, _, r, h1, fun v F1 H1 x1 r1 p1 => ?_⟩
  simp only [Rep] at p1
  obtain ⟨a, od, kvs, rfl, ha, n, rl⟩ := p1
  exact ⟨a, od, kvs, rfl, r1.sub _ _ ha, q _ F1 H1 x1 r1 (it_items ha n rl)⟩
/-! ### min(d), max(d) -/
end
end Z
/-! sorted(d.items()), min(d), max(d): whole-number keys, whole-number values. -/
namespace Z
open PySem PySem.Spec PyProof.Rows L2

/-- all that is new is frozen -/
theorem Grow.all {F H H' : Hp} (s : Same F H) (k : Same H H') : ∃ F', Grow F H F' H' ∧ ∀ b o, H b = none → H' b = some o → F' b = some o := by
  refine ⟨fun b => match H b with | none => H' b | some _ => F b, ⟨fun b o e => ?_, fun b o e => ?_, fun b o e => ⟨k _ _ e, ?_⟩⟩, fun b o h e => ?_⟩
  · show (match H b with | none => H' b | some _ => F b) = some o
    rw [s _ _ e]; exact e
  · cases z : H b with
    | none => simpa only [z] using e
    | some u => simp only [z] at e; exact k _ _ (s _ _ e)
  · show (match H b with | none => H' b | some _ => F b) = F b
    rw [e]
  · show (match H b with | none => H' b | some _ => F b) = some o
    rw [h]; exact e
section
variable {X : Cx}
def itO (p d : Addr) : HO := L2.DX.itemsO p d
def rItemsK : V → List V → Hp → VK → Prop := fun x xs H Q => ∃ (a : Addr) (kvs : List (Key × V)), x = .ref a ∧ xs = [] ∧ Rd H a (.dK kvs) ∧ ∀ p, H p = none → Q (.ref p) (upd H p (itO p a))
theorem mt_itemsK : MtR X "dict.items" rItemsK := by
  intro pins s σ H x xs v us Q I rx rxs h
  obtain ⟨a, kvs, rfl, rfl, ha, q⟩ := h
  cases rx
  cases rxs
  obtain ⟨_, hd, vs, _, o, es, ep, ho, hx, hdat, _⟩ := dk_rd I.hok ha
  refine DT.callItems (es := es) (ep := ep) hd ⟨o, ho, hx, hdat⟩ ?_
  have hf : H s.heap.objs.size = none := I.hok.fresh (Nat.le_refl _)
  refine ⟨.ref s.heap.objs.size, _, I.laid (a := s.heap.objs.size) (o := itO s.heap.objs.size a) (t' := s.toks) (fun b u e => Heap.get?_push_of_some _ e) (Nat.le_refl _) ?_, rfl, q _ hf⟩
  exact L2.DX.itemsO_ok (Heap.get?_push_size _ rfl)
def tItemsV (te : TE) : TE := fun σ H Q => te σ H fun x H1 => rItemsK x [] H1 Q
theorem pe_itemsV {e : Expr} {te : TE} {apos cpos : Pos} (he : PE X e te) (hbase : attributeBase e "items" X.env (eval e X.env) = eval e X.env := by rfl) (hline : (apos.endLine == cpos.line) = true := by rfl) : PE X (.Call (.Attribute e "items" apos) [] [] cpos) (tItemsV te) := by
  refine ⟨fun pins s σ H Q I h => ?_⟩
  refine wpAny_Call_method0_late hbase hline (thn (he.run pins s σ H _ I h) fun v s1 ⟨x, H1, I1, r1, q1⟩ => ?_)
  obtain ⟨a, kvs, rfl, _, ha, _⟩ := id q1
  obtain rfl : v = Value.ref a := r1
  obtain ⟨_, hd, vs, _, o, es, ep, ho, hx, hdat, _⟩ := dk_rd I1.hok ha
  refine ⟨"dict", _, PySem.F.plainAttrs_dict, PySem.F.slot_dict_items, PySem.F.type_dict_items, ⟨o, ho, hx.1⟩, fun b eb => ?_, Calls.callWith_builtin rfl (PySem.evalArgs_none (mt_itemsK pins s1 σ H1 (.ref a) [] _ [] Q I1 rfl .nil q1))⟩
  cases eb
  exact ⟨o, ho, hx.2.1⟩

/-! ### sorted(d.items()) -/
abbrev PII := Int × Int
def leII (p q : PII) : Bool := decide (p.1 < q.1 ∨ (p.1 = q.1 ∧ p.2 ≤ q.2))
def encII (p : PII) : PyData := .tuple [.int p.1, .int p.2]
def rSortItK : List V → Hp → VK → Prop := fun vs H Q => ∃ (p a : Addr) (ps : List PII), vs = [.ref p] ∧ H p = some (itO p a) ∧ Rd H a (.dK (ps.map fun z => (Sum.inl z.1, V.int z.2))) ∧
  ∀ (H' : Hp) (l : Addr) (ts : List Addr), (∀ b o, H b = some o → H' b = some o) → H l = none → (∀ t ∈ ts, H t = none) → H' l = some (.lst (ts.map V.ref)) →
    Paired (fun (t : Addr) (z : PII) => ∃ its, H' t = some (.frz (xT its) (.tup [.int z.1, .int z.2]))) ts (ps.mergeSort leII) → Q (.ref l) H'
theorem kv_int : ∀ {ps : List PII} {vs : List (Key × Value)}, KV (ps.map fun z => (Sum.inl z.1, V.int z.2)) vs → ∃ l : List (Tok), vs = (ps.zip l).map (fun z => (Sum.inl z.1.1, Value.int z.1.2 z.2)) ∧ l.length = ps.length
  | [], _, .nil => ⟨[], rfl, rfl⟩
  | p :: ps, _, .cons h t => by
    obtain ⟨l, e, hl⟩ := kv_int t
    rename_i q vs
    obtain ⟨h1, tk, h2⟩ := h
    refine ⟨tk :: l, ?_, by rw [List.length_cons, List.length_cons, hl]⟩
    rw [List.zip_cons_cons, List.map_cons, ← e]
    congr 1
    exact Prod.ext h1.symm h2
/-- things that stand untracked are tracked -/
theorem take_all {pins : List (Addr × Obj)} {σ : L2.St} {H0 : Hp} {s : Shared} {h' : Heap} {tk : Nat} {P : Addr → HO → Prop} (I0 : Inv X pins σ H0 s) : ∀ (L : List Addr) (G : Hp), Inv X pins σ G { s with heap := h', toks := tk } → L.Nodup →
    (∀ a ∈ L, s.heap.objs.size ≤ a ∧ G a = none ∧ ∃ o, P a o ∧ ∀ G', ObjOk X.prog X.w G' h' a o) → ∃ G', Inv X pins σ G' { s with heap := h', toks := tk } ∧ (∀ b o, G b = some o → G' b = some o) ∧ ∀ a ∈ L, ∃ o, P a o ∧ G' a = some o
  | [], G, J, _, _ => ⟨G, J, fun _ _ e => e, fun _ h => nomatch h⟩
  | a :: L, G, J, nd, h => by
    obtain ⟨g1, g2, o, g3, g4⟩ := h a List.mem_cons_self
    have J2 : Inv X pins σ (upd G a o) { s with heap := h', toks := tk } := J.take (h' := h') (t' := tk) (fun _ _ _ e => e) (I0.fpOk g1 g2) (g4 _)
    obtain ⟨nd1, nd2⟩ := List.nodup_cons.mp nd
    have rest : ∀ c ∈ L, s.heap.objs.size ≤ c ∧ upd G a o c = none ∧ ∃ o, P c o ∧ ∀ G', ObjOk X.prog X.w G' h' c o := fun c hc => by
      obtain ⟨e1, e2, e3⟩ := h c (List.mem_cons_of_mem _ hc)
      refine ⟨e1, ?_, e3⟩
      have nc : c ≠ a := fun z => nd1 (by rw [← z]; exact hc)
      rw [upd_ne nc]; exact e2
    obtain ⟨G', J3, k1, k2⟩ := take_all I0 L _ J2 nd2 rest
    refine ⟨G', J3, fun b u e => k1 b u (by rw [upd_ne (ne_of_none e g2)]; exact e), fun c hc => ?_⟩
    rcases List.mem_cons.mp hc with rfl | hc
    · exact ⟨o, g3, k1 _ _ upd_same⟩
    · exact k2 c hc
theorem each_ix {α β : Type} {P : α → β → Prop} : ∀ {as : List α} {bs : List β}, as.length = bs.length → (∀ (j : Nat) a b, as[j]? = some a → bs[j]? = some b → P a b) → PySem.W.EachIs P as bs
  | [], [], _, _ => .nil
  | [], _ :: _, h, _ => by simp at h
  | _ :: _, [], h, _ => by simp at h
  | a :: as, b :: bs, h, f => .cons (f 0 a b rfl rfl) (each_ix (by simpa using h) fun j x y e1 e2 => f (j + 1) x y (by simpa using e1) (by simpa using e2))
theorem outs_refs {β : Type} {P : Value → β → Prop} (h : ∀ v b, P v b → ∃ t, v = Value.ref t) : ∀ {out : List Value} {bs : List β}, PySem.W.EachIs P out bs → ∃ ts : List Addr, out = ts.map Value.ref
  | _, _, .nil => ⟨[], rfl⟩
  | _, _, .cons h1 t => by
    obtain ⟨ts, rfl⟩ := outs_refs h t
    obtain ⟨a, rfl⟩ := h _ _ h1
    exact ⟨a :: ts, rfl⟩
theorem outs_paired {β : Type} {P : Value → β → Prop} {T : Addr → β → Prop} (h : ∀ t b, P (.ref t) b → T t b) : ∀ {ts : List Addr} {bs : List β}, PySem.W.EachIs P (ts.map Value.ref) bs → Paired T ts bs
  | [], _, .nil => .nil
  | t :: ts, _, .cons h1 r => .cons (h _ _ h1) (outs_paired h r)
theorem vals_refs' : ∀ as : List Addr, Vals (as.map V.ref) (as.map Value.ref)
  | [] => .nil
  | _ :: as => .cons rfl (vals_refs' as)
theorem pairs_ix {P : Program} {w : World} {K : Type} [DecidableEq K] {knd : KeyKind P w K} : ∀ {es : List DictEntry} {vs : List (K × Value)}, PySem.Pairs knd es vs → ∀ {j : Nat} {e : DictEntry}, es[j]? = some e → ∃ q, vs[j]? = some q ∧ knd.is q.1 e.key = true ∧ e.val = q.2
  | _, _, .nil, j, e, h => by simp at h
  | _, _, .cons h1 h2 t, 0, e, h => by
    simp only [List.getElem?_cons_zero, Option.some.injEq] at h
    subst h
    exact ⟨_, rfl, h1, h2⟩
  | _, _, .cons h1 h2 t, j + 1, e, h => by
    simp only [List.getElem?_cons_succ] at h ⊢
    exact pairs_ix t h
theorem cr_sortItK (hc : X.calm = true) (hu : X.A.units + 64 < cLine) : CallR X (.builtin "sorted") (rSortItK) := by
  intro pins s σ H xs us Q I r h
  obtain ⟨p, a, ps, rfl, hp, ha, q⟩ := h
  obtain rfl := Vals.ref1 r
  have view : s.heap.IsItemsView p a := (show ObjOk X.prog X.w H s.heap p (itO p a) from I.hok p _ hp).1
  obtain ⟨hz, hd, vs, rel, o, es, ep, ho, hx, hdat, hko, hpr, hnd⟩ := dk_rd I.hok ha
  obtain ⟨tl, evs, ltl⟩ := kv_int rel
  have lvs : vs.length = ps.length := by rw [evs, List.length_map, List.length_zip, ltl]; omega
  have les : es.size = ps.length := by rw [← lvs, ← hpr.length, Array.length_toList]
  rw [List.length_map] at hz
  refine DT.sortedI (es := es) (ep := ep) (I.ok.hd hc) view ⟨o, ho, hx, hdat⟩ (by omega) fun h' tk as hk hlt hl hG => ?_
  have las : as.length = ps.length := by omega
  have nd : as.Nodup := List.Pairwise.imp (fun h => Nat.ne_of_lt h) hG.rise
  have pr : ∀ (j : Nat) (t : Addr) (z : PII), as[j]? = some t → ps[j]? = some z → ∃ k1 k2, h'.get? t = some (xT #[Value.int z.1 k1, Value.int z.2 k2]) := fun j t z h1 h2 => by
    obtain ⟨en, e1, e2⟩ := hG.pairs j t h1
    obtain ⟨qv, e3, e4, e5⟩ := pairs_ix hpr (show es.toList[j]? = some en by rw [Array.getElem?_toList]; exact e1)
    rw [evs, List.getElem?_map] at e3
    obtain ⟨zt, e6, e7⟩ := Option.map_eq_some_iff.mp e3
    obtain ⟨b1, b2⟩ := List.getElem?_zip_eq_some.mp e6
    rw [h2] at b1
    cases b1
    subst e7
    obtain ⟨t1, e8⟩ := Value.isInt_shape (k := zt.1.1) (v := en.key) e4
    refine ⟨t1, zt.2, ?_⟩
    rw [e2, e8, e5]
  generalize hh2 : h'.push { cls := .type "list", data := .seq (as.map Value.ref).toArray } = h2
  have hob : h2.get? h'.objs.size = some (seqObj "list" (as.map Value.ref).toArray 0) := by rw [← hh2]; exact Heap.get?_push_size _ rfl
  have up2 : ∀ b u, h'.get? b = some u → h2.get? b = some u := fun b u e => by rw [← hh2]; exact Heap.get?_push_of_some _ e
  have eR : PySem.W.EachIs (fun (v : Value) (z : PII) => ∃ t k1 k2, v = .ref t ∧ t ∈ as ∧ h'.get? t = some (xT #[Value.int z.1 k1, Value.int z.2 k2])) (as.map Value.ref) ps := each_ix (by rw [List.length_map, las]) fun j v z h1 h2 => by
    rw [List.getElem?_map] at h1
    obtain ⟨t, h3, h4⟩ := Option.map_eq_some_iff.mp h1
    obtain ⟨k1, k2, e⟩ := pr j t z h3 h2
    exact ⟨t, k1, k2, h4.symm, List.mem_of_getElem? h3, e⟩
  have nS : h'.objs.size ∉ as := fun z => Nat.lt_irrefl _ (hG.there z)
  have er : PySem.W.EachIs (fun (v : Value) (z : PII) => ∃ bs, Reads h2 v (encII z) bs ∧ h'.objs.size ∉ bs) (as.map Value.ref) ps := eR.mono fun v z ⟨t, k1, k2, e1, _, e2⟩ => by
    subst e1
    exact ⟨[] ++ ([] ++ []), .tuple (up2 _ _ e2) rfl rfl (.cons (.int _ _) (.cons (.int _ _) .nil)), by simp⟩
  have tup : ∀ z : PII, encII z = .tuple [.int z.1, .int z.2] := fun _ => rfl
  refine PySem.W.list_sort_data (vs := as.map Value.ref) (bs := ps) (enc := encII) (n := 0) (a := h'.objs.size) hob eR er ?_ (.inl fun d hd => ?_) (by omega) (fun b _ => ?_) fun out lout eout => ?_
  · intro d hd d' hd'
    obtain ⟨z, _, rfl⟩ := List.mem_map.mp hd
    obtain ⟨z', _, rfl⟩ := List.mem_map.mp hd'
    simp [encII, PySem.W.alike, PySem.W.alikeAll]
  · obtain ⟨z, _, rfl⟩ := List.mem_map.mp hd
    exact ⟨_, _, rfl⟩
  · have e1 : X.A.in1.units = X.A.units + 1 := rfl
    have e2 : (encII b).depth ≤ 3 := by unfold encII; simp [PyData.depth, PyData.depthAll]
    omega
  · rw [show PySem.W.dataLe false encII = leII by unfold encII leII; exact PySem.W.dataLe_ii (β := PII) (fun z => z.1) (fun z => z.2)] at eout
    -- the heap behind the sort
    generalize hh3 : sortedHeap h2 h'.objs.size (as.map Value.ref) out.toArray = h3
    have up3 : ∀ b u, h'.get? b = some u → h3.get? b = some u := fun b u e => by
      have hb : b ≠ h'.objs.size := Nat.ne_of_lt (Heap.lt_size e)
      rw [← hh3, sortedHeap_old hb (Heap.lt_size (up2 _ _ e))]
      exact up2 _ _ e
    obtain ⟨ee, hS⟩ := sortedHeap_at (vs := as.map Value.ref) (out := out.toArray) hob
    rw [hh3] at hS
    have fresh : ∀ t, s.heap.objs.size ≤ t → H t = none := fun t ht => I.hok.fresh ht
    have hSge : s.heap.objs.size ≤ h'.objs.size := Nat.le_of_lt hlt
    obtain ⟨ts, ets⟩ := outs_refs (fun v z ⟨t, _, _, e, _⟩ => ⟨t, e⟩) eout
    subst ets
    have I1 : Inv X pins σ (upd H h'.objs.size (.lst (ts.map V.ref))) { s with heap := h3, toks := tk } := by
      refine I.laid (a := h'.objs.size) (o := .lst (ts.map V.ref)) (t' := tk) (fun b u e => up3 b u (hk b u e)) hSge ?_
      refine ⟨by rw [List.length_map]; rw [List.length_map] at lout; omega, ts.map Value.ref, ee, vals_refs' ts, ?_⟩
      exact hS
    obtain ⟨G, I2, k1, k2⟩ := take_all (P := fun t o => ∃ z k1 k2, o = HO.frz (xT #[Value.int z.1 k1, Value.int z.2 k2]) (.tup [.int z.1, .int z.2]) ∧ h'.get? t = some (xT #[Value.int (z : PII).1 k1, Value.int z.2 k2])) I as _ I1 nd fun t ht => by
      have hge : s.heap.objs.size ≤ t := Nat.le_of_lt (hG.above t ht)
      have nt : t ≠ h'.objs.size := fun z => nS (by rw [← z]; exact ht)
      refine ⟨hge, by rw [upd_ne nt]; exact fresh t hge, ?_⟩
      obtain ⟨j, hj⟩ := List.mem_iff_getElem?.mp ht
      have hjl : j < ps.length := by rw [← las]; exact (List.getElem?_eq_some_iff.mp hj).1
      obtain ⟨a1, a2, e⟩ := pr j t ps[j] hj (List.getElem?_eq_getElem hjl)
      exact ⟨_, ⟨ps[j], a1, a2, rfl, e⟩, fun G' => ⟨up3 _ _ e, (show (2 : Nat) ≤ sizeLine by decide), [Value.int ps[j].1 a1, Value.int ps[j].2 a2], .cons ⟨a1, rfl⟩ (.cons ⟨a2, rfl⟩ .nil), _, up3 _ _ e, rfl, _, rfl⟩⟩
    refine ⟨.ref h'.objs.size, G, I2, rfl, q G _ ts (fun b u e => k1 b u (by rw [upd_ne (ne_of_none e (fresh _ hSge))]; exact e)) (fresh _ hSge) (fun t ht => ?_) (k1 _ _ upd_same) ?_⟩
    · obtain ⟨z, _, _, _, _, e, ht2, _⟩ := eout.left (.ref t) (List.mem_map.mpr ⟨t, ht, rfl⟩)
      cases e
      exact fresh _ (Nat.le_of_lt (hG.above _ ht2))
    · refine outs_paired (fun t z hz => ?_) eout
      obtain ⟨t', b1, b2, e1, e2, e3⟩ := hz
      cases e1
      obtain ⟨o, ⟨z', c1, c2, rfl, e4⟩, e5⟩ := k2 t e2
      rw [e3] at e4
      have e6 := congrArg Obj.data (Option.some.inj e4)
      simp only [Data.seq.injEq, Array.mk.injEq, List.cons.injEq, Value.int.injEq, and_true] at e6
      refine ⟨#[Value.int z'.1 c1, Value.int z'.2 c2], ?_⟩
      rw [e5, e6.1.1, e6.2.1]
def iiOf : List Key → List D → Option (List PII)
  | [], [] => some []
  | .inl i :: ks, .int j :: ds => match iiOf ks ds with
    | some ps => some ((i, j) :: ps)
    | none => none
  | _, _ => none
theorem ii_kvs {K : PySem.W.Frag} {mg : Mg} {F : Hp} : ∀ {ks : List Key} {ds : List D} {kvs : List (Key × V)} {ps : List PII}, kvs.map (·.1) = ks → RepL K mg F ds (kvs.map (·.2)) → iiOf ks ds = some ps → kvs = ps.map fun z => (Sum.inl z.1, V.int z.2)
  | [], [], [], _, _, _, h => by simp only [iiOf] at h; cases h; rfl
  | [], _ :: _, [], _, _, _, h => by simp only [iiOf] at h; cases h
  | k :: ks, _, [], _, e, _, _ => by cases e
  | _, ds, q :: kvs, ps, rfl, r, h => by
    simp only [List.map_cons] at h
    cases ds with
    | nil => simp only [List.map_cons, RepL] at r; cases r
    | cons d ds =>
      simp only [List.map_cons, RepL] at r
      obtain ⟨v, t, e', p, rt⟩ := r
      simp only [List.cons.injEq] at e'
      obtain ⟨rfl, rfl⟩ := e'
      obtain ⟨qk, qv⟩ := q
      cases qk with
      | inr x => simp only [iiOf] at h; cases h
      | inl i =>
        cases d <;> simp only [iiOf] at h <;> try cases h
        split at h <;> cases h
        rename_i ps h2
        simp only [Rep] at p
        subst p
        rw [ii_kvs rfl rt h2]
        rfl
def piiD (z : PII) : D := .tup [.int z.1, .int z.2]
def mSortIt (m : ME) : ME := fun ρ => match m ρ with
  | some (.dic ks ds, ρ') => match iiOf ks ds with
    | some ps => some (.lst ((ps.mergeSort leII).map piiD), ρ')
    | none => none
  | _ => none
theorem se_sortIt {e : Expr} {m : ME} {p apos cpos pos : Pos} (hu : X.A.units + 64 < cLine) (h : SE X e m) (hm : X.mg "sorted" = none) (hc : X.calm = true := by rfl) (hg : Gl X "sorted" := by rfl) (hbase : attributeBase e "items" X.env (eval e X.env) = eval e X.env := by rfl) (hline : (apos.endLine == cpos.line) = true := by rfl)
    (he : starEach [.Call (.Attribute e "items" apos) [] [] cpos] X.env = (false, eval (.Call (.Attribute e "items" apos) [] [] cpos) X.env) :: starEach [] X.env := by rfl) (hpl : (backTo pos (starEach [] X.env)).any (·.1) = false := by rfl) :
    SE X (.Call (.Name "sorted" p) [.Call (.Attribute e "items" apos) [] [] cpos] [] pos) (mSortIt m) := Z.pe_mk fun σ H Q ⟨io, F, ρ, d, ρ', r, hm', q⟩ => by
  refine ⟨_, pe_callB (cr_sortItK hc hu) hg hm (by decide +kernel) (pa_cons (pe_itemsV h hbase hline) pa_nil he) (by decide) (by decide) he hpl, ?_⟩
  unfold mSortIt at hm'
  split at hm' <;> try cases hm'
  rename_i ks ds ρ1 h1
  split at hm' <;> cases hm'
  rename_i ps h2
  refine ⟨io, F, ρ, _, _, r, h1, fun v F1 H1 x1 r1 p1 => ?_⟩
  simp only [Rep] at p1
  obtain ⟨a, od, kvs, rfl, ha, n, rl⟩ := p1
  have hH := r1.sub _ _ ha
  have ek := ii_kvs n rl h2
  subst ek
  refine ⟨a, _, rfl, rfl, .inr ⟨od, hH⟩, fun p hp => ?_⟩
  refine ⟨p, a, ps, rfl, upd_same, .inr ⟨od, by rw [upd_ne (ne_of_none hH hp)]; exact hH⟩, fun H' l ts k1 k2 k3 k4 k5 => ?_⟩
  have off : ∀ b, upd H1 p (itO p a) b = none → H1 b = none := fun b hb => by
    by_cases z : b = p
    · subst z; exact hp
    · rw [upd_ne z] at hb; exact hb
  have kk : Same H1 H' := fun b o e => k1 b o (by rw [upd_ne (ne_of_none e hp)]; exact e)
  obtain ⟨F', g, gn⟩ := Grow.all r1.sub kk
  refine q _ F' H' (x1.trans g.ext) (r1.grow g) ?_
  simp only [Rep]
  refine ⟨l, _, rfl, gn _ _ (off _ k2) k4, ?_⟩
  generalize ps.mergeSort leII = zs at k5
  clear k4 q
  induction k5 with
  | nil => exact .nil
  | cons hh tt ih =>
    rename_i t z ts zs
    obtain ⟨its, e⟩ := hh
    simp only [List.map_cons]
    refine .cons ?_ (ih fun t ht => k3 t (List.mem_cons_of_mem _ ht))
    simp only [piiD, Rep]
    exact ⟨t, _, rfl, .inl ⟨its, gn _ _ (off _ (k3 t List.mem_cons_self)) e⟩, .cons (by simp only [Rep]) (.one (by simp only [Rep]))⟩
end
end Z
/-! min(d), max(d) over a dict's whole-number keys; range with a step; numbers as bits. -/
namespace Z
open PySem PySem.Spec PyProof.Rows L2

def inlsOf : List Key → Option (List Int)
  | [] => some []
  | .inl i :: ks => match inlsOf ks with
    | some l => some (i :: l)
    | none => none
  | _ => none
theorem inls_map : ∀ {ks : List Key} {l : List Int}, inlsOf ks = some l → ks = l.map Sum.inl
  | [], _, h => by simp only [inlsOf] at h; cases h; rfl
  | .inr _ :: _, _, h => by simp only [inlsOf] at h; cases h
  | .inl i :: ks, _, h => by
    simp only [inlsOf] at h
    split at h <;> cases h
    rename_i l h2
    rw [inls_map h2]; rfl
/-- the best of a list, by its place -/
def bestI (bt : Int → Int → Bool) (l : List Int) : Int := l.getD (argBest (fun i j => bt (l.getD i 0) (l.getD j 0)) (l.length - 1)) 0
def rBestK (bt : Int → Int → Bool) : List V → Hp → VK → Prop := fun vs H Q => ∃ (a : Addr) (kvs : List (Key × V)) (l : List Int), vs = [V.ref a] ∧ Rd H a (.dK kvs) ∧ kvs.map (·.1) = l.map Sum.inl ∧ l ≠ [] ∧ Q (.int (bestI bt l)) H
section
variable {X : Cx}
/-- what both ask of the walk over the keys -/
theorem best_walk {pins : List (Addr × Obj)} {σ : L2.St} {H : Hp} {s : Shared} {Q : VK} {a : Addr} {kvs : List (Key × V)} {l : List Int} {op : CmpOp} {bt : Int → Int → Bool} (hc : X.calm = true) (I : Inv X pins σ H s) (ha : Rd H a (.dK kvs)) (hv : kvs.map (·.1) = l.map Sum.inl) (hne : l ≠ [])
    (hb : ∀ {P : Nat → Value → Prop}, (∀ i v, P i v → ∃ t, v = Value.int (l.getD i 0) t) → CmpOf X.prog X.w X.A.in1 op P (fun i j => bt (l.getD i 0) (l.getD j 0))) (q : Q (.int (bestI bt l)) H) :
    wpAny (model X.prog X.w) X.A.in1 (pyIter (.ref a)) (fun it s₂ => ∃ I' fp wr n P St bt, it = .ref I' ∧ Walks X.prog X.w X.A.in1 I' fp wr n P St ∧ St 0 s₂.heap ∧ (∀ b ∈ fp, b < s₂.heap.objs.size) ∧ 0 < n ∧ CmpOf X.prog X.w X.A.in1 op P bt ∧
      ∀ v h' tk, P (argBest bt (n - 1)) v → (∀ b o, b ∉ wr → s₂.heap.get? b = some o → h'.get? b = some o) → EP X pins σ Q v { s₂ with heap := h', toks := tk }) X.xe s := by
  obtain ⟨_, hsys, vs, rel, dof⟩ := dk_rd I.hok ha
  obtain ⟨ep, dat⟩ := dof.dictAt
  have hks : vs.map (·.1) = l.map Sum.inl := (KV.keys rel).symm.trans hv
  have hll : vs.length = l.length := by
    have z := congrArg List.length hks
    simpa only [List.length_map] using z
  have h0 : 0 < l.length := List.length_pos_iff.mpr hne
  have hlt : a < s.heap.objs.size := by
    obtain ⟨ob, _, ho, _⟩ := id dat
    exact Heap.lt_size ho
  have hval : ∀ (i : Nat) (v : Value), (∃ k x, vs[i]? = some (k, x) ∧ (mixKind X.prog X.w).is k v = true) → ∃ t, v = Value.int (l.getD i 0) t := by
    rintro i v ⟨k, x, hk, hi⟩
    have z : (vs.map (·.1))[i]? = some k := by rw [List.getElem?_map, hk]; rfl
    rw [hks, List.getElem?_map] at z
    obtain ⟨j, hj, rfl⟩ := Option.map_eq_some_iff.mp z
    obtain ⟨t, e⟩ := Value.isInt_shape (k := j) (v := v) hi
    exact ⟨t, by rw [e, List.getD_eq_getElem?_getD, hj]; rfl⟩
  refine wpAny_pyIter_dict (knd := mixKind X.prog X.w) hsys dat ⟨_, _, _, _, _, _, _, rfl, Walks.dictKeys (knd := mixKind X.prog X.w) (A := X.A.in1) (I.ok.hd hc) s.heap.objs.size a (Nat.ne_of_lt hlt) vs ep, ?_, fun b hb' => ?_, by rw [hll]; exact h0, hb hval, fun v h' tk hP hk => ?_⟩
  · exact ⟨⟨_, Heap.get?_push_size _ rfl, rfl, rfl⟩, dat.keep fun b u e => Heap.get?_push_of_some _ e⟩
  · rw [Heap.size_push]
    simp only [List.mem_cons, List.not_mem_nil, or_false] at hb'
    rcases hb' with rfl | rfl
    · exact Nat.lt_succ_self _
    · exact Nat.lt_succ_of_lt hlt
  · obtain ⟨t, rfl⟩ := hval _ v hP
    refine ⟨.int _, H, I.kept (t' := tk) fun b u e => hk b u (fun hm => ?_) (Heap.get?_push_of_some _ e), ⟨t, rfl⟩, ?_⟩
    · have e2 := Heap.lt_size e
      rw [List.mem_singleton.mp hm] at e2
      exact absurd e2 (Nat.lt_irrefl _)
    · rw [hll]; exact q
theorem cr_minD (hc : X.calm = true) : CallR X (.builtin "min") (rBestK fun i j => decide (i < j)) := by
  rintro pins s σ H vs us Q I r ⟨a, kvs, l, rfl, ha, hv, hne, q⟩
  rw [Vals.ref1 r]
  exact call_min_walk (best_walk hc I ha hv hne (fun h => CmpOf.ints_lt (fun i => l.getD i 0) h) q)
theorem cr_maxD (hc : X.calm = true) : CallR X (.builtin "max") (rBestK fun i j => decide (i > j)) := by
  rintro pins s σ H vs us Q I r ⟨a, kvs, l, rfl, ha, hv, hne, q⟩
  rw [Vals.ref1 r]
  exact call_max_walk (best_walk hc I ha hv hne (fun h => CmpOf.ints_gt (fun i => l.getD i 0) h) q)
def mBestD (bt : Int → Int → Bool) (mo : MO) : ME := fun ρ => match mo ρ with
  | some (o, ρ') => match resD ρ' o with
    | some (k :: ks, ds) => match inlsOf (k :: ks) with
      | some l => some (.int (bestI bt l), ρ')
      | none => none
    | _ => none
  | none => none
theorem se_bestD {id : String} {x : Str} {bt : Int → Int → Bool} {e : Expr} {mo : MO} {p pos : Pos} (hcr : CallR X (.builtin id) (rBestK bt)) (h : SO X e mo) (hm : X.mg x = none) (hv : bootBuiltins x = some (.builtin id)) (hg : Gl X x := by rfl) (hn : x ≠ "__name__" := by decide) (hdb : (x == ("__debug__" : Str)) = false := by decide)
    (he : starEach [e] X.env = (false, eval e X.env) :: starEach [] X.env := by rfl) (hpl : (backTo pos (starEach [] X.env)).any (·.1) = false := by rfl) : SE X (.Call (.Name x p) [e] [] pos) (mBestD bt mo) := Z.pe_mk fun σ H Q ⟨io, F, ρ, d, ρ', r, hm', q⟩ => by
  refine ⟨_, pe_callB hcr hg hm hv (pa_cons h pa_nil he) hn hdb he hpl, ?_⟩
  unfold mBestD at hm'
  split at hm' <;> try cases hm'
  rename_i o ρ1 h1
  split at hm' <;> try cases hm'
  rename_i k ks ds h2
  split at hm' <;> cases hm'
  rename_i l h3
  refine ⟨io, F, ρ, o, _, r, h1, fun v F1 H1 x1 r1 p1 => ?_⟩
  obtain ⟨a, kvs, rfl, ha, n, rl⟩ := r1.resD p1 h2
  refine ⟨a, kvs, l, rfl, ha, by rw [n]; exact inls_map h3, ?_, q _ F1 H1 x1 r1 (by simp only [Rep])⟩
  rintro rfl
  have := inls_map h3
  cases this
end
/-! ### numbers as bits -/
def shlD : D → D → Option D
  | .int i, .int j => if 0 ≤ j ∧ i.natAbs.log2 + j.toNat < 10000 then some (.int (i * 2 ^ j.toNat)) else none
  | _, _ => none
def shrD : D → D → Option D
  | .int i, .int j => if 0 ≤ j then some (.int (i / 2 ^ j.toNat)) else none
  | _, _ => none
/-- n & 1 -/
def andD : D → D → Option D
  | .int i, .int j => if 0 ≤ i ∧ j = 1 then some (.int ((i.toNat % 2 : Nat) : Int)) else none
  | _, _ => none
section
variable {X : Cx}
theorem o_shl : Op2 X (binaryOp .LShift) shlD := by
  intro dx dy d h
  unfold shlD at h
  split at h <;> try cases h
  rename_i i j
  split at h <;> cases h
  rename_i hc
  obtain ⟨n, rfl⟩ : ∃ n : Nat, j = n := ⟨j.toNat, by omega⟩
  have hl : i.natAbs < 2 ^ (i.natAbs.log2 + 1) := Nat.lt_log2_self
  have hk := hc.2
  rw [Int.toNat_natCast] at hk
  exact ⟨_, op_shlW, fun F H v w Q s p1 p2 q => ⟨i, n, p1.int, p2.int, shl_ok hl (by omega), q.int s⟩⟩
theorem o_shr : Op2 X (binaryOp .RShift) shrD := by
  intro dx dy d h
  unfold shrD at h
  split at h <;> try cases h
  rename_i i j
  split at h <;> cases h
  rename_i hc
  exact ⟨_, op_shr, fun F H v w Q s p1 p2 q => ⟨i, j, p1.int, p2.int, hc, q.int s⟩⟩
theorem o_and : Op2 X (binaryOp .BitAnd) andD := by
  intro dx dy d h
  unfold andD at h
  split at h <;> try cases h
  rename_i i j
  split at h <;> cases h
  rename_i hc
  obtain ⟨hc, rfl⟩ := hc
  obtain ⟨n, rfl⟩ : ∃ n : Nat, i = n := ⟨i.toNat, by omega⟩
  rw [Int.toNat_natCast]
  exact ⟨_, op_odd, fun F H v w Q s p1 p2 q => ⟨n, p1.int, p2.int, q.int s⟩⟩
theorem ip_or : PIp X .BitOr (ipI Builtin.bitOr) := by
  rintro pins s σ H x y v u Q I r1 r2 ⟨i, j, rfl, rfl, q⟩
  obtain ⟨t, rfl⟩ := r1
  obtain ⟨t', rfl⟩ := r2
  exact ior_int ⟨.int _, H, I.tok _, ⟨_, rfl⟩, q⟩
/-! ### range(a, b, -1) -/
def downL (lo : Int) (n : Nat) : List D := (List.range n).map fun i => D.int (lo + (i : Nat) * (-1))
theorem it_down {K : PySem.W.Frag} {mg : Mg} {F : Hp} {lo : Int} {n : Nat} : ItOk K mg F (Itc lo (-1) n) (downL lo n) := fun i F1 H1 s1 s2 => by
  refine ⟨fun d hd => ?_, fun e => ?_⟩
  · unfold downL at hd
    rw [List.getElem?_map] at hd
    cases q : (List.range n)[i]? with
    | none => rw [q] at hd; cases hd
    | some k =>
      rw [q] at hd
      obtain ⟨hl, hk⟩ := List.getElem?_eq_some_iff.mp q
      rw [List.length_range] at hl
      rw [List.getElem_range] at hk
      subst hk
      cases hd
      refine ⟨hl, fun x H2 y => ?_⟩
      obtain ⟨rfl, rfl⟩ := y
      exact ⟨F1, .refl s2, by simp only [Rep]⟩
  · subst e
    unfold downL
    rw [List.length_map, List.length_range]
    exact Nat.le_refl _
def mIRDown (m : MA) : MI := fun ρ => match m ρ with
  | some (os, ρ') => match valL os with
    | some [.int i, .int j, .int c] => if i.natAbs < 1000000 ∧ j.natAbs < 1000000 ∧ c = -1 then some (downL i (i - j).toNat, ρ') else none
    | _ => none
  | none => none
theorem si_rngDown {tg a b c : Expr} {p pos : Pos} {m : MA} (ha : SA X [a, b, c] m) (hm : X.mg "range" = none) (hg : Gl X "range" := by rfl)
    (hs : starEach [a, b, c] X.env = (false, eval a X.env) :: starEach [b, c] X.env := by rfl) (hpl : (backTo pos (starEach [b, c] X.env)).any (·.1) = false := by rfl) : SI X tg (.Call (.Name "range" p) [a, b, c] [] pos) (mIRDown m) := Z.pi_mk fun σ H Q ⟨io, F, ρ, ds, ρ', r, hm', q⟩ => by
  refine ⟨_, pi_range3 hg hm ha hs hpl, ?_⟩
  unfold mIRDown at hm'
  split at hm' <;> try cases hm'
  rename_i os ρ1 h1
  split at hm' <;> try cases hm'
  rename_i i j c h2
  split at hm' <;> cases hm'
  rename_i hc
  obtain ⟨hi, hj, rfl⟩ := hc
  refine ⟨io, F, ρ, os, _, r, h1, fun vs F1 H1 x1 r1 p1 => ?_⟩
  have rl := p1.vals h2
  simp only [RepL] at rl
  obtain ⟨v, t, rfl, pv, w, t', rfl, pw, z, t2, rfl, pz, rfl⟩ := rl
  simp only [Rep] at pv pw pz
  subst pv pw pz
  exact ⟨i, j, -1, _, rfl, RgC.neg (by omega) (by omega) (by omega) (by omega), q _ F1 H1 x1 r1 it_down⟩
end
/-! ### a < b < c as a test -/
section
variable {X : Cx} {a b c : Expr} {pos : Pos}
theorem st_chain {op op' : CmpOp} {g h : D → D → Option D} {na nb nc : MO} (hg : Op2 X (compareOp op) g) (hh : Op2 X (compareOp op') h) (ha : SO X a na) (hb : SO X b nb) (hc : SO X c nc)
    (hm : lastMarks [op, op'] [b, c] = false := by with_unfolding_all rfl) : ST X (.Compare a [op, op'] [b, c] pos) (mTB (mChain g h na nb nc)) := Z.pt_mk fun σ H Q ⟨io, F, ρ, d, ρ', r, hm0, q0⟩ => by
  unfold mTB at hm0
  split at hm0 <;> cases hm0
  rename_i hm'
  have q : ∀ v F' H', Ext F H σ ρ F' H' σ ρ' → R X.K X.mgx io F' H' σ ρ' → Rep X.K X.mgx F' (.bl d) v → ∃ k, v = .bl k ∧ Q k H' := fun v F' H' x r' p => ⟨d, by simpa only [Rep] using p, q0 F' H' x r'⟩
  unfold mChain at hm'
  split at hm' <;> try cases hm'
  rename_i x ρ1 h1
  split at hm' <;> try cases hm'
  rename_i y ρ2 h2
  split at hm' <;> try cases hm'
  rename_i dx dy hx hy
  split at hm' <;> try cases hm'
  · rename_i hd
    split at hm' <;> try cases hm'
    rename_i z ρ3 h3
    split at hm' <;> try cases hm'
    rename_i dy' dz hy' hz
    split at hm' <;> cases hm'
    rename_i hd'
    obtain ⟨rr, ho, p⟩ := hg dx dy _ hd
    obtain ⟨rr', ho', p'⟩ := hh dy' dz _ hd'
    refine ⟨_, pt_chain ho ho' ha hb hc hm, io, F, ρ, x, ρ1, r, h1, fun v F1 H1 x1 r1 p1 => ⟨io, F1, ρ1, y, ρ2, r1, h2, fun w F2 H2 x2 r2 p2 => ?_⟩⟩
    refine p F2 H2 v w _ r2.sub (r2.res (p1.mono x2.sub) hx) (r2.res p2 hy) fun u F3 H3 gr rp => ⟨true, by simpa only [Rep] using rp, iteT ?_⟩
    exact ⟨io, F3, ρ2, z, _, r2.grow gr, h3, fun w' F4 H4 x4 r4 p4 => p' F4 H4 w w' _ r4.sub (r4.res ((p2.mono gr.sub).mono x4.sub) hy') (r4.res p4 hz) fun u F5 H5 gr5 rp5 =>
      q u F5 H5 ((((x1.trans x2).trans gr.ext).trans x4).trans gr5.ext) (r4.grow gr5) rp5⟩
  · rename_i hd
    obtain ⟨rr, ho, p⟩ := hg dx dy _ hd
    -- the second rule is not met
    obtain ⟨rr', ho'⟩ : ∃ rr', OpR X (compareOp op') rr' := ⟨fun _ _ _ _ => False, fun _ _ _ _ _ _ _ _ _ _ _ _ z => z.elim⟩
    refine ⟨_, pt_chain ho ho' ha hb hc hm, io, F, ρ, x, ρ1, r, h1, fun v F1 H1 x1 r1 p1 => ⟨io, F1, ρ1, y, _, r1, h2, fun w F2 H2 x2 r2 p2 => ?_⟩⟩
    refine p F2 H2 v w _ r2.sub (r2.res (p1.mono x2.sub) hx) (r2.res p2 hy) fun u F3 H3 gr rp => ⟨false, by simpa only [Rep] using rp, iteF ?_⟩
    exact q _ F3 H3 ((x1.trans x2).trans gr.ext) (r2.grow gr) (by simp only [Rep])

end
end Z
/-! A dict of dicts, all of them changed: beside the slots, frozen when it is returned. -/
namespace Z
open PySem PySem.Spec PyProof.Rows L2

/-! ### many things that are read from now on -/
theorem lock_all {X : Cx} {pins : List (Addr × Obj)} {σ : L2.St} {s : Shared} : ∀ (L : List (Addr × HO)) (H : Hp), Inv X pins σ H s → (L.map (·.1)).Nodup → (∀ p ∈ L, H p.1 = some p.2 ∧ Mut (some p.2)) →
    ∃ H', Inv X pins σ H' s ∧ (∀ p ∈ L, ∃ od, H' p.1 = some (.frz od p.2)) ∧ ∀ b, b ∉ L.map (·.1) → H' b = H b
  | [], H, I, _, _ => ⟨H, I, by simp, fun _ _ => rfl⟩
  | p :: L, H, I, nd, h => by
    obtain ⟨h1, h2⟩ := h p List.mem_cons_self
    obtain ⟨od, I1⟩ := I.lock h1 h2
    rw [List.map_cons, List.nodup_cons] at nd
    have ne : ∀ q ∈ L, q.1 ≠ p.1 := fun q hq e => nd.1 (by rw [← e]; exact List.mem_map.mpr ⟨q, hq, rfl⟩)
    obtain ⟨H', I2, k1, k2⟩ := lock_all L (upd H p.1 (.frz od p.2)) I1 nd.2 fun q hq => by
      obtain ⟨g1, g2⟩ := h q (List.mem_cons_of_mem _ hq)
      exact ⟨by rw [upd_ne (ne q hq)]; exact g1, g2⟩
    refine ⟨H', I2, fun q hq => ?_, fun b hb => ?_⟩
    · rcases List.mem_cons.mp hq with rfl | hq
      · exact ⟨od, by rw [k2 _ nd.1]; exact upd_same⟩
      · exact k1 q hq
    · rw [List.map_cons, List.mem_cons, not_or] at hb
      rw [k2 b hb.2, upd_ne hb.1]
def tGhL (t : TE) : TE := fun σ H Q => ∃ L : List (Addr × HO), (L.map (·.1)).Nodup ∧ (∀ p ∈ L, H p.1 = some p.2 ∧ Mut (some p.2)) ∧ ∀ H' : Hp, (∀ p ∈ L, ∃ od, H' p.1 = some (.frz od p.2)) → (∀ b, b ∉ L.map (·.1) → H' b = H b) → t σ H' Q
theorem pe_ghL {X : Cx} {e : Expr} {t : TE} (h : PE X e t) : PE X e (tGhL t) := ⟨fun pins s σ H Q I ⟨L, nd, hL, q⟩ => by
  obtain ⟨H', I1, k1, k2⟩ := lock_all L H I nd hL
  exact h.run pins s σ H' Q I1 (q H' k1 k2)⟩

/-! ### the state -/
abbrev DD := List (Key × List Key × List D)
structure WD (K : PySem.W.Frag) (mg : Mg) (i : Nat) (F0 H0 F H : Hp) (σ : St) (ρ : Rho) (o : DD) (A : Addr) (bs : List Addr) : Prop where
  r : R K mg [] F H σ ρ
  sa : σ[i]? = some (some (.ref A))
  hid : ρ[i]? = some .un
  ha : H A = some (.dK ((o.map (·.1)).zip (bs.map V.ref)))
  len : bs.length = o.length
  hb : ∀ (j : Nat) b p, bs[j]? = some b → o[j]? = some p → CellOk K mg F H b (.dic p.2.1 p.2.2)
  free : ∀ q ∈ A :: bs, F q = none ∧ ¬ OwnA σ ρ q ∧ H0 q = none
  nd : (A :: bs).Nodup
  sF : Same F0 F
  kp : ∀ a u, H0 a = some u → H a = some u ∧ F a = F0 a
  ow : ∀ a, OwnA σ ρ a → H0 a = none
  st : ∀ a, H a = none → H0 a = none
section
variable {K : PySem.W.Frag} {mg : Mg} {i : Nat} {F0 H0 F H F' H' : Hp} {σ σ' : St} {ρ ρ' : Rho} {o : DD} {A : Addr} {bs : List Addr}
theorem WD.is (h : WD K mg i F0 H0 F H σ ρ o A bs) : ∀ q ∈ A :: bs, ∃ u, H q = some u := by
  intro q hq
  rcases List.mem_cons.mp hq with rfl | hq
  · exact ⟨_, h.ha⟩
  · obtain ⟨j, hj⟩ := List.mem_iff_getElem?.mp hq
    have hl : j < o.length := by rw [← h.len]; exact (List.getElem?_eq_some_iff.mp hj).1
    exact (h.hb j q _ hj (List.getElem?_eq_getElem hl)).here
theorem WD.ext (h : WD K mg i F0 H0 F H σ ρ o A bs) (x : Ext F H σ ρ F' H' σ' ρ') (r' : R K mg [] F' H' σ' ρ') (e1 : σ'[i]? = σ[i]?) (e2 : ρ'[i]? = some .un) : WD K mg i F0 H0 F' H' σ' ρ' o A bs := by
  have at' : ∀ q ∈ A :: bs, ∀ u, H q = some u → H' q = some u ∧ F' q = F q := fun q hq u e => x.keep q u e (h.free q hq).2.1
  refine ⟨r', e1.trans h.sa, e2, (at' A List.mem_cons_self _ h.ha).1, h.len, fun j b p hj hp => ?_, fun q hq => ?_, h.nd, h.sF.trans x.sub, fun a u ha => ?_, fun a w => ?_, fun a ha => h.st a (x.stay a ha)⟩
  · exact (h.hb j b p hj hp).move (fun u e => (at' b (List.mem_cons_of_mem _ (List.mem_of_getElem? hj)) u e).1) x.sub
  · obtain ⟨f1, f2, f3⟩ := h.free q hq
    obtain ⟨u, e⟩ := h.is q hq
    refine ⟨by rw [(at' q hq u e).2]; exact f1, fun w => ?_, f3⟩
    rcases x.own q w with z | z
    · exact f2 z
    · rw [e] at z; cases z
  · obtain ⟨q1, q2⟩ := h.kp a u ha
    obtain ⟨q3, q4⟩ := x.keep a u q1 fun w => by rw [h.ow a w] at ha; cases ha
    exact ⟨q3, q4.trans q2⟩
  · rcases x.own a w with z | z
    · exact h.ow a z
    · exact h.st a z
/-- an untracked new thing -/
theorem WD.add (h : WD K mg i F0 H0 F H σ ρ o A bs) {p : Addr} {u : HO} (hp : H p = none) : WD K mg i F0 H0 F (upd H p u) σ ρ o A bs := by
  have ne : ∀ q w, H q = some w → q ≠ p := fun q w e => ne_of_none e hp
  refine ⟨h.r.addH hp, h.sa, h.hid, by rw [upd_ne (ne _ _ h.ha)]; exact h.ha, h.len, fun j b q hj hq => (h.hb j b q hj hq).move (fun w e => by rw [upd_ne (ne b w e)]; exact e) (Same.refl _), h.free, h.nd, h.sF, fun a w ha => ?_, h.ow, fun a ha => ?_⟩
  · obtain ⟨q1, q2⟩ := h.kp a w ha
    exact ⟨by rw [upd_ne (ne a w q1)]; exact q1, q2⟩
  · by_cases z : a = p
    · subst z; exact h.st a hp
    · rw [upd_ne z] at ha; exact h.st a ha
end
/-! ### the judgement -/
abbrev MD := Rho → DD → Option (Rho × DD)
def tD (K : PySem.W.Frag) (mg : Mg) (i : Nat) (m : MD) : TS := fun D σ H => ∃ F0 H0 F ρ o A bs ρ' o', WD K mg i F0 H0 F H σ ρ o A bs ∧ m ρ o = some (ρ', o') ∧ ∀ σ' F' H' A' bs', Same F F' → WD K mg i F0 H0 F' H' σ' ρ' o' A' bs' → D.nx σ' H'
abbrev PD (X : Cx) (i : Nat) (st : Stmt) (m : MD) : Prop := PS X st (tD X.K X.mgx i m)
abbrev PDs (X : Cx) (i : Nat) (sts : List Stmt) (m : MD) : Prop := PSs X sts (tD X.K X.mgx i m)
section
variable {X : Cx} {i : Nat} {st : Stmt} {rest body : List Stmt} {e tg : Expr} {pos : Pos} {m n : MD}
theorem pd_one (h : PD X i st m) : PDs X i [st] m := pss_one h
def dFor (g : MG) (b : MD) : List D → MD
  | [], ρ, o => some (ρ, o)
  | d :: ds, ρ, o => match g d ρ with
    | some ρ1 => match b ρ1 o with
      | some (ρ2, o2) => dFor g b ds ρ2 o2
      | none => none
    | none => none
def dForS (i : Nat) (mi : MI) (g : MG) (b : MD) : MD := fun ρ o => match mi ρ with
  | some (ds, ρ1) => if unAt ρ1 i then dFor g (fun ρ o => if unAt ρ i then b ρ o else none) ds ρ1 o else none
  | none => none
where unAt (ρ : Rho) (i : Nat) : Bool := match ρ[i]? with
  | some .un => true
  | _ => false
theorem unAt_un {ρ : Rho} {i : Nat} (h : dForS.unAt ρ i = true) : ρ[i]? = some .un := by
  unfold dForS.unAt at h
  split at h
  · assumption
  · cases h
theorem pd_for {sl : List Nat} {iter : Expr} {mi : MI} {g : MG} (hi : SI X tg iter mi) (hg : SG X sl tg g) (hb : PDs X i body m) (h0 : i ∉ sl) (hp : PassesOwn (model X.prog X.w) X.A X.env X.xe) (hc : X.calm = true := by rfl) (hs : ∀ x, foldedSetIterable iter X.env x = pure x := by intro _; rfl) :
    PD X i (.For tg iter body [] pos) (dForS i mi g m) := ps_mk fun D σ H ⟨F0, H0, F, ρ, o, A, bs, ρ', o', w, hm, q⟩ => by
  refine ⟨_, L2.ps_for hp hc hi hg hb hs, ?_⟩
  unfold dForS at hm
  split at hm <;> try cases hm
  rename_i ds ρ1 h1
  split at hm <;> try cases hm
  rename_i hu
  refine ⟨[], F, ρ, ds, ρ1, w.r, h1, fun J F1 H1 x1 r1 ok => ?_⟩
  have w1 := w.ext x1 r1 rfl (unAt_un hu)
  refine ⟨fun j k σ2 H2 => ∃ F2 ρ2 o2 A2 bs2, k = ds.length - j ∧ j ≤ ds.length ∧ Same F1 F2 ∧ WD X.K X.mgx i F0 H0 F2 H2 σ2 ρ2 o2 A2 bs2 ∧ dFor g (fun ρ o => if dForS.unAt ρ i then m ρ o else none) (ds.drop j) ρ2 o2 = some (ρ', o'), ⟨ds.length, F1, ρ1, o, A, bs, by simp, Nat.zero_le _, Same.refl _, w1, by simpa using hm⟩, ?_⟩
  rintro j k σ2 H2 ⟨F2, ρ2, o2, A2, bs2, rfl, hj, s2, w2, hl⟩
  obtain ⟨ok1, ok2⟩ := ok j F2 H2 s2 w2.r.sub
  by_cases hlt : j < ds.length
  · have hd : ds[j]? = some ds[j] := List.getElem?_eq_getElem hlt
    rw [List.drop_eq_getElem_cons hlt] at hl
    simp only [dFor] at hl
    split at hl <;> try cases hl
    rename_i ρ3 h3
    split at hl <;> try cases hl
    rename_i ρ5 o5 h5
    split at h5 <;> try cases h5
    rename_i hu3
    obtain ⟨go, yl⟩ := ok1 _ hd
    refine .inr ⟨go, fun σ4 H4 => ∃ F4 A4 bs4, Same F1 F4 ∧ WD X.K X.mgx i F0 H0 F4 H4 σ4 ρ5 o5 A4 bs4, fun σ4 H4 ⟨F4, A4, bs4, s4, w4⟩ => ⟨ds.length - (j + 1), by omega, F4, ρ5, o5, A4, bs4, rfl, hlt, s4, w4, hl⟩, fun x H3 y => ?_⟩
    obtain ⟨F3, gr, px⟩ := yl x H3 y
    have w3 := w2.ext gr.ext (w2.r.grow gr) rfl w2.hid
    refine ⟨[], F3, ρ2, _, ρ3, w3.r, px, h3, fun σ4 F4 H4 x4 r4 oe => ?_⟩
    have w4 := w3.ext x4 r4 (oe.2 i h0) (unAt_un hu3)
    exact ⟨F0, H0, F4, ρ3, o2, A2, bs2, ρ5, o5, w4, h5, fun σ6 F6 H6 A6 bs6 s6 w6 => ⟨F6, A6, bs6, ((s2.trans gr.sub).trans x4.sub).trans s6, w6⟩⟩
  · have e : j = ds.length := by omega
    subst e
    rw [List.drop_length] at hl
    simp only [dFor] at hl
    cases hl
    exact .inl ⟨ok2 rfl, q σ2 F2 H2 A2 bs2 (x1.sub.trans s2) w2⟩
/-! ### the call g(d.setdefault(k, {}), ..) -/
def lookO : DD → Key → Option (List Key × List D)
  | [], _ => none
  | p :: o, k => if p.1 = k then some p.2 else lookO o k
def putO : DD → Key → List Key × List D → DD
  | [], k, x => [(k, x)]
  | p :: o, k, x => if p.1 = k then (k, x) :: o else p :: putO o k x
def dCall (i : Nat) (g : Gf) (mk : ME) (m : MA) : MD := fun ρ o => match mk ρ with
  | some (y, ρ1) => match keyD y with
    | some k => match m ρ1 with
      | some (os, ρ2) => match valL os with
        | some xs => if dForS.unAt ρ2 i && dForS.unAt ρ1 i && decide (o.length < LIM) then match g (.io (.dic ((lookO o k).getD ([], [])).1 ((lookO o k).getD ([], [])).2) :: xs.map .d) with
          | some (_, some (.dic ks' ds')) => some (ρ2, putO o k (ks', ds'))
          | _ => none
        else none
        | none => none
      | none => none
    | none => none
  | none => none
theorem argsOk_vals {K : PySem.W.Frag} {mg : Mg} {F H : Hp} : ∀ {xs : List D} {vs : List V}, RepL K mg F xs vs → ArgsOk K mg F H (xs.map .d) vs
  | [], _, h => by simp only [RepL] at h; subst h; simp only [List.map_nil, ArgsOk]
  | x :: xs, _, h => by
    simp only [RepL] at h
    obtain ⟨v, t, rfl, p, r⟩ := h
    simp only [List.map_cons, ArgsOk]
    exact ⟨v, t, rfl, p, argsOk_vals r⟩
theorem ioL_vals : ∀ {xs : List D} {vs : List V} {k : Nat}, ioL (xs.map Sl.d) vs k = []
  | [], vs, k => by cases vs <;> rfl
  | x :: xs, [], k => rfl
  | x :: xs, v :: vs, k => by simp only [List.map_cons, ioL]; exact ioL_vals
/-- what stands at a key -/
theorem look_zip : ∀ {o : DD} {bs : List Addr} {k : Key}, bs.length = o.length → (lookO o k = none → valV ((o.map (·.1)).zip (bs.map V.ref)) k = none) ∧
    ∀ p, lookO o k = some p → ∃ j b, bs[j]? = some b ∧ o[j]? = some (k, p) ∧ valV ((o.map (·.1)).zip (bs.map V.ref)) k = some (.ref b) ∧ ∀ x, putO o k x = o.set j (k, x)
  | [], bs, k, _ => ⟨fun _ => by simp [valV], fun p h => by simp [lookO] at h⟩
  | q :: o, [], k, h => by simp at h
  | q :: o, b :: bs, k, h => by
    obtain ⟨g1, g2⟩ := look_zip (o := o) (bs := bs) (k := k) (by simpa using h)
    simp only [lookO, List.map_cons, List.zip_cons_cons, putO]
    by_cases c : q.1 = k
    · rw [if_pos c, valV_pos c]
      refine ⟨fun h => (by cases h), fun p hp => ?_⟩
      cases hp
      subst c
      exact ⟨0, b, rfl, rfl, rfl, fun x => by rw [if_pos rfl]; rfl⟩
    · rw [if_neg c, valV_neg c]
      refine ⟨g1, fun p hp => ?_⟩
      obtain ⟨j, b', h1, h2, h3, h4⟩ := g2 p hp
      exact ⟨j + 1, b', h1, h2, h3, fun x => by rw [if_neg c, h4 x]; rfl⟩
theorem put_none : ∀ {o : DD} {k : Key} {x : List Key × List D}, lookO o k = none → putO o k x = o ++ [(k, x)]
  | [], _, _, _ => rfl
  | q :: o, k, x, h => by
    simp only [lookO] at h
    split at h
    · cases h
    · rename_i c
      simp only [putO, if_neg c, put_none h, List.cons_append]
/-- from the inner dict at b on: the other arguments, the call -/
theorem pd_fin {X : Cx} {i : Nat} {g : Gf} {m : MA} {F0 H0 F H : Hp} {σ : St} {ρ ρ' : Rho} {o : DD} {A : Addr} {bs : List Addr} {j : Nat} {b : Addr} {kk : Key} {p : List Key × List D} {os : List Od} {xs : List D} {r0 : D} {ks' : List Key} {ds' : List D} {N : St → Hp → Prop} {E : XK}
    (w : WD X.K X.mgx i F0 H0 F H σ ρ o A bs) (hb : bs[j]? = some b) (ho : o[j]? = some (kk, p)) (hm : m ρ = some (os, ρ')) (hx : valL os = some xs) (hu : dForS.unAt ρ' i = true) (hg : g (.io (.dic p.1 p.2) :: xs.map .d) = some (r0, some (.dic ks' ds')))
    (q : ∀ F' H', Same F F' → WD X.K X.mgx i F0 H0 F' H' σ ρ' (o.set j (kk, (ks', ds'))) A bs → N σ H') : tA X.K X.mgx m σ H fun vs H2 => spD X.K X.mgx g ((.ref b :: vs) ++ []) H2 (fun _ H' => N σ H') E := by
  refine ⟨[], F, ρ, os, ρ', w.r, hm, fun vs F1 H1 x1 r1 p1 => ?_⟩
  have w1 := w.ext x1 r1 rfl (unAt_un hu)
  have rl := p1.vals hx
  obtain ⟨f1, f2, f3⟩ := w1.free b (List.mem_cons_of_mem _ (List.mem_of_getElem? hb))
  have ha := argsOk_vals (K := X.K) (mg := X.mgx) (F := F1) (H := H1) rl
  have hio : ioL (.io (.dic p.1 p.2) :: xs.map .d) (.ref b :: vs) 0 = [(0, b)] := by simp only [ioL]; rw [ioL_vals]
  show spD X.K X.mgx g (.ref b :: vs ++ []) H1 _ E
  rw [List.append_nil]
  refine ⟨F1, .io (.dic p.1 p.2) :: xs.map .d, r0, _, r1.sub, ?_, by rw [hio]; exact Nat.le_refl _, hg, fun v F' H' s1 s2 keep stay out _ => ?_⟩
  · simp only [ArgsOk]
    exact ⟨b, vs, rfl, f1, w1.hb j b _ hb ho, ha⟩
  rw [hio] at keep out
  obtain ⟨c', e2, hf, hv⟩ := out
  cases e2
  have keep' : ∀ a u, H1 a = some u → a ≠ b → H' a = some u ∧ F' a = F1 a := fun a u e n => keep a u e (by simpa using n)
  have nAb : A ≠ b := fun e => (List.nodup_cons.mp w1.nd).1 (by rw [e]; exact List.mem_of_getElem? hb)
  refine q F' H' (x1.sub.trans s1) ⟨?_, w1.sa, w1.hid, ?_, by rw [List.length_set]; exact w1.len, fun j' b' p' hj hp => ?_, fun a ha' => ?_, w1.nd, w1.sF.trans s1, fun a u hau => ?_, w1.ow, fun a hau => w1.st a (stay a hau)⟩
  · refine ⟨r1.len, s2, fun n x hn => ?_, fun n c hn => ?_, r1.inj, r1.ios⟩
    · obtain ⟨v', e', q'⟩ := r1.dat n x hn
      exact ⟨v', e', q'.mono s1⟩
    · obtain ⟨a, e', fa, ca⟩ := r1.cel n c hn
      have na : a ≠ b := by rintro rfl; exact f2 ⟨n, c, hn, e'⟩
      obtain ⟨u, hu'⟩ := ca.here
      exact ⟨a, e', (keep' a u hu' na).2.trans fa, ca.move (fun o' ho' => (keep' a o' ho' na).1) s1⟩
  · rw [(keep' A _ w1.ha nAb).1]
    congr 3
    rw [List.map_set]
    refine (List.ext_getElem? fun n => ?_).symm
    rw [List.getElem?_set]
    by_cases z : j = n
    · subst z
      rw [List.getElem?_map, ho]
      have := (List.getElem?_eq_some_iff.mp ho).1
      simp [this]
    · rw [if_neg z]
  · rw [List.getElem?_set] at hp
    by_cases z : j = j'
    · subst z
      rw [hb] at hj
      cases hj
      simp only [if_true] at hp
      split at hp <;> cases hp
      exact hv
    · rw [if_neg z] at hp
      have nb : b' ≠ b := fun e => by
        subst e
        have h1 := (List.getElem?_eq_some_iff.mp hj)
        have h2 := (List.getElem?_eq_some_iff.mp hb)
        exact z ((List.getElem_inj (List.nodup_cons.mp w1.nd).2).mp (h2.2.trans h1.2.symm))
      exact (w1.hb j' b' p' hj hp).move (fun o' ho' => (keep' b' o' ho' nb).1) s1
  · obtain ⟨g1, g2, g3⟩ := w1.free a ha'
    refine ⟨?_, g2, g3⟩
    by_cases z : a = b
    · subst z; exact hf
    · obtain ⟨u, hu'⟩ := w1.is a ha'
      rw [(keep' a u hu' z).2]; exact g1
  · obtain ⟨q1, q2⟩ := w1.kp a u hau
    have na : a ≠ b := by rintro rfl; rw [f3] at hau; cases hau
    obtain ⟨q3, q4⟩ := keep' a u q1 na
    exact ⟨q3, q4.trans q2⟩
theorem pd_call {x fn : Str} {k j : Nat} {g : Gf} {tk e2 : Expr} {es : List Expr} {p0 p1 apos cpos dpos p pos : Pos} {mk : ME} {m : MA} (c : Kn.of X k fn g) (hr : Room j X.A) (hk : k ≤ j) (ht : SE X tk mk) (ha : SA X (e2 :: es) m) (hN : X.N[i]? = some x := by rfl) (hv : Vis X.env.scope x := by first | exact Or.inl rfl | exact Or.inr (Or.inl rfl) | exact Or.inr (Or.inr rfl)) (hd : (x == ("__debug__" : Str)) = false := by decide) (hcd : (x == ("__classdict__" : Str)) = false := by decide)
    (hm2 : M2 X (.Name x p0) "setdefault" apos tk (.Dict [] [] dpos) cpos := by exact ⟨rfl, rfl, rfl, rfl⟩)
    (hg : Gl X fn := by rfl) (hdb : (fn == ("__debug__" : Str)) = false := by decide) (he : starEach (.Call (.Attribute (.Name x p0) "setdefault" apos) [tk, .Dict [] [] dpos] [] cpos :: e2 :: es) X.env = (false, eval (.Call (.Attribute (.Name x p0) "setdefault" apos) [tk, .Dict [] [] dpos] [] cpos) X.env) :: starEach (e2 :: es) X.env := by rfl) (hpl : (backTo p1 (starEach (e2 :: es) X.env)).any (·.1) = false := by rfl)
    (hs : swapsWith (.Call (.Name fn p) (.Call (.Attribute (.Name x p0) "setdefault" apos) [tk, .Dict [] [] dpos] [] cpos :: e2 :: es) [] p1) none pos.line X.env = pure false := by rfl) :
    PD X i (.Expr (.Call (.Name fn p) (.Call (.Attribute (.Name x p0) "setdefault" apos) [tk, .Dict [] [] dpos] [] cpos :: e2 :: es) [] p1) pos) (dCall i g mk m) := ps_mk fun D σ H ⟨F0, H0, F, ρ, o, A, bs, ρ', o', w, hm, q⟩ => by
  obtain ⟨f, fd, ps, hmg, hkp, hb, FO⟩ := c.ex
  refine ⟨_, L2.ps_expr (pe_call FO (hr.mono hk) hg hmg hkp hb .nil pass0 (pa_cons (pe_dsetd (pe_var hN hv hd hcd) ht pe_dnewK hm2) ha he) hdb he hpl) hs, ?_⟩
  unfold dCall at hm
  split at hm <;> try cases hm
  rename_i y ρ1 h1
  split at hm <;> try cases hm
  rename_i kk h2
  split at hm <;> try cases hm
  rename_i os ρ2 h3
  split at hm <;> try cases hm
  rename_i xs h4
  split at hm <;> try cases hm
  rename_i hc
  simp only [Bool.and_eq_true, decide_eq_true_eq] at hc
  obtain ⟨⟨hu2, hu1⟩, hlen⟩ := hc
  split at hm <;> cases hm
  rename_i _ ks' ds' h5
  refine ⟨_, w.sa, A, rfl, .inl ⟨_, .inl w.ha⟩, [], F, ρ, y, ρ1, w.r, h1, fun v F1 H1 x1 r1 p1 => ?_⟩
  have hv := keyD_v p1 h2
  subst hv
  have w1 := w.ext x1 r1 rfl (unAt_un hu1)
  refine fun np hnp => ?_
  have w2 := w1.add (u := .dK []) hnp
  have hlz : ((o.map (·.1)).zip (bs.map V.ref)).length = o.length := by rw [List.length_zip, List.length_map, List.length_map, w.len]; omega
  obtain ⟨l1, l2⟩ := look_zip (o := o) (bs := bs) (k := kk) w.len
  refine ⟨_, kk, w2.ha, rfl, by rw [hlz]; exact Nat.lt_of_lt_of_le hlen lim_line, fun v hv => ?_, fun hn => ?_⟩
  · -- it is there
    cases hl : lookO o kk with
    | none => rw [l1 hl] at hv; cases hv
    | some p0 =>
      obtain ⟨j, b, hb1, ho1, hv1, hput⟩ := l2 p0 hl
      rw [hv] at hv1
      cases hv1
      rw [hl] at h5
      refine pd_fin w2 hb1 ho1 h3 h4 hu2 h5 fun F' H' s3 w3 => ?_
      rw [← hput] at w3
      exact q σ F' H' A bs (x1.sub.trans s3) w3
  · -- it is new
    cases hl : lookO o kk with
    | some p0 =>
      obtain ⟨_, _, _, _, hv1, _⟩ := l2 p0 hl
      rw [hn] at hv1; cases hv1
    | none =>
      rw [hl] at h5
      have hf := w1.r.freeF hnp
      have hnb : np ∉ A :: bs := fun hm => by
        obtain ⟨u, hu⟩ := w1.is np hm
        rw [hu] at hnp; cases hnp
      have hk2 : putK ((o.map (·.1)).zip (bs.map V.ref)) kk (.ref np) = ((o ++ [(kk, (([] : List Key), ([] : List Z.D)))]).map (·.1)).zip ((bs ++ [np]).map V.ref) := by
        rw [putK_new _ hn, List.map_append, List.map_append, List.zip_append (by simp [w.len])]
        rfl
      have w3 : WD X.K X.mgx i F0 H0 F1 (upd (upd H1 np (.dK [])) A (.dK (putK ((o.map (·.1)).zip (bs.map V.ref)) kk (.ref np)))) σ ρ1 (o ++ [(kk, ([], []))]) A (bs ++ [np]) := by
        have nA : np ≠ A := fun e => hnb (by rw [e]; exact List.mem_cons_self)
        obtain ⟨fA, oA, zA⟩ := w2.free A List.mem_cons_self
        refine ⟨w2.r.poke fA oA, w2.sa, w2.hid, by rw [hk2]; exact upd_same, by simp [w.len], fun j b p hj hp => ?_, fun a ha => ?_, ?_, w2.sF, fun a u ha => ?_, w2.ow, fun a ha => ?_⟩
        · by_cases hjl : j < bs.length
          · rw [List.getElem?_append_left hjl] at hj
            rw [List.getElem?_append_left (by rw [← w.len]; exact hjl)] at hp
            have nb : b ≠ A := fun e => (List.nodup_cons.mp w2.nd).1 (by rw [← e]; exact List.mem_of_getElem? hj)
            exact (w2.hb j b p hj hp).move (fun o' ho' => by rw [upd_ne nb]; exact ho') (Same.refl _)
          · rw [List.getElem?_append_right (by omega)] at hj
            rw [List.getElem?_append_right (by rw [← w.len]; omega), ← w.len] at hp
            cases z : j - bs.length with
            | zero =>
              rw [z] at hj hp
              simp only [List.getElem?_cons_zero, Option.some.injEq] at hj hp
              subst hj hp
              exact ⟨[], by rw [upd_ne nA]; exact upd_same, rfl, .nil⟩
            | succ n => rw [z] at hj; simp at hj
        · have ha' : a ∈ A :: bs ∨ a = np := by
            simp only [List.mem_cons, List.mem_append, List.not_mem_nil, or_false] at ha ⊢
            rcases ha with h | h | h
            · exact .inl (.inl h)
            · exact .inl (.inr h)
            · exact .inr h
          rcases ha' with h | rfl
          · exact w2.free a h
          · exact ⟨hf, w1.r.notOwn hnp, w1.st _ hnp⟩
        · have := w2.nd
          simp only [List.nodup_cons, List.mem_append, List.mem_singleton, not_or, List.nodup_append, List.nodup_nil, List.not_mem_nil, not_false_eq_true, and_true, true_and] at this ⊢
          refine ⟨⟨this.1, fun e => nA e.symm⟩, this.2, fun a ha b hb => ?_⟩
          subst hb
          exact fun e => hnb (List.mem_cons_of_mem _ (by rw [← e]; exact ha))
        · obtain ⟨q1, q2⟩ := w2.kp a u ha
          have : a ≠ A := by rintro rfl; rw [zA] at ha; cases ha
          exact ⟨by rw [upd_ne this]; exact q1, q2⟩
        · by_cases z : a = A
          · subst z; rw [upd_same] at ha; cases ha
          · rw [upd_ne z] at ha; exact w2.st a ha
      have ho3 : (o ++ [(kk, (([] : List Key), ([] : List Z.D)))])[bs.length]? = some (kk, ([], [])) := by rw [w.len, List.getElem?_append_right (Nat.le_refl _), Nat.sub_self]; rfl
      refine pd_fin (j := bs.length) (b := np) w3 (by simp) ho3 h3 h4 hu2 h5 fun F' H' s3 w4 => ?_
      have e : (o ++ [(kk, ([], []))]).set bs.length (kk, (ks', ds')) = putO o kk (ks', ds') := by
        rw [put_none hl, w.len, List.set_append_right _ _ (Nat.le_refl _), Nat.sub_self]
        rfl
      rw [e] at w4
      exact q σ F' H' A _ (x1.sub.trans s3) w4
/-! ### the def: d = {}, a loop, return d -/
def ddD (o : DD) : Z.D := .dic (o.map (·.1)) (o.map fun p => .dic p.2.1 p.2.2)
/-- a def of data alone -/
def runDD (np nl i : Nat) (m : MD) : Gf := fun sl => if sl.length = np ∧ sl.all (fun s => match s with | .d _ => true | _ => false) = true ∧ np ≤ i ∧ i < np + nl then match m (sl ++ List.replicate nl .un) [] with
    | some (_, o) => some (ddD o, none)
    | none => none
  else none
def tDD (K : PySem.W.Frag) (mg : Mg) (np nl i : Nat) (m : MD) : TS := fun D σ H => ∃ F sl vs d c, Same F H ∧ ArgsOk K mg F H sl vs ∧ σ = vs.map some ++ List.replicate nl none ∧ runDD np nl i m sl = some (d, c) ∧ ∀ v F' H', Grow F H F' H' → (∀ a, H' a = none → H a = none) → Rep K mg F' d v → D.rt v H'
theorem repL_bs {K : PySem.W.Frag} {mg : Mg} {F : Hp} : ∀ {o : DD} {bs : List Addr}, bs.length = o.length → (∀ (j : Nat) b p, bs[j]? = some b → o[j]? = some p → Rep K mg F (.dic p.2.1 p.2.2) (.ref b)) → RepL K mg F (o.map fun p => .dic p.2.1 p.2.2) (bs.map V.ref)
  | [], [], _, _ => .nil
  | [], _ :: _, h, _ => by simp at h
  | _ :: _, [], h, _ => by simp at h
  | p :: o, b :: bs, h, f => .cons (f 0 b p rfl rfl) (repL_bs (by simpa using h) fun j b p h1 h2 => f (j + 1) b p (by simpa using h1) (by simpa using h2))
theorem pd_body {x : Str} {np nl : Nat} {dpos p1 p2 pos0 pos2 : Pos} {lp : Stmt} (hN : X.N.Nodup) (hl : PD X i lp m) (hi : X.N[i]? = some x := by rfl) (hx : Loc X.env.scope x := by first | exact Or.inl rfl | exact Or.inr rfl) (hf : X.fn x = true ∨ X.env.scope.names.lookup x = some .local := by first | exact .inl rfl | exact .inr rfl)
    (hs : swapsWith (.Dict [] [] dpos) (some (.Name x p1)) pos0.line X.env = pure false := by rfl) (hv : Vis X.env.scope x := by first | exact Or.inl rfl | exact Or.inr (Or.inl rfl) | exact Or.inr (Or.inr rfl)) (hd : (x == ("__debug__" : Str)) = false := by decide) (hcd : (x == ("__classdict__" : Str)) = false := by decide) :
    PSs X [.Assign [.Name x p1] (.Dict [] [] dpos) pos0, lp, .Return (some (.Name x p2)) pos2] (tDD X.K X.mgx np nl i m) := pss_mk fun D σ H ⟨F, sl, vs, d, c, sF, ha, hσ, hm, q⟩ => by
  refine ⟨_, pss_cons (L2.ps_set hN hi hx pe_dnewK hs hf) (pss_cons hl (pss_one (L2.ps_ret (pe_ghL (pe_var hi hv hd hcd))))), ?_⟩
  unfold runDD at hm
  split at hm <;> try cases hm
  rename_i hc0
  obtain ⟨hnp, hall, hi1, hi2⟩ := hc0
  split at hm <;> cases hm
  rename_i _ o h1
  have hdat : ∀ s ∈ sl, ∃ y, s = Sl.d y := fun s hs => by
    have := List.all_eq_true.mp hall s hs
    cases s <;> simp at this ⊢
  have hio : ∀ {sl : List Sl} {vs : List V} (k : Nat), (∀ s ∈ sl, ∃ y, s = Sl.d y) → ioL sl vs k = [] := by
    intro sl
    induction sl with
    | nil => intro vs k _; cases vs <;> rfl
    | cons s sl ih =>
      intro vs k h
      obtain ⟨y, rfl⟩ := h s List.mem_cons_self
      cases vs with
      | nil => rfl
      | cons v vs => simp only [ioL]; exact ih (k + 1) fun s hs => h s (List.mem_cons_of_mem _ hs)
  have hL := hio (vs := vs) 0 hdat
  have r0 := R.start (K := X.K) (mg := X.mgx) (nl := nl) sF ha (by rw [hL]; exact Nat.zero_le _)
  rw [hL] at r0
  have hlen := ha.len
  have hun : (sl ++ List.replicate nl Sl.un)[i]? = some .un := by
    rw [List.getElem?_append_right (by omega), List.getElem?_replicate]
    rw [if_pos (by omega)]
  have nown : ∀ a, ¬ OwnA σ (sl ++ List.replicate nl Sl.un) a := fun a ⟨j, c, hj, _⟩ => by
    unfold cellAt at hj
    cases z : (sl ++ List.replicate nl Sl.un)[j]? with
    | none => rw [z] at hj; cases hj
    | some s =>
      rw [z] at hj
      rcases List.mem_append.mp (List.mem_of_getElem? z) with h | h
      · obtain ⟨y, rfl⟩ := hdat s h; cases hj
      · rw [List.eq_of_mem_replicate h] at hj; cases hj
  refine fun p hp => ?_
  rw [← hσ] at r0
  have r1 := r0.addH (o := .dK []) hp
  obtain ⟨r2, o2⟩ := r1.setU (v := .ref p) hun
  have hil : i < σ.length := by rw [← r0.len]; simp; omega
  have w0 : WD X.K X.mgx i F H F (upd H p (.dK [])) (σ.set i (some (.ref p))) (sl ++ List.replicate nl .un) [] p [] := by
    refine ⟨r2, by rw [List.getElem?_set_self hil], hun, upd_same, rfl, fun j b q hj => by simp at hj, fun a ha' => ?_, by simp, Same.refl _, fun a u hau => ⟨by rw [upd_ne (ne_of_none hau hp)]; exact hau, rfl⟩, fun a wn => absurd (o2 a wn) (nown a), fun a hau => ?_⟩
    · rcases List.mem_singleton.mp ha' with rfl
      exact ⟨r0.freeF hp, fun wn => nown _ (o2 _ wn), hp⟩
    · by_cases z : a = p
      · subst z; exact hp
      · rw [upd_ne z] at hau; exact hau
  refine ⟨F, H, F, _, [], p, [], _, o, w0, h1, fun σ' F' H' A bs s' w => ?_⟩
  have hpick : ∀ b ∈ bs, ∃ u, H' b = some u ∧ Mut (some u) ∧ ∃ kvs, u = .dK kvs := fun b hb => by
    obtain ⟨j, hj⟩ := List.mem_iff_getElem?.mp hb
    have hjl : j < o.length := by rw [← w.len]; exact (List.getElem?_eq_some_iff.mp hj).1
    obtain ⟨kvs, e, _⟩ := w.hb j b _ hj (List.getElem?_eq_getElem hjl)
    exact ⟨_, e, True.intro, kvs, rfl⟩
  refine ⟨(A, .dK ((o.map (·.1)).zip (bs.map V.ref))) :: bs.map (fun b => (b, (H' b).getD (.dK []))), ?_, fun q' hq' => ?_, fun H2 k1 k2 => ?_⟩
  · rw [List.map_cons, List.map_map, show ((fun x : Addr × HO => x.1) ∘ fun b => (b, (H' b).getD (.dK []))) = id from rfl, List.map_id]
    exact w.nd
  · rcases List.mem_cons.mp hq' with rfl | hq'
    · exact ⟨w.ha, True.intro⟩
    · obtain ⟨b, hb, rfl⟩ := List.mem_map.mp hq'
      obtain ⟨u, e, mu, _⟩ := hpick b hb
      simp only [e, Option.getD_some]
      exact ⟨trivial, mu⟩
  · have hfst : ((A, HO.dK ((o.map (·.1)).zip (bs.map V.ref))) :: bs.map (fun b => (b, (H' b).getD (.dK [])))).map (·.1) = A :: bs := by
      rw [List.map_cons, List.map_map, show ((fun x : Addr × HO => x.1) ∘ fun b => (b, (H' b).getD (.dK []))) = id from rfl, List.map_id]
    rw [hfst] at k2
    obtain ⟨odA, eA⟩ := k1 _ List.mem_cons_self
    have eB : ∀ b ∈ bs, ∃ od u, H' b = some u ∧ H2 b = some (.frz od u) := fun b hb => by
      obtain ⟨u, e, _, _⟩ := hpick b hb
      obtain ⟨od, e2⟩ := k1 (b, (H' b).getD (.dK [])) (List.mem_cons_of_mem _ (List.mem_map.mpr ⟨b, hb, rfl⟩))
      refine ⟨od, u, e, ?_⟩
      rw [e2]; simp only [e, Option.getD_some]
    -- what is frozen in the end
    have hG : ∃ G : Hp, Same F' G ∧ Same G H2 ∧ (∀ q ∈ A :: bs, G q = H2 q) ∧ ∀ q, q ∉ A :: bs → G q = F' q := by
      refine ⟨fun q => if q ∈ A :: bs then H2 q else F' q, fun q u e => ?_, fun q u e => ?_, fun q hq => if_pos hq, fun q hq => if_neg hq⟩
      · have : q ∉ A :: bs := fun hq => by rw [(w.free q hq).1] at e; cases e
        show (if q ∈ A :: bs then H2 q else F' q) = some u
        rw [if_neg this]; exact e
      · have e : (if q ∈ A :: bs then H2 q else F' q) = some u := e
        by_cases hq : q ∈ A :: bs
        · rw [if_pos hq] at e; exact e
        · rw [if_neg hq] at e; rw [k2 q hq]; exact w.r.sub _ _ e
    obtain ⟨G, g1, g2, g3, g4⟩ := hG
    have nbk : ∀ a u, H a = some u → a ∉ A :: bs := fun a u e hq => by rw [(w.free a hq).2.2] at e; cases e
    refine ⟨_, w.sa, q _ G H2 ⟨w.sF.trans g1, g2, fun a u e => ?_⟩ (fun a e => ?_) ?_⟩
    · have n := nbk a u e
      obtain ⟨q1, q2⟩ := w.kp a u e
      exact ⟨by rw [k2 a n]; exact q1, by rw [g4 a n]; exact q2⟩
    · by_cases hq : a ∈ A :: bs
      · rcases List.mem_cons.mp hq with rfl | hb
        · have eA : H2 a = some _ := eA
          rw [eA] at e; cases e
        · obtain ⟨od, u, _, e2⟩ := eB a hb
          rw [e2] at e; cases e
      · rw [k2 a hq] at e; exact w.st a e
    · simp only [ddD, Rep]
      refine ⟨A, odA, _, rfl, (g3 A List.mem_cons_self).trans eA, zip_fst _ _ (by simp [w.len]), ?_⟩
      rw [zip_snd _ _ (by simp [w.len])]
      refine repL_bs w.len fun j b p hj hp => ?_
      have hbm := List.mem_of_getElem? hj
      obtain ⟨od, u, e1, e2⟩ := eB b hbm
      obtain ⟨kvs, e, n, rl⟩ := w.hb j b p hj hp
      rw [e1] at e
      cases e
      simp only [Rep]
      exact ⟨b, od, kvs, rfl, (g3 b (List.mem_cons_of_mem _ hbm)).trans e2, n, rl.mono g1⟩
end
section
variable {P : Program} {w : World} {K : PySem.W.Frag} {mg : Str → Option Value} {base : Heap}
theorem ioL_all : ∀ (sl : List Sl) (vs : List V) (n : Nat), (sl.all (fun s => match s with | .d _ => true | _ => false)) = true → ioL sl vs n = []
  | [], vs, _, _ => by cases vs <;> rfl
  | s :: sl, [], _, _ => by cases s <;> rfl
  | s :: sl, v :: vs, n, h => by
    rw [List.all_cons, Bool.and_eq_true] at h
    cases s with
    | d x => simp only [ioL]; exact ioL_all sl vs _ h.2
    | un => cases h.1
    | own c => cases h.1
    | io c => cases h.1
theorem fnDDic {x qual : Str} {st : Stmt} {f : Addr} {fd : FuncData} {N ps : List Str} {k i : Nat} {m : MD} (Fn : Fun K x qual st f fd) (S : FnScope N ps (defScope st))
    (hbody : ∀ (cdv : Value) (A : Around) (outer : List Env) (s : Shared) (H : Hp) (E : XK), Room k (A.deeper (envOfC qual (defScope st) s.heap.objs.size f cdv)) →
      PSs (cxOf CX0 P w K mg base N qual (defScope st) f cdv A outer s H E).nox (defBody st) (tDD K ⟨mg, P, w⟩ ps.length (N.length - ps.length) i m)) : FnOk P w K mg base CX0 (k + 1) f fd ps (spD K ⟨mg, P, w⟩ (runDD ps.length (N.length - ps.length) i m)) := by
  have hlen : ∀ vs H Q E, spD K ⟨mg, P, w⟩ (runDD ps.length (N.length - ps.length) i m) vs H Q E → vs.length = ps.length := by
    rintro vs H Q E ⟨F, sl, d, c, _, a, _, hg, _⟩
    unfold runDD at hg
    split at hg
    · rename_i e; rw [a.len]; exact e.1
    · cases hg
  refine Fn.ok S hlen fun cdv A outer s H vs Q E hr h => ⟨_, hbody cdv A outer s H E hr, ?_⟩
  have hl := hlen vs H Q E h
  obtain ⟨F, sl, d, c, hs, a, hio, hg, q⟩ := h
  have hL : ioL sl vs 0 = [] := by
    have hg' := hg
    unfold runDD at hg'
    split at hg'
    · rename_i e
      exact ioL_all sl vs 0 e.2.1
    · cases hg'
  refine ⟨F, sl, vs, d, c, hs, a, by unfold L2.start; rw [hl], hg, fun v F' H' gr st rp => q v F' H' gr.sub gr.in_ (fun b o e _ => gr.keep b o e) st ?_ rp⟩
  rw [hL]; trivial
end
end Z
/-! max and min of a list of ints. -/
namespace Z
open PySem PySem.Spec PyProof.Rows L2

def bigI : List Int → Int
  | [] => 0
  | [a] => a
  | a :: l => if bigI l ≤ a then a else bigI l
def smallI : List Int → Int
  | [] => 0
  | [a] => a
  | a :: l => if a ≤ smallI l then a else smallI l
theorem bigI_ok : ∀ {l : List Int}, l ≠ [] → bigI l ∈ l ∧ ∀ y ∈ l, y ≤ bigI l
  | [], h => absurd rfl h
  | [a], _ => ⟨List.mem_cons_self, fun y hy => by rw [List.mem_singleton.mp hy]; exact Int.le_refl _⟩
  | a :: b :: l, _ => by
    obtain ⟨h1, h2⟩ := bigI_ok (l := b :: l) (by simp)
    rw [bigI]
    · split
      · rename_i c
        refine ⟨List.mem_cons_self, fun y hy => ?_⟩
        rcases List.mem_cons.mp hy with rfl | hy
        · exact Int.le_refl _
        · exact Int.le_trans (h2 y hy) c
      · rename_i c
        refine ⟨List.mem_cons_of_mem _ h1, fun y hy => ?_⟩
        rcases List.mem_cons.mp hy with rfl | hy
        · omega
        · exact h2 y hy
    · simp
theorem smallI_ok : ∀ {l : List Int}, l ≠ [] → smallI l ∈ l ∧ ∀ y ∈ l, smallI l ≤ y
  | [], h => absurd rfl h
  | [a], _ => ⟨List.mem_cons_self, fun y hy => by rw [List.mem_singleton.mp hy]; exact Int.le_refl _⟩
  | a :: b :: l, _ => by
    obtain ⟨h1, h2⟩ := smallI_ok (l := b :: l) (by simp)
    rw [smallI]
    · split
      · rename_i c
        refine ⟨List.mem_cons_self, fun y hy => ?_⟩
        rcases List.mem_cons.mp hy with rfl | hy
        · exact Int.le_refl _
        · exact Int.le_trans c (h2 y hy)
      · rename_i c
        refine ⟨List.mem_cons_of_mem _ h1, fun y hy => ?_⟩
        rcases List.mem_cons.mp hy with rfl | hy
        · omega
        · exact h2 y hy
    · simp
def maxID : List D → Option D
  | [.lst ds] => match intsD ds with
    | some (n :: ns) => some (.int (bigI (n :: ns)))
    | _ => none
  | _ => none
def minID : List D → Option D
  | [.lst ds] => match intsD ds with
    | some (n :: ns) => some (.int (smallI (n :: ns)))
    | _ => none
  | _ => none
section
variable {X : Cx}
theorem n_maxI (hc : X.calm = true) : OpN X (.builtin "max") maxID := by
  intro ds d h
  unfold maxID at h
  split at h <;> try cases h
  split at h <;> cases h
  rename_i n ns hn
  refine ⟨_, cr_max hc, fun F H vs Q s p q => ?_⟩
  obtain ⟨v, rfl, pp⟩ := p.one
  obtain ⟨a, vs, rfl, h1, r1⟩ := pp.lst s
  have := r1.ints hn
  subst this
  refine ⟨a, n :: ns, rfl, SqL.of h1, by simp, fun m hm hy => ?_⟩
  obtain ⟨b1, b2⟩ := bigI_ok (l := n :: ns) (by simp)
  have : m = bigI (n :: ns) := Int.le_antisymm (b2 m hm) (hy _ b1)
  rw [this]
  exact q.int s
theorem n_minI (hc : X.calm = true) : OpN X (.builtin "min") minID := by
  intro ds d h
  unfold minID at h
  split at h <;> try cases h
  split at h <;> cases h
  rename_i n ns hn
  refine ⟨_, cr_min hc, fun F H vs Q s p q => ?_⟩
  obtain ⟨v, rfl, pp⟩ := p.one
  obtain ⟨a, vs, rfl, h1, r1⟩ := pp.lst s
  have := r1.ints hn
  subst this
  refine ⟨a, n :: ns, rfl, SqL.of h1, by simp, fun m hm hy => ?_⟩
  obtain ⟨b1, b2⟩ := smallI_ok (l := n :: ns) (by simp)
  have : m = smallI (n :: ns) := Int.le_antisymm (hy _ b1) (b2 m hm)
  rw [this]
  exact q.int s
end
end Z
/-! list.count of ints; sorted of a list of pairs of ints. -/
namespace Z
open PySem PySem.Spec PyProof.Rows L2

def rCount (K : PySem.W.Frag) : V → List V → Hp → VK → Prop := fun x xs H Q => ∃ (a : Addr) (ns : List Int) (n : Int), x = V.ref a ∧ xs = [V.int n] ∧ SqL K H a (ns.map V.int) ∧ Q (.int (ns.count n : Nat)) H
theorem vals_count {n : Int} : ∀ {ns : List Int} {us : List Value}, Vals (ns.map V.int) us → us.countP (eqU (.int n)) = ns.count n
  | [], _, .nil => rfl
  | m :: ns, _, .cons r t => by
    obtain ⟨tk, rfl⟩ := r
    rw [List.countP_cons, vals_count t, List.count_cons]
    rfl
theorem flat_ints (ns : List Int) : (ns.map V.int).all flatV = true := List.all_eq_true.mpr fun x hx => by
  obtain ⟨n, _, rfl⟩ := List.mem_map.mp hx; rfl
section
variable {X : Cx}
theorem mt_count : MtR X "list.count" (rCount X.K) := by
  intro pins s σ H x xs v us Q I rx rxs h
  obtain ⟨a, ns, n, rfl, rfl, hs, q⟩ := h
  cases rx
  cases rxs with
  | cons ry rt =>
    rename_i uy ut
    cases rt
    obtain ⟨its, rv, ⟨⟨cls, dd, data, sl⟩, k, ho, hc, hdn, hd⟩, hlen⟩ := I.list hs
    simp only at hc hd
    subst hc hd
    refine call_meets PySem.F.slot_list_count ⟨_, ho, rfl⟩ PySem.F.entry_list_count (PySem.F.args_list_count_2 _ _)
      (SeqAt.list_countAt a its.toArray k dd sl uy (eqU (.int n))) ⟨ho, fun u' hu' => mem_eqAt ry rfl rv (flat_ints ns) u' (by simpa using hu'), ?_⟩
    refine ⟨.int (ns.count n : Nat), H, I.tok _, ⟨s.toks, ?_⟩, q⟩
    rw [List.toList_toArray, vals_count rv]
def mLCnt (mo m : MO) : ME := fun ρ => match mo ρ with
  | some (oo, ρ1) => match res ρ1 oo with
    | some (.lst _) => match m ρ1 with
      | some (o, ρ') => match res ρ' oo, res ρ' o with
        | some (.lst xs), some (.int z) => match intsD xs with
          | some ns => some (.int (ns.count z : Nat), ρ')
          | none => none
        | _, _ => none
      | none => none
    | _ => none
  | none => none
theorem se_lcount {o e : Expr} {mo m : MO} {apos pos : Pos} (ho : SO X o mo) (h : SO X e m)
    (hbase : attributeBase o "count" X.env (eval o X.env) = eval o X.env := by rfl)
    (hfew : ((backTo pos (starEach [e] X.env)).all (fun x => !x.1) && (backToKw pos (keywordEach [] X.env)).all (fun x => x.1.isSome)
      && decide (([e] : List Expr).length + ([] : List Keyword).length + (if ([] : List Keyword).isEmpty then 0 else 1) < 30)) = true := by rfl)
    (hline : (apos.endLine == pos.line) = true := by rfl) (hs1 : starEach [e] X.env = (false, eval e X.env) :: starEach [] X.env := by rfl) (hplain : (backTo pos (starEach [] X.env)).any (·.1) = false := by rfl) :
    SE X (.Call (.Attribute o "count" apos) [e] [] pos) (mLCnt mo m) := Z.pe_mk fun σ H Q ⟨io, F, ρ, d, ρ', r, hm, q⟩ => by
  refine ⟨_, pe_bm PySem.F.plainAttrs_list PySem.F.slot_list_count PySem.F.type_list_count mt_count ho (pa_cons h pa_nil hs1) hbase hfew hline hs1 hplain, ?_⟩
  unfold mLCnt at hm
  split at hm <;> try cases hm
  rename_i oo ρ1 h1
  split at hm <;> try cases hm
  rename_i xs0 hx0
  split at hm <;> try cases hm
  rename_i od ρ2 h2
  split at hm <;> try cases hm
  rename_i xs z hx hz
  split at hm <;> cases hm
  rename_i ns hn
  refine ⟨io, F, ρ, oo, ρ1, r, h1, fun v F1 H1 x1 r1 p1 => ?_⟩
  obtain ⟨a0, vs0, rfl, ht0, _⟩ := (r1.res p1 hx0).lst r1.sub
  refine ⟨.inl ⟨rfl, _, SqL.of ht0⟩, io, F1, ρ1, od, _, r1, h2, fun w F2 H2 x2 r2 p2 => ?_⟩
  obtain ⟨a, vs, ea, ht, rl⟩ := (r2.res (p1.mono x2.sub) hx).lst r2.sub
  cases ea
  have e := rl.ints hn
  subst e
  have ew := (r2.res p2 hz).int
  subst ew
  exact ⟨_, ns, z, rfl, rfl, SqL.of ht, q _ F2 H2 (x1.trans x2) r2 (by simp only [Rep])⟩
end
/-! ### sorted(xs), xs a list of pairs of ints -/
def rSortPr (K : PySem.W.Frag) : List V → Hp → VK → Prop := fun vs H Q => ∃ (a : Addr) (xs : List V) (zs : List PII) (T : V → PII → Prop), vs = [V.ref a] ∧ SqL K H a xs ∧ PySem.W.EachIs T xs zs ∧ (∀ x z, T x z → ∃ t, x = V.ref t ∧ SqT K H t [.int z.1, .int z.2]) ∧
  ∀ ys p, PySem.W.EachIs T ys (zs.mergeSort leII) → H p = none → Q (.ref p) (upd H p (.lst ys))
theorem each_vals {T : V → PII → Prop} : ∀ {xs : List V} {us : List Value} {zs : List PII}, Vals xs us → PySem.W.EachIs T xs zs → PySem.W.EachIs (fun u z => ∃ x, T x z ∧ RelV x u) us zs
  | _, _, _, .nil, .nil => .nil
  | _, _, _, .cons r t, .cons h1 h2 => .cons ⟨_, h1, r⟩ (each_vals t h2)
theorem each_back {T : V → PII → Prop} : ∀ {us : List Value} {zs : List PII}, PySem.W.EachIs (fun u z => ∃ x, T x z ∧ RelV x u) us zs → ∃ xs, PySem.W.EachIs T xs zs ∧ Vals xs us
  | _, _, .nil => ⟨[], .nil, .nil⟩
  | _, _, .cons ⟨x, h1, r⟩ t => by
    obtain ⟨xs, e1, e2⟩ := each_back t
    exact ⟨x :: xs, .cons h1 e1, .cons r e2⟩
theorem vals_two {i j : Int} {its : List Value} (r : Vals [V.int i, V.int j] its) : ∃ t u, its = [Value.int i t, Value.int j u] := Vals.int2 r
section
variable {X : Cx}
theorem cr_sortPr (hu : X.A.units + 64 < cLine) : CallR X (.builtin "sorted") (rSortPr X.K) := by
  intro pins s σ H vs us Q I r h
  obtain ⟨a, xs, zs, T, rfl, hs, he, hT, q⟩ := h
  obtain ⟨its, rv, hl, hz⟩ := I.list hs
  obtain rfl := Vals.ref1 r
  have eR := each_vals rv he
  have hlen : its.length = zs.length := eR.length
  have er : PySem.W.EachIs (fun (v : Value) (z : PII) => ∃ as, Reads s.heap v (encII z) as) its zs := eR.mono fun u z ⟨x, hx, rx⟩ => by
    obtain ⟨t, rfl, ht⟩ := hT x z hx
    obtain ⟨its2, r2, ⟨o, ho, hc, n2, hd⟩, _⟩ := I.tuple ht
    obtain ⟨t1, t2, rfl⟩ := vals_two r2
    cases rx
    exact ⟨_, .tuple ho hc hd (.cons (.int _ _) (.cons (.int _ _) .nil))⟩
  refine PySem.W.sorted_data (vs := its) (bs := zs) (enc := encII) hl.isList eR er ?_ (.inl fun d hd => ?_) (by rw [← hlen, ← rv.length]; exact hz) (fun b _ => ?_) fun out lout eout => ?_
  · intro d hd d' hd'
    obtain ⟨z, _, rfl⟩ := List.mem_map.mp hd
    obtain ⟨z', _, rfl⟩ := List.mem_map.mp hd'
    simp [encII, PySem.W.alike, PySem.W.alikeAll]
  · obtain ⟨z, _, rfl⟩ := List.mem_map.mp hd
    exact ⟨_, _, rfl⟩
  · have e2 : (encII b).depth ≤ 3 := by unfold encII; simp [PyData.depth, PyData.depthAll]
    omega
  · rw [show PySem.W.dataLe false encII = leII by unfold encII leII; exact PySem.W.dataLe_ii (β := PII) (fun z => z.1) (fun z => z.2)] at eout
    obtain ⟨ys, e1, e2⟩ := each_back eout
    obtain ⟨n, hn⟩ := sortedAll_at s.heap its out.toArray
    have hd : s.heap.objs.size ≤ s.heap.objs.size + 1 := Nat.le_succ _
    refine ⟨.ref (s.heap.objs.size + 1), upd H (s.heap.objs.size + 1) (.lst ys), I.laid (t' := s.toks) (fun b o e => sortedAll_old e) hd ⟨?_, out, n, e2, hn⟩, rfl, q ys _ e1 (I.hok.fresh hd)⟩
    rw [e2.length, lout, ← hlen, ← rv.length]
    exact hz
def prsD : List D → Option (List PII)
  | [] => some []
  | .tup [.int i, .int j] :: ds => match prsD ds with
    | some zs => some ((i, j) :: zs)
    | none => none
  | _ => none
theorem prs_map : ∀ {ds : List D} {zs : List PII}, prsD ds = some zs → ds = zs.map piiD
  | [], zs, h => by simp only [prsD] at h; cases h; rfl
  | d :: ds, zs, h => by
    unfold prsD at h
    split at h <;> try cases h
    · rename_i e; cases e
    · rename_i i j ds' e
      cases e
      split at h <;> cases h
      rename_i zs h2
      rw [prs_map h2]; rfl
def sortPD : List D → Option D
  | [.lst ds] => match prsD ds with
    | some zs => some (.lst ((zs.mergeSort leII).map piiD))
    | none => none
  | _ => none
theorem repL_each {K : PySem.W.Frag} {mg : Mg} {F : Hp} : ∀ {zs : List PII} {vs : List V}, RepL K mg F (zs.map piiD) vs → PySem.W.EachIs (fun x z => Rep K mg F (piiD z) x) vs zs
  | [], vs, h => by simp only [List.map_nil, RepL] at h; subst h; exact .nil
  | z :: zs, vs, h => by
    simp only [List.map_cons, RepL] at h
    obtain ⟨v, t, rfl, p, r⟩ := h
    exact .cons p (repL_each r)
theorem each_repL {K : PySem.W.Frag} {mg : Mg} {F : Hp} : ∀ {zs : List PII} {vs : List V}, PySem.W.EachIs (fun x z => Rep K mg F (piiD z) x) vs zs → RepL K mg F (zs.map piiD) vs
  | [], _, .nil => .nil
  | _ :: _, _, .cons p t => .cons p (each_repL t)
theorem n_sortP (hu : X.A.units + 64 < cLine) : OpN X (.builtin "sorted") sortPD := by
  intro ds d h
  unfold sortPD at h
  split at h <;> try cases h
  split at h <;> cases h
  rename_i zs hz
  refine ⟨_, cr_sortPr hu, fun F H vs Q s p q => ?_⟩
  obtain ⟨v, rfl, pp⟩ := p.one
  obtain ⟨a, vs, rfl, h1, r1⟩ := pp.lst s
  rw [prs_map hz] at r1
  refine ⟨a, vs, zs, _, rfl, SqL.of h1, repL_each r1, fun x z hx => ?_, fun ys p hp hn => q.newL s (each_repL hp) p hn⟩
  simp only [piiD, Rep, RepL] at hx
  obtain ⟨t, ws, e, ht, v1, w1, rfl, rfl, v2, w2, rfl, rfl, rfl⟩ := hx
  exact ⟨t, e, Same.tup s ht.t⟩
end
end Z
/-! a, b, c = x, y, z. -/
namespace Z
open PySem PySem.Spec PyProof.Rows L2
section
variable {X : Cx} {a b c : Expr} {pos : Pos}
def mPar3 (i j l : Nat) (m n o : ME) : MS := fun ρ => match m ρ with
  | some (x, ρ1) => match n ρ1 with
    | some (y, ρ2) => match o ρ2 with
      | some (z, ρ3) => match putD i x ρ3 with
        | some ρ4 => match putD j y ρ4 with
          | some ρ5 => match putD l z ρ5 with
            | some ρ6 => some (.nx, ρ6)
            | none => none
          | none => none
        | none => none
      | none => none
    | none => none
  | none => none
theorem ss_par3 (i j l : Nat) {x y z : Str} {px py pz pt pt2 : Pos} {kt k2 : Nat} {m n o : ME} (hN : X.N.Nodup) (ha : SE X a m) (hb : SE X b n) (hd : SE X c o) (hc : X.calm = true := by rfl) (hi : X.N[i]? = some x := by rfl) (hj : X.N[j]? = some y := by rfl) (hl : X.N[l]? = some z := by rfl) (hij : i ≠ j := by decide) (hil : i ≠ l := by decide) (hjl : j ≠ l := by decide)
    (hx : X.env.scope.names.lookup x = some .local := by rfl) (hy : X.env.scope.names.lookup y = some .local := by rfl) (hz : X.env.scope.names.lookup z = some .local := by rfl)
    (hs1 : starEach [a, b, c] X.env = (false, eval a X.env) :: starEach [b, c] X.env := by rfl) (hs2 : starEach [b, c] X.env = (false, eval b X.env) :: starEach [c] X.env := by rfl) (hs3 : starEach [c] X.env = (false, eval c X.env) :: starEach [] X.env := by rfl)
    (hw : swappedStores [.Tuple [.Name x px, .Name y py, .Name z pz] kt pt] (.Tuple [a, b, c] k2 pt2) X.env = pure (some [x, y, z]) := by rfl)
    (hs : swapsWithSole [.Tuple [.Name x px, .Name y py, .Name z pz] kt pt] (.Tuple [a, b, c] k2 pt2) pos.line X.env = pure false := by rfl) :
    SS X (.Assign [.Tuple [.Name x px, .Name y py, .Name z pz] kt pt] (.Tuple [a, b, c] k2 pt2) pos) (mPar3 i j l m n o) := ps_mk fun D σ H ⟨io, F, ρ, fl, ρ', r, hm, q⟩ => by
  refine ⟨_, L2.ps_par3 hc hN hi hj hl hij hil hjl hx hy hz (pa_cons ha (pa_cons hb (pa_cons hd pa_nil hs3) hs2) hs1) hw hs, ?_⟩
  unfold mPar3 at hm
  split at hm <;> try cases hm
  rename_i d1 ρ1 h1
  split at hm <;> try cases hm
  rename_i d2 ρ2 h2
  split at hm <;> try cases hm
  rename_i d3 ρ3 h3
  split at hm <;> try cases hm
  rename_i ρ4 h4
  split at hm <;> try cases hm
  rename_i ρ5 h5
  split at hm <;> cases hm
  rename_i h6
  refine ⟨io, F, ρ, d1, ρ1, r, h1, fun v F1 H1 x1 r1 p1 => ⟨io, F1, ρ1, d2, ρ2, r1, h2, fun w F2 H2 x2 r2 p2 => ⟨io, F2, ρ2, d3, ρ3, r2, h3, fun u F3 H3 x3 r3 p3 => ⟨v, w, u, rfl, ?_⟩⟩⟩⟩
  obtain ⟨r4, x4⟩ := r3.putD h4 (Rep.mono (x2.sub.trans x3.sub) p1)
  obtain ⟨r5, x5⟩ := r4.putD h5 (Rep.mono x3.sub p2)
  obtain ⟨r6, x6⟩ := r5.putD h6 p3
  exact q _ F3 H3 ((((x1.trans (x2.trans x3)).trans x4).trans x5).trans x6) r6
def absD : List D → Option D
  | [.int i] => some (.int (i.natAbs : Int))
  | _ => none
theorem n_abs : OpN X (.builtin "abs") absD := by
  intro ds d h
  unfold absD at h
  split at h <;> cases h
  rename_i i
  refine ⟨_, call_abs, fun F H vs Q s p q => ?_⟩
  obtain ⟨v, rfl, pp⟩ := p.one
  have e := pp.int
  subst e
  refine ⟨i, rfl, ?_⟩
  rw [show (if i < 0 then -i else i) = (i.natAbs : Int) by split <;> omega]
  exact q.int s
end
end Z
/-! Sets of tuples in slots: made, asked, added to. -/
namespace Z
open PySem PySem.Spec PyProof.Rows L2

section
variable {X : Cx} {pins : List (Addr × Obj)} {σ : L2.St} {F H : Hp} {s : Shared}
mutual
theorem nk_is (I : Inv X pins σ H s) (sF : Same F H) : ∀ (d : D) (v : V) (u : Value) (k : NestedKey), Rep X.K X.mgx F d v → RelV v u → nkOf d = some k → NestedIs s.heap k u
  | .non, v, u, k, r, ru, h => by
    simp only [nkOf, Option.some.injEq] at h; subst h
    simp only [Rep] at r; subst r
    cases ru; exact .none
  | .int i, v, u, k, r, ru, h => by
    simp only [nkOf, Option.some.injEq] at h; subst h
    simp only [Rep] at r; subst r
    obtain ⟨t, rfl⟩ := ru; exact .int i t
  | .bl b, v, u, k, r, ru, h => by
    simp only [nkOf, Option.some.injEq] at h; subst h
    simp only [Rep] at r; subst r
    cases ru; exact .bool rfl
  | .str x, v, u, k, r, ru, h => by
    simp only [nkOf, Option.some.injEq] at h; subst h
    simp only [Rep] at r; subst r
    obtain ⟨t, rfl⟩ := ru; exact .text x t
  | .tup ds, v, u, k, r, ru, h => by
    simp only [nkOf] at h
    split at h <;> try cases h
    rename_i ks hk
    obtain ⟨a, vs, its, n, o, rfl, rfl, ho, hc, hd, rv, rl⟩ := tup_at I sF r ru
    exact .tup ho hc hd (nks_are I sF ds vs its.toList ks rl rv hk)
  | .fn n, v, u, k, r, ru, h => by simp [nkOf] at h
  | .raw n, v, u, k, r, ru, h => by simp [nkOf] at h
  | .scr n, v, u, k, r, ru, h => by simp [nkOf] at h
  | .lst n, v, u, k, r, ru, h => by simp [nkOf] at h
  | .prs n, v, u, k, r, ru, h => by simp [nkOf] at h
  | .obj _ _ _, v, u, k, r, ru, h => by simp [nkOf] at h
  | .dic _ _, v, u, k, r, ru, h => by simp [nkOf] at h
  | .dct _ _, v, u, k, r, ru, h => by simp [nkOf] at h
theorem nks_are (I : Inv X pins σ H s) (sF : Same F H) : ∀ (ds : List D) (vs : List V) (us : List Value) (ks : List NestedKey), RepL X.K X.mgx F ds vs → Vals vs us → nksOf ds = some ks → NestedAll s.heap ks us
  | [], vs, us, ks, r, ru, h => by
    simp only [RepL] at r; subst r
    cases ru
    simp only [nksOf, Option.some.injEq] at h; subst h
    exact .nil
  | d :: ds, vs, us, ks, r, ru, h => by
    simp only [RepL] at r
    obtain ⟨v, t, rfl, q, rt⟩ := r
    cases ru with
    | cons h1 h2 =>
      simp only [nksOf] at h
      split at h <;> try cases h
      rename_i k ks' e1 e2
      exact .cons (nk_is I sF d v _ k q h1 e1) (nks_are I sF ds t _ ks' rt h2 e2)
end
theorem nk_at (I : Inv X pins σ H s) (sF : Same F H) {d : D} {a : Addr} {k : NestedKey} (r : Rep X.K X.mgx F d (.ref a)) (h : nkOf d = some k) (hd : k.depth ≤ 8) : NAt s.heap k a := ⟨nk_is I sF d _ _ k r rfl h, hd⟩
theorem sno_ok {P : Program} {w : World} {m : Mg} {h : Heap} {a : Addr} {L : NRows} {es : Array (Int × Value)} {ep : Nat} {t : SetTable} (R : SK m.w h a L es ep t) : ObjOk P w H h a (SNO m a L) := by
  obtain ⟨o, ho, _⟩ := R.ob
  exact ⟨⟨es, ep, t, R⟩, ⟨o, ho⟩, fun g1 g2 ⟨es, ep, t, R⟩ k => ⟨es, ep, t, R.at k⟩⟩
/-- the keys of a set stand -/
def KeysS (K : PySem.W.Frag) (mg : Mg) (F : Hp) (L : NRows) : Prop := ∀ p ∈ L, ∃ d, nkOf d = some p.2 ∧ p.2.depth ≤ 8 ∧ Rep K mg F d (.ref p.1)
structure LookS (K : PySem.W.Frag) (mg : Mg) (H : Hp) (b a : Addr) (k : NestedKey) (L : NRows) : Prop where
  ex : ∃ F d, Same F H ∧ Rep K mg F d (.ref b) ∧ nkOf d = some k ∧ k.depth ≤ 8 ∧ KeysS K mg F L
  here : H a = some (SNO mg a L)
theorem LookS.at (I : Inv X pins σ H s) {a b : Addr} {k : NestedKey} {L : NRows} (l : LookS X.K X.mgx H b a k L) : ∃ es ep t, SK X.w s.heap a L es ep t ∧ (∀ p ∈ L, NAt s.heap p.2 p.1) ∧ NAt s.heap k b := by
  obtain ⟨F, d, sF, r, hk, hd, ks⟩ := l.ex
  obtain ⟨⟨es, ep, t, R⟩, _⟩ := I.hok a _ l.here
  exact ⟨es, ep, t, R, fun p hp => let ⟨d', a1, a2, a3⟩ := ks p hp; nk_at I sF a3 a1 a2, nk_at I sF r hk hd⟩
def rSetN (mg : Mg) : List V → Hp → VK → Prop := fun xs H Q => xs = [] ∧ ∀ p, H p = none → Q (.ref p) (upd H p (SNO mg p []))
theorem cr_setN : CallR X (.type "set") (rSetN X.mgx) := by
  intro pins s σ H xs us Q I r h
  obtain ⟨rfl, q⟩ := h
  cases r
  refine setR_new fun _ => ?_
  exact ⟨.ref _, upd H s.heap.objs.size (SNO X.mgx s.heap.objs.size []), I.laid (t' := s.toks) (fun b u e => Heap.get?_push_of_some _ e) (Nat.le_refl _) (sno_ok (m := X.mgx) (fresh4 (w := X.w) (Heap.get?_push_size _ rfl))), rfl, q _ (I.hok.fresh (Nat.le_refl _))⟩
def rSIn (K : PySem.W.Frag) (mg : Mg) (neg : Bool) : R2 := fun x y H Q => ∃ b a k L, x = .ref b ∧ y = .ref a ∧ LookS K mg H b a k L ∧ Q (.bl (xor neg (decide (k ∈ L.map (·.2))))) H
theorem op_sin (hu : X.A.units + 64 < cLine) : OpR X (compareOp .In) (rSIn X.K X.mgx false) := by
  intro pins s σ H x y v u Q I rx ry ⟨b, a, k, L, e1, e2, l, q⟩
  subst e1 e2
  cases rx
  cases ry
  obtain ⟨es, ep, t, R, tup, hx⟩ := l.at I
  rw [Bool.false_xor] at q
  show wpAny _ _ (do return Value.bool (← contains (.ref a) (.ref b))) _ _ s
  exact wpAny_bind (has4 R tup hx hu (wpAny_pure ⟨.bl _, H, I.tok _, rfl, q⟩))
theorem op_snin (hu : X.A.units + 64 < cLine) : OpR X (compareOp .NotIn) (rSIn X.K X.mgx true) := by
  intro pins s σ H x y v u Q I rx ry ⟨b, a, k, L, e1, e2, l, q⟩
  subst e1 e2
  cases rx
  cases ry
  obtain ⟨es, ep, t, R, tup, hx⟩ := l.at I
  rw [Bool.true_xor] at q
  show wpAny _ _ (do return Value.bool (!(← contains (.ref a) (.ref b)))) _ _ s
  exact wpAny_bind (has4 R tup hx hu (wpAny_pure ⟨.bl _, H, I.tok _, rfl, q⟩))
def rSAdd (K : PySem.W.Frag) (mg : Mg) : V → List V → Hp → VK → Prop := fun x xs H Q => ∃ b a k L, x = .ref a ∧ xs = [.ref b] ∧ LookS K mg H b a k L ∧ L.length < 300 ∧
  ∀ L' : NRows, (k ∈ L.map (·.2) → L' = L) → (k ∉ L.map (·.2) → L'.Perm ((b, k) :: L)) → Q .non (upd H a (SNO mg a L'))
theorem mt_sadd (hu : X.A.units + 64 < cLine) : MtR X "set.add" (rSAdd X.K X.mgx) := by
  intro pins s σ H x xs v us Q I rx rxs h
  obtain ⟨b, a, k, L, rfl, rfl, l, hl, q⟩ := h
  cases rx
  cases rxs with
  | cons ry rt =>
    cases rt
    cases ry
    obtain ⟨es, ep, t, R, tup, hx⟩ := l.at I
    refine put4 R tup hx hu hl fun h' L' es' ep' t' sb R' c1 c2 => ?_
    have he : ∃ u, h'.get? a = some u := let ⟨o, ho, _⟩ := R'.ob; ⟨o, ho⟩
    exact ⟨.non, upd H a (SNO X.mgx a L'), I.write (e := a) (by rw [l.here]; trivial) (.inl rfl) (fun c u hc hu => (sb.2 c hc).trans hu) he (sno_ok (m := X.mgx) R'), rfl, q L' c1 c2⟩
end

/-! ### in slots -/
def mNewSet (i : Nat) : MS := fun ρ => match ρ[i]? with
  | some s => if notIo s then some (.nx, ρ.set i (.own (.set []))) else none
  | none => none
/-- the set that a slot owns -/
def ownS (ρ : Rho) (i : Nat) : Option (List D) := match ρ[i]? with
  | some (.own (.set ks)) => some ks
  | some (.io (.set ks)) => some ks
  | _ => none
def mSIn (neg : Bool) (mk : ME) (i : Nat) : ME := fun ρ => match mk ρ with
  | some (.tup ds, ρ1) => match ownS ρ1 i, nkOf (.tup ds) with
    | some ks, some k => if k.depth ≤ 8 then some (.bl (xor neg (inKs ks k)), ρ1) else none
    | _, _ => none
  | _ => none
def addKs (ks : List D) (d : D) (k : NestedKey) : List D := if inKs ks k = true then ks else ks ++ [d]
def mSAdd (i : Nat) (mk : ME) : MS := fun ρ => match ownS ρ i with
  | some _ => match mk ρ with
    | some (.tup ds, ρ1) => match ownS ρ1 i, nkOf (.tup ds) with
      | some ks, some k => if k.depth ≤ 8 ∧ ks.length < 300 then some (.nx, putC ρ1 i (.set (addKs ks (.tup ds) k))) else none
      | _, _ => none
    | _ => none
  | none => none
structure SetAs (K : PySem.W.Frag) (mg : Mg) (F : Hp) (ks : List D) (L : NRows) : Prop where
  kl : ∀ p ∈ L, ∃ d ∈ ks, nkOf d = some p.2 ∧ p.2.depth ≤ 8 ∧ Rep K mg F d (.ref p.1)
  k2 : ∀ d ∈ ks, ∃ p ∈ L, nkOf d = some p.2
  len : L.length ≤ ks.length
theorem SetAs.keys {K : PySem.W.Frag} {mg : Mg} {F : Hp} {ks : List D} {L : NRows} (c : SetAs K mg F ks L) : KeysS K mg F L := fun p hp => let ⟨d, _, a⟩ := c.kl p hp; ⟨d, a⟩
theorem SetAs.hin {K : PySem.W.Frag} {mg : Mg} {F : Hp} {ks : List D} {L : NRows} (c : SetAs K mg F ks L) (k : NestedKey) : decide (k ∈ L.map (·.2)) = inKs ks k := by
  unfold inKs
  rw [Bool.eq_iff_iff, decide_eq_true_eq, List.any_eq_true]
  constructor
  · intro hm
    obtain ⟨p, hp, rfl⟩ := List.mem_map.mp hm
    obtain ⟨d, hd, e, _⟩ := c.kl p hp
    exact ⟨d, hd, decide_eq_true e⟩
  · rintro ⟨d, hd, e⟩
    obtain ⟨p, hp, e2⟩ := c.k2 d hd
    rw [of_decide_eq_true e] at e2
    exact List.mem_map.mpr ⟨p, hp, (Option.some.inj e2).symm⟩
section
variable {K : PySem.W.Frag} {mg : Mg} {io : List (Nat × Addr)} {F H : Hp} {σ : St} {ρ : Rho}
theorem R.ownS {i : Nat} {ks : List D} (r : R K mg io F H σ ρ) (h : Z.ownS ρ i = some ks) : ∃ a L, σ[i]? = some (some (.ref a)) ∧ H a = some (SNO mg a L) ∧ SetAs K mg F ks L ∧
    ∀ L' ks', SetAs K mg F ks' L' → R K mg io F (upd H a (SNO mg a L')) σ (putC ρ i (.set ks')) ∧ Ext F H σ ρ F (upd H a (SNO mg a L')) σ (putC ρ i (.set ks')) := by
  obtain ⟨s, hs, hc⟩ : ∃ s, ρ[i]? = some s ∧ s.cell? = some (.set ks) := by
    unfold Z.ownS at h
    split at h <;> cases h
    · rename_i hs; exact ⟨_, hs, rfl⟩
    · rename_i hs; exact ⟨_, hs, rfl⟩
  have hci : cellAt ρ i = some (.set ks) := by unfold cellAt; rw [hs]; exact hc
  obtain ⟨a, e, f, L, hv, k1, k2, k3⟩ := r.cel i _ hci
  refine ⟨a, L, e, hv, ⟨k1, k2, k3⟩, fun L' ks' hk => ?_⟩
  have : putC ρ i (.set ks') = ρ.set i (s.put (.set ks')) := by unfold putC; rw [hs]
  rw [this]
  exact r.wr hs hc e ⟨L', upd_same, hk.kl, hk.k2, hk.len⟩
theorem SetAs.put {b : Addr} {ks ds : List D} {k : NestedKey} {L L' : NRows} (c : SetAs K mg F ks L) (r : Rep K mg F (.tup ds) (.ref b)) (hk : nkOf (.tup ds) = some k) (hd : k.depth ≤ 8) (c1 : k ∈ L.map (·.2) → L' = L) (c2 : k ∉ L.map (·.2) → L'.Perm ((b, k) :: L)) :
    SetAs K mg F (addKs ks (.tup ds) k) L' := by
  have hh := c.hin k
  unfold addKs
  by_cases h : k ∈ L.map (·.2)
  · obtain rfl := c1 h
    rw [decide_eq_true h] at hh
    rw [if_pos hh.symm]
    exact c
  · have p := c2 h
    rw [decide_eq_false h] at hh
    rw [if_neg (by rw [← hh]; exact Bool.false_ne_true)]
    refine ⟨fun q hq => ?_, fun d hd' => ?_, ?_⟩
    · rcases List.mem_cons.mp (p.mem_iff.mp hq) with rfl | hq
      · exact ⟨_, List.mem_append_right _ (List.mem_singleton.mpr rfl), hk, hd, r⟩
      · obtain ⟨d, h1, h2⟩ := c.kl q hq
        exact ⟨d, List.mem_append_left _ h1, h2⟩
    · rcases List.mem_append.mp hd' with hd' | hd'
      · obtain ⟨q, h1, h2⟩ := c.k2 d hd'
        exact ⟨q, p.mem_iff.mpr (List.mem_cons_of_mem _ h1), h2⟩
      · rw [List.mem_singleton.mp hd']
        exact ⟨(b, k), p.mem_iff.mpr List.mem_cons_self, hk⟩
    · rw [p.length_eq, List.length_cons, List.length_append, List.length_singleton]
      have := c.len
      omega
end
section
variable {X : Cx} {e i' : Expr} {es : List Expr} {pos : Pos}
def tSAdd (K : PySem.W.Frag) (mg : Mg) (to : TE) (t : TA) : TE := fun σ H Q => to σ H fun x H1 => (∃ a L, x = V.ref a ∧ H1 a = some (SNO mg a L)) ∧ t σ H1 fun xs H2 => rSAdd K mg x xs H2 Q
theorem pe_bmS {o e : Expr} {es : List Expr} {to : TE} {t : TA} {apos cpos : Pos} (hu : X.A.units + 64 < cLine) (ho : PE X o to) (ha : PA X (e :: es) t)
    (hbase : attributeBase o "add" X.env (eval o X.env) = eval o X.env := by rfl)
    (hfew : ((backTo cpos (starEach (e :: es) X.env)).all (fun x => !x.1) && (backToKw cpos (keywordEach [] X.env)).all (fun x => x.1.isSome)
      && decide ((e :: es).length + ([] : List Keyword).length + (if ([] : List Keyword).isEmpty then 0 else 1) < 30)) = true := by rfl)
    (hline : (apos.endLine == cpos.line) = true := by rfl) (hs : starEach (e :: es) X.env = (false, eval e X.env) :: starEach es X.env := by rfl) (hplain : (backTo cpos (starEach es X.env)).any (·.1) = false := by rfl) :
    PE X (.Call (.Attribute o "add" apos) (e :: es) [] cpos) (tSAdd X.K X.mgx to t) := ⟨fun pins s σ H Q I h => by
  refine wpAny_Call_method_late hbase hfew hline rfl (thn (ho.run pins s σ H _ I h) fun v s1 ⟨x, H1, I1, r1, ty, q1⟩ => ?_)
  obtain ⟨a, L, rfl, hka⟩ := ty
  obtain ⟨⟨es', ep, tt, R⟩, _⟩ := I1.hok a _ hka
  cases r1
  obtain ⟨ob, hob, hcl, hdi⟩ := R.ty
  refine ⟨"set", "set.add", F.plainAttrs_set, F.slot_set_add, F.type_set_add, ⟨ob, hob, hcl⟩, fun b eb => ?_, ?_⟩
  · injection eb with eb; subst eb; exact ⟨ob, hob, hdi⟩
  have hA := ha.run cpos pins s1 σ H1 _ I1 q1
  rw [hs] at hA ⊢
  refine Calls.callWith_builtin (by show (false || (backTo cpos (starEach es X.env)).any (·.1)) = false; rw [hplain] <;> rfl) (Calls.evalArgs_plain ?_)
  exact thn hA fun us s2 ⟨vs, H2, I2, r2, q2⟩ => mt_sadd hu pins s2 σ H2 (.ref a) vs (.ref a) us Q I2 rfl r2 q2⟩
theorem ss_newSet (i : Nat) {x : Str} {p cpos pos' : Pos} (hN : X.N.Nodup) (hm : X.mg "set" = none) (hl : Gl X "set" := by rfl) (hi : X.N[i]? = some x := by rfl) (hx : Loc X.env.scope x := by first | exact Or.inl rfl | exact Or.inr rfl) (hf : X.fn x = true ∨ X.env.scope.names.lookup x = some .local := by first | exact .inl rfl | exact .inr rfl)
    (hv : bootBuiltins "set" = some (.type "set") := by decide +kernel) (hs : swapsWith (.Call (.Name "set" p) [] [] cpos) (some (.Name x pos')) pos.line X.env = pure false := by rfl) : SS X (.Assign [.Name x pos'] (.Call (.Name "set" p) [] [] cpos) pos) (mNewSet i) := ps_mk fun D σ H ⟨io, F, ρ, fl, ρ', r, hm', q⟩ => by
  refine ⟨_, L2.ps_set hN hi hx (pe_callTy0 cr_setN hl hm hv) hs hf, ?_⟩
  unfold mNewSet at hm'
  split at hm' <;> try cases hm'
  rename_i s h1
  split at hm' <;> cases hm'
  rename_i h2
  refine ⟨rfl, fun p hp => ?_⟩
  obtain ⟨r2, x2⟩ := r.newC (o := SNO X.mgx p []) (c := .set []) h1 h2 hp ⟨[], upd_same, by simp, by simp, Nat.le_refl _⟩
  exact q _ _ _ x2 r2
theorem se_sin {mk : ME} (i : Nat) {x : Str} {p : Pos} (hu : X.A.units + 64 < cLine) (hi' : SE X i' mk) (hN : X.N[i]? = some x := by rfl) (hv : Vis X.env.scope x := by first | exact Or.inl rfl | exact Or.inr (Or.inl rfl) | exact Or.inr (Or.inr rfl)) (hd : (x == ("__debug__" : Str)) = false := by decide)
    (hcd : (x == ("__classdict__" : Str)) = false := by decide) (hb : behindInMarks .In (.Name x p) = false := by first | exact nomark _ | rfl) : SE X (.Compare i' [.In] [.Name x p] pos) (mSIn false mk i) := Z.pe_mk fun σ H Q ⟨io, F, ρ, d, ρ', r, hm, q⟩ => by
  refine ⟨_, pe_cmpR (op_sin hu) hi' (pe_var hN hv hd hcd) hb, ?_⟩
  unfold mSIn at hm
  split at hm <;> try cases hm
  rename_i ds ρ1 e1
  split at hm <;> try cases hm
  rename_i ks k e2 e3
  split at hm <;> cases hm
  rename_i e4
  refine ⟨io, F, ρ, _, _, r, e1, fun v F1 H1 x1 r1 p1 => ?_⟩
  obtain ⟨a, L, ea, hL, c, _⟩ := r1.ownS e2
  have p1' := p1
  simp only [Rep] at p1'
  obtain ⟨b, vs, rfl, _⟩ := p1'
  exact ⟨_, ea, b, a, k, L, rfl, rfl, ⟨⟨F1, _, r1.sub, p1, e3, e4, c.keys⟩, hL⟩, q _ F1 H1 x1 r1 (by simp only [Rep]; rw [c.hin])⟩
theorem se_snin {mk : ME} (i : Nat) {x : Str} {p : Pos} (hu : X.A.units + 64 < cLine) (hi' : SE X i' mk) (hN : X.N[i]? = some x := by rfl) (hv : Vis X.env.scope x := by first | exact Or.inl rfl | exact Or.inr (Or.inl rfl) | exact Or.inr (Or.inr rfl)) (hd : (x == ("__debug__" : Str)) = false := by decide)
    (hcd : (x == ("__classdict__" : Str)) = false := by decide) (hb : behindInMarks .NotIn (.Name x p) = false := by first | exact nomark _ | rfl) : SE X (.Compare i' [.NotIn] [.Name x p] pos) (mSIn true mk i) := Z.pe_mk fun σ H Q ⟨io, F, ρ, d, ρ', r, hm, q⟩ => by
  refine ⟨_, pe_cmpR (op_snin hu) hi' (pe_var hN hv hd hcd) hb, ?_⟩
  unfold mSIn at hm
  split at hm <;> try cases hm
  rename_i ds ρ1 e1
  split at hm <;> try cases hm
  rename_i ks k e2 e3
  split at hm <;> cases hm
  rename_i e4
  refine ⟨io, F, ρ, _, _, r, e1, fun v F1 H1 x1 r1 p1 => ?_⟩
  obtain ⟨a, L, ea, hL, c, _⟩ := r1.ownS e2
  have p1' := p1
  simp only [Rep] at p1'
  obtain ⟨b, vs, rfl, _⟩ := p1'
  exact ⟨_, ea, b, a, k, L, rfl, rfl, ⟨⟨F1, _, r1.sub, p1, e3, e4, c.keys⟩, hL⟩, q _ F1 H1 x1 r1 (by simp only [Rep]; rw [c.hin])⟩
theorem st_sin {mk : ME} (i : Nat) {x : Str} {p : Pos} (hu : X.A.units + 64 < cLine) (hi' : SE X i' mk) (hN : X.N[i]? = some x := by rfl) (hv : Vis X.env.scope x := by first | exact Or.inl rfl | exact Or.inr (Or.inl rfl) | exact Or.inr (Or.inr rfl)) (hd : (x == ("__debug__" : Str)) = false := by decide)
    (hcd : (x == ("__classdict__" : Str)) = false := by decide) (hb : behindInMarks .In (.Name x p) = false := by first | exact nomark _ | rfl) : ST X (.Compare i' [.In] [.Name x p] pos) (mTB (mSIn false mk i)) := pt_mk fun σ H Q ⟨io, F, ρ, d, ρ', r, hm', q⟩ => by
  refine ⟨_, pt_cmpR (op_sin hu) hi' (pe_var hN hv hd hcd) hb, ?_⟩
  unfold mTB at hm'
  split at hm' <;> cases hm'
  rename_i hm
  unfold mSIn at hm
  split at hm <;> try cases hm
  rename_i ds ρ1 e1
  split at hm <;> try cases hm
  rename_i ks k e2 e3
  split at hm <;> cases hm
  rename_i e4
  refine ⟨io, F, ρ, _, _, r, e1, fun v F1 H1 x1 r1 p1 => ?_⟩
  obtain ⟨a, L, ea, hL, c, _⟩ := r1.ownS e2
  have p1' := p1
  simp only [Rep] at p1'
  obtain ⟨b, vs, rfl, _⟩ := p1'
  refine ⟨_, ea, b, a, k, L, rfl, rfl, ⟨⟨F1, _, r1.sub, p1, e3, e4, c.keys⟩, hL⟩, _, rfl, ?_⟩
  rw [c.hin]
  exact q F1 H1 x1 r1
theorem st_snin {mk : ME} (i : Nat) {x : Str} {p : Pos} (hu : X.A.units + 64 < cLine) (hi' : SE X i' mk) (hN : X.N[i]? = some x := by rfl) (hv : Vis X.env.scope x := by first | exact Or.inl rfl | exact Or.inr (Or.inl rfl) | exact Or.inr (Or.inr rfl)) (hd : (x == ("__debug__" : Str)) = false := by decide)
    (hcd : (x == ("__classdict__" : Str)) = false := by decide) (hb : behindInMarks .NotIn (.Name x p) = false := by first | exact nomark _ | rfl) : ST X (.Compare i' [.NotIn] [.Name x p] pos) (mTB (mSIn true mk i)) := pt_mk fun σ H Q ⟨io, F, ρ, d, ρ', r, hm', q⟩ => by
  refine ⟨_, pt_cmpR (op_snin hu) hi' (pe_var hN hv hd hcd) hb, ?_⟩
  unfold mTB at hm'
  split at hm' <;> cases hm'
  rename_i hm
  unfold mSIn at hm
  split at hm <;> try cases hm
  rename_i ds ρ1 e1
  split at hm <;> try cases hm
  rename_i ks k e2 e3
  split at hm <;> cases hm
  rename_i e4
  refine ⟨io, F, ρ, _, _, r, e1, fun v F1 H1 x1 r1 p1 => ?_⟩
  obtain ⟨a, L, ea, hL, c, _⟩ := r1.ownS e2
  have p1' := p1
  simp only [Rep] at p1'
  obtain ⟨b, vs, rfl, _⟩ := p1'
  refine ⟨_, ea, b, a, k, L, rfl, rfl, ⟨⟨F1, _, r1.sub, p1, e3, e4, c.keys⟩, hL⟩, _, rfl, ?_⟩
  rw [c.hin]
  exact q F1 H1 x1 r1
theorem ss_sadd (i : Nat) {x : Str} {p apos cpos : Pos} {mk : ME} (hu : X.A.units + 64 < cLine) (h : SE X e mk) (hN : X.N[i]? = some x := by rfl) (hv : Vis X.env.scope x := by first | exact Or.inl rfl | exact Or.inr (Or.inl rfl) | exact Or.inr (Or.inr rfl)) (hd : (x == ("__debug__" : Str)) = false := by decide) (hcd : (x == ("__classdict__" : Str)) = false := by decide)
    (hs : swapsWith (.Call (.Attribute (.Name x p) "add" apos) [e] [] cpos) none pos.line X.env = pure false := by rfl)
    (hbase : attributeBase (.Name x p) "add" X.env (eval (.Name x p) X.env) = eval (.Name x p) X.env := by rfl)
    (hfew : ((backTo cpos (starEach [e] X.env)).all (fun x => !x.1) && (backToKw cpos (keywordEach [] X.env)).all (fun x => x.1.isSome)
      && decide (([e] : List Expr).length + ([] : List Keyword).length + (if ([] : List Keyword).isEmpty then 0 else 1) < 30)) = true := by rfl)
    (hline : (apos.endLine == cpos.line) = true := by rfl) (hs1 : starEach [e] X.env = (false, eval e X.env) :: starEach [] X.env := by rfl) (hplain : (backTo cpos (starEach [] X.env)).any (·.1) = false := by rfl) :
    SS X (.Expr (.Call (.Attribute (.Name x p) "add" apos) [e] [] cpos) pos) (mSAdd i mk) := ps_mk fun D σ H ⟨io, F, ρ, fl, ρ', r, hm, q⟩ => by
  refine ⟨_, L2.ps_expr (pe_bmS hu (pe_var hN hv hd hcd) (pa_cons h pa_nil hs1) hbase hfew hline hs1 hplain) hs, ?_⟩
  unfold mSAdd at hm
  split at hm <;> try cases hm
  rename_i ks0 h0
  split at hm <;> try cases hm
  rename_i ds ρ1 h1
  split at hm <;> try cases hm
  rename_i ks k h2 h3
  split at hm <;> cases hm
  rename_i h4
  obtain ⟨a, L0, e0, hL0, _⟩ := r.ownS h0
  refine ⟨_, e0, ⟨a, L0, rfl, hL0⟩, io, F, ρ, _, ρ1, r, h1, fun v F1 H1 x1 r1 p1 => ?_⟩
  obtain ⟨a', L, e1, hL, c, go⟩ := r1.ownS h2
  rw [e0] at e1; cases e1
  have p1' := p1
  simp only [Rep] at p1'
  obtain ⟨b, vs, rfl, _⟩ := p1'
  have := c.len
  refine ⟨b, a, k, L, rfl, rfl, ⟨⟨F1, _, r1.sub, p1, h3, h4.1, c.keys⟩, hL⟩, by omega, fun L' c1 c2 => ?_⟩
  obtain ⟨r2, x2⟩ := go L' _ (c.put p1 h3 h4.1 c1 c2)
  exact q _ _ _ (x1.trans x2) r2
end
/-! ### min and max of two ints -/
def min2D : List D → Option D
  | [.int i, .int j] => some (.int (if j < i then j else i))
  | _ => none
def max2D : List D → Option D
  | [.int i, .int j] => some (.int (if j > i then j else i))
  | _ => none
section
variable {X : Cx}
theorem n_min2 (hc : X.calm = true) : OpN X (.builtin "min") min2D := by
  intro ds d h
  unfold min2D at h
  split at h <;> cases h
  refine ⟨_, L2.call_min2 hc, fun F H vs Q s p q => ?_⟩
  obtain ⟨v, w, rfl, p1, p2⟩ := p.two
  obtain rfl := p1.int
  obtain rfl := p2.int
  exact ⟨_, _, rfl, q.int s⟩
theorem n_max2 (hc : X.calm = true) : OpN X (.builtin "max") max2D := by
  intro ds d h
  unfold max2D at h
  split at h <;> cases h
  refine ⟨_, L2.call_max2 hc, fun F H vs Q s p q => ?_⟩
  obtain ⟨v, w, rfl, p1, p2⟩ := p.two
  obtain rfl := p1.int
  obtain rfl := p2.int
  exact ⟨_, _, rfl, q.int s⟩
end
/-! ### x in a list of data -/
theorem _root_.L2.Room.units5 {k : Nat} {A : Around} (r : Room k A) : A.units + 65 < cLine := by have := r.un; omega
def inDD (neg : Bool) (x y : D) : Option D := match y with
  | .lst ys => if okD x && okD (.lst ys) then some (.bl (xor neg ((D.toPs ys).any fun z => PyData.eqv z x.toP))) else none
  | _ => none
section
variable {X : Cx}
theorem o_inDD (hu : X.A.units + 65 < cLine) : Op2 X (compareOp .In) (inDD false) := by
  intro dx dy d h
  unfold inDD at h
  split at h <;> try cases h
  split at h <;> cases h
  rename_i hc
  simp only [okD, Bool.and_eq_true] at hc
  exact ⟨_, op_inD hu, fun F H v w Q s p1 p2 q => ⟨_, _, p1.dp s hc.1.1, p2.dp s hc.2.1, hc.1.2, hc.2.2, by have := q.bl s; rw [Bool.false_xor] at this; exact this⟩⟩
theorem o_ninDD (hu : X.A.units + 65 < cLine) : Op2 X (compareOp .NotIn) (inDD true) := by
  intro dx dy d h
  unfold inDD at h
  split at h <;> try cases h
  split at h <;> cases h
  rename_i hc
  simp only [okD, Bool.and_eq_true] at hc
  exact ⟨_, op_notInD hu, fun F H v w Q s p1 p2 q => ⟨_, _, p1.dp s hc.1.1, p2.dp s hc.2.1, hc.1.2, hc.2.2, by have := q.bl s; rw [Bool.true_xor] at this; exact this⟩⟩
end
/-! ### a def of which nothing is promised -/
theorem fn_never {P : Program} {w : World} {K : PySem.W.Frag} {mg : Str → Option Value} {base : Heap} {k : Nat} {f : Addr} {fd : FuncData} {ps : List Str} {m : Mg} : FnOk P w K mg base CX0 k f fd ps (spD K m fun _ => none) :=
  ⟨fun vs H Q E ⟨_, _, _, _, _, _, _, h, _⟩ => (by cases h), fun A outer s H args us vs Q E _ _ _ _ ⟨_, _, _, _, _, _, _, h, _⟩ => (by cases h)⟩
end Z
/-! (i, j) < (a, b), (i, xs) < (a, ys). -/
namespace Z
open PySem PySem.Spec PyProof.Rows L2

/-- ints in their order, the shorter first -/
def lexI : List Int → List Int → Bool
  | [], [] => false
  | [], _ :: _ => true
  | _ :: _, [] => false
  | x :: xs, y :: ys => if x = y then lexI xs ys else decide (x < y)
abbrev toksI (xs : List Int) : List (Int ⊕ List Nat) := PySem.W.keyToksAll (xs.map PyData.int)
theorem tok_one (x y : Int) (l m : List (Int ⊕ List Nat)) : PyProof.Rows.lexLt PyProof.Rows.itemOrd (.inl x :: l) (.inl y :: m) = if x = y then PyProof.Rows.lexLt PyProof.Rows.itemOrd l m else decide (x < y) := by
  by_cases h : x = y
  · subst h
    rw [if_pos rfl]
    exact PyProof.Rows.lex_self (O := PyProof.Rows.itemOrd) (Sum.inl x : Int ⊕ List Nat) l m
  · rw [if_neg h]
    exact PyProof.Rows.lex_diff (O := PyProof.Rows.itemOrd) (x := (Sum.inl x : Int ⊕ List Nat)) (y := Sum.inl y) (fun e => h (Sum.inl.inj e))
theorem toksI_lex : ∀ (xs ys : List Int) (l m : List (Int ⊕ List Nat)), PyProof.Rows.lexLt PyProof.Rows.itemOrd (toksI xs ++ l) (toksI ys ++ m) = if xs = ys then PyProof.Rows.lexLt PyProof.Rows.itemOrd l m else lexI xs ys
  | [], [], l, m => by
    show PyProof.Rows.lexLt PyProof.Rows.itemOrd (.inl 0 :: l) (.inl 0 :: m) = _
    rw [tok_one, if_pos rfl, if_pos rfl]
  | [], y :: ys, l, m => by
    show PyProof.Rows.lexLt PyProof.Rows.itemOrd (.inl 0 :: l) (.inl 1 :: _) = _
    rw [tok_one, if_neg (by decide), if_neg (fun z => nomatch z)]
    rfl
  | x :: xs, [], l, m => by
    show PyProof.Rows.lexLt PyProof.Rows.itemOrd (.inl 1 :: _) (.inl 0 :: m) = _
    rw [tok_one, if_neg (by decide), if_neg (fun z => nomatch z)]
    rfl
  | x :: xs, y :: ys, l, m => by
    show PyProof.Rows.lexLt PyProof.Rows.itemOrd (.inl 1 :: .inl x :: (toksI xs ++ l)) (.inl 1 :: .inl y :: (toksI ys ++ m)) = _
    rw [tok_one, if_pos rfl, tok_one]
    by_cases h : x = y
    · subst h
      rw [if_pos rfl, toksI_lex xs ys l m]
      by_cases h2 : xs = ys
      · rw [if_pos h2, if_pos (by rw [h2])]
      · rw [if_neg h2, if_neg (fun z => h2 (List.cons.inj z).2)]
        show _ = if x = x then _ else _
        rw [if_pos rfl]
    · rw [if_neg h, if_neg (fun z => h (List.cons.inj z).1)]
      show _ = if x = y then _ else _
      rw [if_neg h]
theorem lexI_self : ∀ xs : List Int, lexI xs xs = false
  | [] => rfl
  | x :: xs => by show (if x = x then _ else _) = _; rw [if_pos rfl]; exact lexI_self xs
/-- (a, xs) < (b, ys) -/
def ltP (a : Int) (xs : List Int) (b : Int) (ys : List Int) : Bool := if a = b then lexI xs ys else decide (a < b)
theorem dataLt_ii (a b c d : Int) : PySem.W.dataLt (.tuple [.int a, .int b]) (.tuple [.int c, .int d]) = ltP a [b] c [d] := by
  show PyProof.Rows.lexLt PyProof.Rows.itemOrd (.inl 1 :: .inl a :: .inl 1 :: .inl b :: [.inl 0]) (.inl 1 :: .inl c :: .inl 1 :: .inl d :: [.inl 0]) = _
  rw [tok_one, if_pos rfl, tok_one, tok_one, if_pos rfl, tok_one, tok_one, if_pos rfl]
  unfold ltP
  by_cases h : a = c
  · rw [if_pos h, if_pos h]
    show _ = if b = d then _ else _
    rfl
  · rw [if_neg h, if_neg h]
theorem dataLt_il (a c : Int) (xs ys : List Int) : PySem.W.dataLt (.tuple [.int a, .list (xs.map PyData.int)]) (.tuple [.int c, .list (ys.map PyData.int)]) = ltP a xs c ys := by
  show PyProof.Rows.lexLt PyProof.Rows.itemOrd (.inl 1 :: .inl a :: .inl 1 :: (toksI xs ++ [.inl 0])) (.inl 1 :: .inl c :: .inl 1 :: (toksI ys ++ [.inl 0])) = _
  rw [tok_one, if_pos rfl, tok_one, tok_one, if_pos rfl, toksI_lex]
  unfold ltP
  by_cases h : a = c
  · rw [if_pos h, if_pos h]
    by_cases h2 : xs = ys
    · rw [if_pos h2, h2, lexI_self, tok_one, if_pos rfl]
      rfl
    · rw [if_neg h2]
  · rw [if_neg h, if_neg h]
def pairI : D → Option (Int × Option Int × List Int)
  | .tup [.int a, .int b] => some (a, some b, [b])
  | .tup [.int a, .lst ds] => match intsD ds with
    | some ns => some (a, none, ns)
    | none => none
  | _ => none
def dataI : Int × Option Int × List Int → PyData
  | (a, some b, _) => .tuple [.int a, .int b]
  | (a, none, ns) => .tuple [.int a, .list (ns.map .int)]
/-- the four comparisons of such pairs -/
def cmpP (f : Int → List Int → Int → List Int → Bool) (x y : D) : Option D := match pairI x, pairI y with
  | some (a, some b, _), some (c, some d, _) => some (.bl (f a [b] c [d]))
  | some (a, none, xs), some (c, none, ys) => some (.bl (f a xs c ys))
  | _, _ => none
def ltPf : Int → List Int → Int → List Int → Bool := ltP
def gtPf (a : Int) (xs : List Int) (b : Int) (ys : List Int) : Bool := ltP b ys a xs
def lePf (a : Int) (xs : List Int) (b : Int) (ys : List Int) : Bool := !ltP b ys a xs
def gePf (a : Int) (xs : List Int) (b : Int) (ys : List Int) : Bool := !ltP a xs b ys
section
variable {X : Cx}
def rCmpD (K : PySem.W.Frag) (f : PyData → PyData → Bool) : R2 := fun x y H Q => ∃ d e, Dp K H x d ∧ Dp K H y e ∧ PySem.W.alike d e = true ∧ d ≠ .none ∧ d.depth ≤ 8 ∧ Q (.bl (f d e)) H
theorem op_ltDD (hu : X.A.units + 64 < cLine) : OpR X (compareOp .Lt) (rCmpD X.K fun d e => PySem.W.dataLt d e) := by
  intro pins s σ H x y v u Q I rx ry ⟨d, e, hd, he, al, nn, dp, q⟩
  obtain ⟨as, r1⟩ := Dp.reads I d x v hd rx
  obtain ⟨bs, r2⟩ := Dp.reads I e y u he ry
  exact PySem.W.lt_data r1 r2 al nn (by omega) ⟨.bl _, H, I, rfl, q⟩
theorem op_gtDD (hu : X.A.units + 64 < cLine) : OpR X (compareOp .Gt) (rCmpD X.K fun d e => PySem.W.dataLt e d) := by
  intro pins s σ H x y v u Q I rx ry ⟨d, e, hd, he, al, nn, dp, q⟩
  obtain ⟨as, r1⟩ := Dp.reads I d x v hd rx
  obtain ⟨bs, r2⟩ := Dp.reads I e y u he ry
  exact PySem.W.gt_data r1 r2 al nn (by omega) ⟨.bl _, H, I, rfl, q⟩
theorem op_leDD (hu : X.A.units + 64 < cLine) : OpR X (compareOp .LtE) (rCmpD X.K fun d e => !PySem.W.dataLt e d) := by
  intro pins s σ H x y v u Q I rx ry ⟨d, e, hd, he, al, nn, dp, q⟩
  obtain ⟨as, r1⟩ := Dp.reads I d x v hd rx
  obtain ⟨bs, r2⟩ := Dp.reads I e y u he ry
  exact PySem.W.le_data r1 r2 al nn (by omega) ⟨.bl _, H, I, rfl, q⟩
theorem op_geDD (hu : X.A.units + 64 < cLine) : OpR X (compareOp .GtE) (rCmpD X.K fun d e => !PySem.W.dataLt d e) := by
  intro pins s σ H x y v u Q I rx ry ⟨d, e, hd, he, al, nn, dp, q⟩
  obtain ⟨as, r1⟩ := Dp.reads I d x v hd rx
  obtain ⟨bs, r2⟩ := Dp.reads I e y u he ry
  exact PySem.W.ge_data r1 r2 al nn (by omega) ⟨.bl _, H, I, rfl, q⟩
theorem ints_toP : ∀ {ds : List D} {ns : List Int}, intsD ds = some ns → D.toPs ds = ns.map PyData.int ∧ D.noFns ds = true
  | [], ns, h => by simp only [intsD, Option.some.injEq] at h; subst h; simp [D.toPs, D.noFns]
  | d :: ds, ns, h => by
    cases d <;> simp only [intsD] at h <;> try cases h
    split at h <;> cases h
    rename_i ms hm
    obtain ⟨h1, h2⟩ := ints_toP hm
    simp only [D.toPs, D.toP, h1, D.noFns, D.noFn, h2, List.map_cons, Bool.and_self, and_self]
theorem alike_ints : ∀ xs ys : List Int, PySem.W.alikeAll (xs.map PyData.int) (ys.map PyData.int) = true
  | [], ys => by cases ys <;> simp [PySem.W.alikeAll]
  | _ :: _, [] => by simp [PySem.W.alikeAll]
  | x :: xs, y :: ys => by simp only [List.map_cons, PySem.W.alikeAll, PySem.W.alike, alike_ints xs ys, Bool.and_self]
theorem pairI_dp {x : D} {p : Int × Option Int × List Int} (h : pairI x = some p) : x.toP = dataI p ∧ x.noFn = true ∧ (∀ b, p.2.1 = some b → p.2.2 = [b]) := by
  unfold pairI at h
  split at h
  · cases h
    exact ⟨by simp [D.toP, D.toPs, dataI], by simp [D.noFn, D.noFns], fun b e => by cases e; rfl⟩
  · split at h <;> cases h
    rename_i ns hn
    obtain ⟨h1, h2⟩ := ints_toP hn
    exact ⟨by simp [D.toP, D.toPs, dataI, h1], by simp [D.noFn, D.noFns, h2], fun b e => by cases e⟩
  · cases h
theorem dep_ints8 : ∀ xs : List Int, PyData.depthAll (xs.map PyData.int) = 0
  | [] => by simp only [List.map_nil, PyData.depthAll]
  | x :: xs => by simp only [List.map_cons, PyData.depthAll, PyData.depth, dep_ints8 xs, Nat.max_self]
theorem o_cmpP {op : CmpOp} {g : PyData → PyData → Bool} {f : Int → List Int → Int → List Int → Bool} (h : OpR X (compareOp op) (rCmpD X.K g)) (h1 : ∀ a b c d : Int, g (.tuple [.int a, .int b]) (.tuple [.int c, .int d]) = f a [b] c [d])
    (h2 : ∀ (a c : Int) (xs ys : List Int), g (.tuple [.int a, .list (xs.map .int)]) (.tuple [.int c, .list (ys.map .int)]) = f a xs c ys) : Op2 X (compareOp op) (cmpP f) := by
  intro dx dy d hd
  unfold cmpP at hd
  split at hd
  · rename_i a b l1 c e l2 e1 e2
    cases hd
    obtain ⟨p1, p2, _⟩ := pairI_dp e1
    obtain ⟨q1, q2, _⟩ := pairI_dp e2
    refine ⟨_, h, fun F H v w Q s r1 r2 q => ⟨_, _, r1.dp s p2, r2.dp s q2, ?_, ?_, ?_, ?_⟩⟩
    · rw [p1, q1]; rfl
    · rw [p1]; exact fun z => nomatch z
    · rw [p1]; simp [dataI, PyData.depth, PyData.depthAll]
    · have := q.bl s
      rw [p1, q1]
      show Q (.bl (g (.tuple [.int a, .int b]) (.tuple [.int c, .int e]))) H
      rw [h1]; exact this
  · rename_i a xs c ys e1 e2
    cases hd
    obtain ⟨p1, p2, _⟩ := pairI_dp e1
    obtain ⟨q1, q2, _⟩ := pairI_dp e2
    refine ⟨_, h, fun F H v w Q s r1 r2 q => ⟨_, _, r1.dp s p2, r2.dp s q2, ?_, ?_, ?_, ?_⟩⟩
    · rw [p1, q1]
      simp only [dataI, PySem.W.alike, PySem.W.alikeAll, alike_ints, Bool.and_self]
    · rw [p1]; exact fun z => nomatch z
    · rw [p1]; simp [dataI, PyData.depth, PyData.depthAll, dep_ints8]
    · have := q.bl s
      rw [p1, q1]
      show Q (.bl (g (.tuple [.int a, .list (xs.map .int)]) (.tuple [.int c, .list (ys.map .int)]))) H
      rw [h2]; exact this
  · cases hd
theorem o_ltP (hu : X.A.units + 64 < cLine) : Op2 X (compareOp .Lt) (cmpP ltPf) := o_cmpP (op_ltDD hu) (fun a b c d => dataLt_ii a b c d) fun a c xs ys => dataLt_il a c xs ys
theorem o_gtP (hu : X.A.units + 64 < cLine) : Op2 X (compareOp .Gt) (cmpP gtPf) := o_cmpP (op_gtDD hu) (fun a b c d => dataLt_ii c d a b) fun a c xs ys => dataLt_il c a ys xs
theorem o_leP (hu : X.A.units + 64 < cLine) : Op2 X (compareOp .LtE) (cmpP lePf) := o_cmpP (op_leDD hu) (fun a b c d => by rw [dataLt_ii]; rfl) fun a c xs ys => by rw [dataLt_il]; rfl
theorem o_geP (hu : X.A.units + 64 < cLine) : Op2 X (compareOp .GtE) (cmpP gePf) := o_cmpP (op_geDD hu) (fun a b c d => by rw [dataLt_ii]; rfl) fun a c xs ys => by rw [dataLt_il]; rfl
end
end Z
/-! Defs that return a list of their own, new: the caller may change it. -/
namespace Z
open PySem PySem.Spec PyProof.Rows L2
abbrev Gn := List Sl → Option (List D)
def runN (np nl : Nat) (m : MS) (i : Nat) : Gn := fun sl => if sl.length = np ∧ ioIx sl 0 = none then match m (sl ++ List.replicate nl .un) with
    | some (.nx, ρ) => match ρ[i]? with
      | some (.own (.lst ds)) => some ds
      | _ => none
    | _ => none
  else none
def spN (K : PySem.W.Frag) (mg : Mg) (g : Gn) : Sp := fun vs H Q _ => ∃ F sl ds, Same F H ∧ ArgsOk K mg F H sl vs ∧ ioL sl vs 0 = [] ∧ g sl = some ds ∧
  ∀ p ws F' H', Same F F' → Same F' H' → (∀ a o, H a = some o → H' a = some o ∧ F' a = F a) → H p = none → H' p = some (.lst ws) → F' p = none → RepL K mg F' ds ws → Q (.ref p) H'
/-- the statements, at whose end the list of slot i is returned -/
def tRO (K : PySem.W.Frag) (mg : Mg) (m : MS) (i : Nat) : TS := fun D σ H => ∃ io F ρ ρ', R K mg io F H σ ρ ∧ m ρ = some (.nx, ρ') ∧ ∀ σ' F' H', Ext F H σ ρ F' H' σ' ρ' → R K mg io F' H' σ' ρ' → ∃ v, σ'[i]? = some (some v) ∧ D.rt v H'
abbrev SR (X : Cx) (sts : List Stmt) (m : MS) (i : Nat) : Prop := PSs X sts (tRO X.K X.mgx m i)
section
variable {X : Cx} {st : Stmt} {rest : List Stmt}
theorem sr_one (i : Nat) {x : Str} {pos pos2 : Pos} (hN : X.N[i]? = some x := by rfl) (hv : Vis X.env.scope x := by first | exact Or.inl rfl | exact Or.inr (Or.inl rfl) | exact Or.inr (Or.inr rfl)) (hd : (x == ("__debug__" : Str)) = false := by decide) (hcd : (x == ("__classdict__" : Str)) = false := by decide) :
    SR X [.Return (some (.Name x pos)) pos2] (mFl .nx) i := pss_mk fun D σ H ⟨io, F, ρ, ρ', r, hm, q⟩ => by
  cases hm
  refine ⟨_, pss_one (ps_ret (pe_var hN hv hd hcd)), ?_⟩
  obtain ⟨v, e, h⟩ := q σ F H .refl r
  exact ⟨v, e, h⟩
theorem sr_cons {m n : MS} {i : Nat} (h : SS X st m) (h' : SR X rest n i) : SR X (st :: rest) (mSeq m n) i := pss_mk fun D σ H ⟨io, F, ρ, ρ', r, hm, q⟩ => by
  refine ⟨_, pss_cons h h', ?_⟩
  unfold mSeq at hm
  split at hm
  · rename_i ρ1 h1
    exact ⟨io, F, ρ, _, _, r, h1, fun σ1 F1 H1 x1 r1 => ⟨io, F1, ρ1, _, r1, hm, fun σ2 F2 H2 x2 r2 => q σ2 F2 H2 (x1.trans x2) r2⟩⟩
  · rename_i hn
    exact absurd hm (hn ρ')
end
section
variable {P : Program} {w : World} {K : PySem.W.Frag} {mg : Mg} {base : Heap}
theorem ioL_nil {K : PySem.W.Frag} {mg : Mg} {F H : Hp} : ∀ {sl : List Sl} {vs : List V} {k : Nat}, ArgsOk K mg F H sl vs → ioIx sl k = none → ioL sl vs k = []
  | [], _, _, h, _ => by simp only [ioL]
  | .d x :: ss, _, k, h, e => by
    simp only [ArgsOk] at h
    obtain ⟨v, r, rfl, _, t⟩ := h
    simp only [ioIx] at e
    simp only [ioL]
    exact ioL_nil t e
  | .io c :: ss, _, _, h, e => by simp only [ioIx] at e; cases e
  | .un :: _, _, _, h, _ => by simp only [ArgsOk] at h
  | .own _ :: _, _, _, h, _ => by simp only [ArgsOk] at h
theorem body_rn {N : List Str} {np : Nat} {m : MS} {i : Nat} {vs : List V} {H : Hp} {Q : VK} {E : XK} (h : spN K mg (runN np (N.length - np) m i) vs H Q E) : tRO K mg m i { nx := fun _ H' => Q .non H', rt := Q } (L2.start N vs) H := by
  obtain ⟨F, sl, ds, hs, a, hl, hg, q⟩ := h
  unfold runN at hg
  split at hg <;> try cases hg
  rename_i hnp
  have hst : L2.start N vs = vs.map some ++ List.replicate (N.length - np) none := by
    unfold L2.start
    rw [a.len, hnp.1]
  have r0 := R.start (K := K) (mg := mg) (nl := N.length - np) hs a (by rw [hl]; exact Nat.zero_le _)
  rw [← hst] at r0
  split at hg <;> try cases hg
  rename_i ρ' hm
  split at hg <;> cases hg
  rename_i hi
  have noOwn : ∀ b, ¬ OwnA (L2.start N vs) (sl ++ List.replicate (N.length - np) .un) b := fun b ⟨j, c, hj, e⟩ => by
    unfold cellAt at hj
    cases z : (sl ++ List.replicate (N.length - np) Sl.un)[j]? with
    | none => rw [z] at hj; cases hj
    | some s' =>
      rw [z] at hj
      by_cases hlt : j < sl.length
      · rw [List.getElem?_append_left hlt] at z
        rcases a.at (k := 0) z with ⟨y, v, rfl, _, _⟩ | ⟨c', a', rfl, h2, h3, h4, h5⟩
        · cases hj
        · rw [hl] at h5; cases h5
      · rw [List.getElem?_append_right (by omega), List.getElem?_replicate] at z
        split at z
        · cases z; cases hj
        · cases z
  refine ⟨ioL sl vs 0, F, _, ρ', r0, hm, fun σ' F' H' x r => ?_⟩
  have hc : cellAt ρ' i = some (.lst ds) := by unfold cellAt; rw [hi]; rfl
  obtain ⟨p, e, f, ws, hw, rl⟩ := r.cel i _ hc
  refine ⟨.ref p, e, q p ws F' H' x.sub r.sub (fun b o hb => x.keep b o hb (noOwn b)) ?_ hw f rl⟩
  rcases x.own p ⟨i, _, hc, e⟩ with w' | w'
  · exact absurd w' (noOwn p)
  · exact w'
theorem runN_len {np nl i : Nat} {m : MS} {vs : List V} {H : Hp} {Q : VK} {E : XK} (h : spN K mg (runN np nl m i) vs H Q E) : vs.length = np := by
  obtain ⟨F, sl, ds, _, a, _, hg, q⟩ := h
  unfold runN at hg
  split at hg
  · rename_i e; rw [a.len, e.1]
  · cases hg
theorem fnN {mg : Str → Option Value} {x qual : Str} {st : Stmt} {f : Addr} {fd : FuncData} {N ps : List Str} {k i : Nat} {m : MS} (Fn : Fun K x qual st f fd) (S : FnScope N ps (defScope st))
    (hbody : ∀ (cdv : Value) (A : Around) (outer : List Env) (s : Shared) (H : Hp) (E : XK), Room k (A.deeper (envOfC qual (defScope st) s.heap.objs.size f cdv)) →
      SR (cxOf CX0 P w K mg base N qual (defScope st) f cdv A outer s H E).nox (defBody st) m i) : FnOk P w K mg base CX0 (k + 1) f fd ps (spN K ⟨mg, P, w⟩ (runN ps.length (N.length - ps.length) m i)) :=
  Fn.ok S (fun _ _ _ _ h => runN_len h) fun cdv A outer s H _ _ E hr h => ⟨_, hbody cdv A outer s H E hr, body_rn h⟩
end
def mCallN (g : Gn) (m : MA) : MN := fun ρ => match m ρ with
  | some (os, ρ1) => match toSls ρ1 os, ownIx ρ1 os with
    | some sls, [] => match g sls with
      | some ds => some (ds, ρ1)
      | none => none
    | _, _ => none
  | none => none
structure KnN (P : Program) (w : World) (K : PySem.W.Frag) (mg : Str → Option Value) (base : Heap) (k : Nat) (x : Str) (g : Gn) : Prop where
  ex : ∃ (f : Addr) (fd : FuncData) (ps : List Str), mg x = some (.ref f) ∧ PySem.W.keepIn K (.ref f) = true ∧ Binds K fd ps [] ∧ FnOk P w K mg base CX0 k f fd ps (spN K ⟨mg, P, w⟩ g)
abbrev KnN.of (X : Cx) (k : Nat) (x : Str) (g : Gn) : Prop := KnN X.prog X.w X.K X.mgx X.base k x g
section
variable {X : Cx} {e : Expr} {es : List Expr} {p pos : Pos} {x : Str} {k j : Nat} {g : Gn} {m : MA}
theorem sn_callN (c : KnN.of X k x g) (hr : Room j X.A) (hk : k ≤ j) (ha : SA X (e :: es) m) (hg : Gl X x := by rfl) (hdb : (x == ("__debug__" : Str)) = false := by decide) (he : starEach (e :: es) X.env = (false, eval e X.env) :: starEach es X.env := by rfl) (hpl : (backTo pos (starEach es X.env)).any (·.1) = false := by rfl) :
    SN X (.Call (.Name x p) (e :: es) [] pos) (mCallN g m) := Z.pe_mk fun σ H Q ⟨io, F, ρ, ds, ρ', r, hm, q⟩ => by
  obtain ⟨f, fd, ps, hmg, hkp, hb, F0⟩ := c.ex
  refine ⟨_, pe_call F0 (hr.mono hk) hg hmg hkp hb .nil pass0 ha hdb he hpl, ?_⟩
  unfold mCallN at hm
  split at hm <;> try cases hm
  rename_i os ρ1 h1
  split at hm <;> try cases hm
  rename_i sls h2 h3
  split at hm <;> cases hm
  rename_i h4
  refine ⟨io, F, ρ, os, _, r, h1, fun vs F1 H1 x1 r1 p1 => ?_⟩
  show spN X.K X.mgx g (vs ++ []) H1 Q E0
  rw [List.append_nil]
  obtain ⟨a1, a2⟩ := r1.args p1 h2
  have a2 := a2 0
  rw [h3] at a2
  have hL := pnil_r a2
  refine ⟨F1, sls, _, r1.sub, a1, hL, h4, fun a ws F' H' s1 s2 keep hp hw hf rl => ?_⟩
  have gr : Grow F1 H1 F' H' := ⟨s1, s2, keep⟩
  have r2 := r1.grow gr
  refine q a ws F' H' (x1.trans gr.ext) r2 (x1.stay a hp) hw hf (fun ⟨i, c', hi, ei⟩ => ?_) rl
  obtain ⟨b, e2, _, hc⟩ := r1.cel i c' hi
  rw [ei] at e2; cases e2
  obtain ⟨o, ho⟩ := hc.here
  rw [hp] at ho; cases ho
end
end Z
/-! Dicts whose keys are tuples: made, asked, read, written. -/
namespace Z
open PySem PySem.Spec PyProof.Rows L2

/-! ### as lists of keys and of values -/
def lookT : List D → List D → NestedKey → Option D
  | d :: ks, x :: ds, k => if nkOf d = some k then some x else lookT ks ds k
  | _, _, _ => none
def repT : List D → List D → NestedKey → D → List D
  | d :: ks, y :: ds, k, x => (if nkOf d = some k then x else y) :: repT ks ds k x
  | _, ds, _, _ => ds
def putKt (ks : List D) (d : D) (k : NestedKey) : List D := if inKs ks k = true then ks else ks ++ [d]
def putDt (ks ds : List D) (k : NestedKey) (x : D) : List D := if inKs ks k = true then repT ks ds k x else ds ++ [x]
structure DctAs (K : PySem.W.Frag) (mg : Mg) (F : Hp) (ks ds : List D) (xs : NKX) : Prop where
  n : nksOf ks = some (xs.map (·.1))
  dp : ∀ x ∈ xs, x.1.depth ≤ 8
  rk : RepL K mg F ks (xs.map fun x => V.ref x.2.1)
  rd : ∃ vs, Vals vs (xs.map (·.2.2)) ∧ RepL K mg F ds vs
theorem nks_cons {d : D} {ks : List D} {k : NestedKey} {l : List NestedKey} (h : nksOf (d :: ks) = some (k :: l)) : nkOf d = some k ∧ nksOf ks = some l := by
  simp only [nksOf] at h
  split at h <;> cases h
  rename_i h1 h2
  exact ⟨h1, h2⟩
theorem nks_nil {ks : List D} (h : nksOf ks = some []) : ks = [] := by
  cases ks with
  | nil => rfl
  | cons d ks => simp only [nksOf] at h; split at h <;> cases h
theorem nks_app : ∀ {ks : List D} {l : List NestedKey} {d : D} {k : NestedKey}, nksOf ks = some l → nkOf d = some k → nksOf (ks ++ [d]) = some (l ++ [k])
  | [], l, d, k, h, e => by simp only [nksOf, Option.some.injEq] at h; subst h; simp only [List.nil_append, nksOf, e]
  | c :: ks, l, d, k, h, e => by
    simp only [nksOf] at h
    split at h <;> cases h
    rename_i k0 l0 h1 h2
    simp only [List.cons_append, nksOf, h1, nks_app h2 e]
theorem vals_app {xs : List V} {us : List Value} {v : V} {u : Value} (h : Vals xs us) (r : RelV v u) : Vals (xs ++ [v]) (us ++ [u]) := h.append (.cons r .nil)
section
variable {K : PySem.W.Frag} {mg : Mg} {F F' : Hp} {ks ds : List D} {xs : NKX}
theorem DctAs.mono (s : Same F F') (h : DctAs K mg F ks ds xs) : DctAs K mg F' ks ds xs := ⟨h.n, h.dp, h.rk.mono s, let ⟨vs, a, b⟩ := h.rd; ⟨vs, a, b.mono s⟩⟩
theorem DctAs.tl {x : NestedKey × Addr × Value} {d y : D} (h : DctAs K mg F (d :: ks) (y :: ds) (x :: xs)) : DctAs K mg F ks ds xs := by
  obtain ⟨vs, hv, hr⟩ := h.rd
  have rk := h.rk
  simp only [List.map_cons, RepL] at rk
  obtain ⟨v, r, e, _, rt⟩ := rk
  cases e
  simp only [RepL] at hr
  obtain ⟨w, t, rfl, _, rw'⟩ := hr
  cases hv with
  | cons _ hv' => exact ⟨(nks_cons h.n).2, fun z hz => h.dp z (List.mem_cons_of_mem _ hz), rt, _, hv', rw'⟩
theorem DctAs.look (k : NestedKey) : ∀ {xs : NKX} {ks ds : List D}, DctAs K mg F ks ds xs → (atKey xs k = none ∧ lookT ks ds k = none ∧ inKs ks k = false) ∨ ∃ p u d v, atKey xs k = some (p, u) ∧ lookT ks ds k = some d ∧ inKs ks k = true ∧ RelV v u ∧ Rep K mg F d v
  | [], ks, ds, h => by
    obtain rfl := nks_nil h.n
    exact .inl ⟨rfl, rfl, rfl⟩
  | x :: xs, [], ds, h => by
    have := h.n
    simp [nksOf] at this
  | x :: xs, d :: ks, [], h => by
    obtain ⟨vs, hv, hr⟩ := h.rd
    simp only [RepL] at hr
    subst hr
    cases hv
  | x :: xs, d :: ks, y :: ds, h => by
    obtain ⟨n1, n2⟩ := nks_cons h.n
    have ih := DctAs.look k h.tl
    have eA : atKey (x :: xs) k = if x.1 = k then some x.2 else atKey xs k := by
      unfold atKey
      rw [List.find?_cons]
      by_cases c : x.1 = k
      · simp [c]
      · simp [c]
    have eI : inKs (d :: ks) k = (decide (x.1 = k) || inKs ks k) := by
      unfold inKs
      rw [List.any_cons, n1]
      congr 1
      by_cases c : x.1 = k <;> simp [c]
    have eL : lookT (d :: ks) (y :: ds) k = if x.1 = k then some y else lookT ks ds k := by
      show (if nkOf d = some k then _ else _) = _
      rw [n1]
      by_cases c : x.1 = k <;> simp [c]
    by_cases c : x.1 = k
    · rw [eA, eI, eL, if_pos c, if_pos c, decide_eq_true c]
      obtain ⟨vs, hv, hr⟩ := h.rd
      simp only [RepL] at hr
      obtain ⟨w, t, rfl, q, _⟩ := hr
      cases hv with
      | cons h1 _ => exact .inr ⟨x.2.1, x.2.2, y, w, rfl, rfl, rfl, h1, q⟩
    · rw [eA, eI, eL, if_neg c, if_neg c, decide_eq_false c]
      exact ih
theorem DctAs.put {k : NestedKey} {a : Addr} {u : Value} {v : V} {e x : D} (hd : nkOf e = some k) (hp : k.depth ≤ 8) (he : Rep K mg F e (.ref a)) (hx : Rep K mg F x v) (hr : RelV v u) (h : DctAs K mg F ks ds xs) :
    DctAs K mg F (putKt ks e k) (putDt ks ds k x) (storedH xs k a u) := by
  rcases h.look k with ⟨h1, _, h3⟩ | ⟨p, u', d', v', h1, h2, h3, h4, h5⟩
  · rw [storedH_new h1]
    unfold putKt putDt
    rw [h3, if_neg Bool.false_ne_true, if_neg Bool.false_ne_true]
    obtain ⟨vs, hv, hrr⟩ := h.rd
    refine ⟨by rw [List.map_append]; exact nks_app h.n hd, fun z hz => ?_, by rw [List.map_append]; exact h.rk.append (.one he), vs ++ [v], by rw [List.map_append]; exact vals_app hv hr, hrr.append (.one hx)⟩
    rcases List.mem_append.mp hz with hz | hz
    · exact h.dp z hz
    · rw [List.mem_singleton.mp hz]; exact hp
  · rw [storedH_old h1]
    unfold putKt putDt
    rw [h3, if_pos rfl, if_pos rfl]
    have m1 : (xs.map (putAt k u)).map (·.1) = xs.map (·.1) := by
      rw [List.map_map]
      refine List.map_congr_left fun z _ => ?_
      show (putAt k u z).1 = z.1
      unfold putAt; split <;> rfl
    have m2 : ((xs.map (putAt k u)).map fun z => V.ref z.2.1) = xs.map fun z => V.ref z.2.1 := by
      rw [List.map_map]
      refine List.map_congr_left fun z _ => ?_
      show V.ref (putAt k u z).2.1 = V.ref z.2.1
      unfold putAt; split <;> rfl
    refine ⟨by rw [m1]; exact h.n, fun z hz => ?_, by rw [m2]; exact h.rk, ?_⟩
    · obtain ⟨y, hy, rfl⟩ := List.mem_map.mp hz
      have : (putAt k u y).1 = y.1 := by unfold putAt; split <;> rfl
      rw [this]
      exact h.dp y hy
    · clear h1 h2 h3 h4 h5 m1 m2
      induction xs generalizing ks ds with
      | nil =>
        obtain rfl := nks_nil h.n
        obtain ⟨vs, hv, hrr⟩ := h.rd
        cases hv
        cases ds with
        | nil => exact ⟨[], .nil, hrr⟩
        | cons d ds => simp only [RepL] at hrr; obtain ⟨_, _, z, _⟩ := hrr; cases z
      | cons y xs ih =>
        cases ks with
        | nil => have := h.n; simp [nksOf] at this
        | cons d ks =>
          cases ds with
          | nil =>
            obtain ⟨vs, hv, hrr⟩ := h.rd
            simp only [RepL] at hrr
            subst hrr
            cases hv
          | cons z ds =>
            obtain ⟨n1, n2⟩ := nks_cons h.n
            obtain ⟨vs, hv, hrr⟩ := ih h.tl
            obtain ⟨ws, hw, hww⟩ := h.rd
            simp only [RepL] at hww
            obtain ⟨w, t, rfl, q, _⟩ := hww
            cases hw with
            | cons h5 _ =>
              by_cases c : y.1 = k
              · refine ⟨v :: vs, ?_, ?_⟩
                · rw [List.map_cons, List.map_cons]
                  refine .cons ?_ hv
                  unfold putAt
                  rw [if_pos c]
                  exact hr
                · show RepL K mg F ((if nkOf d = some k then x else z) :: repT ks ds k x) _
                  rw [n1, if_pos (show some y.1 = some k by rw [c])]
                  exact .cons hx hrr
              · refine ⟨w :: vs, ?_, ?_⟩
                · rw [List.map_cons, List.map_cons]
                  refine .cons ?_ hv
                  unfold putAt
                  rw [if_neg c]
                  exact h5
                · show RepL K mg F ((if nkOf d = some k then x else z) :: repT ks ds k x) _
                  rw [n1, if_neg (show ¬ some y.1 = some k from fun e => c (Option.some.inj e))]
                  exact .cons q hrr
end
/-! ### in the heap -/
section
variable {X : Cx} {pins : List (Addr × Obj)} {σ : L2.St} {F H : Hp} {s : Shared}
theorem dno_ok {P : Program} {w : World} {m : Mg} {H : Hp} {h : Heap} {a : Addr} {xs : NKX} (d : h.DictOfH (nestedKind m.P m.w) a xs) : ObjOk P w H h a (DNO m a xs) := by
  obtain ⟨o, es, ep, h1, h2, h3, h4, _, h5⟩ := d
  exact ⟨⟨o, es, ep, h1, h2, h3, h4, h5⟩, ⟨o, h1⟩, fun g1 g2 ⟨o, es, ep, q1, q2⟩ k => ⟨o, es, ep, k _ q1, q2⟩⟩
def KeysT (K : PySem.W.Frag) (mg : Mg) (F : Hp) (xs : NKX) : Prop := ∀ x ∈ xs, ∃ d, nkOf d = some x.1 ∧ x.1.depth ≤ 8 ∧ Rep K mg F d (.ref x.2.1)
theorem DctAs.keys {K : PySem.W.Frag} {mg : Mg} {F : Hp} : ∀ {xs : NKX} {ks ds : List D}, DctAs K mg F ks ds xs → KeysT K mg F xs
  | [], _, _, _ => fun x hx => by cases hx
  | x :: xs, [], ds, h => by have := h.n; simp [nksOf] at this
  | x :: xs, d :: ks, [], h => by
    obtain ⟨vs, hv, hr⟩ := h.rd
    simp only [RepL] at hr
    subst hr
    cases hv
  | x :: xs, d :: ks, y :: ds, h => fun z hz => by
    rcases List.mem_cons.mp hz with rfl | hz
    · have rk := h.rk
      simp only [List.map_cons, RepL] at rk
      obtain ⟨v, r, e, q, _⟩ := rk
      cases e
      exact ⟨d, (nks_cons h.n).1, h.dp _ List.mem_cons_self, q⟩
    · exact DctAs.keys h.tl z hz
theorem dno_at (I : Inv X pins σ H s) (sF : Same F H) {nd : Addr} {xs : NKX} (e : Rd H nd (DNO X.mgx nd xs)) (k : KeysT X.K X.mgx F xs) : s.heap.DictOfH (nestedKind X.prog X.w) nd xs := by
  obtain ⟨⟨o, es, ep, h1, h2, h3, h4, h5⟩, _⟩ := e.ok I.hok
  exact ⟨o, es, ep, h1, h2, h3, h4, fun x hx => let ⟨d, q1, q2, q3⟩ := k x hx; nk_at I sF q3 q1 q2, h5⟩
structure LookT (K : PySem.W.Frag) (mg : Mg) (H : Hp) (b nd : Addr) (k : NestedKey) (xs : NKX) : Prop where
  ex : ∃ F d, Same F H ∧ Rep K mg F d (.ref b) ∧ nkOf d = some k ∧ k.depth ≤ 8 ∧ KeysT K mg F xs
  here : Rd H nd (DNO mg nd xs)
  big : (nd == sysModules) = false
theorem LookT.at (I : Inv X pins σ H s) {b nd : Addr} {k : NestedKey} {xs : NKX} (l : LookT X.K X.mgx H b nd k xs) : NAt s.heap k b ∧ s.heap.DictOfH (nestedKind X.prog X.w) nd xs := by
  obtain ⟨F, d, sF, r, hk, hd, ks⟩ := l.ex
  exact ⟨nk_at I sF r hk hd, dno_at I sF l.here ks⟩
theorem room8 {A : Around} {P : Program} {w : World} (hu : A.units + 64 < cLine) : (nestedKind P w).room A.in1 := by
  show A.in1.units + 8 < cLine
  simp only [Around.in1_units]; omega
def rTIn (K : PySem.W.Frag) (mg : Mg) (neg : Bool) : R2 := fun x y H Q => ∃ b nd k xs, x = .ref b ∧ y = .ref nd ∧ LookT K mg H b nd k xs ∧ Q (.bl (xor neg (atKey xs k).isSome)) H
theorem op_tin (hu : X.A.units + 64 < cLine) : OpR X (compareOp .In) (rTIn X.K X.mgx false) := by
  intro pins s σ H x y v u Q I rx ry ⟨b, nd, k, xs, e1, e2, l, q⟩
  subst e1 e2
  cases rx
  cases ry
  obtain ⟨hk, dd⟩ := l.at I
  rw [Bool.false_xor] at q
  exact wpAny_in_heap (room8 hu) hk l.big dd ⟨.bl _, H, I.tok _, rfl, q⟩
theorem op_tnin (hu : X.A.units + 64 < cLine) : OpR X (compareOp .NotIn) (rTIn X.K X.mgx true) := by
  intro pins s σ H x y v u Q I rx ry ⟨b, nd, k, xs, e1, e2, l, q⟩
  subst e1 e2
  cases rx
  cases ry
  obtain ⟨hk, dd⟩ := l.at I
  rw [Bool.true_xor] at q
  exact wpAny_notIn_heap (room8 hu) hk l.big dd ⟨.bl _, H, I.tok _, rfl, q⟩
def tTGet (K : PySem.W.Frag) (mg : Mg) (td ty : TE) : TE := fun σ H Q => td σ H fun x H1 => ty σ H1 fun y H2 => ∃ b nd k xs p u v, x = .ref nd ∧ y = .ref b ∧ LookT K mg H2 b nd k xs ∧ atKey xs k = some (p, u) ∧ RelV v u ∧ Q v H2
theorem pe_tget {o i : Expr} {pos : Pos} {td ty : TE} (hu : X.A.units + 64 < cLine) (ho : PE X o td) (hi : PE X i ty) (hs : NoSl i) : PE X (.Subscript o i pos) (tTGet X.K X.mgx td ty) := ⟨fun pins s σ H Q I h => by
  refine subD_of PySem.F.slot_dict_getitem.lookup hs (thn (ho.run pins s σ H _ I h) fun u s1 ⟨x, H1, I1, rx, q1⟩ => thn (hi.run pins s1 σ H1 _ I1 q1) fun iv s2 ⟨y, H2, I2, ry, b, nd, k, xs, p, w, v, e1, e2, l, lk, rv, q2⟩ => ?_)
  subst e1 e2
  cases rx
  cases ry
  obtain ⟨hk, dd⟩ := l.at I2
  exact ⟨dd.typeIs, wpAny_getItem_heap (room8 hu) hk dd lk ⟨v, H2, I2.tok _, rv, q2⟩⟩⟩
/-- d.get(k, x) -/
def tTGet2 (K : PySem.W.Frag) (mg : Mg) (td ty tx : TE) : TE := fun σ H Q => td σ H fun x H1 => (∃ nd xs F, x = .ref nd ∧ Rd H1 nd (DNO mg nd xs) ∧ Same F H1 ∧ KeysT K mg F xs) ∧ ty σ H1 fun y H2 => tx σ H2 fun z H3 => ∃ b nd k xs, x = .ref nd ∧ y = .ref b ∧ LookT K mg H3 b nd k xs ∧
  (atKey xs k = none → Q z H3) ∧ ∀ p u, atKey xs k = some (p, u) → ∃ v, RelV v u ∧ Q v H3
theorem pe_tget2 {o e f : Expr} {apos cpos : Pos} {td ty tx : TE} (hu : X.A.units + 64 < cLine) (ho : PE X o td) (he : PE X e ty) (hf : PE X f tx) (m : M2 X o "get" apos e f cpos) : PE X (.Call (.Attribute o "get" apos) [e, f] [] cpos) (tTGet2 X.K X.mgx td ty tx) := ⟨fun pins s σ H Q I h => by
  refine wpAny_Call_method m.base m.few m.line PySem.F.plainAttrs_dict PySem.F.slot_dict_get PySem.F.type_dict_get (thn (ho.run pins s σ H _ I h) fun u s1 ⟨x, H1, I1, rx, ⟨nd, xs0, F0, e0, hr, sF, kk⟩, q1⟩ => ?_)
  subst e0
  cases rx
  have dd0 := dno_at I1 sF hr kk
  obtain ⟨ob, _, _, g1, g2, _⟩ := dd0
  refine ⟨⟨ob, g1, g2.1⟩, fun b eb => by cases eb; exact ⟨ob, g1, g2.2.1⟩, ?_⟩
  rw [m.trees]
  refine Calls.callWith_builtin rfl (Calls.evalArgs_plain (Calls.spliced_cons (thn (he.run pins s1 σ H1 _ I1 q1) fun iv s2 ⟨y, H2, I2, ry, q2⟩ =>
    Calls.spliced_cons (thn (hf.run pins s2 σ H2 _ I2 q2) fun fv s3 ⟨z, H3, I3, rz, b, nd', k, xs, e1, e2, l, qn, qs⟩ => Calls.spliced_nil ?_))))
  cases e1
  subst e2
  cases ry
  obtain ⟨hk, dd⟩ := l.at I3
  refine call_meetsIn PySem.F.slot_dict_get dd.typeIs PySem.F.entry_dict_get (PySem.F.args_dict_get_3 _ _ _) (meetsH_dict_get_default (nestedKind X.prog X.w) nd b l.big fv) ⟨room8 hu, k, xs, hk, dd, ?_⟩
  cases hA : atKey xs k with
  | none => exact ⟨z, H3, I3.tok _, rz, qn hA⟩
  | some pu =>
    obtain ⟨p, u⟩ := pu
    obtain ⟨v, rv, qv⟩ := qs p u hA
    exact ⟨v, H3, I3.tok _, rv, qv⟩⟩
def rTSet (K : PySem.W.Frag) (mg : Mg) : TSet := fun o i v H Q => ∃ b nd k xs, o = .ref nd ∧ i = .ref b ∧ LookT K mg H b nd k xs ∧ H nd = some (DNO mg nd xs) ∧ xs.length < 100000 ∧ ∀ u, RelV v u → Q (upd H nd (DNO mg nd (storedH xs k b u)))
theorem ps_tset (hu : X.A.units + 64 < cLine) : PSet X (rTSet X.K X.mgx) := by
  intro pins s σ H o i v ov iv u Q I ro ri rv ⟨b, nd, k, xs, e1, e2, l, hh, hl, q⟩
  subst e1 e2
  cases ro
  cases ri
  obtain ⟨hk, dd⟩ := l.at I
  refine wpAny_setItem_heap (hsz := by rw [sizeLine_eq]; omega) (room8 hu) hk dd fun h' dd' hs => ⟨_, ?_, q u rv⟩
  have he : ∃ q, h'.get? nd = some q := let ⟨o, _, _, e, _⟩ := dd'; ⟨o, e⟩
  exact d_write I (by rw [hh]; exact True.intro) hs he (dno_ok (m := X.mgx) dd')
def tTNew (mg : Mg) : TE := fun _ H Q => ∀ p, H p = none → (p == sysModules) = false → Q (.ref p) (upd H p (DNO mg p []))
theorem pe_tnew {pos : Pos} : PE X (.Dict [] [] pos) (tTNew X.mgx) := ⟨fun pins s σ H Q I h =>
  wpAny_Dict_empty ⟨.ref s.heap.objs.size, _, I.laid (a := s.heap.objs.size) (o := DNO X.mgx s.heap.objs.size []) (t' := s.toks) (fun _ _ q => Heap.get?_push_of_some _ q) (Nat.le_refl _) (dno_ok (m := X.mgx) (.new s.heap)), rfl, h _ (I.hok.fresh (Nat.le_refl _)) (beq_eq_false_iff_ne.mpr (Ne.symm (Nat.ne_of_lt I.big)))⟩⟩
def sTPut (K : PySem.W.Frag) (mg : Mg) (td ty tv : TE) : TS := fun D σ H => tv σ H fun v H1 => td σ H1 fun x H2 => ty σ H2 fun y H3 => rTSet K mg x y v H3 fun H4 => D.nx σ H4
theorem ps_tput {o i value : Expr} {pos pos' : Pos} {td ty tv : TE} (hu : X.A.units + 64 < cLine) (ho : PE X o td) (hi : PE X i ty) (hv : PE X value tv) (hs : swapsWith value (some (.Subscript o i pos')) pos.line X.env = pure false) :
    PS X (.Assign [.Subscript o i pos'] value pos) (sTPut X.K X.mgx td ty tv) := ⟨fun pins s σ H D I h =>
  wpAny_Assign_Subscript (thn (hv.run pins s σ H _ I h) fun r s1 ⟨v, H1, I1, rv, q1⟩ => thn (ho.run pins s1 σ H1 _ I1 q1) fun u s2 ⟨x, H2, I2, rx, q2⟩ => thn (hi.run pins s2 σ H2 _ I2 q2) fun iv s3 ⟨y, H3, I3, ry, q3⟩ =>
    thn (ps_tset hu pins s3 σ H3 x y v u iv r _ I3 rx ry rv q3) fun _ s4 ⟨H4, I4, q4⟩ => ⟨σ, H4, I4, q4⟩) hs⟩
end
end Z
/-! Dicts whose keys are tuples, in slots. -/
namespace Z
open PySem PySem.Spec PyProof.Rows L2
def keyT : D → Option NestedKey
  | .tup ds => match nkOf (.tup ds) with
    | some k => if k.depth ≤ 8 then some k else none
    | none => none
  | _ => none
theorem keyT_some {d : D} {k : NestedKey} (h : keyT d = some k) : nkOf d = some k ∧ k.depth ≤ 8 ∧ ∃ ds, d = .tup ds := by
  unfold keyT at h
  split at h
  · rename_i ds
    split at h <;> try cases h
    rename_i k' hk
    split at h <;> cases h
    rename_i hd
    exact ⟨hk, hd, ds, rfl⟩
  · cases h
def resT (ρ : Rho) : Od → Option (List D × List D)
  | .val (.dct ks ds) => some (ks, ds)
  | .sl i => match ρ[i]? with
    | some (.d (.dct ks ds)) => some (ks, ds)
    | some (.own (.dct ks ds)) => some (ks, ds)
    | some (.io (.dct ks ds)) => some (ks, ds)
    | _ => none
  | _ => none
/-- the dict that a slot owns -/
def ownT (ρ : Rho) (i : Nat) : Option (List D × List D) := match ρ[i]? with
  | some (.own (.dct ks ds)) => some (ks, ds)
  | some (.io (.dct ks ds)) => some (ks, ds)
  | _ => none
section
variable {K : PySem.W.Frag} {mg : Mg} {io : List (Nat × Addr)} {F H : Hp} {σ : St} {ρ : Rho}
theorem R.resT {v : V} (r : R K mg io F H σ ρ) {o : Od} {ks ds : List D} (h : RepO K mg F σ o v) (hd : Z.resT ρ o = some (ks, ds)) : ∃ a xs, v = .ref a ∧ Rd H a (DNO mg a xs) ∧ (a == sysModules) = false ∧ DctAs K mg F ks ds xs := by
  have fr : ∀ {w : V}, Rep K mg F (.dct ks ds) w → ∃ a xs, w = .ref a ∧ Rd H a (DNO mg a xs) ∧ (a == sysModules) = false ∧ DctAs K mg F ks ds xs := fun {w} p => by
    simp only [Rep] at p
    obtain ⟨a, od, xs, as, vs, e, q, b, n, nd, m, r1, rv, r2⟩ := p
    subst m
    exact ⟨a, xs, e, .inr ⟨od, r.sub _ _ q⟩, b, n, nd, r1, vs, rv, r2⟩
  have ce : ∀ i, cellAt ρ i = some (.dct ks ds) → σ[i]? = some (some v) → ∃ a xs, v = .ref a ∧ Rd H a (DNO mg a xs) ∧ (a == sysModules) = false ∧ DctAs K mg F ks ds xs := fun i hc hv => by
    obtain ⟨a, e, f, xs, as, vs, q, b, n, nd, m, r1, rv, r2⟩ := r.cel i _ hc
    rw [hv] at e; cases e
    subst m
    exact ⟨a, xs, rfl, .inl q, b, n, nd, r1, vs, rv, r2⟩
  cases o with
  | val x =>
    cases x <;> simp only [Z.resT] at hd <;> try cases hd
    exact fr h
  | sl i =>
    have h : σ[i]? = some (some v) := h
    simp only [Z.resT] at hd
    split at hd <;> try cases hd
    · rename_i hx
      obtain ⟨w, e, p⟩ := r.dat i _ hx
      rw [h] at e; cases e
      exact fr p
    · rename_i hx
      exact ce i (by unfold cellAt; rw [hx]; rfl) h
    · rename_i hx
      exact ce i (by unfold cellAt; rw [hx]; rfl) h
theorem R.ownT {i : Nat} {ks ds : List D} (r : R K mg io F H σ ρ) (h : Z.ownT ρ i = some (ks, ds)) :
    ∃ a xs, σ[i]? = some (some (.ref a)) ∧ H a = some (DNO mg a xs) ∧ (a == sysModules) = false ∧ DctAs K mg F ks ds xs ∧ ∀ xs' ks' ds', DctAs K mg F ks' ds' xs' → R K mg io F (upd H a (DNO mg a xs')) σ (putC ρ i (.dct ks' ds')) ∧ Ext F H σ ρ F (upd H a (DNO mg a xs')) σ (putC ρ i (.dct ks' ds')) := by
  obtain ⟨s, hs, hc⟩ : ∃ s, ρ[i]? = some s ∧ s.cell? = some (.dct ks ds) := by
    unfold Z.ownT at h
    split at h <;> cases h
    · rename_i hs; exact ⟨_, hs, rfl⟩
    · rename_i hs; exact ⟨_, hs, rfl⟩
  have hci : cellAt ρ i = some (.dct ks ds) := by unfold cellAt; rw [hs]; exact hc
  obtain ⟨a, e, f, xs, as, vs, q, b, n, nd, m, r1, rv, r2⟩ := r.cel i _ hci
  subst m
  refine ⟨a, xs, e, q, b, ⟨n, nd, r1, vs, rv, r2⟩, fun xs' ks' ds' hk => ?_⟩
  have : putC ρ i (.dct ks' ds') = ρ.set i (s.put (.dct ks' ds')) := by unfold putC; rw [hs]
  rw [this]
  obtain ⟨vs', v1, v2⟩ := hk.rd
  exact r.wr hs hc e ⟨xs', _, vs', upd_same, b, hk.n, hk.dp, rfl, hk.rk, v1, v2⟩
theorem rep_ref {d : D} {k : NestedKey} {v : V} (h : keyT d = some k) (p : Rep K mg F d v) : ∃ b, v = .ref b := by
  obtain ⟨_, _, ds, rfl⟩ := keyT_some h
  simp only [Rep] at p
  obtain ⟨b, vs, rfl, _⟩ := p
  exact ⟨b, rfl⟩
end
section
variable {X : Cx} {e f o i : Expr} {es : List Expr} {pos apos cpos : Pos}
/-! ### d[k] -/
def mTGetO (mo : MO) (mk : ME) : ME := fun ρ => match mo ρ with
  | some (o, ρ1) => match mk ρ1 with
    | some (x, ρ2) => match resT ρ2 o, keyT x with
      | some (ks, ds), some k => match lookT ks ds k with
        | some d => some (d, ρ2)
        | none => none
      | _, _ => none
    | none => none
  | none => none
theorem se_tgetO {mo : MO} {mk : ME} (hu : X.A.units + 64 < cLine) (ho : SO X o mo) (hi : SE X i mk) (hs : NoSl i := by intro _ _; rfl) : SE X (.Subscript o i pos) (mTGetO mo mk) := Z.pe_mk fun σ H Q ⟨io, F, ρ, d, ρ', r, hm, q⟩ => by
  refine ⟨_, pe_tget hu ho hi hs, ?_⟩
  unfold mTGetO at hm
  split at hm <;> try cases hm
  rename_i o1 ρ1 e1
  split at hm <;> try cases hm
  rename_i x ρ2 e2
  split at hm <;> try cases hm
  rename_i ks ds k e3 e4
  split at hm <;> cases hm
  rename_i e5
  refine ⟨io, F, ρ, _, ρ1, r, e1, fun v F1 H1 x1 r1 p1 => ⟨io, F1, ρ1, _, ρ', r1, e2, fun u F2 H2 x2 r2 p2 => ?_⟩⟩
  obtain ⟨b, rfl⟩ := rep_ref e4 p2
  obtain ⟨n1, n2, _⟩ := keyT_some e4
  obtain ⟨a, xs, rfl, ha, hb, c⟩ := r2.resT (p1.mono x2.sub) e3
  rcases c.look k with ⟨h1, h2, h3⟩ | ⟨p, w, d', v', h1, h2, h3, h4, h5⟩
  · rw [h2] at e5; cases e5
  · rw [h2] at e5; cases e5
    exact ⟨b, a, k, xs, p, w, v', rfl, rfl, ⟨⟨F2, _, r2.sub, p2, n1, n2, c.keys⟩, ha, hb⟩, h1, h4, q _ F2 H2 (x1.trans x2) r2 h5⟩
/-! ### d.get(k, x) -/
def mTGetD (mo : MO) (mk mx : ME) : ME := fun ρ => match mo ρ with
  | some (o, ρ1) => match resT ρ1 o with
    | some _ => match mk ρ1 with
      | some (y, ρ2) => match mx ρ2 with
        | some (x, ρ3) => match resT ρ3 o, keyT y with
          | some (ks, ds), some k => some ((lookT ks ds k).getD x, ρ3)
          | _, _ => none
        | none => none
      | none => none
    | none => none
  | none => none
theorem se_tgetD {mo : MO} {mk mx : ME} (hu : X.A.units + 64 < cLine) (ho : SO X o mo) (hi : SE X e mk) (hx : SE X f mx) (m : M2 X o "get" apos e f cpos := by exact ⟨rfl, rfl, rfl, rfl⟩) : SE X (.Call (.Attribute o "get" apos) [e, f] [] cpos) (mTGetD mo mk mx) := Z.pe_mk fun σ H Q ⟨io, F, ρ, d, ρ', r, hm, q⟩ => by
  refine ⟨_, pe_tget2 hu ho hi hx m, ?_⟩
  unfold mTGetD at hm
  split at hm <;> try cases hm
  rename_i o1 ρ1 e1
  split at hm <;> try cases hm
  rename_i p0 e0
  split at hm <;> try cases hm
  rename_i y ρ2 e2
  split at hm <;> try cases hm
  rename_i x ρ3 e3
  split at hm <;> cases hm
  rename_i ks ds k e4 e5
  refine ⟨io, F, ρ, _, ρ1, r, e1, fun v F1 H1 x1 r1 p1 => ?_⟩
  obtain ⟨a, xs0, rfl, ha0, hb0, c0⟩ := r1.resT p1 (ks := p0.1) (ds := p0.2) e0
  refine ⟨⟨a, xs0, F1, rfl, ha0, r1.sub, c0.keys⟩, io, F1, ρ1, _, ρ2, r1, e2, fun u F2 H2 x2 r2 p2 => ⟨io, F2, ρ2, _, _, r2, e3, fun z F3 H3 x3 r3 p3 => ?_⟩⟩
  obtain ⟨b, rfl⟩ := rep_ref e4 p2
  obtain ⟨n1, n2, _⟩ := keyT_some e4
  obtain ⟨a', xs, ea, ha, hb, c⟩ := r3.resT (p1.mono (x2.sub.trans x3.sub)) e5
  cases ea
  have l : LookT X.K X.mgx H3 b a k xs := ⟨⟨F3, _, r3.sub, p2.mono x3.sub, n1, n2, c.keys⟩, ha, hb⟩
  rcases c.look k with ⟨h1, h2, h3⟩ | ⟨p, w, d', v', h1, h2, h3, h4, h5⟩
  · refine ⟨b, a, k, xs, rfl, rfl, l, fun _ => q _ F3 H3 ((x1.trans x2).trans x3) r3 (by rw [h2]; exact p3), fun p u hp => by rw [h1] at hp; cases hp⟩
  · refine ⟨b, a, k, xs, rfl, rfl, l, fun hn => by (rw [h1] at hn; cases hn), fun p u hp => ?_⟩
    rw [h1] at hp; cases hp
    exact ⟨v', h4, q _ F3 H3 ((x1.trans x2).trans x3) r3 (by rw [h2]; exact h5)⟩
/-! ### k in d, k not in d -/
def mTIn (neg : Bool) (mk : ME) (mo : MO) : ME := fun ρ => match mk ρ with
  | some (y, ρ1) => match mo ρ1 with
    | some (o, ρ2) => match resT ρ2 o, keyT y with
      | some (ks, ds), some k => some (.bl (xor neg (inKs ks k)), ρ2)
      | _, _ => none
    | none => none
  | none => none
theorem DctAs.has {K : PySem.W.Frag} {mg : Mg} {F : Hp} {ks ds : List D} {xs : NKX} (c : DctAs K mg F ks ds xs) (k : NestedKey) : (atKey xs k).isSome = inKs ks k := by
  rcases c.look k with ⟨h1, _, h3⟩ | ⟨p, w, d', v', h1, _, h3, _, _⟩ <;> rw [h1, h3] <;> rfl
theorem tin_post {neg : Bool} {mk : ME} {mo : MO} {σ : St} {H : Hp} {ρ ρ' : Rho} {d : D} {io : List (Nat × Addr)} {F : Hp} {Q : VK} (r : R X.K X.mgx io F H σ ρ) (hm : mTIn neg mk mo ρ = some (d, ρ')) (q : ∀ b F' H', d = .bl b → Ext F H σ ρ F' H' σ ρ' → R X.K X.mgx io F' H' σ ρ' → Q (.bl b) H') :
    tOp (rTIn X.K X.mgx neg) (tE X.K X.mgx mk) (tO X.K X.mgx mo) σ H Q := by
  unfold mTIn at hm
  split at hm <;> try cases hm
  rename_i y ρ1 e1
  split at hm <;> try cases hm
  rename_i o1 ρ2 e2
  split at hm <;> cases hm
  rename_i ks ds k e3 e4
  refine ⟨io, F, ρ, _, ρ1, r, e1, fun v F1 H1 x1 r1 p1 => ⟨io, F1, ρ1, _, _, r1, e2, fun u F2 H2 x2 r2 p2 => ?_⟩⟩
  obtain ⟨b, rfl⟩ := rep_ref e3 p1
  obtain ⟨n1, n2, _⟩ := keyT_some e3
  obtain ⟨a, xs, rfl, ha, hb, c⟩ := r2.resT p2 e4
  refine ⟨b, a, k, xs, rfl, rfl, ⟨⟨F2, _, r2.sub, p1.mono x2.sub, n1, n2, c.keys⟩, ha, hb⟩, ?_⟩
  rw [c.has]
  exact q _ F2 H2 rfl (x1.trans x2) r2
theorem se_tin {mk : ME} {mo : MO} (hu : X.A.units + 64 < cLine) (hi : SE X i mk) (ho : SO X o mo) (hb : behindInMarks .In o = false := by first | exact nomark _ | rfl) : SE X (.Compare i [.In] [o] pos) (mTIn false mk mo) := Z.pe_mk fun σ H Q ⟨io, F, ρ, d, ρ', r, hm, q⟩ =>
  ⟨_, pe_cmpR (op_tin hu) hi ho hb, tin_post r hm fun b F' H' e x r' => q _ F' H' x r' (by subst e; simp only [Rep])⟩
theorem se_tnin {mk : ME} {mo : MO} (hu : X.A.units + 64 < cLine) (hi : SE X i mk) (ho : SO X o mo) (hb : behindInMarks .NotIn o = false := by first | exact nomark _ | rfl) : SE X (.Compare i [.NotIn] [o] pos) (mTIn true mk mo) := Z.pe_mk fun σ H Q ⟨io, F, ρ, d, ρ', r, hm, q⟩ =>
  ⟨_, pe_cmpR (op_tnin hu) hi ho hb, tin_post r hm fun b F' H' e x r' => q _ F' H' x r' (by subst e; simp only [Rep])⟩
theorem st_tin {mk : ME} {mo : MO} (hu : X.A.units + 64 < cLine) (hi : SE X i mk) (ho : SO X o mo) (hb : behindInMarks .In o = false := by first | exact nomark _ | rfl) : ST X (.Compare i [.In] [o] pos) (mTB (mTIn false mk mo)) := pt_mk fun σ H Q ⟨io, F, ρ, d, ρ', r, hm', q⟩ => by
  refine ⟨_, pt_cmpR (op_tin hu) hi ho hb, ?_⟩
  unfold mTB at hm'
  split at hm' <;> cases hm'
  rename_i hm
  exact tin_post r hm fun b F' H' e x r' => by cases e; exact ⟨_, rfl, q F' H' x r'⟩
theorem st_tnin {mk : ME} {mo : MO} (hu : X.A.units + 64 < cLine) (hi : SE X i mk) (ho : SO X o mo) (hb : behindInMarks .NotIn o = false := by first | exact nomark _ | rfl) : ST X (.Compare i [.NotIn] [o] pos) (mTB (mTIn true mk mo)) := pt_mk fun σ H Q ⟨io, F, ρ, d, ρ', r, hm', q⟩ => by
  refine ⟨_, pt_cmpR (op_tnin hu) hi ho hb, ?_⟩
  unfold mTB at hm'
  split at hm' <;> cases hm'
  rename_i hm
  exact tin_post r hm fun b F' H' e x r' => by cases e; exact ⟨_, rfl, q F' H' x r'⟩
/-! ### d[k] = e, {} -/
def mTPut (i : Nat) (mk m : ME) : MS := fun ρ => match m ρ with
  | some (d, ρ1) => match ownT ρ1 i with
    | some _ => match mk ρ1 with
      | some (y, ρ2) => match ownT ρ2 i, keyT y with
        | some (ks, ds), some k => if ks.length < LIM then some (.nx, putC ρ2 i (.dct (putKt ks y k) (putDt ks ds k d))) else none
        | _, _ => none
      | none => none
    | none => none
  | none => none
theorem nks_len : ∀ {ks : List D} {l : List NestedKey}, nksOf ks = some l → l.length = ks.length
  | [], l, h => by simp only [nksOf, Option.some.injEq] at h; subst h; rfl
  | d :: ks, l, h => by
    simp only [nksOf] at h
    split at h <;> cases h
    rename_i k l' h1 h2
    rw [List.length_cons, List.length_cons, nks_len h2]
theorem ss_tput (i : Nat) {x : Str} {k : Expr} {p pos' : Pos} {mk m : ME} (hu : X.A.units + 64 < cLine) (hk : SE X k mk) (h : SE X e m) (hN : X.N[i]? = some x := by rfl) (hv : Vis X.env.scope x := by first | exact Or.inl rfl | exact Or.inr (Or.inl rfl) | exact Or.inr (Or.inr rfl)) (hd : (x == ("__debug__" : Str)) = false := by decide) (hcd : (x == ("__classdict__" : Str)) = false := by decide)
    (hs : swapsWith e (some (.Subscript (.Name x p) k pos')) pos.line X.env = pure false := by rfl) : SS X (.Assign [.Subscript (.Name x p) k pos'] e pos) (mTPut i mk m) := ps_mk fun D σ H ⟨io, F, ρ, fl, ρ', r, hm, q⟩ => by
  refine ⟨_, ps_tput hu (pe_var hN hv hd hcd) hk h hs, ?_⟩
  unfold mTPut at hm
  split at hm <;> try cases hm
  rename_i d ρ1 h1
  split at hm <;> try cases hm
  rename_i p0 h0
  split at hm <;> try cases hm
  rename_i y ρ2 h2
  split at hm <;> try cases hm
  rename_i ks ds kk h3 h4
  split at hm <;> cases hm
  rename_i hl
  refine ⟨io, F, ρ, d, ρ1, r, h1, fun v F1 H1 x1 r1 p1 => ?_⟩
  obtain ⟨a, _, ea, _⟩ := r1.ownT (ks := p0.1) (ds := p0.2) h0
  refine ⟨_, ea, io, F1, ρ1, y, ρ2, r1, h2, fun w F2 H2 x2 r2 p2 => ?_⟩
  obtain ⟨b, rfl⟩ := rep_ref h4 p2
  obtain ⟨n1, n2, _⟩ := keyT_some h4
  obtain ⟨a', xs, ea', hv', hb, c, go⟩ := r2.ownT h3
  rw [ea] at ea'; cases ea'
  have hlen : xs.length < 100000 := by
    have := nks_len c.n
    rw [List.length_map] at this
    have : LIM = 65536 := rfl
    omega
  refine ⟨b, a, kk, xs, rfl, rfl, ⟨⟨F2, _, r2.sub, p2, n1, n2, c.keys⟩, .inl hv', hb⟩, hv', hlen, fun u ru => ?_⟩
  obtain ⟨r3, x3⟩ := go _ _ _ (c.put n1 n2 p2 (p1.mono x2.sub) ru)
  exact q _ _ _ ((x1.trans x2).trans x3) r3
def mNewDct (i : Nat) : MS := fun ρ => match ρ[i]? with
  | some s => if notIo s then some (.nx, ρ.set i (.own (.dct [] []))) else none
  | none => none
theorem dct_nil {K : PySem.W.Frag} {mg : Mg} {F H : Hp} {p : Addr} (hb : (p == sysModules) = false) : CellOk K mg F (upd H p (DNO mg p [])) p (.dct [] []) := ⟨[], [], [], upd_same, hb, rfl, by simp, rfl, .nil, .nil, .nil⟩
theorem ss_newDct (i : Nat) {x : Str} {dpos pos' : Pos} (hN : X.N.Nodup) (hi : X.N[i]? = some x := by rfl) (hx : Loc X.env.scope x := by first | exact Or.inl rfl | exact Or.inr rfl) (hf : X.fn x = true ∨ X.env.scope.names.lookup x = some .local := by first | exact .inl rfl | exact .inr rfl)
    (hs : swapsWith (.Dict [] [] dpos) (some (.Name x pos')) pos.line X.env = pure false := by rfl) : SS X (.Assign [.Name x pos'] (.Dict [] [] dpos) pos) (mNewDct i) := ps_mk fun D σ H ⟨io, F, ρ, fl, ρ', r, hm, q⟩ => by
  refine ⟨_, L2.ps_set hN hi hx pe_tnew hs hf, ?_⟩
  unfold mNewDct at hm
  split at hm <;> try cases hm
  rename_i s h1
  split at hm <;> cases hm
  rename_i h2
  refine fun p hp hb => ?_
  obtain ⟨r2, x2⟩ := r.newC (o := DNO X.mgx p []) (c := .dct [] []) h1 h2 hp (dct_nil hb)
  exact q _ _ _ x2 r2
end
end Z
/-! Two targets at once, one of them a new dict of tuples. -/
namespace Z
open PySem PySem.Spec PyProof.Rows L2
theorem dct_nil2 {K : PySem.W.Frag} {mg : Mg} {F H : Hp} {p : Addr} (h : H p = some (DNO mg p [])) (hb : (p == sysModules) = false) : CellOk K mg F H p (.dct [] []) := ⟨[], [], [], h, hb, rfl, by simp, rfl, .nil, .nil, .nil⟩
theorem ext_add {F H : Hp} {σ : St} {ρ : Rho} {p : Addr} {o : HO} (hp : H p = none) : Ext F H σ ρ F (upd H p o) σ ρ := ⟨Same.refl F, fun a u ha _ => ⟨by rw [upd_ne (ne_of_none ha hp)]; exact ha, rfl⟩, fun a w => .inl w, fun a ha => by
  by_cases z : a = p
  · subst z; exact hp
  · rw [upd_ne z] at ha; exact ha⟩
def mParTE (i j : Nat) (me : ME) : MS := fun ρ => match me ρ with
  | some (d, ρ1) => match ρ1[i]? with
    | some s => if notIo s then match putD j d (ρ1.set i (.own (.dct [] []))) with
      | some ρ2 => some (.nx, ρ2)
      | none => none
      else none
    | none => none
  | none => none
def mParVT (i j : Nat) (m : MV) : MS := fun ρ => match m ρ with
  | some (n, ρ1) => match putV i n ρ1 with
    | some ρ2 => match ρ2[j]? with
      | some s => if notIo s then some (.nx, ρ2.set j (.own (.dct [] []))) else none
      | none => none
    | none => none
  | none => none
section
variable {X : Cx} {a b : Expr} {pos : Pos}
theorem ss_parTE (i j : Nat) {x y : Str} {px py pt pt2 dpos : Pos} {kt k2 : Nat} {n : ME} (hN : X.N.Nodup) (hb : SE X b n) (hc : X.calm = true := by rfl) (hi : X.N[i]? = some x := by rfl) (hj : X.N[j]? = some y := by rfl) (hij : i ≠ j := by decide)
    (hx : X.env.scope.names.lookup x = some .local := by rfl) (hy : X.env.scope.names.lookup y = some .local := by rfl)
    (hs1 : starEach [.Dict [] [] dpos, b] X.env = (false, eval (.Dict [] [] dpos) X.env) :: starEach [b] X.env := by rfl) (hs2 : starEach [b] X.env = (false, eval b X.env) :: starEach [] X.env := by rfl)
    (hw : swappedStores [.Tuple [.Name x px, .Name y py] kt pt] (.Tuple [.Dict [] [] dpos, b] k2 pt2) X.env = pure (some [x, y]) := by rfl)
    (hs : swapsWithSole [.Tuple [.Name x px, .Name y py] kt pt] (.Tuple [.Dict [] [] dpos, b] k2 pt2) pos.line X.env = pure false := by rfl) :
    SS X (.Assign [.Tuple [.Name x px, .Name y py] kt pt] (.Tuple [.Dict [] [] dpos, b] k2 pt2) pos) (mParTE i j n) := ps_mk fun D σ H ⟨io, F, ρ, fl, ρ', r, hm, q⟩ => by
  refine ⟨_, L2.ps_par hc hN hi hj hij hx hy (pa_cons pe_tnew (pa_cons hb pa_nil hs2) hs1) hw hs, ?_⟩
  unfold mParTE at hm
  split at hm <;> try cases hm
  rename_i d ρ1 h1
  split at hm <;> try cases hm
  rename_i s h2
  split at hm <;> try cases hm
  rename_i h3
  split at hm <;> cases hm
  rename_i h4
  refine fun p hp hb => ⟨io, F, ρ, d, ρ1, r.addH hp, h1, fun w F2 H2 x2 r2 p2 => ⟨.ref p, w, rfl, ?_⟩⟩
  obtain ⟨k1, k2⟩ := x2.keep p _ upd_same (r.notOwn hp)
  have no := ext_noOwn x2 upd_same (r.notOwn hp)
  obtain ⟨r3, o3⟩ := r2.setC h2 (notIo_ne h3) (k2.trans (r.freeF hp)) no (dct_nil2 k1 hb)
  obtain ⟨r4, x4⟩ := r3.putD h4 p2
  have x3 : Ext F H σ ρ F2 H2 (σ.set i (some (.ref p))) (ρ1.set i (.own (.dct [] []))) := by
    have xx := (ext_add (F := F) (σ := σ) (ρ := ρ) (o := DNO X.mgx p []) hp).trans x2
    refine ⟨xx.sub, xx.keep, fun c hc => ?_, xx.stay⟩
    rcases o3 c hc with hc | rfl
    · exact xx.own c hc
    · exact .inr hp
  exact q _ F2 H2 (x3.trans x4) r4
theorem ss_parVT (i j : Nat) {x y : Str} {px py pt pt2 dpos : Pos} {kt k2 : Nat} {m : MV} (hN : X.N.Nodup) (ha : SV X a m) (hc : X.calm = true := by rfl) (hi : X.N[i]? = some x := by rfl) (hj : X.N[j]? = some y := by rfl) (hij : i ≠ j := by decide)
    (hx : X.env.scope.names.lookup x = some .local := by rfl) (hy : X.env.scope.names.lookup y = some .local := by rfl)
    (hs1 : starEach [a, .Dict [] [] dpos] X.env = (false, eval a X.env) :: starEach [.Dict [] [] dpos] X.env := by rfl) (hs2 : starEach [.Dict [] [] dpos] X.env = (false, eval (.Dict [] [] dpos) X.env) :: starEach [] X.env := by rfl)
    (hw : swappedStores [.Tuple [.Name x px, .Name y py] kt pt] (.Tuple [a, .Dict [] [] dpos] k2 pt2) X.env = pure (some [x, y]) := by rfl)
    (hs : swapsWithSole [.Tuple [.Name x px, .Name y py] kt pt] (.Tuple [a, .Dict [] [] dpos] k2 pt2) pos.line X.env = pure false := by rfl) :
    SS X (.Assign [.Tuple [.Name x px, .Name y py] kt pt] (.Tuple [a, .Dict [] [] dpos] k2 pt2) pos) (mParVT i j m) := ps_mk fun D σ H ⟨io, F, ρ, fl, ρ', r, hm, q⟩ => by
  refine ⟨_, L2.ps_par hc hN hi hj hij hx hy (pa_cons ha (pa_cons pe_tnew pa_nil hs2) hs1) hw hs, ?_⟩
  unfold mParVT at hm
  split at hm <;> try cases hm
  rename_i na ρ1 h1
  split at hm <;> try cases hm
  rename_i ρ2 h2
  split at hm <;> try cases hm
  rename_i s h3
  split at hm <;> cases hm
  rename_i h4
  refine ⟨io, F, ρ, na, ρ1, r, h1, fun v F1 H1 x1 r1 p1 n1 => fun p hp hb => ⟨v, .ref p, rfl, ?_⟩⟩
  have xa : Ext F1 H1 σ ρ1 F1 (upd H1 p (DNO X.mgx p [])) σ ρ1 := ext_add hp
  have ra := r1.addH (o := DNO X.mgx p []) hp
  obtain ⟨r3, x3⟩ := R.putV (x1.trans xa) ra h2 (p1.keep xa) n1
  have no : ¬ OwnA (σ.set i (some v)) ρ2 p := by
    cases na with
    | val d =>
      obtain ⟨_, x3'⟩ := ra.putD h2 p1
      exact ext_noOwn x3' upd_same (r1.notOwn hp)
    | new es =>
      obtain ⟨p', vs', rfl, hv', hf', hn', rl'⟩ := p1
      obtain ⟨hv2, _⟩ := xa.keep _ _ hv' hn'
      obtain ⟨_, x3'⟩ := ra.putN h2 hv2 hf' hn' rl'
      intro w
      rcases x3' p w with w | rfl
      · exact r1.notOwn hp w
      · rw [hp] at hv'; cases hv'
  obtain ⟨r4, o4⟩ := r3.setC h3 (notIo_ne h4) (r1.freeF hp) no (dct_nil2 upd_same hb)
  refine q _ F1 _ ⟨x3.sub, x3.keep, fun c hc => ?_, x3.stay⟩ r4
  rcases o4 c hc with hc | rfl
  · exact x3.own c hc
  · exact .inr (x1.stay _ hp)
end
section
variable {X : Cx} {e : Expr} {es : List Expr} {pos : Pos}
/-- name = [.. for .. for ..] on one row -/
theorem ss_setLc2 (i : Nat) (vs1 : List Nat) {y : Str} {py : Pos} {elt tg iter tg1 iter1 : Expr} {ifs ifs1 : List Expr} {scope : Scope} {own : List (Str × Nat)} {spos : Pos} {mi mi1 : MI} {g g1 : MG} {tt tt1 : MT} {te : ME} (hN : X.N.Nodup) (hi : SI X tg iter mi) (ok : BlkOk X.N X.env.scope scope own)
    (hg : ∀ (s : Shared) (H : Hp) (C : Addr) (cl : List (Str × Addr)) (fp : List Addr), SG (X.blk s H scope (compEnvC scope cl C X.env) fp) (own.map (·.2)) tg g) (ht : ∀ (s : Shared) (H : Hp) (C : Addr) (cl : List (Str × Addr)) (fp : List Addr), STs (X.blk s H scope (compEnvC scope cl C X.env) fp) ifs tt)
    (hi1 : ∀ (s : Shared) (H : Hp) (C : Addr) (cl : List (Str × Addr)) (fp : List Addr), SI (X.blk s H scope (compEnvC scope cl C X.env) fp) tg1 iter1 mi1)
    (hg1 : ∀ (s : Shared) (H : Hp) (C : Addr) (cl : List (Str × Addr)) (fp : List Addr), SG (X.blk s H scope (compEnvC scope cl C X.env) fp) vs1 tg1 g1) (ht1 : ∀ (s : Shared) (H : Hp) (C : Addr) (cl : List (Str × Addr)) (fp : List Addr), STs (X.blk s H scope (compEnvC scope cl C X.env) fp) ifs1 tt1)
    (he : ∀ (s : Shared) (H : Hp) (C : Addr) (cl : List (Str × Addr)) (fp : List Addr), SE (X.blk s H scope (compEnvC scope cl C X.env) fp) elt te) (hv : ∀ i ∈ vs1, i ∈ own.map (·.2) := by decide) (hc : X.calm = true := by rfl) (hy : X.N[i]? = some y := by rfl) (hyl : X.env.scope.names.lookup y = some .local := by rfl)
    (hsw : swapsWith (.ListComp elt [⟨tg, iter, ifs, 0⟩, ⟨tg1, iter1, ifs1, 0⟩] scope pos) (some (.Name y py)) spos.line X.env = pure true := by exact sw_true rfl rfl rfl (by decide +kernel)) (hs : ∀ x, foldedSetIterable iter X.env x = pure x := by intro _; rfl) (hs1 : ∀ env x, foldedSetIterable iter1 env x = pure x := by intro _ _; rfl) :
    SS X (.Assign [.Name y py] (.ListComp elt [⟨tg, iter, ifs, 0⟩, ⟨tg1, iter1, ifs1, 0⟩] scope pos) spos) (mSet i (mVn (mLc2 mi (own.map (·.2)) g tt mi1 vs1 g1 tt1 te))) := ps_mk fun D σ H ⟨io, F, ρ, fl, ρ', r, hm, q⟩ => by
  refine ⟨_, L2.ps_setLc2 (wi1 := tI X.K X.mgx mi1) (g := tG X.K X.mgx (own.map (·.2)) g) (g1 := tG X.K X.mgx vs1 g1) (tt := tT X.K X.mgx tt) (tt1 := tT X.K X.mgx tt1) (te := tE X.K X.mgx te) hc hN hy hyl hsw hi ok hv hg ht hi1 hg1 ht1 he hs hs1, ?_⟩
  unfold mSet at hm
  split at hm <;> try cases hm
  rename_i n ρ1 h1
  split at hm <;> cases hm
  rename_i ρ2 h2
  unfold mVn at h1
  split at h1 <;> cases h1
  rename_i ds h1
  refine lc2_read ⟨io, F, ρ, ds, ρ1, r, h1, fun p vs F' H' x r' hp hv hf hn rl => ?_⟩
  obtain ⟨r2, x2⟩ := R.putV (n := .new ds) x r' h2 ⟨p, vs, rfl, hv, hf, hn, rl⟩ ⟨p, rfl, hp⟩
  exact q _ F' H' x2 r2
end
end Z
/-! d.items() of a dict whose keys are tuples, walked; a display with one such key; rows turned round. -/
namespace Z
open PySem PySem.Spec PyProof.Rows L2
def Itn (mg : Mg) (d : Addr) (o : Obj) (xs : NKX) (vs : List V) : It :=
  ⟨fun i H => H d = some (.frz o (DNO mg d xs)) ∧ i < xs.length, fun i H x H' => ∃ T y v, xs[i]? = some y ∧ vs[i]? = some v ∧ x = .ref T ∧ H T = none ∧ H' = upd H T (.tup [.ref y.2.1, v]), fun i H => H d = some (.frz o (DNO mg d xs)) ∧ xs.length ≤ i⟩
theorem vals_get : ∀ {vs : List V} {us : List Value} {i : Nat} {u : Value}, Vals vs us → us[i]? = some u → ∃ v, vs[i]? = some v ∧ RelV v u
  | _, _, 0, _, .cons h _, e => ⟨_, rfl, by rw [List.getElem?_cons_zero] at e; cases e; exact h⟩
  | _, _, i + 1, _, .cons _ h, e => by
    rw [List.getElem?_cons_succ] at e
    obtain ⟨v, h1, h2⟩ := vals_get h e
    exact ⟨v, by rw [List.getElem?_cons_succ]; exact h1, h2⟩
section
variable {X : Cx} {pins : List (Addr × Obj)} {σ : L2.St} {H : Hp} {s : Shared} {d : Addr} {o : Obj} {xs : NKX} {m : Mg}
theorem frzN (I : Inv X pins σ H s) (h : H d = some (.frz o (DNO m d xs))) : s.heap.get? d = some o ∧ o.ExactDict ∧ ∃ es ep, o.data = .dict es ep ∧ es.toList = xs.map (entryOfKey (nestedKind m.P m.w)) := by
  obtain ⟨hd, ⟨o', es, ep, ho, hx, hdt, he, _⟩, _⟩ := I.hok d _ h
  rw [hd] at ho
  cases ho
  exact ⟨hd, hx, es, ep, hdt, he⟩
theorem turn_itemsN {P : Program} {w : World} {K : PySem.W.Frag} {elts : List Expr} {kk : Nat} {tpos : Pos} {es : Array DictEntry} {ep : Nat} {vs : List V} (it : Addr) (hod : o.data = .dict es ep) (hv : Vals vs (xs.map (·.2.2))) (hes : es.size = xs.length) :
    Turn P w K (.Tuple elts kk tpos) (Itn m d o xs vs) [it] it (fun i h => ∃ ok ov, IsItemIter h it d i es.size ep ok ov) where
  mem := by simp
  obj := fun i h st b hb => by
    have e : b = it := by simpa using hb
    subst e
    obtain ⟨ok, ov, e⟩ := st
    exact ⟨_, e, fun v z => nomatch z⟩
  keep := fun i h h' st k => let ⟨ok, ov, e⟩ := st; ⟨ok, ov, k it (by simp) _ e⟩
  item := by
    intro X hP hw hK hc i pins s σ H E I hf st hg
    subst hP hw hK
    obtain ⟨hd, hi⟩ := hg
    obtain ⟨hgd, hx, es', ep', hdt, he⟩ := frzN I hd
    obtain ⟨rfl, rfl⟩ := dict_ep hod hdt
    have hlt0 : i < es'.size := by omega
    have hy : xs[i]? = some xs[i] := List.getElem?_eq_getElem hi
    have hent : es'[i] = entryOfKey (nestedKind m.P m.w) xs[i] := by
      have e := congrArg (fun l => l[i]?) he
      simp only [List.getElem?_map, hy, Option.map_some, Array.getElem?_toList] at e
      rw [Array.getElem?_eq_getElem hlt0] at e
      exact Option.some.inj e
    obtain ⟨v, hvv, ru⟩ := vals_get (i := i) (u := xs[i].2.2) hv (by rw [List.getElem?_map, hy]; rfl)
    obtain ⟨ok, ov, hst⟩ := st
    have hlt : it < s.heap.objs.size := Heap.lt_size hst
    refine wpAny_pyNext_items_item_raw hst ⟨o, hgd, hx, hdt⟩ hlt0 fun h' ho hT hz hk => ?_
    rw [hent] at ho hT
    refine ⟨_, rfl, wpAny_letOwnedTupleGo_items (s := { s with heap := h' }) ho fun h'' he' sb => ?_⟩
    have hT2 : h''.get? s.heap.objs.size = some { cls := .type "tuple", data := .seq #[.ref xs[i].2.1, xs[i].2.2] } := (sb.2 _ (Nat.ne_of_gt hlt)).trans hT
    have new : ObjOk X.prog X.w (upd H s.heap.objs.size (.tup [.ref xs[i].2.1, v])) h'' s.heap.objs.size (.tup [.ref xs[i].2.1, v]) :=
      ⟨by show 2 ≤ sizeLine; decide, [.ref xs[i].2.1, xs[i].2.2], .cons rfl (.cons ru .nil), ⟨_, hT2, rfl, _, rfl⟩⟩
    have I1 : Inv X pins σ (upd H s.heap.objs.size (.tup [.ref xs[i].2.1, v])) { s with heap := h'' } :=
      I.turnedNew (t' := s.toks) (ch := [it]) (fun b ob hb e => (sb.2 b (by simpa using hb)).trans (hk b ob (by simpa using hb) e)) hf (Nat.le_refl _) new
    refine ⟨.ref s.heap.objs.size, _, I1, rfl, ⟨_, xs[i], v, hy, hvv, rfl, I.hok.fresh (Nat.le_refl _), rfl⟩, ⟨_, _, he'⟩, fun b hb => ?_⟩
    have e : b = it := by simpa using hb
    rw [e, upd_ne (Nat.ne_of_lt hlt)]
    exact (hf it (by simp)).1
  done := by
    intro X hP hw hK hc i pins s σ H E I hf st hg
    subst hP hw hK
    obtain ⟨hd, hi⟩ := hg
    obtain ⟨f0, f1, f2, f3, f4, f5⟩ := hf it (by simp)
    obtain ⟨hgd, hx, es', ep', hdt, he⟩ := frzN I hd
    obtain ⟨rfl, rfl⟩ := dict_ep hod hdt
    obtain ⟨ok, ov, hst⟩ := st
    exact wpAny_pyNext_items_end_raw (I.ok.hd hc) hst ⟨o, hgd, hx, hdt⟩ (by omega) fun h' eb => ⟨rfl, I.turned (t' := s.toks) (fun b ob hb e => eb b ob hb e) f0 f1 f3 f4 f5⟩
  self := fun A i s Q E st h => let ⟨_, _, e⟩ := st; PySem.W.kcp_self e h
end
def iItemsN (mg : Mg) (td : TE) : TI := fun σ H R => td σ H fun x H1 => ∃ d o xs vs, x = .ref d ∧ (d == sysModules) = false ∧ H1 d = some (.frz o (DNO mg d xs)) ∧ Vals vs (xs.map (·.2.2)) ∧ R (Itn mg d o xs vs) H1
section
variable {X : Cx} {e : Expr} {td : TE} {apos cpos : Pos} {m : Mg}
theorem pi_itemsN {elts : List Expr} {kk : Nat} {tpos : Pos} (he : PE X e td) (hbase : attributeBase e "items" X.env (eval e X.env) = eval e X.env := by rfl) (hline : (apos.endLine == cpos.line) = true := by rfl) :
    PI X (.Tuple elts kk tpos) (.Call (.Attribute e "items" apos) [] [] cpos) (iItemsN m td) := by
  refine ⟨fun pins s σ H R I h => ?_⟩
  refine wpAny_Call_method (T := "dict") (id := "dict.items") hbase rfl hline F.plainAttrs_dict F.slot_dict_items F.type_dict_items (thn (he.run pins s σ H _ I h) fun u s1 ⟨x, H1, I1, rx, d, o, xs, vs, ex, hs, hd, hv, q⟩ => ?_)
  subst ex
  obtain rfl : u = Value.ref d := rx
  obtain ⟨hgd, hx, es, ep, hdt, hes⟩ := frzN I1 hd
  have hl : es.size = xs.length := by
    have := congrArg List.length hes
    rw [List.length_map, Array.length_toList] at this
    exact this
  have hm : s1.heap.DictRaw d es ep := ⟨o, hgd, hx, hdt⟩
  refine ⟨hm.typeIs, fun b eb => by cases eb; exact ⟨o, hgd, hx.2.1⟩, ?_⟩
  have I2 : Inv X pins σ H1 { s1 with heap := s1.heap.push { cls := .type "dict_items", data := .fields #[.ref d] } } := I1.kept (t' := s1.toks) fun b ob q => Heap.get?_push_of_some _ q
  have fin : wpAny (model X.prog X.w) X.A (pyIter (.ref s1.heap.objs.size)) (PIE X pins σ (.Tuple elts kk tpos) R) X.xe { s1 with heap := s1.heap.push { cls := .type "dict_items", data := .fields #[.ref d] } } := by
    refine wpAny_pyIter_items_raw (d := d) ⟨_, Heap.get?_push_size _ rfl, rfl, rfl⟩ (hm.at fun _ q => Heap.get?_push_of_some _ q) (pi_one (tk := s1.toks) I2 _ (turn_itemsN _ hdt hv hl) ⟨.none, .none, ?_⟩ q)
    exact Heap.get?_push_size _ rfl
  show wpAny _ _ (callWith cpos (.builtin "dict.items") [.ref d] [] []) _ X.xe s1
  exact method_meetsIn F.slot_dict_items F.entry_dict_items rfl (PySem.evalArgs_none ⟨rfl, hm.typeIs, F.args_dict_items_1 _, _, meets_dict_items_raw d hs, ⟨es, ep, hm⟩, fin⟩)
end
/-! ### in slots -/
def itemsT : List D → List D → List D
  | k :: ks, d :: ds => .prs [k, d] :: itemsT ks ds
  | _, _ => []
theorem itemsT_get : ∀ {ks ds : List D} {i : Nat} {d : D}, (itemsT ks ds)[i]? = some d → ∃ k x, ks[i]? = some k ∧ ds[i]? = some x ∧ d = .prs [k, x]
  | [], _, _, _, h => by simp [itemsT] at h
  | _ :: _, [], _, _, h => by simp [itemsT] at h
  | k :: ks, x :: ds, 0, d, h => by
    simp only [itemsT, List.getElem?_cons_zero, Option.some.injEq] at h
    exact ⟨k, x, rfl, rfl, h.symm⟩
  | k :: ks, x :: ds, i + 1, d, h => by
    simp only [itemsT, List.getElem?_cons_succ] at h
    obtain ⟨a, b, h1, h2, h3⟩ := itemsT_get h
    exact ⟨a, b, by simpa using h1, by simpa using h2, h3⟩
theorem itemsT_len : ∀ {ks ds : List D}, ks.length = ds.length → (itemsT ks ds).length = ks.length
  | [], _, _ => by simp [itemsT]
  | _ :: _, [], h => by simp at h
  | _ :: ks, _ :: ds, h => by simp only [itemsT, List.length_cons]; rw [itemsT_len (by simpa using h)]
theorem vals_len : ∀ {vs : List V} {us : List Value}, Vals vs us → vs.length = us.length
  | _, _, .nil => rfl
  | _, _, .cons _ h => by rw [List.length_cons, List.length_cons, vals_len h]
theorem it_itemsT {K : PySem.W.Frag} {mg : Mg} {F : Hp} {a : Addr} {od : Obj} {xs : NKX} {ks ds : List D} {vs : List V} (h : F a = some (.frz od (DNO mg a xs))) (rk : RepL K mg F ks (xs.map fun x => V.ref x.2.1)) (hv : Vals vs (xs.map (·.2.2))) (rl : RepL K mg F ds vs) : ItOk K mg F (Itn mg a od xs vs) (itemsT ks ds) := fun i F1 H1 s1 s2 => by
  have hq : H1 a = some (.frz od (DNO mg a xs)) := s2 _ _ (s1 _ _ h)
  have l1 : ks.length = xs.length := by have := rk.len; rw [List.length_map] at this; exact this.symm
  have l2 : ds.length = xs.length := by have := rl.len; have := vals_len hv; rw [List.length_map] at this; omega
  refine ⟨fun d hd => ?_, fun e => ⟨hq, ?_⟩⟩
  · obtain ⟨k, x, h1, h2, rfl⟩ := itemsT_get hd
    obtain ⟨v, hvv, pv⟩ := rl.get h2
    obtain ⟨kv, hkv, pk⟩ := rk.get h1
    rw [List.getElem?_map] at hkv
    cases z : xs[i]? with
    | none => rw [z] at hkv; cases hkv
    | some y =>
      rw [z] at hkv
      obtain rfl : V.ref y.2.1 = kv := Option.some.inj hkv
      refine ⟨⟨hq, (List.getElem?_eq_some_iff.mp z).1⟩, fun u H2 w => ?_⟩
      obtain ⟨T, y', v', e, e2, rfl, hT, rfl⟩ := w
      rw [z] at e
      cases e
      rw [hvv] at e2
      cases e2
      refine ⟨_, .new s2 hT, ?_⟩
      simp only [Rep]
      have g := Grow.new (o := .tup [V.ref y.2.1, v]) s2 hT
      exact ⟨T, [V.ref y.2.1, v], rfl, SqT.of upd_same, .cons ((pk.mono s1).mono g.sub) (.one ((pv.mono s1).mono g.sub))⟩
  · rw [itemsT_len (l1.trans l2.symm), l1] at e
    omega
def mIItemsT (m : ME) : MI := fun ρ => match m ρ with
  | some (.dct ks ds, ρ') => some (itemsT ks ds, ρ')
  | _ => none
section
variable {X : Cx} {e : Expr} {apos cpos : Pos}
theorem si_itemsT {elts : List Expr} {kk : Nat} {tpos : Pos} {m : ME} (h : SE X e m) (hbase : attributeBase e "items" X.env (eval e X.env) = eval e X.env := by rfl) (hline : (apos.endLine == cpos.line) = true := by rfl) :
    SI X (.Tuple elts kk tpos) (.Call (.Attribute e "items" apos) [] [] cpos) (mIItemsT m) := pi_mk fun σ H Q ⟨io, F, ρ, ds, ρ', r, hm, q⟩ => by
  refine ⟨_, pi_itemsN (m := X.mgx) h hbase hline, ?_⟩
  unfold mIItemsT at hm
  split at hm <;> cases hm
  rename_i ks ds h1
  refine ⟨io, F, ρ, _, _, r, h1, fun v F1 H1 x1 r1 p1 => ?_⟩
  simp only [Rep] at p1
  obtain ⟨a, od, xs, as, vs, rfl, ha, hb, n, nd, rfl, rk, rv, rl⟩ := p1
  exact ⟨a, od, xs, vs, rfl, hb, r1.sub _ _ ha, rv, q _ F1 H1 x1 r1 (it_itemsT ha rk rv rl)⟩
end
/-! ### {k: v} in a slot, the key a tuple -/
section
variable {X : Cx}
def tTDisp1 (K : PySem.W.Frag) (mg : Mg) (tk tv : TE) : TE := fun σ H Q => ∀ p, H p = none → (p == sysModules) = false → tk σ (upd H p (DNO mg p [])) fun x H1 => tv σ H1 fun v H2 => ∃ b kk, x = .ref b ∧ LookT K mg H2 b p kk [] ∧ H2 p = some (DNO mg p []) ∧ ∀ u, RelV v u → Q (.ref p) (upd H2 p (DNO mg p [(kk, b, u)]))
theorem pe_tdisp1 {k v : Expr} {pos : Pos} {tk tv : TE} (hu : X.A.units + 64 < cLine) (hk : PE X k tk) (hv : PE X v tv) : PE X (.Dict [some k] [v] pos) (tTDisp1 X.K X.mgx tk tv) := ⟨fun pins s σ H Q I h => by
  have hn := I.hok.fresh (Nat.le_refl s.heap.objs.size)
  have hb : (s.heap.objs.size == sysModules) = false := beq_eq_false_iff_ne.mpr (Ne.symm (Nat.ne_of_lt I.big))
  have I1 := I.laid (a := s.heap.objs.size) (o := DNO X.mgx s.heap.objs.size []) (h' := s.heap.push { cls := .type "dict", data := .dict #[] }) (t' := s.toks) (fun _ _ q => Heap.get?_push_of_some _ q) (Nat.le_refl _) (dno_ok (m := X.mgx) (.new s.heap))
  refine wpAny_Dict_any rfl rfl (by simp) (show 1 ≤ 15 by omega) (pairTrees_cons_walk (thn (hk.run pins _ σ _ _ I1 (h _ hn hb)) fun u s1 ⟨x, H1, I1', rx, q1⟩ => thn (hv.run pins s1 σ H1 _ I1' q1) fun w s2 ⟨y, H2, I2, ry, b, kk, e1, l, hh, q⟩ => pairTrees_nil_walk ?_))
  subst e1
  cases rx
  obtain ⟨hkk, dd⟩ := l.at I2
  refine wpAny_storeAllH (knd := nestedKind X.prog X.w) (show X.A.units + 8 < cLine by omega) [(.ref b, w)] [(kk, b, w)] [] s2 _ ⟨rfl, rfl, hkk, True.intro⟩ dd (by rw [sizeLine_eq]; show 0 + 1 ≤ 16777216; omega) fun h' tk dd' hs => ?_
  have he : ∃ q, h'.get? s.heap.objs.size = some q := let ⟨o, _, _, e, _⟩ := dd'; ⟨o, e⟩
  exact ⟨.ref s.heap.objs.size, _, d_write I2 (by rw [hh]; exact True.intro) hs he (dno_ok (m := X.mgx) dd'), rfl, q w ry⟩⟩
def mDctOne (i : Nat) (mk mv : ME) : MS := fun ρ => match mk ρ with
  | some (y, ρ1) => match mv ρ1 with
    | some (d, ρ2) => match keyT y, ρ2[i]? with
      | some _, some s => if notIo s then some (.nx, ρ2.set i (.own (.dct [y] [d]))) else none
      | _, _ => none
    | none => none
  | none => none
theorem ss_dctOne (i : Nat) {x : Str} {k v : Expr} {pos dpos pos' : Pos} {mk mv : ME} (hu : X.A.units + 64 < cLine) (hN : X.N.Nodup) (hk : SE X k mk) (hv : SE X v mv) (hi : X.N[i]? = some x := by rfl) (hx : Loc X.env.scope x := by first | exact Or.inl rfl | exact Or.inr rfl) (hf : X.fn x = true ∨ X.env.scope.names.lookup x = some .local := by first | exact .inl rfl | exact .inr rfl)
    (hs : swapsWith (.Dict [some k] [v] dpos) (some (.Name x pos')) pos.line X.env = pure false := by rfl) : SS X (.Assign [.Name x pos'] (.Dict [some k] [v] dpos) pos) (mDctOne i mk mv) := ps_mk fun D σ H ⟨io, F, ρ, fl, ρ', r, hm, q⟩ => by
  refine ⟨_, L2.ps_set hN hi hx (pe_tdisp1 hu hk hv) hs hf, ?_⟩
  unfold mDctOne at hm
  split at hm <;> try cases hm
  rename_i y ρ1 h1
  split at hm <;> try cases hm
  rename_i d ρ2 h2
  split at hm <;> try cases hm
  rename_i kk s h3 h4
  split at hm <;> cases hm
  rename_i h5
  refine fun p hp hb => ⟨io, F, ρ, y, ρ1, r.addH hp, h1, fun u F1 H1 x1 r1 p1 => ⟨io, F1, ρ1, d, ρ2, r1, h2, fun w F2 H2 x2 r2 p2 => ?_⟩⟩
  obtain ⟨b, rfl⟩ := rep_ref h3 p1
  obtain ⟨n1, n2, _⟩ := keyT_some h3
  have x12 := x1.trans x2
  obtain ⟨k1, k2⟩ := x12.keep p _ upd_same (r.notOwn hp)
  have no := ext_noOwn x12 upd_same (r.notOwn hp)
  have f2 : F2 p = none := k2.trans (r.freeF hp)
  refine ⟨b, kk, rfl, ⟨⟨F2, y, r2.sub, p1.mono x2.sub, n1, n2, fun z hz => by cases hz⟩, .inl k1, hb⟩, k1, fun u ru => ?_⟩
  have r3 := r2.poke (o := DNO X.mgx p [(kk, b, u)]) f2 no
  have ck : CellOk X.K X.mgx F2 (upd H2 p (DNO X.mgx p [(kk, b, u)])) p (.dct [y] [d]) :=
    ⟨[(kk, b, u)], [.ref b], [w], upd_same, hb, by simp only [nksOf, n1]; rfl, fun z hz => by rw [List.mem_singleton.mp hz]; exact n2, rfl, .one (p1.mono x2.sub), .cons ru .nil, .one p2⟩
  obtain ⟨r4, o4⟩ := r3.setC h4 (notIo_ne h5) f2 no ck
  have xx := (ext_add (F := F) (σ := σ) (ρ := ρ) (o := DNO X.mgx p []) hp).trans x12
  refine q _ _ _ ⟨xx.sub, fun a o ha na => ?_, fun a w => ?_, fun a ha => ?_⟩ r4
  · have np : a ≠ p := ne_of_none ha hp
    obtain ⟨g1, g2⟩ := xx.keep a o ha na
    exact ⟨by rw [upd_ne np]; exact g1, g2⟩
  · rcases o4 a w with w | rfl
    · exact xx.own a w
    · exact .inr hp
  · by_cases z : a = p
    · subst z; exact hp
    · rw [upd_ne z] at ha; exact xx.stay a ha
end
/-! ### xs[::-1] -/
theorem RepL.app1 {K : PySem.W.Frag} {mg : Mg} {F : Hp} : ∀ {ds : List D} {vs : List V} {d : D} {v : V}, RepL K mg F ds vs → Rep K mg F d v → RepL K mg F (ds ++ [d]) (vs ++ [v])
  | [], _, d, v, h, p => by simp only [RepL] at h; subst h; exact .one p
  | e :: ds, _, d, v, h, p => by
    simp only [RepL] at h
    obtain ⟨w, r, rfl, q, h'⟩ := h
    exact RepL.cons q (RepL.app1 h' p)
theorem RepL.rev {K : PySem.W.Frag} {mg : Mg} {F : Hp} : ∀ {ds : List D} {vs : List V}, RepL K mg F ds vs → RepL K mg F ds.reverse vs.reverse
  | [], _, h => by simp only [RepL] at h; subst h; simp only [List.reverse_nil, RepL]
  | d :: ds, _, h => by
    simp only [RepL] at h
    obtain ⟨v, r, rfl, q, h'⟩ := h
    rw [List.reverse_cons, List.reverse_cons]
    exact RepL.app1 (RepL.rev h') q
def mRevL (m : MO) : ME := fun ρ => match m ρ with
  | some (o, ρ') => match res ρ' o with
    | some (.lst xs) => some (.lst xs.reverse, ρ')
    | _ => none
  | none => none
section
variable {X : Cx} {e : Expr} {pos : Pos}
theorem se_revL {k : Nat} {p1 p2 p3 : Pos} {m : MO} (h : SO X e m) : SE X (.Subscript e (.Slice none none (some (.UnaryOp .USub (.Constant (.int 1) k p1) p2)) p3) pos) (mRevL m) := Z.pe_mk fun σ H Q ⟨io, F, ρ, d, ρ', r, hm, q⟩ => by
  unfold mRevL at hm
  split at hm <;> try cases hm
  rename_i o ρ1 h1
  split at hm <;> cases hm
  rename_i xs hx
  refine ⟨_, pe_revL h, io, F, ρ, o, _, r, h1, fun v F1 H1 x1 r1 p1 => ?_⟩
  obtain ⟨a, vs, rfl, hl, rl⟩ := (r1.res p1 hx).lst r1.sub
  have post : Post X.K X.mgx F1 H1 Q (.lst xs.reverse) := fun u F2 H2 gr rp => q u F2 H2 (x1.trans gr.ext) (r1.grow gr) rp
  exact ⟨a, vs, rfl, SqL.of hl, post.newL r1.sub rl.rev⟩
end
end Z
/-! xs[1::2] of lists; t[::-1] of tuples. -/
namespace Z
open PySem PySem.Spec PyProof.Rows L2
def odds {α : Type} (xs : List α) : List α := evens (xs.drop 1)
theorem odds_map {α β : Type} (f : α → β) (xs : List α) : odds (xs.map f) = (odds xs).map f := by
  unfold odds
  rw [← List.map_drop, evens_map]
theorem odds_len {α : Type} (xs : List α) : (odds xs).length ≤ xs.length := by
  have := evens_len (xs.drop 1)
  rw [List.length_drop] at this
  unfold odds
  omega
theorem pick_odd (its : Array Value) : slicePick its (some 1) none (some 2) = (odds its.toList).toArray := by
  unfold slicePick
  congr 1
  have h : sliceRange (sliceBounds (some 1) none (some 2) its.size).1 (sliceBounds (some 1) none (some 2) its.size).2.1 (sliceBounds (some 1) none (some 2) its.size).2.2 = ((List.range (((its.toList.drop 1).length + 1) / 2)).map (2 * ·)).map (1 + ·) := by
    by_cases z : its.size = 0
    · rw [List.length_drop, Array.length_toList, z]
      decide
    · have hb : sliceBounds (some 1) none (some 2) its.size = (1, (its.size : Int), 2) := by
        unfold sliceBounds
        simp
        omega
      rw [hb]
      show sliceRange 1 (its.size : Int) 2 = _
      unfold sliceRange
      rw [if_pos (by decide), List.length_drop, Array.length_toList]
      have e1 : (if (1 : Int) < (its.size : Int) then ((its.size : Int) - 1 + 2 - 1) / 2 else 0).toNat = (its.size - 1 + 1) / 2 := by
        by_cases y : its.size = 1
        · rw [y]; decide
        · rw [if_pos (by omega)]; omega
      dsimp only
      rw [e1, List.map_map]
      refine List.map_congr_left fun k _ => ?_
      simp only [Function.comp]
      omega
  have hf : (fun i : Nat => its[i]?) = fun i : Nat => its.toList[i]? := funext fun i => (Array.getElem?_toList).symm
  unfold odds
  rw [h, ← evens_pick, hf, List.filterMap_map]
  congr 1
  funext i
  simp only [Function.comp, List.getElem?_drop]
theorem Vals.drop1 : ∀ {xs : List V} {us : List Value}, Vals xs us → Vals (xs.drop 1) (us.drop 1)
  | [], _, r => by cases r; exact .nil
  | x :: r, _, q => by
    cases q with
    | cons h t => exact t
theorem Vals.odds {xs : List V} {us : List Value} (h : Vals xs us) : Vals (Z.odds xs) (Z.odds us) := Vals.evens (Vals.drop1 h)
theorem RepL.odds {K : PySem.W.Frag} {mg : Mg} {F : Hp} {ds : List D} {vs : List V} (h : RepL K mg F ds vs) : RepL K mg F (Z.odds ds) (Z.odds vs) := by
  refine RepL.evens ?_
  cases ds with
  | nil => simp only [RepL] at h; subst h; simp only [List.drop_nil, RepL]
  | cons d ds =>
    simp only [RepL] at h
    obtain ⟨v, r, rfl, q, h'⟩ := h
    exact h'
section
variable {X : Cx} {e : Expr} {pos : Pos}
def tOd (K : PySem.W.Frag) (te : TE) : TE := fun σ H Q => te σ H fun x H1 => ∃ a xs, x = .ref a ∧ SqL K H1 a xs ∧ ∀ p, H1 p = none → Q (.ref p) (upd H1 p (.lst (odds xs)))
theorem pe_od {te : TE} {k k0 : Nat} {p0 p1 p3 : Pos} (he : PE X e te) : PE X (.Subscript e (.Slice (some (.Constant (.int 1) k0 p0)) none (some (.Constant (.int 2) k p1)) p3) pos) (tOd X.K te) := ⟨fun pins s σ H Q I h => by
  refine Subscript_ (thn (he.run pins s σ H _ I h) fun v s1 ⟨x, H1, I1, rx, a, xs, ex, hx, q⟩ => ?_)
  subst ex
  cases rx
  have hlo : PO X (some (.Constant (.int 1) k0 p0)) (tPart (tC (.int 1))) := po_some pe_int
  have hst : PO X (some (.Constant (.int 2) k p1)) (tPart (tC (.int 2))) := po_some pe_int
  refine wpAny_Slice (thn (hlo.run pins s1 σ H1 (fun o H2 => o = some 1 ∧ H2 = H1) I1 ⟨1, rfl, rfl, rfl⟩) fun vl s2 ⟨l, H2, I2, pl, el, e2⟩ => ?_)
  subst el e2
  refine thn (po_none.run pins s2 σ H2 (fun o H3 => o = none ∧ H3 = H2) I2 ⟨rfl, rfl⟩) fun vu s3 ⟨u, H3, I3, pu, eu, e3⟩ => ?_
  subst eu e3
  refine thn (hst.run pins s3 σ H3 (fun o H4 => o = some 2 ∧ H4 = H3) I3 ⟨2, rfl, rfl, rfl⟩) fun vs s4 ⟨o, H4, I4, ps, eo, e4⟩ => ?_
  subst eo e4
  have I5 : Inv X pins σ H4 { s4 with heap := s4.heap.push { cls := .type "slice", data := .fields #[vl, vu, vs] } } := I4.kept (t' := s4.toks) fun b ob q => Heap.get?_push_of_some _ q
  obtain ⟨its, r, ht, hz⟩ := I5.list hx
  have hlen := r.length
  show wpAny (model X.prog X.w) X.A (subscriptTail e (.Slice (some (.Constant (.int 1) k0 p0)) none (some (.Constant (.int 2) k p1)) p3) (.ref a) (.ref s4.heap.objs.size)) (EP X pins σ Q) X.xe { s4 with heap := s4.heap.push { cls := .type "slice", data := .fields #[vl, vu, vs] } }
  refine tail_any (ops := [.ref a, .ref s4.heap.objs.size]) ht.isList.typeIs (PySem.slot_list_getitem.lookup) ?_ (by with_unfolding_all rfl)
  refine wpAny_getItem_list_slice ht.isList (Heap.IsSliceOf.new _ vl vu vs) pl pu ps (by decide) ?_ (by rw [List.size_toArray]; omega)
  rw [pick_odd]
  refine ⟨.ref _, _, I5.laid (t' := s4.toks) (o := .lst (odds xs)) (fun b ob q => Heap.get?_push_of_some _ q) (Nat.le_refl _) ?_, rfl, q _ (I5.hok.fresh (Nat.le_refl _))⟩
  exact ⟨Nat.le_trans (odds_len xs) hz, _, 0, Vals.odds r, Heap.get?_push_size _ rfl⟩⟩
def mOdds (m : MO) : ME := fun ρ => match m ρ with
  | some (o, ρ') => match res ρ' o with
    | some (.lst xs) => some (.lst (odds xs), ρ')
    | _ => none
  | none => none
theorem se_odds {k k0 : Nat} {p0 p1 p3 : Pos} {m : MO} (h : SO X e m) : SE X (.Subscript e (.Slice (some (.Constant (.int 1) k0 p0)) none (some (.Constant (.int 2) k p1)) p3) pos) (mOdds m) := Z.pe_mk fun σ H Q ⟨io, F, ρ, d, ρ', r, hm, q⟩ => by
  unfold mOdds at hm
  split at hm <;> try cases hm
  rename_i o ρ1 h1
  split at hm <;> cases hm
  rename_i xs hx
  refine ⟨_, pe_od h, io, F, ρ, o, _, r, h1, fun v F1 H1 x1 r1 p1 => ?_⟩
  obtain ⟨a, vs, rfl, hl, rl⟩ := (r1.res p1 hx).lst r1.sub
  have post : Post X.K X.mgx F1 H1 Q (.lst (odds xs)) := fun u F2 H2 gr rp => q u F2 H2 (x1.trans gr.ext) (r1.grow gr) rp
  exact ⟨a, vs, rfl, SqL.of hl, post.newL r1.sub rl.odds⟩
end

/-! ### t[::-1] -/
section
variable {prog : Program} {w : World} {A : Around} {E : Value → Shared → Prop} {s : Shared}
theorem adjust_rev (n : Nat) : Builtin.Slice.sliceAdjust none none (-1) (n : Int) = ((n : Int) - 1, -1) := by
  unfold Builtin.Slice.sliceAdjust
  simp
theorem places_rev (n : Nat) : Builtin.Slice.slicePlaces ((n : Int) - 1) (-1) (-1) = n := by
  unfold Builtin.Slice.slicePlaces
  have h1 : ¬ ((-1 : Int) > 0) := by omega
  simp only [h1, if_false]
  by_cases z : n = 0
  · subst z; decide
  · simp
    omega
theorem pick_rev (xs : Array Value) : ((List.range xs.size).filterMap fun (m : Nat) => xs[(((xs.size : Int) - 1) + (m : Int) * (-1)).toNat]?).toArray = xs.toList.reverse.toArray := by
  congr 1
  have e : (fun (m : Nat) => xs[(((xs.size : Int) - 1) + (m : Int) * (-1)).toNat]?) = (fun i : Nat => xs[i]?) ∘ fun m => xs.size - 1 - m := by
    funext m
    simp only [Function.comp]
    have : (((xs.size : Int) - 1) + (m : Int) * (-1)).toNat = xs.size - 1 - m := by omega
    rw [this]
  rw [e, ← List.filterMap_map, PySem.W.krv_range, List.filterMap_reverse, PySem.W.krv_all]
theorem sliceApplied_rev {sl : Addr} {vs : Value} {n : Nat} {Q : Int × Int × Nat → Shared → Prop} (hs : s.heap.IsSliceOf sl .none .none vs) (ps : IsPart vs (some (-1)))
    (h : Q ((n : Int) - 1, -1, n) s) : wpAny (model prog w) A (Builtin.Slice.sliceApplied (.ref sl) (pure (n : Int))) Q E s := by
  obtain ⟨os, hos, hcs, hds⟩ := id hs
  unfold Builtin.Slice.sliceApplied Builtin.Slice.sliceFields
  refine wpAny_bind (wpAny_bind (wpAny_field hos hds (x := .none) rfl (wpAny_bind (wpAny_field hos hds (x := .none) rfl (wpAny_bind (wpAny_field hos hds (x := vs) rfl (wpAny_pure ?_)))))))
  refine wpAny_bind (HT.slicePart_ ps ?_)
  show wpAny _ _ (if ((-1 : Int) == 0) = true then _ else _) _ _ s
  rw [if_neg (by decide)]
  refine wpAny_bind (HT.slicePart_ .none (wpAny_bind (HT.slicePart_ .none (wpAny_bind (wpAny_pure ?_)))))
  show wpAny _ _ (match Builtin.Slice.sliceAdjust none none (-1) (n : Int) with | (lo, hi) => pure (lo, (-1 : Int), Builtin.Slice.slicePlaces lo hi (-1))) _ _ s
  rw [adjust_rev n]
  show wpAny _ _ (pure ((n : Int) - 1, (-1 : Int), Builtin.Slice.slicePlaces ((n : Int) - 1) (-1) (-1))) _ _ s
  rw [places_rev]
  exact wpAny_pure h
theorem getItem_tuple_rev {t sl : Addr} {items : Array Value} {vs : Value} {Q : Value → Shared → Prop} (ht : IsTup s.heap t items) (hs : s.heap.IsSliceOf sl .none .none vs) (ps : IsPart vs (some (-1)))
    (h : Q (.ref s.heap.objs.size) { s with heap := s.heap.push { cls := .type "tuple", data := .seq items.toList.reverse.toArray } })
    (hsz : items.size ≤ sizeLine) : wpAny (model prog w) A (getItem (.ref t) (.ref sl)) Q E s := by
  have htake : sizeOk (.seq items.toList.reverse.toArray) := by
    show items.toList.reverse.toArray.size ≤ sizeLine
    rw [List.size_toArray, List.length_reverse, Array.length_toList]
    omega
  obtain ⟨os, hos, hcs, hds⟩ := id hs
  have hTs : s.TypeIs (.ref sl) "slice" := ⟨os, hos, hcs⟩
  unfold getItem
  try with_reducible refine wpAny_holding ?_
  first | refine wpAny_bind (wpAny_pure ?_) | skip
  refine wpAny_bind (wpAny_sequenceKey ht.typeIs (by decide) ?_)
  refine wpAny_bind (wpAny_callSpecial?_slot (name := Str.ofString "__getitem__") ht.typeIs PyProof.Rows.slot_tuple_getitem
    (wpAny_call_entry PyProof.Rows.slot_tuple_getitem ht.typeIs entry_tuple_getitem ?_ (args_tuple_getitem _ _)))
  show wpAny _ _ (Builtin.Tuple.tupleItemsOf (.ref t) >>= _) _ _ s
  refine wpAny_bind (tupleItemsOf_ ht ?_)
  refine wpAny_bind (wpAny_typeOf hTs ?_)
  rw [if_pos (by decide)]
  refine wpAny_bind (sliceApplied_rev hs ps ?_)
  have hno : ¬ ((((items.size : Int) - 1) == 0 && (-1 : Int) == 1 && items.size == items.size) = true) := by
    intro q
    rw [Bool.and_eq_true, Bool.and_eq_true] at q
    exact absurd q.1.2 (by decide)
  show wpAny _ _ (if (((items.size : Int) - 1) == 0 && (-1 : Int) == 1 && items.size == items.size) = true then _ else _) _ _ s
  rw [if_neg hno, pick_rev]
  first
    | exact wpAny_bind (m := Builtin.Tuple.tupleExact _) (wpAny_newObj_type (wpAny_pure ⟨_, rfl, wpAny_pure h⟩) htake)
    | exact wpAny_bind (m := Builtin.Tuple.tupleExact _) (wpAny_newObj_type (wpAny_bind (wpAny_pure (wpAny_pure ⟨_, rfl, wpAny_pure h⟩))) htake)
    | exact wpAny_bind (wpAny_bind (m := Builtin.Tuple.tupleExact _) (wpAny_newObj_type (wpAny_pure (wpAny_pure ⟨_, rfl, wpAny_pure h⟩)) htake))
    | exact wpAny_bind (wpAny_bind (m := Builtin.Tuple.tupleExact _) (wpAny_newObj_type (wpAny_pure ⟨_, rfl, wpAny_pure h⟩) htake))
end
section
variable {X : Cx} {e : Expr} {pos : Pos}
def tRevT (K : PySem.W.Frag) (te : TE) : TE := fun σ H Q => te σ H fun x H1 => ∃ a xs, x = .ref a ∧ SqT K H1 a xs ∧ NewT H1 xs.reverse Q
theorem pe_revT {te : TE} {k : Nat} {p1 p2 p3 : Pos} (he : PE X e te) : PE X (.Subscript e (.Slice none none (some (.UnaryOp .USub (.Constant (.int 1) k p1) p2)) p3) pos) (tRevT X.K te) := by
  refine ⟨fun pins s σ H Q I h => ?_⟩
  refine Subscript_ (thn (he.run pins s σ H _ I h) fun v s1 ⟨x, H1, I1, r1, q1⟩ => ?_)
  obtain ⟨a, xs, ex, hx, q⟩ := q1
  subst ex
  cases r1
  have hst : PO X (some (.UnaryOp .USub (.Constant (.int 1) k p1) p2)) (tPart (tUn (rU fun i => .int (-i)) (tC (.int 1)))) := po_some (pe_un un_neg pe_int)
  refine wpAny_Slice (thn (po_none.run pins s1 σ H1 (fun o H2 => o = none ∧ H2 = H1 ) I1 ⟨rfl, rfl⟩) fun vl s2 ⟨l, H2, I2, pl, el, e2⟩ => ?_)
  subst el e2
  refine thn (po_none.run pins s2 σ H2 (fun o H3 => o = none ∧ H3 = H2) I2 ⟨rfl, rfl⟩) fun vu s3 ⟨u, H3, I3, pu, eu, e3⟩ => ?_
  subst eu e3
  refine thn (hst.run pins s3 σ H3 (fun o H4 => o = some (-1) ∧ H4 = H3) I3 ⟨1, rfl, -1, rfl, rfl, rfl⟩) fun vs s4 ⟨o, H4, I4, ps, eo, e4⟩ => ?_
  subst eo e4
  cases pl
  cases pu
  have I5 : Inv X pins σ H4 { s4 with heap := s4.heap.push { cls := .type "slice", data := .fields #[.none, .none, vs] } } := I4.kept (t' := s4.toks) fun b ob q => Heap.get?_push_of_some _ q
  obtain ⟨its, r, ht, hz⟩ := I5.tuple hx
  have hlen := r.length
  show wpAny (model X.prog X.w) X.A (subscriptTail e (.Slice none none (some (.UnaryOp .USub (.Constant (.int 1) k p1) p2)) p3) (.ref a) (.ref s4.heap.objs.size)) (EP X pins σ Q) X.xe { s4 with heap := s4.heap.push { cls := .type "slice", data := .fields #[.none, .none, vs] } }
  refine tail_any (ops := [.ref a, .ref s4.heap.objs.size]) ht.typeIs (PyProof.Rows.slot_tuple_getitem.lookup) ?_ (by with_unfolding_all rfl)
  refine getItem_tuple_rev ht (Heap.IsSliceOf.new _ .none .none vs) ps ?_ (by rw [List.size_toArray]; omega)
  exact tnew (t' := s4.toks) I5 r.reverse (by rw [List.length_reverse]; exact hz) q
def mRevT (m : MO) : ME := fun ρ => match m ρ with
  | some (o, ρ') => match res ρ' o with
    | some (.tup xs) => some (.tup xs.reverse, ρ')
    | _ => none
  | none => none
theorem se_revT {k : Nat} {p1 p2 p3 : Pos} {m : MO} (h : SO X e m) : SE X (.Subscript e (.Slice none none (some (.UnaryOp .USub (.Constant (.int 1) k p1) p2)) p3) pos) (mRevT m) := Z.pe_mk fun σ H Q ⟨io, F, ρ, d, ρ', r, hm, q⟩ => by
  unfold mRevT at hm
  split at hm <;> try cases hm
  rename_i o ρ1 h1
  split at hm <;> cases hm
  rename_i xs hx
  refine ⟨_, pe_revT h, io, F, ρ, o, _, r, h1, fun v F1 H1 x1 r1 p1 => ?_⟩
  obtain ⟨a, vs, rfl, hl, rl⟩ := (r1.res p1 hx).tupX
  have post : Post X.K X.mgx F1 H1 Q (.tup xs.reverse) := fun u F2 H2 gr rp => q u F2 H2 (x1.trans gr.ext) (r1.grow gr) rp
  exact ⟨a, vs, rfl, Same.tup r1.sub hl.t, post.newT r1.sub rl.rev⟩
end
end Z
/-! A dict display in a slot; d[k] as a target; sorted(d) of texts. -/
namespace Z
open PySem PySem.Spec PyProof.Rows L2
section
variable {X : Cx}
def mDicSet (i : Nat) (ks : List Key) (ms : List ME) : MS := fun ρ => match mAllE ms ρ with
  | some (ds, ρ2) => match ρ2[i]? with
    | some s => if notIo s then some (.nx, ρ2.set i (.own (.dic ks ds))) else none
    | none => none
  | none => none
theorem ss_dicSet (i : Nat) {x : Str} {keys : List (Option Expr)} {values : List Expr} {ks : List Key} {ms : List ME} {trs : List (TE × TE)} {pos dpos pos' : Pos} (hN : X.N.Nodup) (h : SPr X dpos keys values ks ms trs) (hall : keys.all (·.isSome) = true := by rfl) (hl : keys.length = values.length := by rfl)
    (hne : keys ≠ [] := by simp) (hfew : keys.length ≤ 15 := by decide) (hnd : ks.Nodup := by decide) (hi : X.N[i]? = some x := by rfl) (hx : Loc X.env.scope x := by first | exact Or.inl rfl | exact Or.inr rfl) (hf : X.fn x = true ∨ X.env.scope.names.lookup x = some .local := by first | exact .inl rfl | exact .inr rfl)
    (hs : swapsWith (.Dict keys values dpos) (some (.Name x pos')) pos.line X.env = pure false := by rfl) : SS X (.Assign [.Name x pos'] (.Dict keys values dpos) pos) (mDicSet i ks ms) := ps_mk fun D σ H ⟨io, F, ρ, fl, ρ', r, hm, q⟩ => by
  refine ⟨_, L2.ps_set hN hi hx (pe_disp h.pps hall hl hne hfew) hs hf, ?_⟩
  unfold mDicSet at hm
  split at hm <;> try cases hm
  rename_i ds ρ2 h1
  split at hm <;> try cases hm
  rename_i s h4
  split at hm <;> cases hm
  rename_i h5
  refine fun p hp => h.read io F _ σ ρ ds _ _ (r.addH hp) h1 fun vs F2 H2 x12 r2 rl hlen => ?_
  obtain ⟨k1, k2⟩ := x12.keep p _ upd_same (r.notOwn hp)
  have no := ext_noOwn x12 upd_same (r.notOwn hp)
  have f2 : F2 p = none := k2.trans (r.freeF hp)
  have hmg : mergeK [] (ks.zip vs) = ks.zip vs := by
    rw [merge_nd _ [] (by rw [List.nil_append, zip_fst _ _ hlen.symm]; exact hnd), List.nil_append]
  refine ⟨k1, ks.zip vs, zip_kv ks vs, by rw [List.length_zip, hlen, ← h.len]; omega, ?_⟩
  rw [hmg]
  have r3 := r2.poke (o := .dK (ks.zip vs)) f2 no
  have ck : CellOk X.K X.mgx F2 (upd H2 p (.dK (ks.zip vs))) p (.dic ks ds) := ⟨ks.zip vs, upd_same, zip_fst _ _ hlen.symm, by rw [zip_snd _ _ hlen.symm]; exact rl⟩
  obtain ⟨r4, o4⟩ := r3.setC h4 (notIo_ne h5) f2 no ck
  have xx := (ext_add (F := F) (σ := σ) (ρ := ρ) (o := .dK []) hp).trans x12
  refine q _ _ _ ⟨xx.sub, fun a o ha na => ?_, fun a w => ?_, fun a ha => ?_⟩ r4
  · have np : a ≠ p := ne_of_none ha hp
    obtain ⟨g1, g2⟩ := xx.keep a o ha na
    exact ⟨by rw [upd_ne np]; exact g1, g2⟩
  · rcases o4 a w with w | rfl
    · exact xx.own a w
    · exact .inr hp
  · by_cases z : a = p
    · subst z; exact hp
    · rw [upd_ne z] at ha; exact xx.stay a ha
/-! ### d[k] as a target -/
def tDSet : TSet := fun o i v H Q => ∃ a H4, o = .ref a ∧ DPut H a i v H4 ∧ Q H4
theorem pset_dput (hu : X.A.units + 1 < cLine) : PSet X tDSet := by
  intro pins s σ H o i v ov iv u Q I ro ri rv h
  obtain ⟨a, H4, rfl, g, q⟩ := h
  obtain rfl : ov = Value.ref a := ro
  exact d_setItem hu I g ri rv fun s4 I4 => ⟨H4, I4, q⟩
def gDP (i : Nat) (mk : ME) : MG := fun d ρ1 => match ownD ρ1 i with
  | some _ => match mk ρ1 with
    | some (y, ρ2) => match ownD ρ2 i, keyD y with
      | some (ks, ds), some k => if ks.length < LIM then some (putC ρ2 i (.dic (putKs ks k) (putDs ks ds k d))) else none
      | _, _ => none
    | none => none
  | none => none
theorem sg_dput {sl : List Nat} (i : Nat) {x : Str} {k : Expr} {p pos' : Pos} {mk : ME} (hu : X.A.units + 64 < cLine) (hk : SE X k mk) (hN : X.N[i]? = some x := by rfl) (hv : Vis X.env.scope x := by first | exact Or.inl rfl | exact Or.inr (Or.inl rfl) | exact Or.inr (Or.inr rfl)) (hd : (x == ("__debug__" : Str)) = false := by decide) (hcd : (x == ("__classdict__" : Str)) = false := by decide)
    (ha : ∀ v, assign (.Subscript (.Name x p) k pos') X.env v = (do
      let ov ← holding [v] (eval (.Name x p) X.env)
      let iv ← holding [v, ov] (eval k X.env)
      standAt pos'
      holding [v, ov, iv] (setItem ov iv v)
      release [v, ov, iv] []) := by intro _; rfl) : SG X sl (.Subscript (.Name x p) k pos') (gDP i mk) := pg_mk fun v σ H Q ⟨io, F, ρ, d, ρ', r, p1, hm, q⟩ => by
  refine ⟨_, pg_sub (pe_var hN hv hd hcd) hk (pset_dput (by omega)) ha, ?_⟩
  unfold gDP at hm
  split at hm <;> try cases hm
  rename_i p0 h0
  split at hm <;> try cases hm
  rename_i y ρ2 h2
  split at hm <;> try cases hm
  rename_i ks ds kk h3 h4
  split at hm <;> cases hm
  rename_i hl
  obtain ⟨a, _, ea, _⟩ := r.ownD (ks := p0.1) (ds := p0.2) h0
  refine ⟨_, ea, io, F, ρ, y, ρ2, r, h2, fun w F2 H2 x2 r2 p2 => ?_⟩
  have hw := keyD_v p2 h4
  subst hw
  obtain ⟨a', kvs, ea', hv, n, rl, go⟩ := r2.ownD h3
  rw [ea] at ea'; cases ea'
  obtain ⟨g1, g2⟩ := put_at (k := kk) (p1.mono x2.sub) n rl
  obtain ⟨r3, x3⟩ := go (putK kvs kk v) _ _ g1 g2
  have hlen : kvs.length < sizeLine := by
    have : kvs.length = ks.length := by rw [← n, List.length_map]
    rw [this]; exact Nat.lt_of_lt_of_le hl lim_line
  exact ⟨a, _, rfl, DPut.k hv hlen, q _ _ _ (x2.trans x3) r3 .refl⟩
/-! ### sorted(d), the keys texts -/
def strsK : List Key → Option (List Str)
  | [] => some []
  | .inr x :: ks => match strsK ks with
    | some xs => some (x :: xs)
    | none => none
  | _ :: _ => none
theorem strsK_map : ∀ {ks : List Key} {xs : List Str}, strsK ks = some xs → ks = xs.map Sum.inr
  | [], _, h => by simp only [strsK] at h; cases h; rfl
  | k :: ks, _, h => by
    cases k <;> simp only [strsK] at h <;> try cases h
    split at h <;> cases h
    rename_i xs hx
    rw [List.map_cons, strsK_map hx]
def mSortK (mo : MO) : ME := fun ρ => match mo ρ with
  | some (o, ρ') => match resD ρ' o with
    | some (ks, _) => match strsK ks with
      | some xs => if xs.length < 64 then some (.lst ((sortS xs).map .str), ρ') else none
      | none => none
    | none => none
  | none => none
theorem se_sortK {e : Expr} {mo : MO} {p pos : Pos} (h : SO X e mo) (hm : X.mg "sorted" = none) (hc : X.calm = true := by rfl) (hg : Gl X "sorted" := by rfl)
    (he : starEach [e] X.env = (false, eval e X.env) :: starEach [] X.env := by rfl) (hpl : (backTo pos (starEach [] X.env)).any (·.1) = false := by rfl) : SE X (.Call (.Name "sorted" p) [e] [] pos) (mSortK mo) := Z.pe_mk fun σ H Q ⟨io, F, ρ, d, ρ', r, hm', q⟩ => by
  refine ⟨_, pe_callB (call_sortedD hc) hg hm (by decide +kernel) (pa_cons h pa_nil he) (by decide) (by decide) he hpl, ?_⟩
  unfold mSortK at hm'
  split at hm' <;> try cases hm'
  rename_i o ρ1 h1
  split at hm' <;> try cases hm'
  rename_i ks ds h2
  split at hm' <;> try cases hm'
  rename_i xs h3
  split at hm' <;> cases hm'
  rename_i h4
  refine ⟨io, F, ρ, o, _, r, h1, fun v F1 H1 x1 r1 p1 => ?_⟩
  obtain ⟨a, kvs, rfl, ha, n, rl⟩ := r1.resD p1 h2
  have post : Post X.K X.mgx F1 H1 Q (.lst ((sortS xs).map .str)) := fun u F2 H2 gr rp => q u F2 H2 (x1.trans gr.ext) (r1.grow gr) rp
  refine ⟨a, kvs, xs, rfl, ha, by rw [n]; exact strsK_map h3, h4, fun ys p hp hs hn => ?_⟩
  rw [sort_one hp hs]
  exact post.newL r1.sub (rep_strs _) p hn
end
end Z
/-! Sets of whole numbers and texts in slots: made, asked, added to. -/
namespace Z
open PySem PySem.Spec PyProof.Rows L2

def mNewISet (i : Nat) : MS := fun ρ => match ρ[i]? with
  | some s => if notIo s then some (.nx, ρ.set i (.own (.ist []))) else none
  | none => none
def ownI (ρ : Rho) (i : Nat) : Option (List Key) := match ρ[i]? with
  | some (.own (.ist ks)) => some ks
  | some (.io (.ist ks)) => some ks
  | _ => none
def mIIn (neg : Bool) (mk : ME) (i : Nat) : ME := fun ρ => match mk ρ with
  | some (y, ρ1) => match ownI ρ1 i, keyD y with
    | some ks, some k => some (.bl (xor neg (inK ks k)), ρ1)
    | _, _ => none
  | none => none
def addI (ks : List Key) (k : Key) : List Key := if inK ks k = true then ks else ks ++ [k]
theorem inK_add (ks : List Key) (k j : Key) : inK (addI ks k) j = (inK ks j || decide (j = k)) := by
  unfold addI
  by_cases h : inK ks k = true
  · rw [if_pos h]
    by_cases e : j = k
    · subst e; rw [h]; simp
    · rw [decide_eq_false e, Bool.or_false]
  · rw [if_neg h]
    unfold inK
    rw [List.any_append]
    congr 1
    simp only [List.any_cons, List.any_nil, Bool.or_false]
    rw [Bool.eq_iff_iff, decide_eq_true_eq, decide_eq_true_eq]
    exact eq_comm
theorem addI_len (ks : List Key) (k : Key) : (addI ks k).length = if inK ks k = true then ks.length else ks.length + 1 := by
  unfold addI
  split <;> simp
def mIAdd (i : Nat) (mk : ME) : MS := fun ρ => match ownI ρ i with
  | some _ => match mk ρ with
    | some (y, ρ1) => match ownI ρ1 i, keyD y with
      | some ks, some k => if ks.length < 300 then some (.nx, putC ρ1 i (.ist (addI ks k))) else none
      | _, _ => none
    | none => none
  | none => none
section
variable {K : PySem.W.Frag} {mg : Mg} {io : List (Nat × Addr)} {F H : Hp} {σ : St} {ρ : Rho}
theorem R.ownI {i : Nat} {ks : List Key} (r : R K mg io F H σ ρ) (h : Z.ownI ρ i = some ks) : ∃ a n, σ[i]? = some (some (.ref a)) ∧ H a = some (SetK mg.P mg.w a (fun k => inK ks k) n) ∧ n ≤ ks.length ∧
    ∀ (S : Key → Bool) {n' : Nat} ks', (∀ k, S k = inK ks' k) → n' ≤ ks'.length → R K mg io F (upd H a (SetK mg.P mg.w a S n')) σ (putC ρ i (.ist ks')) ∧ Ext F H σ ρ F (upd H a (SetK mg.P mg.w a S n')) σ (putC ρ i (.ist ks')) := by
  obtain ⟨s, hs, hc⟩ : ∃ s, ρ[i]? = some s ∧ s.cell? = some (.ist ks) := by
    unfold Z.ownI at h
    split at h <;> cases h
    · rename_i hs; exact ⟨_, hs, rfl⟩
    · rename_i hs; exact ⟨_, hs, rfl⟩
  have hci : cellAt ρ i = some (.ist ks) := by unfold cellAt; rw [hs]; exact hc
  obtain ⟨a, e, f, n, hv, k1⟩ := r.cel i _ hci
  refine ⟨a, n, e, hv, k1, fun S n' ks' hk hn => ?_⟩
  have e2 : putC ρ i (.ist ks') = ρ.set i (s.put (.ist ks')) := by unfold putC; rw [hs]
  rw [e2]
  have hS : S = fun k => inK ks' k := funext hk
  subst hS
  exact r.wr hs hc e ⟨n', upd_same, hn⟩
end
section
variable {X : Cx} {e i' : Expr} {es : List Expr} {pos : Pos}
theorem ss_newISet (i : Nat) {x : Str} {p cpos pos' : Pos} (hN : X.N.Nodup) (hm : X.mg "set" = none) (hl : Gl X "set" := by rfl) (hi : X.N[i]? = some x := by rfl) (hx : Loc X.env.scope x := by first | exact Or.inl rfl | exact Or.inr rfl) (hf : X.fn x = true ∨ X.env.scope.names.lookup x = some .local := by first | exact .inl rfl | exact .inr rfl)
    (hv : bootBuiltins "set" = some (.type "set") := by decide +kernel) (hs : swapsWith (.Call (.Name "set" p) [] [] cpos) (some (.Name x pos')) pos.line X.env = pure false := by rfl) : SS X (.Assign [.Name x pos'] (.Call (.Name "set" p) [] [] cpos) pos) (mNewISet i) := ps_mk fun D σ H ⟨io, F, ρ, fl, ρ', r, hm', q⟩ => by
  refine ⟨_, L2.ps_set hN hi hx (pe_callTy0 cr_set0K hl hm hv) hs hf, ?_⟩
  unfold mNewISet at hm'
  split at hm' <;> try cases hm'
  rename_i s h1
  split at hm' <;> cases hm'
  rename_i h2
  refine ⟨rfl, fun p hp => ?_⟩
  obtain ⟨r2, x2⟩ := r.newC (o := SetK X.prog X.w p (fun _ => false) 0) (c := .ist []) h1 h2 hp ⟨0, upd_same, Nat.le_refl _⟩
  exact q _ _ _ x2 r2
theorem se_iin {mk : ME} (i : Nat) {x : Str} {p : Pos} (hi' : SE X i' mk) (hN : X.N[i]? = some x := by rfl) (hv : Vis X.env.scope x := by first | exact Or.inl rfl | exact Or.inr (Or.inl rfl) | exact Or.inr (Or.inr rfl)) (hd : (x == ("__debug__" : Str)) = false := by decide)
    (hcd : (x == ("__classdict__" : Str)) = false := by decide) (hb : behindInMarks .In (.Name x p) = false := by first | exact nomark _ | rfl) : SE X (.Compare i' [.In] [.Name x p] pos) (mIIn false mk i) := Z.pe_mk fun σ H Q ⟨io, F, ρ, d, ρ', r, hm, q⟩ => by
  refine ⟨_, pe_cmpR or_sinK hi' (pe_var hN hv hd hcd) hb, ?_⟩
  unfold mIIn at hm
  split at hm <;> try cases hm
  rename_i y ρ1 e1
  split at hm <;> cases hm
  rename_i ks k e3 e2
  refine ⟨io, F, ρ, _, _, r, e1, fun v F1 H1 x1 r1 p1 => ?_⟩
  obtain ⟨a, n, ea, hL, c, _⟩ := r1.ownI e2
  have hu' := keyD_v p1 e3
  subst hu'
  exact ⟨_, ea, k, a, _, n, rfl, rfl, hL, q _ F1 H1 x1 r1 (by simp only [Rep, Bool.false_xor, Bool.true_xor]; rfl)⟩
theorem se_inin {mk : ME} (i : Nat) {x : Str} {p : Pos} (hi' : SE X i' mk) (hN : X.N[i]? = some x := by rfl) (hv : Vis X.env.scope x := by first | exact Or.inl rfl | exact Or.inr (Or.inl rfl) | exact Or.inr (Or.inr rfl)) (hd : (x == ("__debug__" : Str)) = false := by decide)
    (hcd : (x == ("__classdict__" : Str)) = false := by decide) (hb : behindInMarks .NotIn (.Name x p) = false := by first | exact nomark _ | rfl) : SE X (.Compare i' [.NotIn] [.Name x p] pos) (mIIn true mk i) := Z.pe_mk fun σ H Q ⟨io, F, ρ, d, ρ', r, hm, q⟩ => by
  refine ⟨_, pe_cmpR or_snotinK hi' (pe_var hN hv hd hcd) hb, ?_⟩
  unfold mIIn at hm
  split at hm <;> try cases hm
  rename_i y ρ1 e1
  split at hm <;> cases hm
  rename_i ks k e3 e2
  refine ⟨io, F, ρ, _, _, r, e1, fun v F1 H1 x1 r1 p1 => ?_⟩
  obtain ⟨a, n, ea, hL, c, _⟩ := r1.ownI e2
  have hu' := keyD_v p1 e3
  subst hu'
  exact ⟨_, ea, k, a, _, n, rfl, rfl, hL, q _ F1 H1 x1 r1 (by simp only [Rep, Bool.false_xor, Bool.true_xor]; rfl)⟩
theorem st_iin {mk : ME} (i : Nat) {x : Str} {p : Pos} (hi' : SE X i' mk) (hN : X.N[i]? = some x := by rfl) (hv : Vis X.env.scope x := by first | exact Or.inl rfl | exact Or.inr (Or.inl rfl) | exact Or.inr (Or.inr rfl)) (hd : (x == ("__debug__" : Str)) = false := by decide)
    (hcd : (x == ("__classdict__" : Str)) = false := by decide) (hb : behindInMarks .In (.Name x p) = false := by first | exact nomark _ | rfl) : ST X (.Compare i' [.In] [.Name x p] pos) (mTB (mIIn false mk i)) := pt_mk fun σ H Q ⟨io, F, ρ, d, ρ', r, hm', q⟩ => by
  refine ⟨_, pt_cmpR or_sinK hi' (pe_var hN hv hd hcd) hb, ?_⟩
  unfold mTB at hm'
  split at hm' <;> cases hm'
  rename_i hm
  unfold mIIn at hm
  split at hm <;> try cases hm
  rename_i y ρ1 e1
  split at hm <;> cases hm
  rename_i ks k e3 e2
  refine ⟨io, F, ρ, _, _, r, e1, fun v F1 H1 x1 r1 p1 => ?_⟩
  obtain ⟨a, n, ea, hL, c, _⟩ := r1.ownI e2
  have hu' := keyD_v p1 e3
  subst hu'
  refine ⟨_, ea, k, a, _, n, rfl, rfl, hL, _, rfl, ?_⟩
  have q := q F1 H1 x1 r1
  simp only [Bool.false_xor, Bool.true_xor] at q
  exact q
theorem st_inin {mk : ME} (i : Nat) {x : Str} {p : Pos} (hi' : SE X i' mk) (hN : X.N[i]? = some x := by rfl) (hv : Vis X.env.scope x := by first | exact Or.inl rfl | exact Or.inr (Or.inl rfl) | exact Or.inr (Or.inr rfl)) (hd : (x == ("__debug__" : Str)) = false := by decide)
    (hcd : (x == ("__classdict__" : Str)) = false := by decide) (hb : behindInMarks .NotIn (.Name x p) = false := by first | exact nomark _ | rfl) : ST X (.Compare i' [.NotIn] [.Name x p] pos) (mTB (mIIn true mk i)) := pt_mk fun σ H Q ⟨io, F, ρ, d, ρ', r, hm', q⟩ => by
  refine ⟨_, pt_cmpR or_snotinK hi' (pe_var hN hv hd hcd) hb, ?_⟩
  unfold mTB at hm'
  split at hm' <;> cases hm'
  rename_i hm
  unfold mIIn at hm
  split at hm <;> try cases hm
  rename_i y ρ1 e1
  split at hm <;> cases hm
  rename_i ks k e3 e2
  refine ⟨io, F, ρ, _, _, r, e1, fun v F1 H1 x1 r1 p1 => ?_⟩
  obtain ⟨a, n, ea, hL, c, _⟩ := r1.ownI e2
  have hu' := keyD_v p1 e3
  subst hu'
  refine ⟨_, ea, k, a, _, n, rfl, rfl, hL, _, rfl, ?_⟩
  have q := q F1 H1 x1 r1
  simp only [Bool.false_xor, Bool.true_xor] at q
  exact q
theorem ss_iadd (i : Nat) {x : Str} {p apos cpos : Pos} {mk : ME} (h : SE X e mk) (hN : X.N[i]? = some x := by rfl) (hv : Vis X.env.scope x := by first | exact Or.inl rfl | exact Or.inr (Or.inl rfl) | exact Or.inr (Or.inr rfl)) (hd : (x == ("__debug__" : Str)) = false := by decide) (hcd : (x == ("__classdict__" : Str)) = false := by decide)
    (hs : swapsWith (.Call (.Attribute (.Name x p) "add" apos) [e] [] cpos) none pos.line X.env = pure false := by rfl)
    (hbase : attributeBase (.Name x p) "add" X.env (eval (.Name x p) X.env) = eval (.Name x p) X.env := by rfl)
    (hfew : ((backTo cpos (starEach [e] X.env)).all (fun x => !x.1) && (backToKw cpos (keywordEach [] X.env)).all (fun x => x.1.isSome)
      && decide (([e] : List Expr).length + ([] : List Keyword).length + (if ([] : List Keyword).isEmpty then 0 else 1) < 30)) = true := by rfl)
    (hline : (apos.endLine == cpos.line) = true := by rfl) (hs1 : starEach [e] X.env = (false, eval e X.env) :: starEach [] X.env := by rfl) (hplain : (backTo cpos (starEach [] X.env)).any (·.1) = false := by rfl) :
    SS X (.Expr (.Call (.Attribute (.Name x p) "add" apos) [e] [] cpos) pos) (mIAdd i mk) := ps_mk fun D σ H ⟨io, F, ρ, fl, ρ', r, hm, q⟩ => by
  refine ⟨_, L2.ps_expr (pe_saddK (pe_var hN hv hd hcd) (pa_cons h pa_nil hs1) hbase hfew hline hs1 hplain) hs, ?_⟩
  unfold mIAdd at hm
  split at hm <;> try cases hm
  rename_i ks0 h0
  split at hm <;> try cases hm
  rename_i y ρ1 h1
  split at hm <;> try cases hm
  rename_i ks k h2 h3
  split at hm <;> cases hm
  rename_i h4
  obtain ⟨a, n0, e0, hL0, _, _⟩ := r.ownI h0
  refine ⟨_, e0, ⟨a, _, n0, rfl, hL0⟩, io, F, ρ, _, ρ1, r, h1, fun v F1 H1 x1 r1 p1 => ?_⟩
  obtain ⟨a', n, e1, hL, hn, go⟩ := r1.ownI h2
  rw [e0] at e1; cases e1
  have hu' := keyD_v p1 h3
  subst hu'
  refine ⟨a, k, _, n, rfl, rfl, hL, by unfold scanBound; omega, ?_⟩
  obtain ⟨r2, x2⟩ := go (n' := if inK ks k = true then n else n + 1) _ (addI ks k) (fun j => (inK_add ks k j).symm) (by rw [addI_len]; by_cases c : inK ks k = true <;> simp only [c, if_true, if_false, Bool.false_eq_true] <;> omega)
  exact q _ _ _ (x1.trans x2) r2
end
end Z
/-! xs.pop(0) of a list of one's own; a, b, c = x, y, {}. -/
namespace Z
open PySem PySem.Spec PyProof.Rows L2
def mPop0 (i : Nat) : ME := fun ρ => match ownL ρ i with
  | some (d :: ds) => some (d, putL ρ i ds)
  | _ => none
section
variable {X : Cx} {pos : Pos}
theorem se_pop0 (i : Nat) {x : Str} {p apos kpos : Pos} {kj : Nat} (hN : X.N[i]? = some x := by rfl) (hv : Vis X.env.scope x := by first | exact Or.inl rfl | exact Or.inr (Or.inl rfl) | exact Or.inr (Or.inr rfl)) (hd : (x == ("__debug__" : Str)) = false := by decide) (hcd : (x == ("__classdict__" : Str)) = false := by decide)
    (hbase : attributeBase (.Name x p) "pop" X.env (eval (.Name x p) X.env) = eval (.Name x p) X.env := by rfl)
    (hfew : ((backTo pos (starEach [.Constant (.int 0) kj kpos] X.env)).all (fun x => !x.1) && (backToKw pos (keywordEach [] X.env)).all (fun x => x.1.isSome)
      && decide (([.Constant (.int 0) kj kpos] : List Expr).length + ([] : List Keyword).length + (if ([] : List Keyword).isEmpty then 0 else 1) < 30)) = true := by rfl)
    (hline : (apos.endLine == pos.line) = true := by rfl) (hs1 : starEach [.Constant (.int 0) kj kpos] X.env = (false, eval (.Constant (.int 0) kj kpos) X.env) :: starEach [] X.env := by rfl) (hplain : (backTo pos (starEach [] X.env)).any (·.1) = false := by rfl) :
    SE X (.Call (.Attribute (.Name x p) "pop" apos) [.Constant (.int 0) kj kpos] [] pos) (mPop0 i) := Z.pe_mk fun σ H Q ⟨io, F, ρ, d, ρ', r, hm, q⟩ => by
  refine ⟨_, pe_bm PySem.F.plainAttrs_list PySem.F.slot_list_pop PySem.F.type_list_pop mt_popAt (pe_var hN hv hd hcd) (pa_cons se_int pa_nil hs1) hbase hfew hline hs1 hplain, ?_⟩
  unfold mPop0 at hm
  split at hm <;> cases hm
  rename_i ds h0
  obtain ⟨a, vs, e0, hv0, rl, go⟩ := r.ownL h0
  have rl' := rl
  simp only [RepL] at rl'
  obtain ⟨v, t, rfl, pv, rt⟩ := rl'
  refine ⟨_, e0, .inl ⟨rfl, _, SqL.of hv0⟩, io, F, ρ, _, ρ, r, rfl, fun w F1 H1 x1 r1 p1 => ?_⟩
  obtain ⟨a', vs1, e1, hv1, rl1, go1⟩ := r1.ownL h0
  rw [e0] at e1; cases e1
  simp only [Rep] at p1
  subst p1
  have rl1' := rl1
  simp only [RepL] at rl1'
  obtain ⟨v1, t1, rfl, pv1, rt1⟩ := rl1'
  obtain ⟨r2, x2⟩ := go1 ds t1 rt1
  exact ⟨_, v1 :: t1, 0, 0, v1, rfl, rfl, hv1, by decide, by decide, by simp [seqIndex?], rfl, q _ _ _ (x1.trans x2) r2 pv1⟩
end
def mPar3VT (i j l : Nat) (m n : MV) : MS := fun ρ => match m ρ with
  | some (a, ρ1) => match n ρ1 with
    | some (b, ρ2) => match putV i a ρ2 with
      | some ρ3 => match putV j b ρ3 with
        | some ρ4 => match ρ4[l]? with
          | some s => if notIo s then some (.nx, ρ4.set l (.own (.dct [] []))) else none
          | none => none
        | none => none
      | none => none
    | none => none
  | none => none
section
variable {X : Cx} {a b : Expr} {pos : Pos}
theorem ss_par3VT (i j l : Nat) {x y z : Str} {px py pz pt pt2 dpos : Pos} {kt k2 : Nat} {m n : MV} (hN : X.N.Nodup) (ha : SV X a m) (hb : SV X b n) (hc : X.calm = true := by rfl) (hi : X.N[i]? = some x := by rfl) (hj : X.N[j]? = some y := by rfl) (hl : X.N[l]? = some z := by rfl) (hij : i ≠ j := by decide) (hil : i ≠ l := by decide) (hjl : j ≠ l := by decide)
    (hx : X.env.scope.names.lookup x = some .local := by rfl) (hy : X.env.scope.names.lookup y = some .local := by rfl) (hz : X.env.scope.names.lookup z = some .local := by rfl)
    (hs1 : starEach [a, b, .Dict [] [] dpos] X.env = (false, eval a X.env) :: starEach [b, .Dict [] [] dpos] X.env := by rfl) (hs2 : starEach [b, .Dict [] [] dpos] X.env = (false, eval b X.env) :: starEach [.Dict [] [] dpos] X.env := by rfl) (hs3 : starEach [.Dict [] [] dpos] X.env = (false, eval (.Dict [] [] dpos) X.env) :: starEach [] X.env := by rfl)
    (hw : swappedStores [.Tuple [.Name x px, .Name y py, .Name z pz] kt pt] (.Tuple [a, b, .Dict [] [] dpos] k2 pt2) X.env = pure (some [x, y, z]) := by rfl)
    (hs : swapsWithSole [.Tuple [.Name x px, .Name y py, .Name z pz] kt pt] (.Tuple [a, b, .Dict [] [] dpos] k2 pt2) pos.line X.env = pure false := by rfl) :
    SS X (.Assign [.Tuple [.Name x px, .Name y py, .Name z pz] kt pt] (.Tuple [a, b, .Dict [] [] dpos] k2 pt2) pos) (mPar3VT i j l m n) := ps_mk fun D σ H ⟨io, F, ρ, fl, ρ', r, hm, q⟩ => by
  refine ⟨_, L2.ps_par3 hc hN hi hj hl hij hil hjl hx hy hz (pa_cons ha (pa_cons hb (pa_cons pe_tnew pa_nil hs3) hs2) hs1) hw hs, ?_⟩
  unfold mPar3VT at hm
  split at hm <;> try cases hm
  rename_i na ρ1 h1
  split at hm <;> try cases hm
  rename_i nb ρ2 h2
  split at hm <;> try cases hm
  rename_i ρ3 h3
  split at hm <;> try cases hm
  rename_i ρ4 h4
  split at hm <;> try cases hm
  rename_i s h5
  split at hm <;> cases hm
  rename_i h6
  refine ⟨io, F, ρ, na, ρ1, r, h1, fun v F1 H1 x1 r1 p1 n1 => ⟨io, F1, ρ1, nb, ρ2, r1, h2, fun w F2 H2 x2 r2 p2 n2 => fun p hp hbig => ⟨v, w, .ref p, rfl, ?_⟩⟩⟩
  have xa : Ext F2 H2 σ ρ2 F2 (upd H2 p (DNO X.mgx p [])) σ ρ2 := ext_add hp
  have ra := r2.addH (o := DNO X.mgx p []) hp
  obtain ⟨r3, x3⟩ := R.putV ((x1.trans x2).trans xa) ra h3 ((p1.keep x2).keep xa) n1
  have n2' : NvNew H nb w := by
    cases nb with
    | val d => trivial
    | new ds => obtain ⟨p, e, h0⟩ := n2; exact ⟨p, e, x1.stay p h0⟩
  have no3 : ¬ OwnA (σ.set i (some v)) ρ3 p := by
    cases na with
    | val d =>
      obtain ⟨_, x3'⟩ := ra.putD h3 (Rep.mono x2.sub p1)
      exact ext_noOwn x3' upd_same (r2.notOwn hp)
    | new es =>
      obtain ⟨p', vs', rfl, hv', hf', hn', rl'⟩ := p1.keep x2
      obtain ⟨hv2, _⟩ := xa.keep _ _ hv' hn'
      obtain ⟨_, x3'⟩ := ra.putN h3 hv2 hf' hn' rl'
      intro w
      rcases x3' p w with w | rfl
      · exact r2.notOwn hp w
      · rw [hp] at hv'; cases hv'
  have p2' : NvOk X.K X.mgx F2 (upd H2 p (DNO X.mgx p [])) (σ.set i (some v)) ρ3 nb w := by
    have p2 := p2.keep xa
    cases nb with
    | val d => exact p2
    | new ds =>
      obtain ⟨p3, vs, rfl, hv, hf, hn, rl⟩ := p2
      refine ⟨p3, vs, rfl, hv, hf, fun w' => ?_, rl⟩
      cases na with
      | val d =>
        obtain ⟨_, x3'⟩ := ra.putD h3 (Rep.mono x2.sub p1)
        exact ext_noOwn x3' hv hn w'
      | new es =>
        obtain ⟨p', vs', rfl, hv', hf', hn', rl'⟩ := (p1.keep x2).keep xa
        obtain ⟨_, x3'⟩ := ra.putN h3 hv' hf' hn' rl'
        rcases x3' p3 w' with w' | rfl
        · exact hn w'
        · obtain ⟨p'', e, h0⟩ := n2
          cases e
          obtain ⟨_, vs1, e1, hv1, _⟩ := p1
          cases e1
          rw [h0] at hv1; cases hv1
  have h5o : ∀ {σ' : St}, True := fun {_} => trivial
  obtain ⟨r4, x4, no4⟩ : R X.K X.mgx io F2 (upd H2 p (DNO X.mgx p [])) ((σ.set i (some v)).set j (some w)) ρ4 ∧ Ext F H σ ρ F2 (upd H2 p (DNO X.mgx p [])) ((σ.set i (some v)).set j (some w)) ρ4 ∧ ¬ OwnA ((σ.set i (some v)).set j (some w)) ρ4 p := by
    cases nb with
    | val d =>
      obtain ⟨r4, x4⟩ := r3.putD h4 p2'
      exact ⟨r4, x3.trans x4, ext_noOwn x4 upd_same no3⟩
    | new ds =>
      have hne : ∃ o, H2 (match w with | .ref c => c | _ => 0) = some o := by
        obtain ⟨p3, vs, rfl, hv, _⟩ := p2
        exact ⟨_, hv⟩
      obtain ⟨a3, vs, rfl, hv, hf, hw3, rl⟩ := p2'
      obtain ⟨a', e, h0⟩ := n2'
      cases e
      obtain ⟨r4, x4⟩ := r3.putN h4 hv hf hw3 rl
      refine ⟨r4, ⟨x3.sub, x3.keep, fun b hb => ?_, x3.stay⟩, fun w' => ?_⟩
      · rcases x4 b hb with hb | rfl
        · exact x3.own b hb
        · exact .inr h0
      · rcases x4 p w' with w' | rfl
        · exact no3 w'
        · obtain ⟨o, ho⟩ := hne
          rw [hp] at ho; cases ho
  obtain ⟨r5, o5⟩ := r4.setC h5 (notIo_ne h6) (r2.freeF hp) no4 (dct_nil2 upd_same hbig)
  refine q _ F2 _ ⟨x4.sub, x4.keep, fun c hc => ?_, x4.stay⟩ r5
  rcases o5 c hc with hc | rfl
  · exact x4.own c hc
  · exact .inr (x1.stay _ (x2.stay _ hp))
end
end Z
namespace Z
open PySem PySem.Spec PyProof.Rows L2
/-! ### d[k] as a target, the key a tuple -/
def gTP (i : Nat) (mk : ME) : MG := fun d ρ1 => match ownT ρ1 i with
  | some _ => match mk ρ1 with
    | some (y, ρ2) => match ownT ρ2 i, keyT y with
      | some (ks, ds), some k => if ks.length < LIM then some (putC ρ2 i (.dct (putKt ks y k) (putDt ks ds k d))) else none
      | _, _ => none
    | none => none
  | none => none
section
variable {X : Cx}
theorem sg_tput {sl : List Nat} (i : Nat) {x : Str} {k : Expr} {p pos' : Pos} {mk : ME} (hu : X.A.units + 64 < cLine) (hk : SE X k mk) (hN : X.N[i]? = some x := by rfl) (hv : Vis X.env.scope x := by first | exact Or.inl rfl | exact Or.inr (Or.inl rfl) | exact Or.inr (Or.inr rfl)) (hd : (x == ("__debug__" : Str)) = false := by decide) (hcd : (x == ("__classdict__" : Str)) = false := by decide)
    (ha : ∀ v, assign (.Subscript (.Name x p) k pos') X.env v = (do
      let ov ← holding [v] (eval (.Name x p) X.env)
      let iv ← holding [v, ov] (eval k X.env)
      standAt pos'
      holding [v, ov, iv] (setItem ov iv v)
      release [v, ov, iv] []) := by intro _; rfl) : SG X sl (.Subscript (.Name x p) k pos') (gTP i mk) := pg_mk fun v σ H Q ⟨io, F, ρ, d, ρ', r, p1, hm, q⟩ => by
  refine ⟨_, pg_sub (pe_var hN hv hd hcd) hk (ps_tset hu) ha, ?_⟩
  unfold gTP at hm
  split at hm <;> try cases hm
  rename_i p0 h0
  split at hm <;> try cases hm
  rename_i y ρ2 h2
  split at hm <;> try cases hm
  rename_i ks ds kk h3 h4
  split at hm <;> cases hm
  rename_i hl
  obtain ⟨a, _, ea, _⟩ := r.ownT (ks := p0.1) (ds := p0.2) h0
  refine ⟨_, ea, io, F, ρ, y, ρ2, r, h2, fun w F2 H2 x2 r2 p2 => ?_⟩
  obtain ⟨b, rfl⟩ := rep_ref h4 p2
  obtain ⟨n1, n2, _⟩ := keyT_some h4
  obtain ⟨a', xs, ea', hv', hb, c, go⟩ := r2.ownT h3
  rw [ea] at ea'; cases ea'
  have hlen : xs.length < 100000 := by
    have := nks_len c.n
    rw [List.length_map] at this
    have : LIM = 65536 := rfl
    omega
  refine ⟨b, a, kk, xs, rfl, rfl, ⟨⟨F2, _, r2.sub, p2, n1, n2, c.keys⟩, .inl hv', hb⟩, hv', hlen, fun u ru => ?_⟩
  obtain ⟨r3, x3⟩ := go _ _ _ (c.put n1 n2 p2 (p1.mono x2.sub) ru)
  exact q _ _ _ (x2.trans x3) r3 .refl
end
end Z
namespace Z
open PySem PySem.Spec PyProof.Rows L2
/-! ### len(d), the keys tuples -/
section
variable {prog : Program} {w : World} {A : Around} {E : Value → Shared → Prop} {s : Shared} {es : Array DictEntry} {ep : Nat}
theorem len_body_raw {d : Addr} {Q : Value → Shared → Prop} (hd : (d == sysModules) = false) (hm : s.heap.DictRaw d es ep) (hfit : (es.size : Int) < 2 ^ 63)
    (h : Q (.int es.size (s.toks + 1)) { s with toks := s.toks + 1 + 1 }) : wpAny (model prog w) A (Builtin.«len» ⟨[.ref d], []⟩) (fun fin s' => ∃ r, fin = .done (.ret r) ∧ Q r s') E s := by
  unfold Builtin.«len»
  refine wpAny_bind (m := oneArg "len" _) (wpAny_pure ?_)
  refine wpAny_bind (m := callSpecial? (.ref d) (Str.ofString "__len__")) (wpAny_callSpecial?_slot (name := Str.ofString "__len__") hm.typeIs F.slot_dict_len
    (call_meetsIn F.slot_dict_len hm.typeIs F.entry_dict_len (F.args_dict_len_1 _) (meets_dict_len_raw d hd) ⟨es, ep, hm, ?_⟩))
  show wpAny _ _ _ _ _ { s with toks := s.toks + 1 }
  refine wpAny_bind (wpAny_holding (wpAny_pure ?_))
  refine wpAny_bind (wpAny_letGo ?_)
  show wpAny _ _ (if ((es.size : Nat) : Int) < 0 then _ else _) _ _ _
  rw [if_neg (by omega)]
  show wpAny _ _ (if ((es.size : Nat) : Int) ≥ 2 ^ 63 then _ else _) _ _ _
  rw [if_neg (by omega)]
  exact wpAny_bind (wpAny_mkInt (wpAny_pure ⟨_, rfl, h⟩))
theorem call_len_dictRaw {d : Addr} {Q : Value → Shared → Prop} (hd : (d == sysModules) = false) (hm : s.heap.DictRaw d es ep) (hfit : (es.size : Int) < 2 ^ 63)
    (h : Q (.int es.size (s.toks + 1)) { s with toks := s.toks + 1 + 1 }) : wpAny (model prog w) A (call (.builtin "len") [.ref d]) Q E s :=
  Calls.call_function_entry kind_len plain_len entry_len (args_len1 _) (len_body_raw hd hm hfit h)
end
section
variable {X : Cx}
def rLenT (K : PySem.W.Frag) (mg : Mg) : List V → Hp → VK → Prop := fun xs H Q => ∃ nd ys F, xs = [V.ref nd] ∧ Rd H nd (DNO mg nd ys) ∧ (nd == sysModules) = false ∧ Same F H ∧ KeysT K mg F ys ∧ ys.length < 100000 ∧ Q (.int ys.length) H
theorem cr_lenT : CallR X (.builtin "len") (rLenT X.K X.mgx) := by
  intro pins s σ H xs us Q I r h
  obtain ⟨nd, ys, F, rfl, e, hb, sF, ks, hl, q⟩ := h
  obtain ⟨u, rfl, ru⟩ := r.one
  cases ru
  have dd := dno_at I sF e ks
  obtain ⟨es, ep, hr, hs, _⟩ := dd.raw
  refine call_len_dictRaw hb hr (by omega) ?_
  exact ⟨.int ys.length, H, I.tok _, ⟨_, by rw [hs]⟩, q⟩
def mLenT (mo : MO) : ME := fun ρ => match mo ρ with
  | some (o, ρ1) => match resT ρ1 o with
    | some (ks, _) => if ks.length < LIM then some (.int ks.length, ρ1) else none
    | none => none
  | none => none
theorem se_lenT {e : Expr} {p pos : Pos} {mo : MO} (hl : Gl X "len") (hm0 : X.mg "len" = none) (hv : bootBuiltins "len" = some (.builtin "len")) (ho : SO X e mo) (hn : ("len" : Str) ≠ "__name__" := by decide) (hdb : (("len" : Str) == ("__debug__" : Str)) = false := by decide)
    (he : starEach [e] X.env = (false, eval e X.env) :: starEach [] X.env := by rfl) (hpl : (backTo pos (starEach [] X.env)).any (·.1) = false := by rfl) : SE X (.Call (.Name "len" p) [e] [] pos) (mLenT mo) := Z.pe_mk fun σ H Q ⟨io, F, ρ, d, ρ', r, hm, q⟩ => by
  refine ⟨_, pe_callB cr_lenT hl hm0 hv (pa_cons ho pa_nil he) hn hdb he hpl, ?_⟩
  unfold mLenT at hm
  split at hm <;> try cases hm
  rename_i o ρ1 h1
  split at hm <;> try cases hm
  rename_i ks ds h2
  split at hm <;> cases hm
  rename_i h3
  refine ⟨io, F, ρ, o, _, r, h1, fun v F1 H1 x1 r1 p1 => ?_⟩
  obtain ⟨a, xs, rfl, ha, hb, c⟩ := r1.resT p1 h2
  have hlen : xs.length = ks.length := by
    have := nks_len c.n
    rw [List.length_map] at this
    exact this
  have hL : LIM = 65536 := rfl
  refine ⟨a, xs, F1, rfl, ha, hb, r1.sub, c.keys, by omega, ?_⟩
  rw [hlen]
  exact q _ F1 H1 x1 r1 (by simp only [Rep])
end
end Z
/-! Exceptions: what raises, as data; try with one except clause that tells data by the class. -/
namespace Z
open PySem PySem.Spec PyProof.Rows L2
/-- where a block raises: the name of the class, the state there -/
abbrev MR := Rho → Option (Str × Rho)
section
variable (K : PySem.W.Frag) (mg : Mg) (W : WX)
def tX (m : MR) : TS := fun _ σ H => ∃ io F ρ C ρ', R K mg io F H σ ρ ∧ m ρ = some (C, ρ') ∧ ∀ σ' F' H' Ca, Ext F H σ ρ F' H' σ' ρ' → R K mg io F' H' σ' ρ' → mg C = some (.ref Ca) → W (.ref Ca) none σ' H'
def tXE (m : MR) : TE := fun σ H _ => ∃ io F ρ C ρ', R K mg io F H σ ρ ∧ m ρ = some (C, ρ') ∧ ∀ F' H' Ca, Ext F H σ ρ F' H' σ ρ' → R K mg io F' H' σ ρ' → mg C = some (.ref Ca) → W (.ref Ca) none σ H'
end
abbrev XrS (X : Cx) (W : WX) (st : Stmt) (m : MR) : Prop := PS X st (tX X.K X.mgx W m)
abbrev XrB (X : Cx) (W : WX) (sts : List Stmt) (m : MR) : Prop := PSs X sts (tX X.K X.mgx W m)
abbrev XrE (X : Cx) (W : WX) (e : Expr) (m : MR) : Prop := PE X e (tXE X.K X.mgx W m)
def rNev : MR := fun _ => none
def rSeq (r1 : MR) (m1 : MS) (r2 : MR) : MR := fun ρ => match r1 ρ with
  | some x => some x
  | none => match m1 ρ with
    | some (.nx, ρ1) => r2 ρ1
    | _ => none
def rIf (c : MT) (r1 r2 : MR) : MR := fun ρ => match c ρ with
  | some (true, ρ1) => r1 ρ1
  | some (false, ρ1) => r2 ρ1
  | none => none
def rRz (C : Str) (m : ME) : MR := fun ρ => match m ρ with
  | some (_, ρ1) => some (C, ρ1)
  | none => none
section
variable {X : Cx} {W : WX} {st : Stmt} {rest : List Stmt} {e a b : Expr} {pos : Pos}
theorem ps_nox {t : TS} (h : PS X.nox st t) : PS X st t := by
  constructor
  intro pins s0 σ H D I0 q0
  refine wpAny_mono (h.run pins s0 σ H D (I0.wish _) q0) ?_ ?_
  · intro f s1 q; exact q.unwish
  · intro e s1 z; exact z.elim
theorem xs_never : XrS X W st rNev := ps_mk fun D σ H ⟨io, F, ρ, C, ρ', r, hm, q⟩ => by cases hm
theorem xe_never : XrE X W e rNev := Z.pe_mk fun σ H Q ⟨io, F, ρ, C, ρ', r, hm, q⟩ => by cases hm
theorem xb_nil {sts : List Stmt} : XrB X W sts rNev := pss_mk fun D σ H ⟨io, F, ρ, C, ρ', r, hm, q⟩ => by cases hm
theorem xb_seq {r1 r2 : MR} {m1 : MS} (h1 : XrS X W st r1) (h1' : SS X.nox st m1) (h2 : XrB X W rest r2) : XrB X W (st :: rest) (rSeq r1 m1 r2) := pss_mk fun D σ H ⟨io, F, ρ, C, ρ', r, hm, q⟩ => by
  unfold rSeq at hm
  split at hm
  · rename_i x hx
    cases hm
    exact ⟨_, pss_cons h1 pss_never, io, F, ρ, C, ρ', r, hx, q⟩
  · split at hm <;> try cases hm
    rename_i ρ1 hx
    exact ⟨_, pss_cons (ps_nox h1') h2, io, F, ρ, _, _, r, hx, fun σ1 F1 H1 x1 r1 => ⟨io, F1, ρ1, C, ρ', r1, hm, fun σ2 F2 H2 Ca x2 r2 hC => q σ2 F2 H2 Ca (x1.trans x2) r2 hC⟩⟩
theorem xs_if {c : Expr} {s1 s2 : List Stmt} {mc : MT} {r1 r2 : MR} (hc : ST X.nox c mc) (ha : XrB X W s1 r1) (hb : XrB X W s2 r2) : XrS X W (.If c s1 s2 pos) (rIf mc r1 r2) := ps_mk fun D σ H ⟨io, F, ρ, C, ρ', r, hm, q⟩ => by
  refine ⟨_, ps_if hc.nox ha hb, ?_⟩
  unfold rIf at hm
  split at hm
  · rename_i ρ1 h1
    exact ⟨io, F, ρ, _, _, r, h1, fun F1 H1 x1 r1 => iteT ⟨io, F1, ρ1, C, ρ', r1, hm, fun σ2 F2 H2 Ca x2 r2 hC => q σ2 F2 H2 Ca (x1.trans x2) r2 hC⟩⟩
  · rename_i ρ1 h1
    exact ⟨io, F, ρ, _, _, r, h1, fun F1 H1 x1 r1 => iteF ⟨io, F1, ρ1, C, ρ', r1, hm, fun σ2 F2 H2 Ca x2 r2 hC => q σ2 F2 H2 Ca (x1.trans x2) r2 hC⟩⟩
  · cases hm
theorem xs_expr {r : MR} (h : XrE X W e r) (hs : swapsWith e none pos.line X.env = pure false := by rfl) : XrS X W (.Expr e pos) r := ps_mk fun D σ H ⟨io, F, ρ, C, ρ', r, hm, q⟩ =>
  ⟨_, ps_expr h hs, io, F, ρ, C, ρ', r, hm, fun F' H' Ca x r' hC => q σ F' H' Ca x r' hC⟩
theorem xs_ret {r : MR} (h : XrE X W e r) : XrS X W (.Return (some e) pos) r := ps_mk fun D σ H ⟨io, F, ρ, C, ρ', r, hm, q⟩ =>
  ⟨_, ps_ret h, io, F, ρ, C, ρ', r, hm, fun F' H' Ca x r' hC => q σ F' H' Ca x r' hC⟩
theorem xs_asg {sl : List Nat} {r : MR} {tg : Expr} {g : MG} (he : XrE X W e r) (hg : SG X sl tg g) (hs : swapsWithSole [tg] e pos.line X.env = pure false := by rfl) (hw : swappedStores [tg] e X.env = pure none := by rfl) (h1 : (assignEach [tg] X.env).map (·.2) = [assign tg X.env] := by rfl) :
    XrS X W (.Assign [tg] e pos) r := ps_mk fun D σ H ⟨io, F, ρ, C, ρ', r, hm, q⟩ =>
  ⟨_, L2.ps_asg he hg hs hw h1, io, F, ρ, C, ρ', r, hm, fun F' H' Ca x r' hC => q σ F' H' Ca x r' hC⟩
theorem xe_if {c : Expr} {mc : MT} {r1 r2 : MR} (hc : ST X.nox c mc) (ha : XrE X W a r1) (hb : XrE X W b r2) : XrE X W (.IfExp c a b pos) (rIf mc r1 r2) := Z.pe_mk fun σ H Q ⟨io, F, ρ, C, ρ', r, hm, q⟩ => by
  refine ⟨_, pe_ifExp hc.nox ha hb, ?_⟩
  unfold rIf at hm
  split at hm
  · rename_i ρ1 h1
    exact ⟨io, F, ρ, _, _, r, h1, fun F1 H1 x1 r1 => iteT ⟨io, F1, ρ1, C, ρ', r1, hm, fun F2 H2 Ca x2 r2 hC => q F2 H2 Ca (x1.trans x2) r2 hC⟩⟩
  · rename_i ρ1 h1
    exact ⟨io, F, ρ, _, _, r, h1, fun F1 H1 x1 r1 => iteF ⟨io, F1, ρ1, C, ρ', r1, hm, fun F2 H2 Ca x2 r2 hC => q F2 H2 Ca (x1.trans x2) r2 hC⟩⟩
  · cases hm
end

/-! ### raise X(e) -/
/-- an own class over ValueError, without own __init__ -/
structure KxC (K : PySem.W.Frag) (mg : Mg) (C : Str) : Prop where
  ex : ∃ Ca, mg C = some (.ref Ca) ∧ PySem.W.excIn K Ca [.type "ValueError", .type "Exception", .type "BaseException", .type "object"] "ValueError.__new__" = true ∧ PySem.W.keepIn K (.ref Ca) = true ∧ PySem.W.subIn K (.ref Ca) (.type "BaseException") = some true ∧ PySem.W.typeIn K (.ref Ca) = some (.type "type")
section
variable {X : Cx} {W : WX} {e : Expr} {p pos pos' : Pos} {x : Str}
theorem pmkN {Ca : Addr} {ta : TE} (gC : X.mg x = some (.ref Ca)) (xC : PySem.W.excIn X.K Ca [.type "ValueError", .type "Exception", .type "BaseException", .type "object"] "ValueError.__new__" = true) (kC : PySem.W.keepIn X.K (.ref Ca) = true) (rC : Raises X (.ref Ca))
    (he : PE X e ta) (hg : Gl X x) (hdb : (x == ("__debug__" : Str)) = false) (hs : starEach [e] X.env = (false, eval e X.env) :: starEach [] X.env) :
    L2N.PMk X (.Call (.Name x p) [e] [] pos) (fun σ H Q => ta σ H fun _ H1 => Q (.ref Ca) none H1) := by
  intro pins s0 σ H Q I0 q0
  refine wpAny_Call_Name_kw (ld_glob I0 hg gC ?_ hdb)
  refine PySem.W.callWith_K (h₀ := X.base) I0.ok.mod.kin kC ?_ hs (by rfl)
  rw [hs]
  show wpAny _ _ (spliced ((false, eval e X.env) :: backTo pos (starEach [] X.env))) _ _ s0
  refine Calls.spliced_cons (thn (he.run pins s0 σ H _ I0 q0) ?_)
  rintro u s1 ⟨v, H1, I1, r1, q1⟩
  refine Calls.spliced_nil ⟨I1.kIn, ?_⟩
  show wpAny _ _ (call (.ref Ca) [u]) _ _ _
  obtain ⟨bm, N, nm, qn, bs, hdct, sn, sub, ab, col, dd, k0, k1, k2, k3, k5, mN, hC, hN, hni, T⟩ := exc_obj I1.kIn xC
  exact wpAny_call_exc_subT PySem.F.excBase_ValueError T hC hN hni (fun h2 ea hm => L2N.mk_of I1 hm rC q1 (I1.hok.gone hm.new)) (by rw [sizeLine_eq]; show 1 ≤ _; omega)
theorem KxC.raises {C : Str} {Ca : Addr} (h2 : PySem.W.subIn X.K (.ref Ca) (.type "BaseException") = some true) (h3 : PySem.W.typeIn X.K (.ref Ca) = some (.type "type")) : Raises X (.ref Ca) := raises_own h2 h3
theorem xs_raise {m : ME} (k : KxC X.K X.mgx x) (tk : L2N.Takes X W) (he : SE X.nox e m) (hc : X.calm = true := by rfl) (hg : Gl X x := by rfl) (hdb : (x == ("__debug__" : Str)) = false := by decide) (hs : starEach [e] X.env = (false, eval e X.env) :: starEach [] X.env := by rfl) :
    XrS X W (.Raise (some (.Call (.Name x p) [e] [] pos)) none pos') (rRz x m) := ps_mk fun D σ H ⟨io, F, ρ, C, ρ', r, hm, q⟩ => by
  obtain ⟨Ca, g, xC, kC, h2, h3⟩ := k.ex
  refine ⟨_, L2N.ps_raise hc tk (pmkN g xC kC (raises_own h2 h3) he.nox hg hdb hs), ?_⟩
  unfold rRz at hm
  split at hm <;> cases hm
  rename_i d h1
  exact ⟨io, F, ρ, d, _, r, h1, fun v F' H' x' r' _ => q σ F' H' Ca x' r' g⟩
end

/-! ### f-strings with one whole number -/
/-- pre, the number, post -/
def mFmt (pre post : Str) (m : MO) : ME := fun ρ => match m ρ with
  | some (o, ρ1) => match res ρ1 o with
    | some (.int i) => if i.natAbs.log2 < 64 ∧ (Str.empty ++ pre ++ (toString i : Str) ++ post).length ≤ 10000 then some (.str (Str.empty ++ pre ++ (toString i : Str) ++ post), ρ1) else none
    | _ => none
  | none => none
section
variable {X : Cx} {e : Expr} {pos p1 p2 p3 : Pos} {j1 j2 : Nat} {pre post : Str}
theorem sizeL : (10000 : Nat) ≤ sizeLine := by rw [sizeLine_eq]; decide
theorem se_fmt {m : MO} (h : SO X e m) : SE X (.JoinedStr [.Constant (.str pre) j1 p1, .FormattedValue e (-1) none p2, .Constant (.str post) j2 p3] pos) (mFmt pre post m) := Z.pe_mk fun σ H Q ⟨io, F, ρ, d, ρ', r, hm, q⟩ => by
  refine ⟨_, pe_joined (.cons pe_str (.cons (pe_fmt h) (.cons pe_str .nil))), ?_⟩
  unfold mFmt at hm
  split at hm <;> try cases hm
  rename_i o ρ1 h1
  split at hm <;> try cases hm
  rename_i i hi
  split at hm <;> cases hm
  rename_i hl
  have l1 : (Str.empty ++ pre ++ (toString i : Str) ++ post).length = (Str.empty ++ pre).length + (toString i : Str).length + post.length := by
    rw [Str.length_append, Str.length_append]
  have sz := sizeL
  refine ⟨_, rfl, by omega, io, F, ρ, o, _, r, h1, fun v F1 H1 x1 r1 p1 => .inr ⟨i, (r1.res p1 hi).int, by omega, _, rfl, ?_, _, rfl, by omega, q _ F1 H1 x1 r1 (by simp only [Rep])⟩⟩
  rw [Str.length_append]
  omega
theorem se_fmtE {m : MO} (h : SO X e m) : SE X (.JoinedStr [.Constant (.str pre) j1 p1, .FormattedValue e (-1) none p2] pos) (mFmt pre Str.empty m) := Z.pe_mk fun σ H Q ⟨io, F, ρ, d, ρ', r, hm, q⟩ => by
  refine ⟨_, pe_joined (.cons pe_str (.cons (pe_fmt h) .nil)), ?_⟩
  unfold mFmt at hm
  split at hm <;> try cases hm
  rename_i o ρ1 h1
  split at hm <;> try cases hm
  rename_i i hi
  split at hm <;> cases hm
  rename_i hl
  have ee : Str.empty ++ pre ++ (toString i : Str) ++ Str.empty = Str.empty ++ pre ++ (toString i : Str) := Str.append_empty _
  rw [ee] at hl q
  have sz := sizeL
  have l1 : (Str.empty ++ pre ++ (toString i : Str)).length = (Str.empty ++ pre).length + (toString i : Str).length := Str.length_append _ _
  exact ⟨_, rfl, by omega, io, F, ρ, o, _, r, h1, fun v F1 H1 x1 r1 p1 => .inr ⟨i, (r1.res p1 hi).int, by omega, _, rfl, by omega, q _ F1 H1 x1 r1 (by simp only [Rep])⟩⟩
end
end Z
/-! Defs that may raise: their promise, their calls. No argument of such a call is changed. -/
namespace Z
open PySem PySem.Spec PyProof.Rows L2
/-- a def on data that raises: the arguments, the name of the class -/
abbrev Rf := List Sl → Option Str
def runR (np nl : Nat) (r : MR) : Rf := fun sl => if sl.length = np ∧ ioIx sl 0 = none then match r (sl ++ List.replicate nl .un) with
    | some (C, _) => some C
    | none => none
  else none
def spR (K : PySem.W.Frag) (mg : Mg) (r : Rf) : List V → Hp → XK → Prop := fun vs H E => ∃ F sl C, Same F H ∧ ArgsOk K mg F H sl vs ∧ ioL sl vs 0 = [] ∧ r sl = some C ∧
  ∀ F' H' Ca, Same F F' → Same F' H' → (∀ a o, H a = some o → H' a = some o ∧ F' a = F a) → mg C = some (.ref Ca) → E (.ref Ca) none H'
/-- it gives a value, or it raises -/
def spX (K : PySem.W.Frag) (mg : Mg) (g : Gf) (r : Rf) : Sp := fun vs H Q E => spD K mg g vs H Q E ∨ spR K mg r vs H E
section
variable {P : Program} {w : World} {K : PySem.W.Frag} {mg : Mg} {base : Heap}
theorem body_rr {N : List Str} {np : Nat} {r : MR} {vs : List V} {H : Hp} {E : XK} {D : Ends} (h : spR K mg (runR np (N.length - np) r) vs H E) : tX K mg (fun cls d _ H => E cls d H) r D (L2.start N vs) H := by
  obtain ⟨F, sl, C, hs, a, hl, hg, q⟩ := h
  unfold runR at hg
  split at hg <;> try cases hg
  rename_i hnp
  have hst : L2.start N vs = vs.map some ++ List.replicate (N.length - np) none := by
    unfold L2.start
    rw [a.len, hnp.1]
  have r0 := R.start (K := K) (mg := mg) (nl := N.length - np) hs a (by rw [hl]; exact Nat.zero_le _)
  rw [← hst] at r0
  split at hg <;> cases hg
  rename_i ρ' hm
  refine ⟨_, F, _, C, ρ', r0, hm, fun σ' F' H' Ca x r' hC => q F' H' Ca x.sub r'.sub (fun b o hb => x.keep b o hb fun ⟨i, c, hi, e⟩ => ?_) hC⟩
  -- no slot owns a thing at the start
  unfold cellAt at hi
  cases z : (sl ++ List.replicate (N.length - np) Sl.un)[i]? with
  | none => rw [z] at hi; cases hi
  | some s' =>
    rw [z] at hi
    by_cases hlt : i < sl.length
    · rw [List.getElem?_append_left hlt] at z
      rcases a.at (k := 0) z with ⟨y, v, rfl, _, _⟩ | ⟨c', a', rfl, h2, h3, h4, h5⟩
      · cases hi
      · rw [hl] at h5; cases h5
    · rw [List.getElem?_append_right (by omega), List.getElem?_replicate] at z
      split at z
      · cases z; cases hi
      · cases z
theorem runR_len {np nl : Nat} {r : MR} {vs : List V} {H : Hp} {E : XK} (h : spR K mg (runR np nl r) vs H E) : vs.length = np := by
  obtain ⟨F, sl, C, _, a, _, hg, _⟩ := h
  unfold runR at hg
  split at hg
  · rename_i e; rw [a.len, e.1]
  · cases hg
/-- THE RULE for a def that may raise -/
theorem fnX {mg : Str → Option Value} {x qual : Str} {st : Stmt} {f : Addr} {fd : FuncData} {N ps : List Str} {k : Nat} {m : MS} {r : MR} (Fn : Fun K x qual st f fd) (S : FnScope N ps (defScope st))
    (hbody : ∀ (cdv : Value) (A : Around) (outer : List Env) (s : Shared) (H : Hp) (E : XK), Room k (A.deeper (envOfC qual (defScope st) s.heap.objs.size f cdv)) →
      SB (cxOf (L2N.CX P w) P w K mg base N qual (defScope st) f cdv A outer s H E).nox (defBody st) m)
    (hrz : ∀ (cdv : Value) (A : Around) (outer : List Env) (s : Shared) (H : Hp) (E : XK), Room k (A.deeper (envOfC qual (defScope st) s.heap.objs.size f cdv)) →
      L2N.Takes (cxOf (L2N.CX P w) P w K mg base N qual (defScope st) f cdv A outer s H E) (fun cls d _ H => E cls d H) →
      XrB (cxOf (L2N.CX P w) P w K mg base N qual (defScope st) f cdv A outer s H E) (fun cls d _ H => E cls d H) (defBody st) r) :
    FnOk P w K mg base (L2N.CX P w) (k + 1) f fd ps (spX K ⟨mg, P, w⟩ (runD ps.length (N.length - ps.length) m) (runR ps.length (N.length - ps.length) r)) := by
  obtain ⟨oc, od, kV, doc, pm, an, cdv, ct, osl, rfl, lk, hcd⟩ := Fn.ex
  refine fn_of lk hcd S (fun vs H Q E h => h.elim (fun h => runD_len h) fun h => runR_len h) ?_
  intro A outer s H vs Q E hr h
  rcases h with h | h
  · exact ⟨_, (hbody cdv A outer s H E hr).nox, body_rd h⟩
  · exact ⟨_, hrz cdv A outer s H E hr (L2N.takes_of rfl rfl rfl rfl), body_rr h⟩
theorem fnXD {mg : Str → Option Value} {x qual : Str} {st : Stmt} {f : Addr} {fd : FuncData} {N ps : List Str} {k : Nat} {m : MS} {r : MR} {dvs : List V} {kws : List (Str × V)} (Fn : FunD K x qual (defArgs st) (defBody st) (defScope st) dvs kws f fd) (S : FnScope N ps (defScope st))
    (hbody : ∀ (cdv : Value) (A : Around) (outer : List Env) (s : Shared) (H : Hp) (E : XK), Room k (A.deeper (envOfC qual (defScope st) s.heap.objs.size f cdv)) →
      SB (cxOf (L2N.CX P w) P w K mg base N qual (defScope st) f cdv A outer s H E).nox (defBody st) m)
    (hrz : ∀ (cdv : Value) (A : Around) (outer : List Env) (s : Shared) (H : Hp) (E : XK), Room k (A.deeper (envOfC qual (defScope st) s.heap.objs.size f cdv)) →
      L2N.Takes (cxOf (L2N.CX P w) P w K mg base N qual (defScope st) f cdv A outer s H E) (fun cls d _ H => E cls d H) →
      XrB (cxOf (L2N.CX P w) P w K mg base N qual (defScope st) f cdv A outer s H E) (fun cls d _ H => E cls d H) (defBody st) r) :
    FnOk P w K mg base (L2N.CX P w) (k + 1) f fd ps (spX K ⟨mg, P, w⟩ (runD ps.length (N.length - ps.length) m) (runR ps.length (N.length - ps.length) r)) := by
  refine Fn.ok S (fun vs H Q E h => h.elim (fun h => runD_len h) fun h => runR_len h) ?_
  intro cdv A outer s H vs Q E hr h
  rcases h with h | h
  · exact ⟨_, (hbody cdv A outer s H E hr).nox, body_rd h⟩
  · exact ⟨_, hrz cdv A outer s H E hr (L2N.takes_of rfl rfl rfl rfl), body_rr h⟩
end
/-- a def that may raise, as its callers know it -/
structure KnX (P : Program) (w : World) (K : PySem.W.Frag) (mg : Str → Option Value) (base : Heap) (k : Nat) (x : Str) (g : Gf) (r : Rf) : Prop where
  ex : ∃ (f : Addr) (fd : FuncData) (ps : List Str), mg x = some (.ref f) ∧ PySem.W.keepIn K (.ref f) = true ∧ Binds K fd ps [] ∧ FnOk P w K mg base (L2N.CX P w) k f fd ps (spX K ⟨mg, P, w⟩ g r)
theorem KnX.mono {P : Program} {w : World} {K : PySem.W.Frag} {mg : Str → Option Value} {base : Heap} {j k : Nat} {x : Str} {g : Gf} {r : Rf} (c : KnX P w K mg base j x g r) (h : j ≤ k) : KnX P w K mg base k x g r :=
  let ⟨f, fd, ps, a, b, d, e⟩ := c.ex
  ⟨f, fd, ps, a, b, d, e.mono h⟩
/-- the call of such a def raises -/
def rCall (r : Rf) (m : MA) : MR := fun ρ => match m ρ with
  | some (os, ρ1) => match toSls ρ1 os with
    | some sls => match ownIx ρ1 os with
      | [] => match r sls with
        | some C => some (C, ρ1)
        | none => none
      | _ => none
    | none => none
  | none => none
section
variable {X : Cx} {W : WX} {e : Expr} {es : List Expr} {p pos : Pos} {x : Str} {k j : Nat} {g : Gf} {r : Rf} {m : MA}
theorem passF {X : Cx} (σ : St) : PassesAt (L2N.CX X.prog X.w) X σ ((fun _ _ _ _ => False : St → XK) σ) := fun pins H s u s1 I h => by
  obtain ⟨_, _, _, _, _, _, _, _, _, _, _, _, z⟩ := h
  exact z.elim
theorem se_callX (c : KnX X.prog X.w X.K X.mgx X.base k x g r) (hr : Room j X.A) (hk : k ≤ j) (ha : SA X (e :: es) m) (hg : Gl X x := by rfl) (hdb : (x == ("__debug__" : Str)) = false := by decide) (he : starEach (e :: es) X.env = (false, eval e X.env) :: starEach es X.env := by rfl) (hpl : (backTo pos (starEach es X.env)).any (·.1) = false := by rfl) :
    SE X (.Call (.Name x p) (e :: es) [] pos) (mCall g m) := Z.pe_mk fun σ H Q ⟨io, F, ρ, d, ρ', r0, hm, q⟩ => by
  obtain ⟨f, fd, ps, hmg, hkp, hb, F0⟩ := c.ex
  refine ⟨_, pe_callS F0 (hr.mono hk) hg hmg hkp hb (E := fun _ _ _ _ => False) passF ha hdb he hpl, ?_⟩
  obtain ⟨os, ρ1, h1⟩ : ∃ os ρ1, m ρ = some (os, ρ1) := by
    unfold mCall at hm
    split at hm
    · rename_i os ρ1 h1; exact ⟨os, ρ1, h1⟩
    · cases hm
  exact ⟨io, F, ρ, os, ρ1, r0, h1, fun vs F1 H1 x1 r1 p1 => .inl (call_post x1 r1 p1 h1 hm q _)⟩
theorem xe_call (c : KnX X.prog X.w X.K X.mgx X.base k x g r) (tk : L2N.Takes X W) (hr : Room j X.A) (hk : k ≤ j) (ha : SA X (e :: es) m) (hg : Gl X x := by rfl) (hdb : (x == ("__debug__" : Str)) = false := by decide) (he : starEach (e :: es) X.env = (false, eval e X.env) :: starEach es X.env := by rfl) (hpl : (backTo pos (starEach es X.env)).any (·.1) = false := by rfl) :
    XrE X W (.Call (.Name x p) (e :: es) [] pos) (rCall r m) := Z.pe_mk fun σ H Q ⟨io, F, ρ, C, ρ', r0, hm, q⟩ => by
  obtain ⟨f, fd, ps, hmg, hkp, hb, F0⟩ := c.ex
  refine ⟨_, pe_callS F0 (hr.mono hk) hg hmg hkp hb (E := WE W) (L2N.passAt tk) ha hdb he hpl, ?_⟩
  unfold rCall at hm
  split at hm <;> try cases hm
  rename_i os ρ1 h1
  split at hm <;> try cases hm
  rename_i sls h2
  split at hm <;> try cases hm
  rename_i h4
  split at hm <;> cases hm
  rename_i h3
  refine ⟨io, F, ρ, os, _, r0, h1, fun vs F1 H1 x1 r1 p1 => .inr ?_⟩
  obtain ⟨a1, a2⟩ := r1.args p1 h2
  have a2 := a2 0
  rw [h4] at a2
  have hL := pnil_r a2
  refine ⟨F1, sls, C, r1.sub, a1, hL, h3, fun F' H' Ca s1 s2 keep hC => ?_⟩
  have gr : Grow F1 H1 F' H' := ⟨s1, s2, keep⟩
  exact q F' H' Ca (x1.trans gr.ext) (r1.grow gr) hC
/-- the first argument of a call raises -/
theorem xe_arg {r1 : MR} {g0 : Gf} {m0 : MA} (c : Kn X.prog X.w X.K X.mgx X.base k x g0) (hr : Room j X.A) (hk : k ≤ j) (h1 : XrE X W e r1) (ha : SA X es m0) (hg : Gl X x := by rfl) (hdb : (x == ("__debug__" : Str)) = false := by decide) (he : starEach (e :: es) X.env = (false, eval e X.env) :: starEach es X.env := by rfl) (hpl : (backTo pos (starEach es X.env)).any (·.1) = false := by rfl) :
    XrE X W (.Call (.Name x p) (e :: es) [] pos) r1 := Z.pe_mk fun σ H Q h => by
  obtain ⟨f, fd, ps, hmg, hkp, hb, F0⟩ := c.ex
  exact ⟨_, pe_call F0 (hr.mono hk) hg hmg hkp hb .nil pass0 (pa_cons h1 ha he) hdb he hpl, h⟩
/-- .. whose last arguments are left to whole-number defaults -/
structure KnXD (P : Program) (w : World) (K : PySem.W.Frag) (mg : Str → Option Value) (base : Heap) (k : Nat) (x : Str) (g : Gf) (r : Rf) (dd : List Int) : Prop where
  ex : ∃ (f : Addr) (fd : FuncData) (ps : List Str) (ds : List Value), mg x = some (.ref f) ∧ PySem.W.keepIn K (.ref f) = true ∧ Binds K fd ps ds ∧ Vals (dd.map V.int) ds ∧ FnOk P w K mg base (L2N.CX P w) k f fd ps (spX K ⟨mg, P, w⟩ g r)
theorem passE {X : Cx} : Passes (L2N.CX X.prog X.w) X E0 := fun pins σ H s u s1 I h => by
  obtain ⟨_, _, _, _, _, _, _, _, _, _, _, _, z⟩ := h
  exact z.elim
theorem se_callXD {dd : List Int} (c : KnXD X.prog X.w X.K X.mgx X.base k x g r dd) (hr : Room j X.A) (hk : k ≤ j) (ha : SA X (e :: es) m) (hg : Gl X x := by rfl) (hdb : (x == ("__debug__" : Str)) = false := by decide) (he : starEach (e :: es) X.env = (false, eval e X.env) :: starEach es X.env := by rfl) (hpl : (backTo pos (starEach es X.env)).any (·.1) = false := by rfl) :
    SE X (.Call (.Name x p) (e :: es) [] pos) (mCall g (mDf dd m)) := Z.pe_mk fun σ H Q ⟨io, F, ρ, d, ρ', r0, hm, q⟩ => by
  obtain ⟨f, fd, ps, ds, hmg, hkp, hb, hv, F0⟩ := c.ex
  refine ⟨_, pe_call F0 (hr.mono hk) hg hmg hkp hb hv passE ha hdb he hpl, ?_⟩
  obtain ⟨os, ρ1, h1⟩ : ∃ os ρ1, m ρ = some (os, ρ1) := by
    unfold mCall mDf at hm
    cases z : m ρ with
    | none => rw [z] at hm; cases hm
    | some y => exact ⟨y.1, y.2, rfl⟩
  refine ⟨io, F, ρ, os, ρ1, r0, h1, fun vs F1 H1 x1 r1 p1 => .inl ?_⟩
  exact call_post (m := mDf dd m) (os := os ++ dd.map (fun i => Od.val (.int i))) x1 r1 (RepOs.app2 p1 (RepOs.ints dd)) (by unfold mDf; rw [h1]) hm q _
theorem xe_callD {dd : List Int} (c : KnXD X.prog X.w X.K X.mgx X.base k x g r dd) (tk : L2N.Takes X W) (hr : Room j X.A) (hk : k ≤ j) (hE : ∀ cls d σ σ' H, W cls d σ H → W cls d σ' H) (ha : SA X (e :: es) m) (hg : Gl X x := by rfl) (hdb : (x == ("__debug__" : Str)) = false := by decide) (he : starEach (e :: es) X.env = (false, eval e X.env) :: starEach es X.env := by rfl) (hpl : (backTo pos (starEach es X.env)).any (·.1) = false := by rfl) :
    XrE X W (.Call (.Name x p) (e :: es) [] pos) (rCall r (mDf dd m)) := Z.pe_mk fun σ0 H Q ⟨io, F, ρ, C, ρ', r0, hm, q⟩ => by
  obtain ⟨f, fd, ps, ds, hmg, hkp, hb, hv, F0⟩ := c.ex
  refine ⟨_, pe_call F0 (hr.mono hk) hg hmg hkp hb hv (E := fun cls d H => W cls d σ0 H) (fun pins σ H s u s1 I h => tk u s1 (L2N.XE.of_call I (fun cls d H' h => hE cls d σ0 σ H' h) h)) ha hdb he hpl, ?_⟩
  unfold rCall mDf at hm
  split at hm <;> try cases hm
  rename_i os2 ρ1 h1
  split at h1 <;> cases h1
  rename_i os h1
  split at hm <;> try cases hm
  rename_i sls h2
  split at hm <;> try cases hm
  rename_i h4
  split at hm <;> cases hm
  rename_i h3
  refine ⟨io, F, ρ, os, _, r0, h1, fun vs F1 H1 x1 r1 p1 => .inr ?_⟩
  obtain ⟨a1, a2⟩ := r1.args (RepOs.app2 p1 (RepOs.ints dd)) h2
  have a2 := a2 0
  rw [h4] at a2
  have hL := pnil_r a2
  refine ⟨F1, sls, C, r1.sub, a1, hL, h3, fun F' H' Ca s1 s2 keep hC => ?_⟩
  have gr : Grow F1 H1 F' H' := ⟨s1, s2, keep⟩
  exact q F' H' Ca (x1.trans gr.ext) (r1.grow gr) hC
end
end Z
/-! try: .. except C as n: .., whose suite tells data by the class. -/
namespace Z
open PySem PySem.Spec PyProof.Rows L2
section
variable {K : PySem.W.Frag} {mg : Mg} {io : List (Nat × Addr)} {F H : Hp} {σ : St} {ρ : Rho} {i : Nat} {x : D}
theorem R.forget (r : R K mg io F H σ ρ) (h : ρ[i]? = some (.d x)) : R K mg io F H σ (ρ.set i .un) ∧ Ext F H σ ρ F H σ (ρ.set i .un) := by
  have hlt : i < ρ.length := (List.getElem?_eq_some_iff.mp h).1
  have hcs : ∀ j c, cellAt (ρ.set i .un) j = some c → i ≠ j ∧ cellAt ρ j = some c := fun j c hj => by
    rw [set_cellAt] at hj
    by_cases z : i = j
    · subst z; simp [hlt, Sl.cell?] at hj
    · simp only [z, false_and, if_false] at hj
      exact ⟨z, hj⟩
  refine ⟨⟨by rw [List.length_set]; exact r.len, r.sub, fun j y hj => ?_, fun j c hj => r.cel j c (hcs j c hj).2, fun j k c c' a hj hk ej ek => r.inj j k c c' a (hcs j c hj).2 (hcs k c' hk).2 ej ek, fun q hq => ?_⟩, ⟨Same.refl _, fun a o ha _ => ⟨ha, rfl⟩, fun a ⟨j, c, hj, ha⟩ => .inl ⟨j, c, (hcs j c hj).2, ha⟩, fun _ h => h⟩⟩
  · rcases set_at hj with ⟨z, e, _⟩ | ⟨z, hj⟩
    · cases e
    · exact r.dat j y hj
  · obtain ⟨e, c, hc⟩ := r.ios q hq
    have z : i ≠ q.1 := by
      rintro rfl
      rw [h] at hc; cases hc
    exact ⟨e, c, by rw [List.getElem?_set_ne z]; exact hc⟩
end
def mTryK (i : Nat) (m : MS) (r : MR) (f : Str → Option D) : MS := fun ρ => match r ρ with
  | some (C, ρ1) => match ρ1[i]? with
    | some s => if notIo s = true then match f C with
      | some d => some (.rt d, ρ1.set i .un)
      | none => none
      else none
    | none => none
  | none => m ρ
/-- what a suite starts from, and what it owes -/
def tSu (K : PySem.W.Frag) (mg : Mg) (i : Nat) (f : Str → Option D) (a : Addr) (cls : Value) (d : Option Addr) : TS := fun D σ H => ∃ io F ρ C Ca dd, R K mg io F H σ ρ ∧ ρ[i]? = some (.d (.raw a)) ∧ d = none ∧ cls = .ref Ca ∧ mg C = some (.ref Ca) ∧ f C = some dd ∧
  ∀ σ' F' H' v, Ext F H σ ρ F' H' σ' ρ → R K mg io F' H' σ' ρ → Rep K mg F' dd v → D.rt v H'
theorem pss_or {X : Cx} {sts : List Stmt} {t u : TS} (h1 : PSs X sts t) (h2 : PSs X sts u) : PSs X sts (fun D σ H => t D σ H ∨ u D σ H) := by
  constructor
  intro pins s σ H D I h
  rcases h with h | h
  · exact h1.run pins s σ H D I h
  · exact h2.run pins s σ H D I h
theorem takesF {X : Cx} : L2N.Takes X (fun _ _ _ _ => False) := fun u s1 h => by
  obtain ⟨_, _, _, _, _, _, _, _, _, _, _, _, _, _, _, _, z⟩ := h
  exact z.elim
section
variable {X : Cx} {x n : Str} {c : Addr} {i : Nat} {body suite : List Stmt} {b0 : Stmt} {np pos pos' : Pos} {m : MS} {r : MR} {f : Str → Option D}
theorem ss_tryK (hs : X.stack = X.env :: X.outer) (hf : X.env.frame = some X.env.locals) (hN : X.N.Nodup) (hi : X.N[i]? = some n) (hln : X.env.kindOf n = some .local) (hc : Names X x (.ref c))
    (hex : ∀ C d Ca, f C = some d → X.mg C = some (.ref Ca) → PySem.W.exmOne X.K (.ref Ca) (.ref c) = some true)
    (hbm : ∀ (pn : List (Addr × Obj)) (xe : Value → Shared → Prop), SB (X.tr pn xe).nox body m)
    (hbr : ∀ (W : WX) (pn : List (Addr × Obj)) (xe : Value → Shared → Prop), L2N.Takes (X.tr pn xe) W → XrB (X.tr pn xe) W body r)
    (hsu : ∀ (a : Addr) (oe : Obj) (cls : Value) (d : Option Addr) (pn : List (Addr × Obj)), L2N.Zn cls d oe → (∃ vs, oe.data = .fields vs) → PSs (X.suite a ((a, oe) :: pn)) (b0 :: suite) (tSu X.K X.mgx i f a cls d)) :
    SS X (.Try body [.ExceptHandler (some (.Name x np)) (some n) (b0 :: suite) pos'] [] [] pos) (mTryK i m r f) := ps_mk fun D σ H ⟨io, F, ρ, fl, ρ', r0, hm, q⟩ => by
  refine ⟨_, L2N.ps_try_as hs hf hN hi hln hc takesF (tb := fun W D σ H => tS X.K X.mgx m D σ H ∨ tX X.K X.mgx W r D σ H) (fun W pn xe tk _ => pss_or (hbm pn xe).nox (hbr W pn xe tk)) hsu, ?_⟩
  unfold mTryK at hm
  split at hm
  · rename_i C ρ1 h1
    split at hm <;> try cases hm
    rename_i s hsl
    split at hm <;> try cases hm
    rename_i hio
    split at hm <;> cases hm
    rename_i d hd
    refine .inr ⟨io, F, ρ, C, ρ1, r0, h1, fun σ1 F1 H1 Ca x1 r1 hC => ⟨true, hex C d Ca hd hC, fun _ a ha => ?_, fun z => nomatch z⟩⟩
    have hno : ∀ c, s ≠ .io c := by rintro c rfl; cases hio
    obtain ⟨r2, x2⟩ := r1.setD (d := .raw a) (v := .ref a) hsl hno (by simp only [Rep])
    have hlt : i < ρ1.length := (List.getElem?_eq_some_iff.mp hsl).1
    have hat : (ρ1.set i (.d (.raw a)))[i]? = some (.d (.raw a)) := List.getElem?_set_self hlt
    refine ⟨io, F1, _, C, Ca, d, r2, hat, rfl, rfl, hC, hd, fun σ' F' H' v x3 r3 p => ?_⟩
    obtain ⟨r4, x4⟩ := r3.forget hat
    rw [List.set_set] at r4 x4
    exact q σ' F' H' ((x1.trans x2).trans (x3.trans x4)) r4 v p
  · exact .inl ⟨io, F, ρ, fl, ρ', r0, hm, q⟩
end
/-! ### isinstance of the caught error -/
section
variable {X : Cx} {n T : Str} {c : V} {cv : Value} {i : Nat} {p1 p2 p3 p4 : Pos} {a Ca : Addr} {oe : Obj}
theorem call_isP (k : ExcC X.K Ca) (hp : (a, oe) ∈ X.pn) (h1 : oe.cls = .ref Ca) (h2 : oe.dict = none) (h3 : ∃ vs, oe.data = .fields vs) : CallR X (.builtin "isinstance") (rIsE X.K Ca a) := by
  rintro pins s σ H xs us Q I r ⟨c, cv, b, rfl, hcv, e, q⟩
  obtain ⟨u1, u2, rfl, ra, rc⟩ : ∃ u1 u2, us = [u1, u2] ∧ RelV (.ref a) u1 ∧ RelV c u2 := by
    cases r with
    | cons ra rr =>
      cases rr with
      | cons rc rr => cases rr; exact ⟨_, _, rfl, ra, rc⟩
  obtain rfl : u1 = Value.ref a := ra
  obtain rfl := hcv _ rc
  have here := (I.pin (a, oe) (List.mem_append_left _ hp)).1
  have J : PySem.W.InstAt s.heap a oe Ca none := by
    obtain ⟨oc, od, oda, osl⟩ := oe
    obtain ⟨vs, hv⟩ := h3
    dsimp only at h1 h2 hv here
    subst h1 h2 hv
    exact ⟨here, rfl, rfl, trivial⟩
  have kit := PySem.W.handS_kitx_exc k.hg k.hk k.hs k.hd k.ha k.hn k.ht k.hm (x := a) (ox := oe)
  exact PySem.W.kia_one kit I.kIn J e (fun z => nomatch z) fun tk => ⟨V.bl b, H, I.kept (t' := tk) fun _ _ z => z, rfl, q⟩
def mIsR (i : Nat) (a : Addr) (b : Bool) : ME := fun ρ => match ρ[i]? with
  | some (.d (.raw a')) => if a' = a then some (.bl b, ρ) else none
  | _ => none
theorem se_isR {b : Bool} (k : ExcC X.K Ca) (hp : (a, oe) ∈ X.pn) (h1 : oe.cls = .ref Ca) (h2 : oe.dict = none) (h3 : ∃ vs, oe.data = .fields vs) (hT : PE X (.Name T p4) (tC c)) (hcv : ∀ u, RelV c u → u = cv) (hk : PySem.W.kitOne X.K (.ref Ca) cv = some b) (hm : X.mg "isinstance" = none)
    (hi : X.N[i]? = some n := by rfl) (hv : Vis X.env.scope n := by first | exact Or.inl rfl | exact Or.inr (Or.inl rfl) | exact Or.inr (Or.inr rfl)) (hg : Gl X "isinstance" := by rfl) (hvb : bootBuiltins "isinstance" = some (.builtin "isinstance") := by decide +kernel) (hd : (n == ("__debug__" : Str)) = false := by decide) (hcd : (n == ("__classdict__" : Str)) = false := by decide)
    (hs1 : starEach [.Name n p3, .Name T p4] X.env = (false, eval (.Name n p3) X.env) :: starEach [.Name T p4] X.env := by rfl) (hs2 : starEach [.Name T p4] X.env = (false, eval (.Name T p4) X.env) :: starEach [] X.env := by rfl) (hpl : (backTo p1 (starEach [.Name T p4] X.env)).any (·.1) = false := by rfl) :
    SE X (.Call (.Name "isinstance" p2) [.Name n p3, .Name T p4] [] p1) (mIsR i a b) := Z.pe_mk fun σ H Q ⟨io, F, ρ, d, ρ', r0, hm', q⟩ => by
  refine ⟨_, pe_callB (call_isP k hp h1 h2 h3) hg hm hvb (pa_cons (pe_var hi hv hd hcd) (pa_cons hT pa_nil hs2) hs1) (by decide) (by decide) hs1 hpl, ?_⟩
  unfold mIsR at hm'
  split at hm' <;> try cases hm'
  rename_i a' hat
  split at hm' <;> cases hm'
  rename_i e
  subst e
  obtain ⟨v, ev, pv⟩ := r0.dat i _ hat
  simp only [Rep] at pv
  subst pv
  exact ⟨_, ev, c, cv, b, rfl, hcv, hk, q _ F H .refl r0 (by simp only [Rep])⟩
end
/-! ### the suite: return A if isinstance(n, T) else B -/
section
variable {X : Cx} {st : Stmt} {i : Nat} {f : Str → Option D} {a : Addr} {cls : Value} {d : Option Addr}
/-- a suite that is one return -/
theorem su_one {m : Str → MS} (h : ∀ C Ca, cls = .ref Ca → d = none → X.mg C = some (.ref Ca) → (f C).isSome = true → SS X st (m C)) (hmm : ∀ C dd ρ, f C = some dd → ρ[i]? = some (.d (.raw a)) → m C ρ = some (.rt dd, ρ)) :
    PSs X [st] (tSu X.K X.mgx i f a cls d) := pss_mk fun D σ H ⟨io, F, ρ, C, Ca, dd, r0, hat, e1, e2, hC, hd, q⟩ =>
  ⟨_, sb_one (h C Ca e2 e1 hC (by rw [hd]; rfl)), io, F, ρ, _, ρ, r0, hmm C dd ρ hd hat, fun σ' F' H' x r' v p => q σ' F' H' v x r' p⟩
end
end Z
/-! A def called within an except suite on the error that is handled. -/
namespace Z
open PySem PySem.Spec PyProof.Rows L2
section
variable {Y : Cx} {pins : List (Addr × Obj)} {σ : L2.St} {H : Hp} {s : Shared} {Q : VK} {x par : Str} {st : Stmt} {f a : Addr} {fd : FuncData} {N : List Str} {k : Nat} {m : MS} {oe : Obj}
/-- such a def's body, walked -/
abbrev HotW (Y : Cx) (N : List Str) (x : Str) (st : Stmt) (f : Addr) (k : Nat) (p : Addr × Obj) (m : MS) : Prop :=
  ∀ (cdv : Value) (s1 : Shared) (H1 : Hp), L2H.RoomH k (Y.A.deeper (envOfC x (defScope st) s1.heap.objs.size f cdv)) →
    SB (L2H.cxH CX0 Y.prog Y.w Y.K Y.mg Y.base N x (defScope st) f cdv Y.A Y.stack s1 H1 E0 p).nox (defBody st) m
theorem run_hot (Fn : Fun Y.K x x st f fd) (S : FnScope N [par] (defScope st)) (hb : Binds Y.K fd [par] []) (hr : L2H.RoomH (k + 1) Y.A) (hot : L2H.Hot1 Y.A (a, oe)) (hp : (a, oe) ∈ Y.pn)
    (hw : HotW Y N x st f k (a, oe) m) (I : Inv Y pins σ H s) {us : List Value} (ru : Vals [V.ref a] us) (sp : spD Y.K Y.mgx (runD 1 (N.length - 1) m) [.ref a] H Q E0) :
    wpAny (model Y.prog Y.w) Y.A (call (.ref f) us) (EP Y pins σ Q) Y.xe s := by
  obtain ⟨oc, od, kV, doc, pm, an, cdv, ct, osl, rfl, lk, hcd⟩ := Fn.ex
  have e0 := I.env0
  have at0 := I.pin (a, oe) (List.mem_append_left _ hp)
  have hpin : L2H.PinOk Y.stack H s (a, oe) := ⟨at0.1, at0.2.1, fun hm => (List.mem_cons.mp (I.stkSub a hm)).elim at0.2.2.1 at0.2.2.2.1, at0.2.2.2.2⟩
  have KX : Y.K.In s.heap := I.kIn
  have lim := e0.mod.nolimit.keeps fun b o e => (e0.bs b o e).1
  have bd := hb s us KX (by rw [List.append_nil]; exact ru.length.symm)
  rw [List.append_nil] at bd
  have run : codeAny (model Y.prog Y.w) Y.A (.call (.ref f) ⟨us, []⟩) (CR CX0 Y.stack Y.prog Y.w H s Q E0) s := by
    refine codeAny_call_function hr.depth (KX _ _ lk) rfl S.co S.gen rfl (PySem.W.codeRec_of KX hcd) (bd _ _ _ _ ?_)
    refine wpAny_newFunctionEnv_cells S.kind (fun ⟨y, v⟩ hy => ?_) fun env he s1 inC => ?_
    · rcases S.par y (List.of_mem_zip hy).1 with q | q
      · exact .inl q
      · exact .inr ⟨q, PySem.W.cellsFrom_some _ _ _ (.inl q)⟩
    · subst he
      refine ⟨lim.keeps inC.toInCall.keep, codeAny_func ?_⟩
      have J := L2H.inv_startH (CX := CX0) (E := E0) S hpin e0 (vs := [V.ref a]) rfl ru inC
      have wk := (hw cdv s H (hr.deeper _)).nox
      refine wpAny_mono (wk.run [] s1 (L2.start N [V.ref a]) H { nx := fun _ H' => Q .non H', rt := Q } J (body_rd (np := 1) sp)) ?_ (fun e s' z => z)
      intro fl s' done
      cases fl with
      | ret u =>
        obtain ⟨v, σ', H', J', rv, q⟩ := done
        exact ⟨v, H', J'.os, J'.bare, J'.base, J'.hok, rv, q⟩
      | next =>
        obtain ⟨σ', H', J', q⟩ := done
        exact ⟨V.non, H', J'.os, J'.bare, J'.base, J'.hok, rfl, q⟩
      | brk => exact done.elim fun _ ⟨_, _, z⟩ => z.elim
      | cont => exact done.elim fun _ ⟨_, _, z⟩ => z.elim
  refine wpAny_call (codeAny_mono run ?_)
  intro r s' hq
  rcases r with e | fl
  · exact hq.elim
  · cases fl with
    | ret u => exact I.after hq
    | next => exact hq.elim
    | brk => exact hq.elim
    | cont => exact hq.elim
/-- f(n), n the error that is handled -/
def mHot (i : Nat) (a : Addr) (d : D) : ME := fun ρ => match ρ[i]? with
  | some (.d (.raw a')) => if a' = a then some (d, ρ) else none
  | _ => none
theorem se_hot {n : Str} {i : Nat} {p pn pos : Pos} {dd : D} (Fn : Fun Y.K x x st f fd) (S : FnScope N [par] (defScope st)) (hb : Binds Y.K fd [par] []) (hr : L2H.RoomH (k + 1) Y.A) (hot : L2H.Hot1 Y.A (a, oe)) (hp : (a, oe) ∈ Y.pn)
    (hw : HotW Y N x st f k (a, oe) m) (hgv : runD 1 (N.length - 1) m [.d (.raw a)] = some (dd, none)) (hm : Y.mg x = some (.ref f)) (hk : PySem.W.keepIn Y.K (.ref f) = true) (hi : Y.N[i]? = some n := by rfl)
    (hv : Vis Y.env.scope n := by first | exact Or.inl rfl | exact Or.inr (Or.inl rfl) | exact Or.inr (Or.inr rfl)) (hg : Gl Y x := by rfl) (hdb : (x == ("__debug__" : Str)) = false := by decide) (hd : (n == ("__debug__" : Str)) = false := by decide) (hcd : (n == ("__classdict__" : Str)) = false := by decide)
    (he : starEach [.Name n pn] Y.env = (false, eval (.Name n pn) Y.env) :: starEach [] Y.env := by rfl) (hpl : (backTo pos (starEach [] Y.env)).any (·.1) = false := by rfl) :
    SE Y (.Call (.Name x p) [.Name n pn] [] pos) (mHot i a dd) := by
  constructor
  rintro pins s σ H Q I ⟨io, F, ρ, d, ρ', r0, hmm, q⟩
  unfold mHot at hmm
  split at hmm <;> try cases hmm
  rename_i a' hat
  split at hmm <;> cases hmm
  rename_i e
  subst e
  obtain ⟨v, ev, pv⟩ := r0.dat i _ hat
  simp only [Rep] at pv
  subst pv
  have ha : PA Y [.Name n pn] (tCons (tVar i) tNil) := pa_cons (pe_var hi hv hd hcd) pa_nil he
  refine wpAny_Call_Name_kw (ld_glob I hg hm ?_ hdb)
  refine PySem.W.callWith_K (h₀ := Y.base) I.ok.mod.kin hk (thn (ha.run pos pins s σ H (fun vs H1 => vs = [.ref a'] ∧ H1 = H) I ⟨_, ev, rfl, rfl⟩) ?_) he hpl
  rintro us s1 ⟨vs, H1, I1, r1, rfl, rfl⟩
  refine ⟨I1.kIn, run_hot Fn S hb hr hot hp hw I1 r1 ?_⟩
  refine ⟨F, [.d (.raw a')], dd, none, r0.sub, ?_, Nat.zero_le _, hgv, fun v F' H' s1 s2 keep stay _ rp => ?_⟩
  · simp only [ArgsOk]
    exact ⟨_, [], rfl, by simp only [Rep], rfl⟩
  · have gr : Grow F H1 F' H' := ⟨s1, s2, fun b o hb => keep b o hb (by simp [ioL])⟩
    exact q v F' H' gr.ext (r0.grow gr) rp
end
end Z
/-! list.count of truth values; defs as values; calls of what an expression tells. -/
namespace Z
open PySem PySem.Spec PyProof.Rows L2
/-! ### list.count of truth values -/
def rCntB (K : PySem.W.Frag) : V → List V → Hp → VK → Prop := fun x xs H Q => ∃ (a : Addr) (bs : List Bool) (b : Bool), x = V.ref a ∧ xs = [V.bl b] ∧ SqL K H a (bs.map V.bl) ∧ Q (.int (bs.count b : Nat)) H
theorem vals_cntB {b : Bool} : ∀ {bs : List Bool} {us : List Value}, Vals (bs.map V.bl) us → us.countP (eqU (.bl b)) = bs.count b
  | [], _, .nil => rfl
  | c :: bs, _, .cons r t => by
    cases r
    rw [List.countP_cons, vals_cntB t, List.count_cons]
    cases b <;> cases c <;> rfl
theorem flat_bls (bs : List Bool) : (bs.map V.bl).all flatV = true := List.all_eq_true.mpr fun x hx => by
  obtain ⟨n, _, rfl⟩ := List.mem_map.mp hx; rfl
def mCntB (mo m : MO) : ME := fun ρ => match mo ρ with
  | some (oo, ρ1) => match res ρ1 oo with
    | some (.lst _) => match m ρ1 with
      | some (o, ρ') => match res ρ' oo, res ρ' o with
        | some (.lst xs), some (.bl z) => match blsD xs with
          | some bs => some (.int (bs.count z : Nat), ρ')
          | none => none
        | _, _ => none
      | none => none
    | _ => none
  | none => none
section
variable {X : Cx} {e : Expr} {pos : Pos}
theorem mt_cntB : MtR X "list.count" (rCntB X.K) := by
  rintro pins s σ H x xs v us Q I rx rxs ⟨a, bs, b, rfl, rfl, hs, q⟩
  cases rx
  obtain ⟨u, rfl, ru⟩ := rxs.one
  obtain ⟨its, rv, ⟨⟨cls, dd, data, sl⟩, k, ho, hc, hdn, hd⟩, hlen⟩ := I.list hs
  simp only at hc hd
  subst hc hd
  refine call_meets PySem.F.slot_list_count ⟨_, ho, rfl⟩ PySem.F.entry_list_count (PySem.F.args_list_count_2 _ _) (SeqAt.list_countAt a its.toArray k dd sl u (eqU (.bl b))) ?_
  refine ⟨ho, fun w hw => mem_eqAt ru rfl rv (flat_bls bs) w (by simpa using hw), .int (bs.count b : Nat), H, I.tok _, ⟨s.toks, ?_⟩, q⟩
  rw [List.toList_toArray, vals_cntB rv]
theorem se_cntB {o : Expr} {mo m : MO} {apos : Pos} (ho : SO X o mo) (h : SO X e m)
    (hbase : attributeBase o "count" X.env (eval o X.env) = eval o X.env := by rfl)
    (hfew : ((backTo pos (starEach [e] X.env)).all (fun x => !x.1) && (backToKw pos (keywordEach [] X.env)).all (fun x => x.1.isSome)
      && decide (([e] : List Expr).length + ([] : List Keyword).length + (if ([] : List Keyword).isEmpty then 0 else 1) < 30)) = true := by rfl)
    (hline : (apos.endLine == pos.line) = true := by rfl) (hs1 : starEach [e] X.env = (false, eval e X.env) :: starEach [] X.env := by rfl) (hplain : (backTo pos (starEach [] X.env)).any (·.1) = false := by rfl) :
    SE X (.Call (.Attribute o "count" apos) [e] [] pos) (mCntB mo m) := Z.pe_mk fun σ H Q ⟨io, F, ρ, d, ρ', r, hm, q⟩ => by
  refine ⟨_, pe_bm PySem.F.plainAttrs_list PySem.F.slot_list_count PySem.F.type_list_count mt_cntB ho (pa_cons h pa_nil hs1) hbase hfew hline hs1 hplain, ?_⟩
  unfold mCntB at hm
  split at hm <;> try cases hm
  rename_i oo ρ1 h1
  split at hm <;> try cases hm
  rename_i xs0 hx0
  split at hm <;> try cases hm
  rename_i od ρ2 h2
  split at hm <;> try cases hm
  rename_i xs z hx hz
  split at hm <;> cases hm
  rename_i bs hn
  refine ⟨io, F, ρ, oo, ρ1, r, h1, fun v F1 H1 x1 r1 p1 => ?_⟩
  obtain ⟨a0, vs0, rfl, ht0, _⟩ := (r1.res p1 hx0).lst r1.sub
  refine ⟨.inl ⟨rfl, _, SqL.of ht0⟩, io, F1, ρ1, od, _, r1, h2, fun w F2 H2 x2 r2 p2 => ?_⟩
  obtain ⟨a, vs, ea, ht, rl⟩ := (r2.res (p1.mono x2.sub) hx).lst r2.sub
  cases ea
  have e := rl.bls hn
  subst e
  have ew := (r2.res p2 hz).bl
  subst ew
  exact ⟨_, bs, z, rfl, rfl, SqL.of ht, q _ F2 H2 (x1.trans x2) r2 (by simp only [Rep])⟩
/-! ### a def's name as a value -/
theorem se_fnG {x : Str} {f : Addr} (hm : X.mg x = some (.ref f)) (hg : Gl X x := by rfl) (hd : (x == ("__debug__" : Str)) = false := by decide) : SE X (.Name x pos) (mC (.fn x)) := Z.pe_mk fun σ H Q ⟨io, F, ρ, d, ρ', r, hmm, q⟩ => by
  cases hmm
  refine ⟨_, pe_glob (v := .ref f) hg hm rfl hd, q _ F H .refl r ?_⟩
  simp only [Rep]
  exact ⟨f, rfl, hm⟩
end
/-! ### calls of what an expression tells -/
abbrev GX := Str → Option (Gf × Rf)
def mCallE (G : GX) (mf : ME) (m : MA) : ME := fun ρ => match mf ρ with
  | some (.fn n, ρ0) => match G n with
    | some (g, _) => mCall g m ρ0
    | none => none
  | _ => none
def rCallE (G : GX) (mf : ME) (m : MA) : MR := fun ρ => match mf ρ with
  | some (.fn n, ρ0) => match G n with
    | some (_, r) => rCall r m ρ0
    | none => none
  | _ => none
section
variable {X : Cx} {W : WX} {fe e : Expr} {es : List Expr} {pos : Pos} {k j : Nat} {G : GX} {mf : ME} {m : MA}
theorem callE_run {f : Addr} {fd : FuncData} {ps : List Str} {sp : Sp} {CX : CXT} {E : XK} {t : TA} {pins : List (Addr × Obj)} {σ : L2.St} {H : Hp} {s : Shared} {Q : VK} {tf : TE} (hf : PE X fe tf) (F0 : FnOk X.prog X.w X.K X.mg X.base CX k f fd ps sp) (hr : Room k X.A) (hk : PySem.W.keepIn X.K (.ref f) = true) (hb : Binds X.K fd ps [])
    (hx : PassesAt CX X σ E) (ha : PA X (e :: es) t) (I : Inv X pins σ H s) (h : tf σ H fun v H0 => v = .ref f ∧ t σ H0 fun vs H1 => sp vs H1 Q E)
    (heq : eval (.Call fe (e :: es) [] pos) X.env = (do
      callWith pos (← eval fe X.env) [] (backTo pos (starEach (e :: es) X.env)) (backToKw pos (keywordEach [] X.env))))
    (he : starEach (e :: es) X.env = (false, eval e X.env) :: starEach es X.env) (hpl : (backTo pos (starEach es X.env)).any (·.1) = false) :
    wpAny (model X.prog X.w) X.A (eval (.Call fe (e :: es) [] pos) X.env) (EP X pins σ Q) X.xe s := by
  rw [heq]
  refine wpAny_bind (thn (hf.run pins s σ H _ I h) ?_)
  rintro u s0 ⟨v, H0, I0, r0, rfl, h1⟩
  obtain rfl : u = Value.ref f := r0
  refine PySem.W.callWith_K (h₀ := X.base) I0.ok.mod.kin hk (thn (ha.run pos pins s0 σ H0 _ I0 h1) ?_) he hpl
  rintro us s1 ⟨vs, H1, I1, r1, q1⟩
  exact ⟨I1.kIn, run_fnS (E := fun _ => E) F0 hr hb hx I1 r1 q1⟩
theorem se_callE (hG : ∀ n g r, G n = some (g, r) → KnX X.prog X.w X.K X.mgx X.base k n g r) (hr : Room j X.A) (hk : k ≤ j) (hf : SE X fe mf) (ha : SA X (e :: es) m)
    (heq : eval (.Call fe (e :: es) [] pos) X.env = (do
      callWith pos (← eval fe X.env) [] (backTo pos (starEach (e :: es) X.env)) (backToKw pos (keywordEach [] X.env))) := by rfl)
    (he : starEach (e :: es) X.env = (false, eval e X.env) :: starEach es X.env := by rfl) (hpl : (backTo pos (starEach es X.env)).any (·.1) = false := by rfl) : SE X (.Call fe (e :: es) [] pos) (mCallE G mf m) := by
  constructor
  rintro pins s σ H Q I ⟨io, F, ρ, d, ρ', r0, hm, q⟩
  unfold mCallE at hm
  split at hm <;> try cases hm
  rename_i n ρ0 h0
  split at hm <;> try cases hm
  rename_i g r hg
  obtain ⟨f, fd, ps, hmg, hkp, hb, F0⟩ := (hG n g r hg).ex
  refine callE_run hf (F0.mono hk) hr hkp hb (E := fun _ _ _ => False) (passF σ) ha I ⟨io, F, ρ, _, ρ0, r0, h0, fun v F1 H1 x1 r1 p1 => ?_⟩ heq he hpl
  simp only [Rep] at p1
  obtain ⟨f', rfl, hmg'⟩ := p1
  have hmg' := hmg.symm.trans hmg'
  cases hmg'
  obtain ⟨os, ρ2, h2⟩ : ∃ os ρ2, m ρ0 = some (os, ρ2) := by
    unfold mCall at hm
    split at hm
    · rename_i os ρ2 h2; exact ⟨os, ρ2, h2⟩
    · cases hm
  exact ⟨rfl, io, F1, ρ0, os, ρ2, r1, h2, fun vs F2 H2 x2 r2 p2 => .inl (call_post x2 r2 p2 h2 hm (fun v F' H' x3 r3 p3 => q v F' H' (x1.trans x3) r3 p3) _)⟩
theorem xe_callE (hG : ∀ n g r, G n = some (g, r) → KnX X.prog X.w X.K X.mgx X.base k n g r) (tk : L2N.Takes X W) (hr : Room j X.A) (hk : k ≤ j) (hf : SE X fe mf) (ha : SA X (e :: es) m)
    (heq : eval (.Call fe (e :: es) [] pos) X.env = (do
      callWith pos (← eval fe X.env) [] (backTo pos (starEach (e :: es) X.env)) (backToKw pos (keywordEach [] X.env))) := by rfl)
    (he : starEach (e :: es) X.env = (false, eval e X.env) :: starEach es X.env := by rfl) (hpl : (backTo pos (starEach es X.env)).any (·.1) = false := by rfl) : XrE X W (.Call fe (e :: es) [] pos) (rCallE G mf m) := by
  constructor
  rintro pins s σ H Q I ⟨io, F, ρ, C, ρ', r0, hm, q⟩
  unfold rCallE at hm
  split at hm <;> try cases hm
  rename_i n ρ0 h0
  split at hm <;> try cases hm
  rename_i g r hg
  obtain ⟨f, fd, ps, hmg, hkp, hb, F0⟩ := (hG n g r hg).ex
  refine callE_run hf (F0.mono hk) hr hkp hb (E := WE W σ) (L2N.passAt tk σ) ha I ⟨io, F, ρ, _, ρ0, r0, h0, fun v F1 H1 x1 r1 p1 => ?_⟩ heq he hpl
  simp only [Rep] at p1
  obtain ⟨f', rfl, hmg'⟩ := p1
  have hmg' := hmg.symm.trans hmg'
  cases hmg'
  unfold rCall at hm
  split at hm <;> try cases hm
  rename_i os ρ1 h1
  split at hm <;> try cases hm
  rename_i sls h2
  split at hm <;> try cases hm
  rename_i h4
  split at hm <;> cases hm
  rename_i h3
  refine ⟨rfl, io, F1, ρ0, os, _, r1, h1, fun vs F2 H2 x2 r2 p2 => .inr ?_⟩
  obtain ⟨a1, a2⟩ := r2.args p2 h2
  have a2 := a2 0
  rw [h4] at a2
  have hL := pnil_r a2
  refine ⟨F2, sls, C, r2.sub, a1, hL, h3, fun F' H' Ca s1 s2 keep hC => ?_⟩
  have gr : Grow F2 H2 F' H' := ⟨s1, s2, keep⟩
  exact q F' H' Ca ((x1.trans x2).trans gr.ext) (r2.grow gr) hC
end
end Z
/-! What the program's error classes are; the suites of the laws. -/
namespace Z
open PySem PySem.Spec PyProof.Rows L2
abbrev veT : List Value := [.type "ValueError", .type "Exception", .type "BaseException", .type "object"]
/-- en: the classes that may be raised; tn: those that are asked for -/
structure XF (K : PySem.W.Frag) (mg : Mg) (en tn : List Str) : Prop where
  kx : ∀ C ∈ en, KxC K mg C
  ec : ∀ C ∈ en, ∀ Ca, mg C = some (.ref Ca) → ExcC K Ca
  ve : ∀ C ∈ en, ∀ Ca, mg C = some (.ref Ca) → PySem.W.kitOne K (.ref Ca) (.type "ValueError") = some true
  ce : ∃ c, mg "CoderError" = some (.ref c) ∧ ∀ C ∈ en, ∀ Ca, mg C = some (.ref Ca) → PySem.W.exmOne K (.ref Ca) (.ref c) = some true
  is_ : ∀ T ∈ tn, ∃ Tb, mg T = some (.ref Tb) ∧ ∀ C ∈ en, ∀ Ca, mg C = some (.ref Ca) → PySem.W.kitOne K (.ref Ca) (.ref Tb) = some (decide (C = T))
def xfB1 (K : PySem.W.Frag) (a : Addr) : Bool :=
  PySem.W.excIn K a veT "ValueError.__new__" && PySem.W.keepIn K (.ref a) && decide (PySem.W.subIn K (.ref a) (.type "BaseException") = some true) && decide (PySem.W.typeIn K (.ref a) = some (.type "type"))
def xfB2 (K : PySem.W.Frag) (a : Addr) : Bool :=
  decide (PySem.W.findIn K (.ref a) "__getattribute__" = some (some (.builtin "BaseException.__getattribute__"))) && decide (PySem.W.findIn K (.ref a) "__getattr__" = some none) && PySem.W.hasDictIn K a && decide (PySem.W.findIn K (.ref a) "__class__" = some (some (.builtin "object.__class__")))
    && decide (PySem.W.specialIn K (.builtin "object.__class__") "__get__" = some (some (.builtin "getset_descriptor.__get__"))) && decide (PySem.W.takesIn K (.builtin "object.__class__") = some true) && decide (PySem.W.mroIn K a (.type "object") = some true)
def xfB (K : PySem.W.Frag) (es ts : List (Str × Addr)) (c : Addr) : Bool :=
  es.all fun p => xfB1 K p.2 && xfB2 K p.2 && decide (PySem.W.kitOne K (.ref p.2) (.type "ValueError") = some true) && decide (PySem.W.exmOne K (.ref p.2) (.ref c) = some true) && ts.all fun q => decide (PySem.W.kitOne K (.ref p.2) (.ref q.2) = some (decide (p.1 = q.1)))
theorem XF.of {K : PySem.W.Frag} {mg : Mg} {es ts : List (Str × Addr)} {c : Addr} (hs : ∀ p ∈ es, mg p.1 = some (.ref p.2)) (ht : ∀ p ∈ ts, mg p.1 = some (.ref p.2)) (hc : mg "CoderError" = some (.ref c)) (h : xfB K es ts c = true) : XF K mg (es.map (·.1)) (ts.map (·.1)) := by
  have h := List.all_eq_true.mp h
  have at_ : ∀ C ∈ es.map (·.1), ∃ a, (C, a) ∈ es ∧ ∀ Ca, mg C = some (.ref Ca) → Ca = a := fun C hC => by
    obtain ⟨p, hp, rfl⟩ := List.mem_map.mp hC
    refine ⟨p.2, hp, fun Ca e => ?_⟩
    have := (hs p hp).symm.trans e
    cases this
    rfl
  have all : ∀ C a, (C, a) ∈ es → xfB1 K a = true ∧ xfB2 K a = true ∧ PySem.W.kitOne K (.ref a) (.type "ValueError") = some true ∧ PySem.W.exmOne K (.ref a) (.ref c) = some true ∧ ∀ q ∈ ts, PySem.W.kitOne K (.ref a) (.ref q.2) = some (decide (C = q.1)) := fun C a hp => by
    have q := h (C, a) hp
    simp only [Bool.and_eq_true, decide_eq_true_eq, List.all_eq_true] at q
    exact ⟨q.1.1.1.1, q.1.1.1.2, q.1.1.2, q.1.2, q.2⟩
  refine ⟨fun C hC => ?_, fun C hC Ca e => ?_, fun C hC Ca e => ?_, ⟨c, hc, fun C hC Ca e => ?_⟩, fun T hT => ?_⟩
  · obtain ⟨a, ha, _⟩ := at_ C hC
    obtain ⟨q, _⟩ := all C a ha
    unfold xfB1 at q
    simp only [Bool.and_eq_true, decide_eq_true_eq] at q
    exact ⟨a, hs _ ha, q.1.1.1, q.1.1.2, q.1.2, q.2⟩
  · obtain ⟨a, ha, u⟩ := at_ C hC
    obtain rfl := u Ca e
    obtain ⟨q0, q, _⟩ := all C Ca ha
    unfold xfB1 at q0
    unfold xfB2 at q
    simp only [Bool.and_eq_true, decide_eq_true_eq] at q0 q
    exact ⟨q.1.1.1.1.1.1, q.1.1.1.1.1.2, q0.1.2, q.1.1.1.1.2, q.1.1.1.2, q.1.1.2, q.1.2, q.2⟩
  · obtain ⟨a, ha, u⟩ := at_ C hC
    obtain rfl := u Ca e
    exact (all C Ca ha).2.2.1
  · obtain ⟨a, ha, u⟩ := at_ C hC
    obtain rfl := u Ca e
    exact (all C Ca ha).2.2.2.1
  · obtain ⟨q, hq, rfl⟩ := List.mem_map.mp hT
    refine ⟨q.2, ht q hq, fun C hC Ca e => ?_⟩
    obtain ⟨a, ha, u⟩ := at_ C hC
    obtain rfl := u Ca e
    exact (all C Ca ha).2.2.2.2 q hq
/-! ### isinstance of the caught error, by names -/
section
variable {X : Cx} {n T C : Str} {i : Nat} {p1 p2 p3 p4 : Pos} {a Ca : Addr} {oe : Obj} {en tn : List Str}
theorem se_isX (i : Nat) (xf : XF X.K X.mgx en tn) (hC : C ∈ en) (hCa : X.mg C = some (.ref Ca)) (hp : (a, oe) ∈ X.pn) (h1 : oe.cls = .ref Ca) (h2 : oe.dict = none) (h3 : ∃ vs, oe.data = .fields vs) (hm : X.mg "isinstance" = none) (hT : T ∈ tn := by decide)
    (hi : X.N[i]? = some n := by rfl) (hv : Vis X.env.scope n := by first | exact Or.inl rfl | exact Or.inr (Or.inl rfl) | exact Or.inr (Or.inr rfl)) (hg : Gl X "isinstance" := by rfl) (hgT : Gl X T := by rfl) (hd : (n == ("__debug__" : Str)) = false := by decide) (hcd : (n == ("__classdict__" : Str)) = false := by decide) (hTd : (T == ("__debug__" : Str)) = false := by decide)
    (hs1 : starEach [.Name n p3, .Name T p4] X.env = (false, eval (.Name n p3) X.env) :: starEach [.Name T p4] X.env := by rfl) (hs2 : starEach [.Name T p4] X.env = (false, eval (.Name T p4) X.env) :: starEach [] X.env := by rfl) (hpl : (backTo p1 (starEach [.Name T p4] X.env)).any (·.1) = false := by rfl) :
    SE X (.Call (.Name "isinstance" p2) [.Name n p3, .Name T p4] [] p1) (mIsR i a (decide (C = T))) := by
  obtain ⟨Tb, hTb, hk⟩ := xf.is_ T hT
  exact se_isR (xf.ec C hC Ca hCa) hp h1 h2 h3 (c := .ref Tb) (cv := .ref Tb) (pe_glob hgT hTb rfl hTd) (fun u h => h) (hk C hC Ca hCa) hm hi hv hg (by decide +kernel) hd hcd hs1 hs2 hpl
theorem se_isV (i : Nat) (xf : XF X.K X.mgx en tn) (hC : C ∈ en) (hCa : X.mg C = some (.ref Ca)) (hp : (a, oe) ∈ X.pn) (h1 : oe.cls = .ref Ca) (h2 : oe.dict = none) (h3 : ∃ vs, oe.data = .fields vs) (hm : X.mg "isinstance" = none) (hmV : X.mg "ValueError" = none)
    (hi : X.N[i]? = some n := by rfl) (hv : Vis X.env.scope n := by first | exact Or.inl rfl | exact Or.inr (Or.inl rfl) | exact Or.inr (Or.inr rfl)) (hg : Gl X "isinstance" := by rfl) (hgT : Gl X "ValueError" := by rfl) (hd : (n == ("__debug__" : Str)) = false := by decide) (hcd : (n == ("__classdict__" : Str)) = false := by decide)
    (hs1 : starEach [.Name n p3, .Name "ValueError" p4] X.env = (false, eval (.Name n p3) X.env) :: starEach [.Name "ValueError" p4] X.env := by rfl) (hs2 : starEach [.Name "ValueError" p4] X.env = (false, eval (.Name "ValueError" p4) X.env) :: starEach [] X.env := by rfl) (hpl : (backTo p1 (starEach [.Name "ValueError" p4] X.env)).any (·.1) = false := by rfl) :
    SE X (.Call (.Name "isinstance" p2) [.Name n p3, .Name "ValueError" p4] [] p1) (mIsR i a true) :=
  se_isR (xf.ec C hC Ca hCa) hp h1 h2 h3 (c := .ty "ValueError") (cv := .type "ValueError") (pe_bltn hgT hmV (by decide +kernel) rfl (by decide) (by decide)) (fun u h => h) (xf.ve C hC Ca hCa) hm hi hv hg (by decide +kernel) hd hcd hs1 hs2 hpl
end
/-! ### try: .. except CoderError as n: .. -/
section
variable {X : Cx} {n : Str} {body suite : List Stmt} {b0 : Stmt} {np pos pos' : Pos} {m : MS} {r : MR} {f : Str → Option D} {en tn : List Str}
theorem ss_tryX (i : Nat) (xf : XF X.K X.mgx en tn) (hN : X.N.Nodup) (hfe : ∀ C d, f C = some d → C ∈ en)
    (hbm : ∀ (pn : List (Addr × Obj)) (xe : Value → Shared → Prop), SB (X.tr pn xe).nox body m)
    (hbr : ∀ (W : WX) (pn : List (Addr × Obj)) (xe : Value → Shared → Prop), L2N.Takes (X.tr pn xe) W → XrB (X.tr pn xe) W body r)
    (hsu : ∀ (a : Addr) (oe : Obj) (cls : Value) (d : Option Addr) (pn : List (Addr × Obj)), L2N.Zn cls d oe → (∃ vs, oe.data = .fields vs) → PSs (X.suite a ((a, oe) :: pn)) (b0 :: suite) (tSu X.K X.mgx i f a cls d))
    (hs : X.stack = X.env :: X.outer := by rfl) (hf : X.env.frame = some X.env.locals := by rfl) (hi : X.N[i]? = some n := by rfl) (hln : X.env.kindOf n = some .local := by rfl) (hg : Gl X "CoderError" := by rfl) :
    SS X (.Try body [.ExceptHandler (some (.Name "CoderError" np)) (some n) (b0 :: suite) pos'] [] [] pos) (mTryK i m r f) := by
  obtain ⟨c, hc, hex⟩ := xf.ce
  exact ss_tryK hs hf hN hi hln ⟨hg, by decide, .inl hc⟩ (fun C d Ca hd hC => hex C (hfe C d hd) Ca hC) hbm hbr hsu
end
/-! ### the suite: return which(n) -/
structure KnH (K : PySem.W.Frag) (mg : Str → Option Value) (x par : Str) (st : Stmt) : Prop where
  ex : ∃ (f : Addr) (fd : FuncData), mg x = some (.ref f) ∧ PySem.W.keepIn K (.ref f) = true ∧ Binds K fd [par] [] ∧ Fun K x x st f fd
section
variable {X : Cx} {x par n : Str} {st : Stmt} {N : List Str} {p pn' pos pos2 : Pos} {k j i : Nat} {f : Str → Option D} {en tn : List Str} {mw : Addr → Str → MS}
theorem su_which {a : Addr} {oe : Obj} {cls : Value} {d : Option Addr} {pn : List (Addr × Obj)} (hz : L2N.Zn cls d oe) (h3 : ∃ vs, oe.data = .fields vs) (kh : KnH X.K X.mg x par st) (S : FnScope N [par] (defScope st)) (hr : Room j X.A) (hk : k + 1 ≤ j) (hfe : ∀ C d, f C = some d → C ∈ en)
    (hw : ∀ (g a Ca : Addr) (C : Str) (oe : Obj) (pn : List (Addr × Obj)), C ∈ en → X.mg C = some (.ref Ca) → oe.cls = .ref Ca → oe.dict = none → (∃ vs, oe.data = .fields vs) → HotW (X.suite a ((a, oe) :: pn)) N x st g k (a, oe) (mw a C))
    (hgv : ∀ a C dd, f C = some dd → runD 1 (N.length - 1) (mw a C) [.d (.raw a)] = some (dd, none))
    (hi : X.N[i]? = some n := by rfl) (hv : Vis X.env.scope n := by first | exact Or.inl rfl | exact Or.inr (Or.inl rfl) | exact Or.inr (Or.inr rfl)) (hg : Gl X x := by rfl) (hdb : (x == ("__debug__" : Str)) = false := by decide) (hd : (n == ("__debug__" : Str)) = false := by decide) (hcd : (n == ("__classdict__" : Str)) = false := by decide)
    (he : starEach [.Name n pn'] X.env = (false, eval (.Name n pn') X.env) :: starEach [] X.env := by rfl) (hpl : (backTo pos (starEach [] X.env)).any (·.1) = false := by rfl) :
    PSs (X.suite a ((a, oe) :: pn)) [.Return (some (.Call (.Name x p) [.Name n pn'] [] pos)) pos2] (tSu X.K X.mgx i f a cls d) := by
  obtain ⟨g, fd, hm, hkp, hb, Fn⟩ := kh.ex
  obtain ⟨z1, z2, z3⟩ := hz
  refine su_one (m := fun C => match f C with | some dd => mRet (mHot i a dd) | none => mNev) (fun C Ca e1 e2 hC hs => ?_) (fun C dd ρ h hat => ?_)
  · cases hf : f C with
    | none => rw [hf] at hs; cases hs
    | some dd =>
      have hot : L2H.Hot1 (X.suite a ((a, oe) :: pn)).A (a, oe) := ⟨rfl, let ⟨vs, hvs⟩ := h3; ⟨vs, hvs, z3 vs hvs⟩⟩
      have rh : L2H.RoomH (k + 1) (X.suite a ((a, oe) :: pn)).A := L2H.RoomH.mono (j := k + 1) (k := j) ⟨hr.dp, hr.un⟩ hk
      exact ss_ret (se_hot Fn S hb rh hot List.mem_cons_self (hw g a Ca C oe pn (hfe C dd hf) hC (z1.trans e1) (z2.trans e2) h3) (hgv a C dd hf) hm hkp hi hv hg hdb hd hcd he hpl)
  · simp only [h, mRet, mHot, hat, if_true]
end
theorem mIsR_at {a : Addr} {b : Bool} {r : Rho} : mIsR 0 a b (.d (.raw a) :: r) = some (.bl b, .d (.raw a) :: r) := by
  simp [mIsR]
end Z
/-! Small rules for defs that raise. -/
namespace Z
open PySem PySem.Spec PyProof.Rows L2
structure KnNm (K : PySem.W.Frag) (mg : Str → Option Value) (x : Str) : Prop where
  ex : ∃ f, mg x = some (.ref f) ∧ PySem.W.keepIn K (.ref f) = true
section
variable {X : Cx} {W : WX} {e : Expr} {es : List Expr} {p pos : Pos} {x : Str} {k : Nat} {g : Gf} {r : Rf} {r1 : MR} {m0 : MA} {sts : List Stmt}
theorem sb_nev : SB X sts mNev := pss_mk fun D σ H ⟨io, F, ρ, fl, ρ', r, hm, q⟩ => by cases hm
theorem se_fnX (c : KnX X.prog X.w X.K X.mgx X.base k x g r) (hg : Gl X x := by rfl) (hd : (x == ("__debug__" : Str)) = false := by decide) : SE X (.Name x pos) (mC (.fn x)) := by
  obtain ⟨f, fd, ps, hm, _⟩ := c.ex
  exact se_fnG hm hg hd
theorem xe_arg0 (c : KnNm X.K X.mg x) (h1 : XrE X W e r1) (ha : SA X es m0) (hg : Gl X x := by rfl) (hdb : (x == ("__debug__" : Str)) = false := by decide) (he : starEach (e :: es) X.env = (false, eval e X.env) :: starEach es X.env := by rfl) (hpl : (backTo pos (starEach es X.env)).any (·.1) = false := by rfl) :
    XrE X W (.Call (.Name x p) (e :: es) [] pos) r1 := by
  obtain ⟨f, hm, hk⟩ := c.ex
  constructor
  intro pins s σ H Q I h
  have hp := pa_cons h1 ha he
  refine wpAny_Call_Name_kw (ld_glob I hg hm ?_ hdb)
  refine PySem.W.callWith_K (h₀ := X.base) I.ok.mod.kin hk (thn (hp.run pos pins s σ H (fun _ _ => False) I h) ?_) he hpl
  rintro us s1 ⟨vs, H1, I1, rr, z⟩
  exact z.elim
end
/-! ### list(range(a, b)) -/
def mLstRg2 (m n : MO) : MN := fun ρ => match m ρ with
  | some (o, ρ1) => match n ρ1 with
    | some (o', ρ') => match res ρ' o, res ρ' o' with
      | some (.int i), some (.int j) => if 0 ≤ i ∧ i ≤ j ∧ j ≤ 1000 then some (rngL i (j - i).toNat, ρ') else none
      | _, _ => none
    | none => none
  | none => none
section
variable {X : Cx} {e e2 : Expr} {pos : Pos}
theorem sn_lstRg2 {p p2 pos2 : Pos} {m n : MO} (h : SO X e m) (h' : SO X e2 n) (hmt : X.mg "list" = none) (hmr : X.mg "range" = none) (hgt : Gl X "list" := by rfl) (hgr : Gl X "range" := by rfl) (na : starEach [e, e2] X.env = (false, eval e X.env) :: starEach [e2] X.env := by rfl) (nb : starEach [e2] X.env = (false, eval e2 X.env) :: starEach [] X.env := by rfl)
    (na2 : starEach [.Call (.Name "range" p2) [e, e2] [] pos2] X.env = (false, eval (.Call (.Name "range" p2) [e, e2] [] pos2) X.env) :: starEach [] X.env := by rfl) (hc : X.calm = true := by rfl) (hpl : (backTo pos2 (starEach [e2] X.env)).any (·.1) = false := by rfl) :
    SN X (.Call (.Name "list" p) [.Call (.Name "range" p2) [e, e2] [] pos2] [] pos) (mLstRg2 m n) := Z.pe_mk fun σ H Q ⟨io, F, ρ, d, ρ', r, hm, q⟩ => by
  refine ⟨_, pe_listRg hc hgt hmt (prg_2 hgr hmr h h' na nb hpl) na2, ?_⟩
  unfold mLstRg2 at hm
  split at hm <;> try cases hm
  rename_i o ρ1 h1
  split at hm <;> try cases hm
  rename_i o' ρ2 h2
  split at hm <;> try cases hm
  rename_i i j hi hj
  split at hm <;> cases hm
  rename_i hl
  refine ⟨io, F, ρ, o, ρ1, r, h1, fun v F1 H1 x1 r1 p1 => ⟨io, F1, ρ1, o', _, r1, h2, fun w F2 H2 x2 r2 p2 => ⟨i, j, (r2.res (p1.mono x2.sub) hi).int, (r2.res p2 hj).int, .of_le (by omega) (by omega) (by omega) (by omega), fun a ha => ?_⟩⟩⟩
  have x12 := x1.trans x2
  have hH : H a = none := x12.stay a ha
  have rg := rg_rep (K := X.K) (mg := X.mgx) (F := F2) i j
  exact q a _ F2 _ (x12.trans (ext_add ha)) (r2.addH ha) hH upd_same (r2.freeF ha) (r2.notOwn ha) rg
end
end Z
/-! Texts: walked, joined, split, searched, read by place; a suite that is one return. -/
namespace Z
open PySem PySem.Spec PyProof.Rows L2
def chsD (x : Str) : List D := x.cps.toList.map fun c => D.str ⟨#[c]⟩
theorem it_str {K : PySem.W.Frag} {mg : Mg} {F : Hp} {x : Str} : ItOk K mg F (Its x) (chsD x) := fun i F1 H1 s1 s2 => by
  have hl : (chsD x).length = x.cps.size := by unfold chsD; rw [List.length_map, Array.length_toList]
  refine ⟨fun d hd => ?_, fun e => by show x.cps.size ≤ i; omega⟩
  have hlt : i < (chsD x).length := (List.getElem?_eq_some_iff.mp hd).1
  refine ⟨by show i < x.cps.size; omega, fun v H2 y => ?_⟩
  obtain ⟨rfl, c, hc, rfl⟩ := y
  refine ⟨F1, .refl s2, ?_⟩
  unfold chsD at hd
  rw [List.getElem?_map, Array.getElem?_toList, hc] at hd
  cases hd
  simp only [Rep]
/-- a text -/
def mIS (m : ME) : MI := fun ρ => match m ρ with
  | some (.str x, ρ') => some (chsD x, ρ')
  | _ => none
section
variable {X : Cx} {tg e o : Expr} {pos apos : Pos}
theorem si_str {m : ME} (h : SE X e m) : SI X tg e (mIS m) := pi_mk fun σ H Q ⟨io, F, ρ, ds, ρ', r, hm, q⟩ => by
  refine ⟨_, pi_str h, ?_⟩
  unfold mIS at hm
  split at hm <;> cases hm
  rename_i x h1
  refine ⟨io, F, ρ, _, _, r, h1, fun v F1 H1 x1 r1 p1 => ?_⟩
  simp only [Rep] at p1
  subst p1
  exact ⟨x, rfl, q _ F1 H1 x1 r1 it_str⟩
/-! ### one sign of a text -/
def ixSD (x y : D) : Option D := match x, y with
  | .str z, .int i => if z.length ≤ LIM then (match atI z.cps.toList i with
    | some c => some (.str ⟨#[c]⟩)
    | none => none) else none
  | _, _ => none
theorem ix_strD : Ix2 X ixSD := by
  intro dx dy d h
  unfold ixSD at h
  split at h <;> try cases h
  rename_i z i
  split at h <;> try cases h
  rename_i hz
  split at h <;> cases h
  rename_i c hc
  exact ⟨_, ix_str, fun F H v w Q s p1 p2 q => ⟨z, i, c, p1.str, p2.int, Nat.le_trans hz lim_line, hc, q.str s⟩⟩
def inSD (neg : Bool) (x y : D) : Option D := match x, y with
  | .str a, .str z => match a.cps.toList with
    | [c] => some (.bl (xor neg (decide (c ∈ z.cps.toList))))
    | _ => none
  | _, _ => none
theorem one_sign {a : Str} {c : Nat} (h : a.cps.toList = [c]) : a = ⟨#[c]⟩ := by
  obtain ⟨l⟩ := a
  obtain ⟨l⟩ := l
  simp only at h
  subst h
  rfl
theorem o_inS : Op2 X (compareOp .In) (inSD false) := by
  intro dx dy d h
  unfold inSD at h
  split at h <;> try cases h
  rename_i a z
  split at h <;> cases h
  rename_i c hc
  rw [one_sign hc]
  exact ⟨_, op_in_sign, fun F H v w Q s p1 p2 q => ⟨c, z, p1.str, p2.str, by simpa only [Bool.false_xor] using q.bl s⟩⟩
/-! ### methods of a text with one argument -/
def mS1 (f : Str → D → Option D) (mo m : MO) : ME := fun ρ => match mo ρ with
  | some (oo, ρ1) => match res ρ1 oo with
    | some (.str a) => match m ρ1 with
      | some (o, ρ') => match res ρ' o with
        | some x => match f a x with
          | some d => some (d, ρ')
          | none => none
        | none => none
      | none => none
    | _ => none
  | none => none
def P1 (K : PySem.W.Frag) (mg : Mg) (r : V → List V → Hp → VK → Prop) (a : Str) (x d : D) : Prop := ∀ F H v Q, Same F H → RepP K mg F H x v → Post K mg F H Q d → r (.str a) [v] H Q
theorem se_s1 {f : Str → D → Option D} {id : String} {name : Str} {r : V → List V → Hp → VK → Prop} {mo m : MO} (slot : Slot "str" name id) (ty : typeOf (.builtin id) = pure (.type "method_descriptor")) (rule : MtR X id r) (hp : ∀ a x d, f a x = some d → P1 X.K X.mgx r a x d)
    (ho : SO X o mo) (h : SO X e m) (hs : starEach [e] X.env = [(false, eval e X.env)] := by rfl) (hbase : attributeBase o name X.env (eval o X.env) = eval o X.env := by rfl) (hline : (apos.endLine == pos.line) = true := by rfl) :
    SE X (.Call (.Attribute o name apos) [e] [] pos) (mS1 f mo m) := Z.pe_mk fun σ H Q ⟨io, F, ρ, d, ρ', r0, hm, q⟩ => by
  refine ⟨_, pe_m1 slot ty rule ho h hs hbase hline, ?_⟩
  unfold mS1 at hm
  split at hm <;> try cases hm
  rename_i oo ρ1 h1
  split at hm <;> try cases hm
  rename_i a ha
  split at hm <;> try cases hm
  rename_i od ρ2 h2
  split at hm <;> try cases hm
  rename_i x hx
  split at hm <;> cases hm
  rename_i hf
  refine ⟨io, F, ρ, oo, ρ1, r0, h1, fun v F1 H1 x1 r1 p1 => ?_⟩
  have ev := (r1.res p1 ha).str
  subst ev
  refine ⟨⟨a, rfl⟩, io, F1, ρ1, od, _, r1, h2, fun w F2 H2 x2 r2 p2 => ?_⟩
  exact hp a x _ hf F2 H2 w Q r2.sub (r2.res p2 hx) fun u F3 H3 gr rp => q u F3 H3 ((x1.trans x2).trans gr.ext) (r2.grow gr) rp
def joinD (a : Str) : D → Option D
  | .lst ds => match strsD ds with
    | some ys => if (ys.map (·.length)).sum + ys.length * a.length ≤ 16777216 then some (.str (Txt.join a ys)) else none
    | none => none
  | .tup ds => match strsD ds with
    | some ys => if (ys.map (·.length)).sum + ys.length * a.length ≤ 16777216 then some (.str (Txt.join a ys)) else none
    | none => none
  | _ => none
theorem se_join {mo m : MO} (ho : SO X o mo) (h : SO X e m) (hs : starEach [e] X.env = [(false, eval e X.env)] := by rfl) (hbase : attributeBase o "join" X.env (eval o X.env) = eval o X.env := by rfl) (hline : (apos.endLine == pos.line) = true := by rfl) :
    SE X (.Call (.Attribute o "join" apos) [e] [] pos) (mS1 joinD mo m) := se_s1 F.slot_str_join F.type_str_join mt_join (fun a x d hf F H v Q s p post => by
  unfold joinD at hf
  split at hf <;> try cases hf
  · split at hf <;> try cases hf
    rename_i ys hy
    split at hf <;> cases hf
    rename_i hl
    obtain ⟨b, vs, rfl, h1, r1⟩ := p.lst s
    have := r1.strs hy
    subst this
    exact ⟨a, b, ys, rfl, rfl, .inl (SqL.of h1), hl, post.str s⟩
  · split at hf <;> try cases hf
    rename_i ys hy
    split at hf <;> cases hf
    rename_i hl
    obtain ⟨b, vs, rfl, h1, r1⟩ := p.tup
    have := r1.strs hy
    subst this
    exact ⟨a, b, ys, rfl, rfl, .inr (Same.tup s h1), hl, post.str s⟩) ho h hs hbase hline
def splitD (a : Str) : D → Option D
  | .str b => if (b.length == 0) = false ∧ a.length + 2 ≤ LIM then some (.lst ((Txt.split a b).map D.str)) else none
  | _ => none
theorem se_split {mo m : MO} (ho : SO X o mo) (h : SO X e m) (hs : starEach [e] X.env = [(false, eval e X.env)] := by rfl) (hbase : attributeBase o "split" X.env (eval o X.env) = eval o X.env := by rfl) (hline : (apos.endLine == pos.line) = true := by rfl) :
    SE X (.Call (.Attribute o "split" apos) [e] [] pos) (mS1 splitD mo m) := se_s1 F.slot_str_split F.type_str_split mt_split (fun a x d hf F H v Q s p post => by
  unfold splitD at hf
  split at hf <;> try cases hf
  rename_i b
  split at hf <;> cases hf
  rename_i hl
  have := p.str
  subst this
  exact ⟨a, b, rfl, rfl, hl.1, Nat.le_trans hl.2 lim_line, fun q hq => post.newL s (rep_strs _) q hq⟩) ho h hs hbase hline
def findD (a : Str) : D → Option D
  | .str b => some (.int (Txt.find a b))
  | _ => none
theorem se_find {mo m : MO} (ho : SO X o mo) (h : SO X e m) (hs : starEach [e] X.env = [(false, eval e X.env)] := by rfl) (hbase : attributeBase o "find" X.env (eval o X.env) = eval o X.env := by rfl) (hline : (apos.endLine == pos.line) = true := by rfl) :
    SE X (.Call (.Attribute o "find" apos) [e] [] pos) (mS1 findD mo m) := se_s1 F.slot_str_find F.type_str_find mt_find (fun a x d hf F H v Q s p post => by
  unfold findD at hf
  split at hf <;> cases hf
  rename_i b
  have := p.str
  subst this
  exact ⟨a, b, rfl, rfl, post.int s⟩) ho h hs hbase hline
end
/-! ### the suite: return A if isinstance(n, T) else B -/
section
variable {X : Cx} {n T : Str} {ea eb : Expr} {p1 p2 p3 p4 p5 p6 : Pos} {i : Nat} {f : Str → Option D} {en tn : List Str} {A B : D}
theorem su_if {a : Addr} {oe : Obj} {cls : Value} {d : Option Addr} {pn : List (Addr × Obj)} (hz : L2N.Zn cls d oe) (h3 : ∃ vs, oe.data = .fields vs) (xf : XF X.K X.mgx en tn) (hfe : ∀ C d, f C = some d → C ∈ en) (hf : ∀ C dd, f C = some dd → dd = if C = T then A else B)
    (sa : SE (X.suite a ((a, oe) :: pn)) ea (mC A)) (sb : SE (X.suite a ((a, oe) :: pn)) eb (mC B)) (hm : X.mg "isinstance" = none) (hT : T ∈ tn := by decide)
    (hi : X.N[i]? = some n := by rfl) (hv : Vis X.env.scope n := by first | exact Or.inl rfl | exact Or.inr (Or.inl rfl) | exact Or.inr (Or.inr rfl)) (hg : Gl X "isinstance" := by rfl) (hgT : Gl X T := by rfl) (hd : (n == ("__debug__" : Str)) = false := by decide) (hcd : (n == ("__classdict__" : Str)) = false := by decide) (hTd : (T == ("__debug__" : Str)) = false := by decide)
    (hs1 : starEach [.Name n p3, .Name T p4] X.env = (false, eval (.Name n p3) X.env) :: starEach [.Name T p4] X.env := by rfl) (hs2 : starEach [.Name T p4] X.env = (false, eval (.Name T p4) X.env) :: starEach [] X.env := by rfl) (hpl : (backTo p1 (starEach [.Name T p4] X.env)).any (·.1) = false := by rfl) :
    PSs (X.suite a ((a, oe) :: pn)) [.Return (some (.IfExp (.Call (.Name "isinstance" p2) [.Name n p3, .Name T p4] [] p1) ea eb p5)) p6] (tSu X.K X.mgx i f a cls d) := by
  obtain ⟨z1, z2, z3⟩ := hz
  refine su_one (m := fun C => mRet (mIf (mTB (mIsR i a (decide (C = T)))) (mC A) (mC B))) (fun C Ca e1 e2 hC hs => ?_) (fun C dd ρ h hat => ?_)
  · have hin : C ∈ en := by
      cases hq : f C with
      | none => rw [hq] at hs; cases hs
      | some dd => exact hfe C dd hq
    exact ss_ret (se_if (st_e (se_isX (X := X.suite a ((a, oe) :: pn)) i xf hin hC List.mem_cons_self (z1.trans e1) (z2.trans e2) h3 hm hT hi hv hg hgT hd hcd hTd hs1 hs2 hpl)) sa sb)
  · have e := hf C dd h
    subst e
    have q : mIsR i a (decide (C = T)) ρ = some (.bl (decide (C = T)), ρ) := by
      unfold mIsR
      rw [hat]
      exact if_pos rfl
    have e2 : (if C = T then A else B) = match decide (C = T) with | true => A | false => B := by
      by_cases hc : C = T
      · rw [if_pos hc, decide_eq_true hc]
      · rw [if_neg hc, decide_eq_false hc]
    rw [e2]
    show mRet (mIf (mTB (mIsR i a (decide (C = T)))) (mC A) (mC B)) ρ = _
    generalize decide (C = T) = b at q
    cases b <;> simp only [mRet, mIf, mTB, q, mC]
end
end Z
namespace Z
open PySem PySem.Spec PyProof.Rows L2

def topS (i : Nat) : Stmt := PySem.Challenge.pw_rowcoders_k24_whole_texts.main.body.getD i (.Pass ⟨0, 0, 0, 0⟩)

abbrev EN : List Str := ["InvalidSize", "ParseError", "InvalidChain", "InvalidRow"]
abbrev TN : List Str := ["ParseError"]
def c_PLAIN_NAMES : D := (.tup [(.str ("delta" : Str)), (.str ("double" : Str)), (.str ("drops" : Str)), (.str ("front" : Str)), (.str ("halves" : Str)), (.str ("same" : Str)), (.str ("sums" : Str)), (.str ("twos" : Str)), (.str ("unfront" : Str))])
def c_FLAG_NAMES : D := (.tup [(.str ("flags0" : Str)), (.str ("flags1" : Str)), (.str ("flags2" : Str))])
def c_LONGEST_ROW : D := (.int 40)
def c_FIGURES : D := (.str ("012" : Str))
abbrev s__law_draw : Stmt := topS 30
abbrev n__law_draw : List Str := ["_law_script", "_law_town", "_law_many", "_law_one", "_law_at", "_law_mixed"]
def m__law_draw : MS := (mSeq (mIfS (mTB (mB (cmpI fun i j => decide (j < i)) (mVal (mB ixD (mSl 1) (mVal (mC (.int 1))))) (mVal (mC (.int 0))))) (mSeq (mSet 3 (mVe (mB modD (mVal (mB ixD (mSl 1) (mVal (mC (.int 1))))) (mSl 2)))) (mSeq (mSub 1 (mVal (mC (.int 1))) (mB fdivD (mVal (mB ixD (mSl 1) (mVal (mC (.int 1))))) (mSl 2))) (mSeq (mRet (mV 3)) (mFl .nx)))) (mFl .nx)) (mSeq (mSet 4 (mVe (mB ixD (mSl 1) (mVal (mC (.int 0)))))) (mSeq (mSubAug (fun i j => i + j) 1 (mVal (mC (.int 0))) (mC (.int 1))) (mSeq (mIfS (mTB (mB eqD (mSl 0) (mVal (mL (mDisp mA0))))) (mSeq (mRet (mB modD (mSl 4) (mSl 2))) (mFl .nx)) (mFl .nx)) (mSeq (mIfS (mAnd (mTB (mB (cmpI fun i j => decide (i < j)) (mSl 4) (mVal (mN lenD (mA1 (mSl 0) mA0))))) (mTB (mB (cmpI fun i j => decide (j ≤ i)) (mVal (mB ixD (mSl 0) (mSl 4))) (mVal (mB powD (mVal (mC (.int 10))) (mVal (mC (.int 18)))))))) (mSeq (mSub 1 (mVal (mC (.int 1))) (mB modD (mVal (mB fdivD (mVal (mB ixD (mSl 0) (mSl 4))) (mSl 2))) (mVal (mB mulD (mVal (mB powD (mVal (mC (.int 10))) (mVal (mC (.int 60))))) (mVal (mB powD (mVal (mC (.int 10))) (mVal (mC (.int 60))))))))) (mSeq (mRet (mB modD (mVal (mB ixD (mSl 0) (mSl 4))) (mSl 2))) (mFl .nx))) (mFl .nx)) (mSeq (mSet 5 (mVe (mB modD (mVal (mB addD (mVal (mB addD (mVal (mB mulD (mVal (mB ixD (mSl 0) (mVal (mB modD (mSl 4) (mVal (mN lenD (mA1 (mSl 0) mA0))))))) (mVal (mC (.int 1103515245))))) (mVal (mB mulD (mVal (mC (.int 7919))) (mSl 4))))) (mVal (mC (.int 12345))))) (mVal (mC (.int 2147483647)))))) (mSeq (mRet (mB modD (mVal (mB modD (mVal (mB modD (mVal (mB powD (mSl 5) (mVal (mC (.int 5))))) (mVal (mC (.int 2147483647))))) (mVal (mC (.int 999983))))) (mSl 2))) (mFl .nx))))))))
def g__law_draw : Gf := runD 3 3 m__law_draw
abbrev s__law_pick : Stmt := topS 31
abbrev n__law_pick : List Str := ["_law_script", "_law_town", "_law_some"]
def m__law_pick : MS := (mSeq (mRet (mB ixD (mSl 2) (mVal (mCall g__law_draw (mA1 (mVal (mV 0)) (mA1 (mSl 1) (mA1 (mVal (mN lenD (mA1 (mSl 2) mA0))) mA0))))))) (mFl .nx))
def g__law_pick : Gf := runD 3 0 m__law_pick
abbrev s__law_coders : Stmt := topS 32
abbrev n__law_coders : List Str := ["_law_k", "_law_words"]
def m__law_coders : MS := (mSeq (mSet 1 (mVn (mDisp (mA1 (mVal (mC (.str ("delta" : Str)))) (mA1 (mVal (mC (.str ("double" : Str)))) (mA1 (mVal (mC (.str ("drops" : Str)))) (mA1 (mVal (mC (.str ("flags0" : Str)))) (mA1 (mVal (mC (.str ("flags1" : Str)))) (mA1 (mVal (mC (.str ("front" : Str)))) (mA1 (mVal (mC (.str ("halves" : Str)))) (mA1 (mVal (mC (.str ("same" : Str)))) (mA1 (mVal (mC (.str ("sums" : Str)))) mA0)))))))))))) (mSeq (mExt 1 (mVal (mL (mDisp (mA1 (mVal (mC (.str ("twos" : Str)))) (mA1 (mVal (mC (.str ("unfront" : Str)))) mA0)))))) (mSeq (mRet (mN sortD (mA1 (mVal (mB addD (mSl 1) (mVal (mSlice (mVal (mL (mDisp (mA1 (mVal (mC (.str ("flags2" : Str)))) mA0)))) mP0 (mP1 (mVal (mB subD (mSl 0) (mVal (mC (.int 2)))))))))) mA0))) (mFl .nx))))
def g__law_coders : Gf := runD 1 1 m__law_coders
abbrev s__law_chain : Stmt := topS 33
abbrev n__law_chain : List Str := ["_law_script", "_law_town", "_law_k", "_law_some", "_law_turn"]
def m__law_chain : MS := (mSeq (mSet 3 (mVn (mLc (mIR1 (mVal (mB addD (mVal (mC (.int 1))) (mVal (mCall g__law_draw (mA1 (mVal (mV 0)) (mA1 (mSl 1) (mA1 (mVal (mC (.int 2))) mA0)))))))) [4] (gN 4) mYes (mCall g__law_pick (mA1 (mVal (mV 0)) (mA1 (mSl 1) (mA1 (mVal (mCall g__law_coders (mA1 (mVal (mV 2)) mA0))) mA0))))))) (mSeq (mRet (mN tupleD (mA1 (mSl 3) mA0))) (mFl .nx)))
def g__law_chain : Gf := runD 3 2 m__law_chain
abbrev s__law_row : Stmt := topS 34
abbrev n__law_row : List Str := ["_law_script", "_law_town", "_law_k", "_law_most", "_law_row_here", "_law_last", "_law_turn"]
def m__law_row : MS := (mSeq (mPar 4 5 (mVn (mDisp mA0)) (mVe (mC (.int 0)))) (mSeq (mFor (mIR1 (mVal (mCall g__law_draw (mA1 (mVal (mV 0)) (mA1 (mSl 1) (mA1 (mVal (mB addD (mSl 3) (mVal (mC (.int 1))))) mA0)))))) (gN 6) (mSeq (mSet 5 (mVe (mIf (mAnd (mTB (mB neD (mSl 4) (mVal (mL (mDisp mA0))))) (mTB (mB eqD (mVal (mCall g__law_draw (mA1 (mVal (mV 0)) (mA1 (mSl 1) (mA1 (mVal (mC (.int 2))) mA0))))) (mVal (mC (.int 0)))))) (mV 5) (mCall g__law_draw (mA1 (mVal (mV 0)) (mA1 (mSl 1) (mA1 (mVal (mV 2)) mA0))))))) (mSeq (mApp 4 (mV 5)) (mFl .nx)))) (mSeq (mRet (mV 4)) (mFl .nx))))
def g__law_row : Gf := runD 4 3 m__law_row
abbrev s_is_integer : Stmt := topS 12
abbrev n_is_integer : List Str := ["value"]
def m_is_integer : MS := (mSeq (mRet (mAndV (mIsi .int (mSl 0)) (mNotV (mIsi .bool (mSl 0))))) (mFl .nx))
def g_is_integer : Gf := runD 1 0 m_is_integer
abbrev s_check_size : Stmt := topS 17
abbrev n_check_size : List Str := ["k"]
def m_check_size : MS := (mSeq (mIfS (mOr (mNot (mTB (mCall g_is_integer (mA1 (mVal (mV 0)) mA0)))) (mTB (mB (inD true) (mSl 0) (mVal (mTup (mA1 (mVal (mC (.int 2))) (mA1 (mVal (mC (.int 3))) mA0))))))) (mSeq mNev (mFl .nx)) (mFl .nx)) (mFl .nx))
def g_check_size : Gf := runD 1 0 m_check_size
def rm_check_size : MR := (rSeq (rIf (mOr (mNot (mTB (mCall g_is_integer (mA1 (mVal (mV 0)) mA0)))) (mTB (mB (inD true) (mSl 0) (mVal (mTup (mA1 (mVal (mC (.int 2))) (mA1 (mVal (mC (.int 3))) mA0))))))) (rSeq (rRz ("InvalidSize" : Str) (mC (.str ("k must be 2 or 3" : Str)))) mNev rNev) rNev) mNev rNev)
def r_check_size : Rf := runR 1 0 rm_check_size
abbrev s__check_string : Stmt := topS 26
abbrev n__check_string : List Str := ["text"]
def m__check_string : MS := (mSeq (mIfS (mNot (mTB (mIsi .str (mSl 0)))) (mSeq mNev (mFl .nx)) (mFl .nx)) (mFl .nx))
def g__check_string : Gf := runD 1 0 m__check_string
def rm__check_string : MR := (rSeq (rIf (mNot (mTB (mIsi .str (mSl 0)))) (rSeq (rRz ("ParseError" : Str) (mC (.str ("a text is a string" : Str)))) mNev rNev) rNev) mNev rNev)
def r__check_string : Rf := runR 1 0 rm__check_string
abbrev s_is_sign : Stmt := topS 13
abbrev n_is_sign : List Str := ["k", "value"]
def m_is_sign : MS := (mSeq (mRet (mAndV (mCall g_is_integer (mA1 (mVal (mV 1)) mA0)) (mChain (cmpI fun i j => decide (i ≤ j)) (cmpI fun i j => decide (i < j)) (mVal (mC (.int 0))) (mSl 1) (mSl 0)))) (mFl .nx))
def g_is_sign : Gf := runD 2 0 m_is_sign
abbrev s__are_signs : Stmt := topS 15
abbrev n__are_signs : List Str := ["k", "values", "value"]
def m__are_signs : MS := (mSeq (mRet (mN allD (mA1 (mVal (mL (mLc (mIL (mV 1)) [2] (gN 2) mYes (mCall g_is_sign (mA1 (mVal (mV 0)) (mA1 (mVal (mV 2)) mA0)))))) mA0))) (mFl .nx))
def g__are_signs : Gf := runD 2 1 m__are_signs
abbrev s_is_list_of_signs : Stmt := topS 14
abbrev n_is_list_of_signs : List Str := ["k", "candidate", "longest"]
def m_is_list_of_signs : MS := (mSeq (mRet (mAndV (mIsi .list (mSl 1)) (mAndV (mB (cmpI fun i j => decide (i ≤ j)) (mVal (mN lenD (mA1 (mSl 1) mA0))) (mSl 2)) (mCall g__are_signs (mA1 (mVal (mV 0)) (mA1 (mVal (mV 1)) mA0)))))) (mFl .nx))
def g_is_list_of_signs : Gf := runD 3 0 m_is_list_of_signs
abbrev s_parse_row : Stmt := topS 23
abbrev n_parse_row : List Str := ["k", "text", "row", "figure"]
def m_parse_row : MS := (mSeq (mX (mCall g_check_size (mA1 (mVal (mV 0)) mA0))) (mSeq (mX (mCall g__check_string (mA1 (mVal (mV 1)) mA0))) (mSeq (mSet 2 (mVn (mLc (mIS (mV 1)) [3] (gN 3) mYes (mS1 findD (mVal (mC c_FIGURES)) (mSl 3))))) (mSeq (mIfS (mNot (mTB (mCall g_is_list_of_signs (mA1 (mVal (mV 0)) (mA1 (mVal (mV 2)) (mA1 (mVal (mC c_LONGEST_ROW)) mA0)))))) (mSeq mNev (mFl .nx)) (mFl .nx)) (mSeq (mRet (mV 2)) (mFl .nx))))))
def g_parse_row : Gf := runD 2 2 m_parse_row
def rm_parse_row : MR := (rSeq (rCall r_check_size (mA1 (mVal (mV 0)) mA0)) (mX (mCall g_check_size (mA1 (mVal (mV 0)) mA0))) (rSeq (rCall r__check_string (mA1 (mVal (mV 1)) mA0)) (mX (mCall g__check_string (mA1 (mVal (mV 1)) mA0))) (rSeq rNev (mSet 2 (mVn (mLc (mIS (mV 1)) [3] (gN 3) mYes (mS1 findD (mVal (mC c_FIGURES)) (mSl 3))))) (rSeq (rIf (mNot (mTB (mCall g_is_list_of_signs (mA1 (mVal (mV 0)) (mA1 (mVal (mV 2)) (mA1 (mVal (mC c_LONGEST_ROW)) mA0)))))) (rSeq (rRz ("ParseError" : Str) (mC (.str ("no row has this text" : Str)))) mNev rNev) rNev) mNev rNev))))
def r_parse_row : Rf := runR 2 2 rm_parse_row
abbrev s_coder_names : Stmt := topS 9
abbrev n_coder_names : List Str := ["k"]
def m_coder_names : MS := (mSeq (mRet (mN sortD (mA1 (mVal (mL (mDisp (mAS (mC c_PLAIN_NAMES) (mAS (mSlice (mVal (mC c_FLAG_NAMES)) mP0 (mP1 (mSl 0))) mA0))))) mA0))) (mFl .nx))
def g_coder_names : Gf := runD 1 0 m_coder_names
abbrev s_is_tuple_of_coders : Stmt := topS 16
abbrev n_is_tuple_of_coders : List Str := ["k", "candidate", "names", "value"]
def m_is_tuple_of_coders : MS := (mSeq (mIfS (mOr (mNot (mTB (mIsi .tuple (mSl 1)))) (mTB (mB (inD true) (mVal (mN lenD (mA1 (mSl 1) mA0))) (mVal (mTup (mA1 (mVal (mC (.int 1))) (mA1 (mVal (mC (.int 2))) mA0))))))) (mSeq (mRet (mC (.bl false))) (mFl .nx)) (mFl .nx)) (mSeq (mSet 2 (mVe (mCall g_coder_names (mA1 (mVal (mV 0)) mA0)))) (mSeq (mRet (mN allD (mA1 (mVal (mL (mLc (mIT (mV 1)) [3] (gN 3) mYes (mAndV (mIsi .str (mSl 3)) (mB (inD false) (mSl 3) (mSl 2)))))) mA0))) (mFl .nx))))
def g_is_tuple_of_coders : Gf := runD 2 2 m_is_tuple_of_coders
abbrev s_parse_chain : Stmt := topS 25
abbrev n_parse_chain : List Str := ["k", "text", "chain"]
def m_parse_chain : MS := (mSeq (mX (mCall g_check_size (mA1 (mVal (mV 0)) mA0))) (mSeq (mX (mCall g__check_string (mA1 (mVal (mV 1)) mA0))) (mSeq (mSet 2 (mVe (mN tupleD (mA1 (mVal (mS1 splitD (mSl 1) (mVal (mC (.str ("|" : Str)))))) mA0)))) (mSeq (mIfS (mNot (mTB (mCall g_is_tuple_of_coders (mA1 (mVal (mV 0)) (mA1 (mVal (mV 2)) mA0))))) (mSeq mNev (mFl .nx)) (mFl .nx)) (mSeq (mRet (mV 2)) (mFl .nx))))))
def g_parse_chain : Gf := runD 2 1 m_parse_chain
def rm_parse_chain : MR := (rSeq (rCall r_check_size (mA1 (mVal (mV 0)) mA0)) (mX (mCall g_check_size (mA1 (mVal (mV 0)) mA0))) (rSeq (rCall r__check_string (mA1 (mVal (mV 1)) mA0)) (mX (mCall g__check_string (mA1 (mVal (mV 1)) mA0))) (rSeq rNev (mSet 2 (mVe (mN tupleD (mA1 (mVal (mS1 splitD (mSl 1) (mVal (mC (.str ("|" : Str)))))) mA0)))) (rSeq (rIf (mNot (mTB (mCall g_is_tuple_of_coders (mA1 (mVal (mV 0)) (mA1 (mVal (mV 2)) mA0))))) (rSeq (rRz ("ParseError" : Str) (mC (.str ("no chain has this text" : Str)))) mNev rNev) rNev) mNev rNev))))
def r_parse_chain : Rf := runR 2 1 rm_parse_chain
def f__law_read : Str → Option D := fun C => if C = ("InvalidSize" : Str) then some (.int 0) else if C = ("ParseError" : Str) then some .non else if C = ("InvalidChain" : Str) then some (.int 0) else if C = ("InvalidRow" : Str) then some (.int 0) else none
abbrev s__law_read : Stmt := topS 35
abbrev n__law_read : List Str := ["_law_k", "_law_text", "_law_as_row", "error"]
def m__law_read : MS := (mSeq (mTryK 3 (mSeq (mRet (mIf (mTB (mV 2)) (mCall g_parse_row (mA1 (mVal (mV 0)) (mA1 (mVal (mV 1)) mA0))) (mCall g_parse_chain (mA1 (mVal (mV 0)) (mA1 (mVal (mV 1)) mA0))))) (mFl .nx)) (rSeq (rIf (mTB (mV 2)) (rCall r_parse_row (mA1 (mVal (mV 0)) (mA1 (mVal (mV 1)) mA0))) (rCall r_parse_chain (mA1 (mVal (mV 0)) (mA1 (mVal (mV 1)) mA0)))) mNev rNev) f__law_read) (mFl .nx))
def g__law_read : Gf := runD 3 1 m__law_read
abbrev s_check_chain : Stmt := topS 18
abbrev n_check_chain : List Str := ["k", "chain"]
def m_check_chain : MS := (mSeq (mIfS (mNot (mTB (mCall g_is_tuple_of_coders (mA1 (mVal (mV 0)) (mA1 (mVal (mV 1)) mA0))))) (mSeq mNev (mFl .nx)) (mFl .nx)) (mFl .nx))
def g_check_chain : Gf := runD 2 0 m_check_chain
def rm_check_chain : MR := (rSeq (rIf (mNot (mTB (mCall g_is_tuple_of_coders (mA1 (mVal (mV 0)) (mA1 (mVal (mV 1)) mA0))))) (rSeq (rRz ("InvalidChain" : Str) (mC (.str ("a chain is a tuple of one or two coders" : Str)))) mNev rNev) rNev) mNev rNev)
def r_check_chain : Rf := runR 2 0 rm_check_chain
abbrev s_format_chain : Stmt := topS 24
abbrev n_format_chain : List Str := ["k", "chain"]
def m_format_chain : MS := (mSeq (mX (mCall g_check_size (mA1 (mVal (mV 0)) mA0))) (mSeq (mX (mCall g_check_chain (mA1 (mVal (mV 0)) (mA1 (mVal (mV 1)) mA0)))) (mSeq (mRet (mS1 joinD (mVal (mC (.str ("|" : Str)))) (mSl 1))) (mFl .nx))))
def g_format_chain : Gf := runD 2 0 m_format_chain
def rm_format_chain : MR := (rSeq (rCall r_check_size (mA1 (mVal (mV 0)) mA0)) (mX (mCall g_check_size (mA1 (mVal (mV 0)) mA0))) (rSeq (rCall r_check_chain (mA1 (mVal (mV 0)) (mA1 (mVal (mV 1)) mA0))) mNev rNev))
def r_format_chain : Rf := runR 2 0 rm_format_chain
abbrev s_check_row : Stmt := topS 19
abbrev n_check_row : List Str := ["k", "row", "longest"]
def m_check_row : MS := (mSeq (mIfS (mNot (mTB (mCall g_is_list_of_signs (mA1 (mVal (mV 0)) (mA1 (mVal (mV 1)) (mA1 (mVal (mV 2)) mA0)))))) (mSeq mNev (mFl .nx)) (mFl .nx)) (mFl .nx))
def g_check_row : Gf := runD 3 0 m_check_row
def rm_check_row : MR := (rSeq (rIf (mNot (mTB (mCall g_is_list_of_signs (mA1 (mVal (mV 0)) (mA1 (mVal (mV 1)) (mA1 (mVal (mV 2)) mA0)))))) (rSeq (rRz ("InvalidRow" : Str) (mFmt ("the row is no list of at most " : Str) (" signs" : Str) (mSl 2))) mNev rNev) rNev) mNev rNev)
def r_check_row : Rf := runR 3 0 rm_check_row
abbrev s_format_row : Stmt := topS 22
abbrev n_format_row : List Str := ["k", "row", "sign"]
def m_format_row : MS := (mSeq (mX (mCall g_check_size (mA1 (mVal (mV 0)) mA0))) (mSeq (mX (mCall g_check_row (mDf [40] (mA1 (mVal (mV 0)) (mA1 (mVal (mV 1)) mA0))))) (mSeq (mRet (mS1 joinD (mVal (mC (.str ("" : Str)))) (mVal (mL (mLc (mIL (mV 1)) [2] (gN 2) mYes (mB ixSD (mVal (mC c_FIGURES)) (mSl 2))))))) (mFl .nx))))
def g_format_row : Gf := runD 2 1 m_format_row
def rm_format_row : MR := (rSeq (rCall r_check_size (mA1 (mVal (mV 0)) mA0)) (mX (mCall g_check_size (mA1 (mVal (mV 0)) mA0))) (rSeq (rCall r_check_row (mDf [40] (mA1 (mVal (mV 0)) (mA1 (mVal (mV 1)) mA0)))) mNev rNev))
def r_format_row : Rf := runR 2 1 rm_format_row
abbrev s_is_chain : Stmt := topS 28
abbrev n_is_chain : List Str := ["k", "candidate"]
def m_is_chain : MS := (mSeq (mX (mCall g_check_size (mA1 (mVal (mV 0)) mA0))) (mSeq (mRet (mCall g_is_tuple_of_coders (mA1 (mVal (mV 0)) (mA1 (mVal (mV 1)) mA0)))) (mFl .nx)))
def g_is_chain : Gf := runD 2 0 m_is_chain
def rm_is_chain : MR := (rSeq (rCall r_check_size (mA1 (mVal (mV 0)) mA0)) mNev rNev)
def r_is_chain : Rf := runR 2 0 rm_is_chain
abbrev s_law : Stmt := topS 36
abbrev n_law : List Str := ["_law_script", "_law_town", "_law_k", "_law_chain_here", "_law_row_here", "_law_text", "_law_line", "_law_sign", "_law_turn", "_law_at", "_law_new", "_law_due", "_law_good", "_law_char"]
def m_law : MS := (mSeq (mSet 1 (mVn (mDisp (mA1 (mVal (mC (.int 0))) (mA1 (mVal (mC (.int 0))) mA0))))) (mSeq (mSet 2 (mVe (mB addD (mVal (mC (.int 2))) (mVal (mCall g__law_draw (mA1 (mVal (mV 0)) (mA1 (mSl 1) (mA1 (mVal (mC (.int 2))) mA0)))))))) (mSeq (mPar 3 4 (mVe (mCall g__law_chain (mA1 (mVal (mV 0)) (mA1 (mSl 1) (mA1 (mVal (mV 2)) mA0))))) (mVe (mCall g__law_row (mA1 (mVal (mV 0)) (mA1 (mSl 1) (mA1 (mVal (mV 2)) (mA1 (mVal (mC (.int 40))) mA0))))))) (mSeq (mPar 5 6 (mVe (mS1 joinD (mVal (mC (.str ("|" : Str)))) (mSl 3))) (mVe (mS1 joinD (mVal (mC (.str ("" : Str)))) (mVal (mL (mLc (mIL (mV 4)) [7] (gN 7) mYes (mN strD (mA1 (mSl 7) mA0)))))))) (mSeq (mIfS (mOr (mTB (mB neD (mVal (mCall g_format_chain (mA1 (mVal (mV 2)) (mA1 (mVal (mV 3)) mA0)))) (mSl 5))) (mTB (mB neD (mVal (mCall g_parse_chain (mA1 (mVal (mV 2)) (mA1 (mVal (mV 5)) mA0)))) (mSl 3)))) (mSeq (mRet (mC (.bl false))) (mFl .nx)) (mFl .nx)) (mSeq (mIfS (mOr (mTB (mB neD (mVal (mCall g_format_row (mA1 (mVal (mV 2)) (mA1 (mVal (mV 4)) mA0)))) (mSl 6))) (mTB (mB neD (mVal (mCall g_parse_row (mA1 (mVal (mV 2)) (mA1 (mVal (mV 6)) mA0)))) (mSl 4)))) (mSeq (mRet (mC (.bl false))) (mFl .nx)) (mFl .nx)) (mSeq (mFor (mIR1 (mVal (mC (.int 6)))) (gN 8) (mSeq (mPar 9 7 (mVe (mCall g__law_draw (mA1 (mVal (mV 0)) (mA1 (mSl 1) (mA1 (mVal (mB addD (mVal (mN lenD (mA1 (mSl 5) mA0))) (mVal (mC (.int 1))))) mA0))))) (mVe (mCall g__law_pick (mA1 (mVal (mV 0)) (mA1 (mSl 1) (mA1 (mVal (mL (mDisp (mA1 (mVal (mC (.str ("" : Str)))) (mA1 (mVal (mC (.str ("|" : Str)))) (mA1 (mVal (mC (.str ("|same" : Str)))) (mA1 (mVal (mC (.str ("0" : Str)))) (mA1 (mVal (mC (.str ("s" : Str)))) (mA1 (mVal (mC (.str (" " : Str)))) mA0))))))))) mA0)))))) (mSeq (mSet 10 (mVe (mB addD (mVal (mB addD (mVal (mSliceS (mSl 5) mP0 (mP1 (mSl 9)))) (mSl 7))) (mVal (mSliceS (mSl 5) (mP1 (mVal (mB addD (mSl 9) (mVal (mCall g__law_draw (mA1 (mVal (mV 0)) (mA1 (mSl 1) (mA1 (mVal (mC (.int 2))) mA0)))))))) mP0))))) (mSeq (mSet 11 (mVe (mN tupleD (mA1 (mVal (mS1 splitD (mSl 10) (mVal (mC (.str ("|" : Str)))))) mA0)))) (mSeq (mIfS (mTB (mB neD (mVal (mCall g__law_read (mA1 (mVal (mV 2)) (mA1 (mVal (mV 10)) (mA1 (mVal (mC (.bl false))) mA0))))) (mVal (mIf (mTB (mCall g_is_chain (mA1 (mVal (mV 2)) (mA1 (mVal (mV 11)) mA0)))) (mV 11) (mC .non))))) (mSeq (mRet (mC (.bl false))) (mFl .nx)) (mFl .nx)) (mFl .nx)))))) (mSeq (mSet 9 (mVe (mCall g__law_draw (mA1 (mVal (mV 0)) (mA1 (mSl 1) (mA1 (mVal (mB addD (mVal (mN lenD (mA1 (mSl 6) mA0))) (mVal (mC (.int 1))))) mA0)))))) (mSeq (mSet 10 (mVe (mB addD (mVal (mB addD (mVal (mSliceS (mSl 6) mP0 (mP1 (mSl 9)))) (mVal (mCall g__law_pick (mA1 (mVal (mV 0)) (mA1 (mSl 1) (mA1 (mVal (mL (mDisp (mA1 (mVal (mC (.str ("" : Str)))) (mA1 (mVal (mC (.str ("0" : Str)))) (mA1 (mVal (mC (.str ("2" : Str)))) (mA1 (mVal (mC (.str (" " : Str)))) (mA1 (mVal (mC (.str ("-" : Str)))) mA0)))))))) mA0))))))) (mVal (mSliceS (mSl 6) (mP1 (mVal (mB addD (mSl 9) (mVal (mC (.int 1)))))) mP0))))) (mSeq (mSet 12 (mVe (mAndV (mN allD (mA1 (mVal (mL (mLc (mIS (mV 10)) [13] (gN 13) mYes (mB (inSD false) (mSl 13) (mVal (mSliceS (mVal (mC (.str ("012" : Str)))) mP0 (mP1 (mSl 2)))))))) mA0)) (mB (cmpI fun i j => decide (i < j)) (mVal (mN lenD (mA1 (mSl 10) mA0))) (mVal (mC (.int 41))))))) (mSeq (mRet (mB eqD (mVal (mCall g__law_read (mA1 (mVal (mV 2)) (mA1 (mVal (mV 10)) (mA1 (mVal (mC (.bl true))) mA0))))) (mVal (mIf (mTB (mV 12)) (mL (mLc (mIS (mV 10)) [13] (gN 13) mYes (mN intD (mA1 (mSl 13) mA0)))) (mC .non))))) (mFl .nx))))))))))))
def g_law : Gf := runD 1 13 m_law
end Z
namespace Z
open PySem PySem.Spec PyProof.Rows L2

/-! ### equality of data -/
mutual
def D.beq : D → D → Bool
  | .non, .non => true
  | .bl a, .bl b => a == b
  | .int a, .int b => a == b
  | .str a, .str b => a == b
  | .fn a, .fn b => a == b
  | .scr a, .scr b => a == b
  | .lst a, .lst b => D.beqs a b
  | .tup a, .tup b => D.beqs a b
  | .prs a, .prs b => D.beqs a b
  | _, _ => false
def D.beqs : List D → List D → Bool
  | [], [] => true
  | a :: r, b :: t => D.beq a b && D.beqs r t
  | _, _ => false
end
mutual
theorem D.of_beq : ∀ {a b : D}, D.beq a b = true → a = b
  | .non, b, h => by cases b <;> simp [D.beq] at h <;> rfl
  | .bl a, b, h => by cases b <;> simp [D.beq] at h <;> rw [h]
  | .int a, b, h => by cases b <;> simp [D.beq] at h <;> rw [h]
  | .str a, b, h => by cases b <;> simp [D.beq] at h <;> rw [h]
  | .fn a, b, h => by cases b <;> simp [D.beq] at h <;> rw [h]
  | .scr a, b, h => by cases b <;> simp [D.beq] at h <;> rw [h]
  | .lst a, b, h => by cases b <;> simp [D.beq] at h <;> rw [D.of_beqs h]
  | .tup a, b, h => by cases b <;> simp [D.beq] at h <;> rw [D.of_beqs h]
  | .prs a, b, h => by cases b <;> simp [D.beq] at h <;> rw [D.of_beqs h]
theorem D.of_beqs : ∀ {a b : List D}, D.beqs a b = true → a = b
  | [], b, h => by cases b <;> simp [D.beqs] at h <;> rfl
  | a :: r, b, h => by
    cases b with
    | nil => simp [D.beqs] at h
    | cons b t =>
      simp only [D.beqs, Bool.and_eq_true] at h
      rw [D.of_beq h.1, D.of_beqs h.2]
end
/-- a def gives this value and changes nothing -/
def isV (r : Option (D × Option Cell)) (d : D) : Bool := match r with
  | some (x, none) => D.beq x d
  | _ => false
theorem of_isV {r : Option (D × Option Cell)} {d : D} (h : isV r d = true) : r = some (d, none) := by
  unfold isV at h
  split at h
  · rename_i x
    rw [D.of_beq h]
  · cases h

/-! ### coders, states, steps -/
inductive Co where
  | delta | double | drops | flags0 | flags1 | flags2 | front | halves | same | sums | twos | unfront
  deriving DecidableEq
def Co.nm : Co → Str
  | .delta => "delta" | .double => "double" | .drops => "drops" | .flags0 => "flags0" | .flags1 => "flags1" | .flags2 => "flags2" | .front => "front" | .halves => "halves" | .same => "same" | .sums => "sums" | .twos => "twos" | .unfront => "unfront"
def Co.fnm : Co → Str
  | .delta => "step_delta" | .double => "step_double" | .drops => "step_drops" | .flags0 => "step_flags" | .flags1 => "step_flags" | .flags2 => "step_flags" | .front => "step_front" | .halves => "step_halves" | .same => "step_same" | .sums => "step_sums" | .twos => "step_twos" | .unfront => "step_unfront"
def Co.flagOf : Co → Int
  | .flags0 => 0 | .flags1 => 1 | _ => 2
abbrev Sta := List (Option Int)
def eo : Option Int → D
  | none => .non
  | some i => .int i
def enc (s : Sta) : D := .tup (s.map eo)
abbrev L (xs : List Int) : D := .lst (xs.map D.int)
/-- the coders for k -/
def cosk (k : Int) : List Co := [.delta, .double, .drops, .flags0, .flags1] ++ (if k = 3 then [.flags2] else []) ++ [.front, .halves, .same, .sums, .twos, .unfront]
def start0 (k : Int) : Co → Sta
  | .front => if k = 3 then [some 0, some 1, some 2] else [some 0, some 1]
  | .unfront => if k = 3 then [some 0, some 1, some 2] else [some 0, some 1]
  | .flags0 => [some 0, none] | .flags1 => [some 1, none] | .flags2 => [some 2, none]
  | .twos => [none, none]
  | .drops => [none]
  | .delta => [some 0] | .sums => [some 0] | .halves => [some 0]
  | .same => [] | .double => []
def mvb (s : Sta) (at_ : Nat) : Sta := match s[at_]? with
  | some x => x :: s.eraseIdx at_
  | none => s
def stp (k : Int) : Co → Sta → Int → Sta × List Int
  | .same, s, x => (s, [x])
  | .double, s, x => (s, [x, x])
  | .halves, s, x => if s = [some 0] then ([some 1], [x]) else ([some 0], [])
  | .drops, s, x => if s = [some x] then (s, []) else ([some x], [x])
  | .delta, [some p], x => ([some x], [(x - p) % k])
  | .sums, [some p], x => ([some ((p + x) % k)], [(p + x) % k])
  | .front, s, x => (mvb s (s.idxOf (some x)), [(s.idxOf (some x) : Nat)])
  | .unfront, s, x => match s[x.toNat]? with
    | some (some y) => (mvb s x.toNat, [y])
    | _ => (s, [])
  | .twos, [b, none], x => if b = some x then ([some x, some 0], [x]) else ([some x, none], [x])
  | .twos, [b, some c], x => if b ≠ some x then ([some x, none], [c, x]) else if c + 1 = k - 1 then ([none, none], [c + 1]) else ([b, some (c + 1)], [])
  | .flags0, [f, none], x => if f = some x then ([f, some 0], [x]) else ([f, none], [x])
  | .flags0, [f, some c], x => if f ≠ some x then ([f, none], [c, x]) else if c + 1 = k - 1 then ([f, none], [c + 1]) else ([f, some (c + 1)], [])
  | .flags1, [f, none], x => if f = some x then ([f, some 0], [x]) else ([f, none], [x])
  | .flags1, [f, some c], x => if f ≠ some x then ([f, none], [c, x]) else if c + 1 = k - 1 then ([f, none], [c + 1]) else ([f, some (c + 1)], [])
  | .flags2, [f, none], x => if f = some x then ([f, some 0], [x]) else ([f, none], [x])
  | .flags2, [f, some c], x => if f ≠ some x then ([f, none], [c, x]) else if c + 1 = k - 1 then ([f, none], [c + 1]) else ([f, some (c + 1)], [])
  | _, s, _ => (s, [])
def sgs (k : Int) : List Int := if k = 3 then [0, 1, 2] else [0, 1]
/-- all states -/
def reach (k : Int) : Co → List Sta
  | .same => [[]] | .double => [[]]
  | .halves => [[some 0], [some 1]]
  | .drops => [none] :: (sgs k).map fun x => [some x]
  | .delta => (sgs k).map fun x => [some x]
  | .sums => (sgs k).map fun x => [some x]
  | .front => if k = 3 then [[some 0, some 1, some 2], [some 0, some 2, some 1], [some 1, some 0, some 2], [some 1, some 2, some 0], [some 2, some 0, some 1], [some 2, some 1, some 0]] else [[some 0, some 1], [some 1, some 0]]
  | .unfront => if k = 3 then [[some 0, some 1, some 2], [some 0, some 2, some 1], [some 1, some 0, some 2], [some 1, some 2, some 0], [some 2, some 0, some 1], [some 2, some 1, some 0]] else [[some 0, some 1], [some 1, some 0]]
  | .twos => [none, none] :: ((sgs k).map fun x => [some x, none]) ++ ((sgs k).map fun x => [some x, some 0]) ++ (if k = 3 then (sgs k).map fun x => [some x, some 1] else [])
  | c => [[some c.flagOf, none], [some c.flagOf, some 0]] ++ (if k = 3 then [[some c.flagOf, some 1]] else [])
def allSt (k : Int) (p : Co → Sta → Int → Bool) : Bool := (cosk k).all fun c => (reach k c).all fun s => (sgs k).all fun x => p c s x
theorem allSt_of {k : Int} {p : Co → Sta → Int → Bool} (h : allSt k p = true) {c : Co} {s : Sta} {x : Int} (hc : c ∈ cosk k) (hs : s ∈ reach k c) (hx : x ∈ sgs k) : p c s x = true :=
  List.all_eq_true.mp (List.all_eq_true.mp (List.all_eq_true.mp h c hc) s hs) x hx
def K23 (k : Int) : Prop := k = 2 ∨ k = 3
end Z
namespace Z
open PySem PySem.Spec PyProof.Rows L2
theorem ni_d {x : D} : notIo (.d x) = true := rfl
theorem ni_un : notIo .un = true := rfl
theorem ni_own {c : Cell} : notIo (.own c) = true := rfl
theorem ca_d {x : D} : Sl.cell? (.d x) = none := rfl
theorem g0 {α : Type} {a : α} {l : List α} : (a :: l)[0]? = some a := rfl
theorem gs {α : Type} {a : α} {l : List α} {n : Nat} : (a :: l)[n + 1]? = l[n]? := rfl
theorem isi_int_non : isiB .int .non = some false := rfl
theorem isi_int_bl {b : Bool} : isiB .int (.bl b) = some true := rfl
theorem isi_int_int {i : Int} : isiB .int (.int i) = some true := rfl
theorem isi_int_str {x : Str} : isiB .int (.str x) = some false := rfl
theorem isi_int_lst {ds : List D} : isiB .int (.lst ds) = some false := rfl
theorem isi_int_scr {ns : List Int} : isiB .int (.scr ns) = some false := rfl
theorem isi_int_tup {ds : List D} : isiB .int (.tup ds) = some false := rfl
theorem isi_bool_non : isiB .bool .non = some false := rfl
theorem isi_bool_bl {b : Bool} : isiB .bool (.bl b) = some true := rfl
theorem isi_bool_int {i : Int} : isiB .bool (.int i) = some false := rfl
theorem isi_bool_str {x : Str} : isiB .bool (.str x) = some false := rfl
theorem isi_bool_lst {ds : List D} : isiB .bool (.lst ds) = some false := rfl
theorem isi_bool_scr {ns : List Int} : isiB .bool (.scr ns) = some false := rfl
theorem isi_bool_tup {ds : List D} : isiB .bool (.tup ds) = some false := rfl
theorem isi_list_non : isiB .list .non = some false := rfl
theorem isi_list_bl {b : Bool} : isiB .list (.bl b) = some false := rfl
theorem isi_list_int {i : Int} : isiB .list (.int i) = some false := rfl
theorem isi_list_str {x : Str} : isiB .list (.str x) = some false := rfl
theorem isi_list_lst {ds : List D} : isiB .list (.lst ds) = some true := rfl
theorem isi_list_scr {ns : List Int} : isiB .list (.scr ns) = some true := rfl
theorem isi_list_tup {ds : List D} : isiB .list (.tup ds) = some false := rfl
theorem isi_tuple_non : isiB .tuple .non = some false := rfl
theorem isi_tuple_bl {b : Bool} : isiB .tuple (.bl b) = some false := rfl
theorem isi_tuple_int {i : Int} : isiB .tuple (.int i) = some false := rfl
theorem isi_tuple_str {x : Str} : isiB .tuple (.str x) = some false := rfl
theorem isi_tuple_lst {ds : List D} : isiB .tuple (.lst ds) = some false := rfl
theorem isi_tuple_scr {ns : List Int} : isiB .tuple (.scr ns) = some false := rfl
theorem isi_tuple_tup {ds : List D} : isiB .tuple (.tup ds) = some true := rfl
theorem isi_str_non : isiB .str .non = some false := rfl
theorem isi_str_bl {b : Bool} : isiB .str (.bl b) = some false := rfl
theorem isi_str_int {i : Int} : isiB .str (.int i) = some false := rfl
theorem isi_str_str {x : Str} : isiB .str (.str x) = some true := rfl
theorem isi_str_lst {ds : List D} : isiB .str (.lst ds) = some false := rfl
theorem isi_str_scr {ns : List Int} : isiB .str (.scr ns) = some false := rfl
theorem isi_str_tup {ds : List D} : isiB .str (.tup ds) = some false := rfl
theorem len_l {ds : List D} : lenD [.lst ds] = some (.int ds.length) := rfl
theorem len_t {ds : List D} : lenD [.tup ds] = some (.int ds.length) := rfl
theorem len_s {ns : List Int} : lenD [.scr ns] = some (.int ns.length) := rfl
theorem tu_l {ds : List D} : tupleD [.lst ds] = some (.tup ds) := rfl
theorem tu_t {ds : List D} : tupleD [.tup ds] = some (.tup ds) := rfl
theorem li_l {ds : List D} : listD [.lst ds] = some (.lst ds) := rfl
theorem li_t {ds : List D} : listD [.tup ds] = some (.lst ds) := rfl
theorem ci {p : Int → Int → Bool} {i j : Int} : cmpI p (.int i) (.int j) = some (.bl (p i j)) := rfl
theorem ad_i {i j : Int} : addD (.int i) (.int j) = some (.int (i + j)) := rfl
theorem su_i {i j : Int} : subD (.int i) (.int j) = some (.int (i - j)) := rfl
theorem nn_n : isnND .non .non = some (.bl false) := rfl
theorem nn_i {i : Int} : isnND (.int i) .non = some (.bl true) := rfl
theorem nn_l {i : List D} : isnND (.lst i) .non = some (.bl true) := rfl
theorem nn_t {i : List D} : isnND (.tup i) .non = some (.bl true) := rfl
theorem in_n : isND .non .non = some (.bl true) := rfl
theorem in_i {i : Int} : isND (.int i) .non = some (.bl false) := rfl
theorem in_l {i : List D} : isND (.lst i) .non = some (.bl false) := rfl
theorem in_t {i : List D} : isND (.tup i) .non = some (.bl false) := rfl
local macro_rules | `(tactic| walk_at "z") => `(tactic| try simp only [runD, mSeq, mAsg, mCallV, mCall, mA1, mA0, mVal, mV, toSls, toSl, ownIx, gT, gAll, gN, putD, mExt, ownL, putL, mSl, res, mFl, Sl.put, mSet, mVe, mVn, putV, putN, mDisp, valL, mL, mTup, mRet, mX, mIfS, mTB, mB, mNot, mAnd, mOr, mAndV, mOrV, mNotV, mIf, mC, mApp, mN, resL, mFor, mIL, mIT, mIZ, mPar, mIsi, mSub, mSubAug, mAug, mGet, getT, ioOut, ioIx, cellAt, Cell.dat, ni_d, ni_un, ni_own, ca_d, if_true, g0, gs, List.length_cons, List.length_nil, Nat.zero_add, Nat.reduceAdd, List.cons_append, List.nil_append, List.replicate, List.getElem?_cons_zero, List.getElem?_cons_succ, List.set_cons_zero, List.set_cons_succ, Option.bind_some, Option.bind_none, List.map_cons, List.map_nil, List.append_nil, isi_int_non, isi_int_bl, isi_int_int, isi_int_str, isi_int_lst, isi_int_scr, isi_int_tup, isi_bool_non, isi_bool_bl, isi_bool_int, isi_bool_str, isi_bool_lst, isi_bool_scr, isi_bool_tup, isi_list_non, isi_list_bl, isi_list_int, isi_list_str, isi_list_lst, isi_list_scr, isi_list_tup, isi_tuple_non, isi_tuple_bl, isi_tuple_int, isi_tuple_str, isi_tuple_lst, isi_tuple_scr, isi_tuple_tup, isi_str_non, isi_str_bl, isi_str_int, isi_str_str, isi_str_lst, isi_str_scr, isi_str_tup, len_l, len_t, len_s, tu_l, tu_t, li_l, li_t, ci, ad_i, su_i, nn_n, nn_i, nn_l, nn_t, in_n, in_i, in_l, in_t, Bool.not_true, Bool.not_false])

/-! ### a coder reads signs -/
def runS (k : Int) (c : Co) : Sta → List Int → Sta × List Int
  | s, [] => (s, [])
  | s, x :: xs => ((runS k c (stp k c s x).1 xs).1, (stp k c s x).2 ++ (runS k c (stp k c s x).1 xs).2)
structure RunOk (k : Int) (c : Co) (s : Sta) (xs : List Int) : Prop where
  re : (runS k c s xs).1 ∈ reach k c
  out : ∀ y ∈ (runS k c s xs).2, y ∈ sgs k
  two : (runS k c s xs).2.length ≤ 2 * xs.length
def isL (r : Option D) (d : D) : Bool := match r with
  | some x => D.beq x d
  | none => false
theorem of_isL {r : Option D} {d : D} (h : isL r d = true) : r = some d := by
  unfold isL at h
  split at h
  · rw [D.of_beq h]
  · cases h
theorem mkD {sl : List Sl} {np nl : Nat} {m : MS} {d : D} (h1 : sl.length = np) (h3 : ioIx sl 0 = none) (h2 : (m (sl ++ List.replicate nl .un)).map (·.1) = some (.rt d)) : runD np nl m sl = some (d, none) := by
  cases q : m (sl ++ List.replicate nl .un) with
  | none => rw [q] at h2; cases h2
  | some p =>
    obtain ⟨f, ρ⟩ := p
    rw [q] at h2
    have h2 : some f = some (.rt d) := h2
    cases h2
    unfold runD
    rw [if_pos h1, q]
    simp only
    rw [h3]
    rfl
theorem mkN {sl : List Sl} {np nl : Nat} {m : MS} (h1 : sl.length = np) (h3 : ioIx sl 0 = none) (h2 : (m (sl ++ List.replicate nl .un)).map (·.1) = some .nx) : runD np nl m sl = some (.non, none) := by
  cases q : m (sl ++ List.replicate nl .un) with
  | none => rw [q] at h2; cases h2
  | some p =>
    obtain ⟨f, ρ⟩ := p
    rw [q] at h2
    have h2 : some f = some .nx := h2
    cases h2
    unfold runD
    rw [if_pos h1, q]
    simp only
    rw [h3]
    rfl
end Z
namespace Z
open PySem PySem.Spec PyProof.Rows L2
local macro_rules | `(tactic| walk_at "z") => `(tactic| try simp only [runD, mSeq, mAsg, mCallV, mCall, mA1, mA0, mVal, mV, toSls, toSl, ownIx, gT, gAll, gN, putD, mExt, ownL, putL, mSl, res, mFl, Sl.put, mSet, mVe, mVn, putV, putN, mDisp, valL, mL, mTup, mRet, mX, mIfS, mTB, mB, mNot, mAnd, mOr, mAndV, mOrV, mNotV, mIf, mC, mApp, mN, resL, mFor, mIL, mIT, mIZ, mPar, mIsi, mSub, mSubAug, mAug, mGet, getT, ioOut, ioIx, cellAt, Cell.dat, ni_d, ni_un, ni_own, ca_d, if_true, g0, gs, List.length_cons, List.length_nil, Nat.zero_add, Nat.reduceAdd, List.cons_append, List.nil_append, List.replicate, List.getElem?_cons_zero, List.getElem?_cons_succ, List.set_cons_zero, List.set_cons_succ, Option.bind_some, Option.bind_none, List.map_cons, List.map_nil, List.append_nil, isi_int_non, isi_int_bl, isi_int_int, isi_int_str, isi_int_lst, isi_int_scr, isi_int_tup, isi_bool_non, isi_bool_bl, isi_bool_int, isi_bool_str, isi_bool_lst, isi_bool_scr, isi_bool_tup, isi_list_non, isi_list_bl, isi_list_int, isi_list_str, isi_list_lst, isi_list_scr, isi_list_tup, isi_tuple_non, isi_tuple_bl, isi_tuple_int, isi_tuple_str, isi_tuple_lst, isi_tuple_scr, isi_tuple_tup, isi_str_non, isi_str_bl, isi_str_int, isi_str_str, isi_str_lst, isi_str_scr, isi_str_tup, len_l, len_t, len_s, tu_l, tu_t, li_l, li_t, ci, ad_i, su_i, nn_n, nn_i, nn_l, nn_t, in_n, in_i, in_l, in_t, Bool.not_true, Bool.not_false])

/-- a comprehension whose turns change nothing -/
theorem lc_const {ρ : Rho} {vs : List Nat} {g : MG} {tt : MT} {te : ME} {f : D → D} (hp : plainAt ρ vs = true) : ∀ {ds : List D} {acc : List D}, (∀ d ∈ ds, ∃ ρ1 ρ3, g d (wipeR ρ vs) = some ρ1 ∧ tt ρ1 = some (true, ρ1) ∧ te ρ1 = some (f d, ρ3) ∧ plainAt ρ3 vs = true ∧ unwipe ρ3 ρ vs = ρ) → acc.length + ds.length ≤ LIM →
    loopC vs g tt te ds ρ acc = some (acc ++ ds.map f, ρ)
  | [], acc, _, _ => by simp only [loopC, List.map_nil, List.append_nil]
  | d :: ds, acc, h, hl => by
    obtain ⟨ρ1, ρ3, h1, h2, h3, h4, h5⟩ := h d List.mem_cons_self
    rw [List.length_cons] at hl
    simp only [loopC, hp, if_true, h1, h2, h3, h4, Bool.true_and, decide_eq_true (show acc.length < LIM by omega), h5]
    rw [lc_const hp (fun e he => h e (List.mem_cons_of_mem _ he)) (by rw [List.length_append, List.length_singleton]; omega), List.append_assoc]
    rfl
theorem blsD_true : ∀ n : Nat, blsD (List.replicate n (.bl true)) = some (List.replicate n true)
  | 0 => rfl
  | n + 1 => by simp only [List.replicate_succ, blsD, blsD_true n]
theorem map_const_true {α : Type} : ∀ l : List α, l.map (fun _ => D.bl true) = List.replicate l.length (.bl true)
  | [] => rfl
  | a :: l => by rw [List.map_cons, map_const_true l]; rfl
theorem all_true (n : Nat) : (List.replicate n true).all id = true := by
  induction n with
  | zero => rfl
  | succ n ih => rw [List.replicate_succ, List.all_cons, ih]; rfl

/-! ### checks -/
theorem size_ok {k : Int} (hk : K23 k) : g_check_size [.d (.int k)] = some (.non, none) := by rcases hk with rfl | rfl <;> exact of_isV (by decide +kernel)
def namesD (k : Int) : D := .lst ((cosk k).map fun c => .str c.nm)
theorem names_ok {k : Int} (hk : K23 k) : g_coder_names [.d (.int k)] = some (namesD k, none) := by rcases hk with rfl | rfl <;> exact of_isV (by decide +kernel)
def chD (ch : List Co) : D := .tup (ch.map fun c => .str c.nm)
structure Chn (k : Int) (ch : List Co) : Prop where
  len : ch.length = 1 ∨ ch.length = 2
  mem : ∀ c ∈ ch, c ∈ cosk k
theorem in_names {k : Int} (hk : K23 k) {c : Co} (hc : c ∈ cosk k) : inD false (.str c.nm) (namesD k) = some (.bl true) := by
  have h : ((cosk k).all fun c => isL (inD false (.str c.nm) (namesD k)) (.bl true)) = true := by rcases hk with rfl | rfl <;> decide +kernel
  exact of_isL (List.all_eq_true.mp h c hc)
theorem in12 {n : Nat} (h : n = 1 ∨ n = 2) : inD true (.int (n : Int)) (.tup [.int 1, .int 2]) = some (.bl false) := by rcases h with rfl | rfl <;> exact of_isL (by decide +kernel)
theorem tc_ok {k : Int} (hk : K23 k) {ch : List Co} (h : Chn k ch) : g_is_tuple_of_coders [.d (.int k), .d (chD ch)] = some (.bl true, none) := by
  refine mkD rfl rfl ?_
  unfold m_is_tuple_of_coders chD
  walk_at "z"
  have e := in12 h.len
  rw [if_pos (by decide)]
  walk_at "z"
  rw [List.length_map, e]
  walk_at "z"
  rw [names_ok hk]
  walk_at "z"
  unfold mLc
  walk_at "z"
  rw [lc_const (f := fun _ => .bl true) rfl (fun d hd => ?_) (by rw [List.length_map]; rcases h.len with e | e <;> rw [e] <;> decide)]
  · walk_at "z"
    rw [map_const_true]
    simp only [allD, blsD_true, all_true]
    rfl
  · obtain ⟨c, hc, rfl⟩ := List.mem_map.mp hd
    refine ⟨[.d (.int k), .d (.tup (ch.map fun c => .str c.nm)), .d (namesD k), .d (.str c.nm)], [.d (.int k), .d (.tup (ch.map fun c => .str c.nm)), .d (namesD k), .d (.str c.nm)], rfl, rfl, ?_, rfl, rfl⟩
    walk_at "z"
    rw [in_names hk (h.mem c hc)]
theorem chain_ok {k : Int} (hk : K23 k) {ch : List Co} (h : Chn k ch) : g_check_chain [.d (.int k), .d (chD ch)] = some (.non, none) := by
  have e := tc_ok hk h
  refine mkN rfl rfl ?_
  unfold m_check_chain
  walk_at "z"
  rw [e]
  rfl
structure Row (k : Int) (xs : List Int) : Prop where
  len : xs.length ≤ 40
  mem : ∀ x ∈ xs, x ∈ sgs k
theorem sign_ok {k x : Int} (hk : K23 k) (hx : x ∈ sgs k) : g_is_sign [.d (.int k), .d (.int x)] = some (.bl true, none) := by
  have h : ((sgs k).all fun x => isV (g_is_sign [.d (.int k), .d (.int x)]) (.bl true)) = true := by rcases hk with rfl | rfl <;> decide +kernel
  exact of_isV (List.all_eq_true.mp h x hx)
theorem as_ok {k : Int} (hk : K23 k) {xs : List Int} (hl : xs.length ≤ LIM) (hm : ∀ x ∈ xs, x ∈ sgs k) : g__are_signs [.d (.int k), .d (L xs)] = some (.bl true, none) := by
  refine mkD rfl rfl ?_
  unfold m__are_signs
  walk_at "z"
  unfold mLc
  walk_at "z"
  rw [lc_const (f := fun _ => .bl true) rfl (fun d hd => ?_) (by rw [List.length_map]; simpa using hl)]
  · walk_at "z"
    rw [map_const_true]
    simp only [allD, blsD_true, all_true]
    rfl
  · obtain ⟨x, hx, rfl⟩ := List.mem_map.mp hd
    refine ⟨[.d (.int k), .d (L xs), .d (.int x)], [.d (.int k), .d (L xs), .d (.int x)], rfl, rfl, ?_, rfl, rfl⟩
    have e := sign_ok hk (hm x hx)
    walk_at "z"
    rw [e]
theorem ls_okN {k : Int} (hk : K23 k) {xs : List Int} {n : Nat} (hn : n ≤ LIM) (hl : xs.length ≤ n) (hm : ∀ x ∈ xs, x ∈ sgs k) : g_is_list_of_signs [.d (.int k), .d (L xs), .d (.int n)] = some (.bl true, none) := by
  have e := as_ok hk (Nat.le_trans hl hn) hm
  refine mkD rfl rfl ?_
  unfold m_is_list_of_signs
  walk_at "z"
  rw [List.length_map, decide_eq_true (show (xs.length : Int) ≤ (n : Int) by omega)]
  walk_at "z"
  rw [e]
  rfl
theorem ls_ok {k : Int} (hk : K23 k) {xs : List Int} (h : Row k xs) : g_is_list_of_signs [.d (.int k), .d (L xs), .d (.int 40)] = some (.bl true, none) := ls_okN (n := 40) hk (by decide) h.len h.mem
theorem row_ok {k : Int} (hk : K23 k) {xs : List Int} (h : Row k xs) : g_check_row [.d (.int k), .d (L xs), .d (.int 40)] = some (.non, none) := by
  have e := ls_ok hk h
  refine mkN rfl rfl ?_
  unfold m_check_row
  walk_at "z"
  rw [e]
  rfl
end Z
namespace Z
open PySem PySem.Spec PyProof.Rows L2
local macro_rules | `(tactic| walk_at "z") => `(tactic| try simp only [runD, mSeq, mAsg, mCallV, mCall, mA1, mA0, mVal, mV, toSls, toSl, ownIx, gT, gAll, gN, putD, mExt, ownL, putL, mSl, res, mFl, Sl.put, mSet, mVe, mVn, putV, putN, mDisp, valL, mL, mTup, mRet, mX, mIfS, mTB, mB, mNot, mAnd, mOr, mAndV, mOrV, mNotV, mIf, mC, mApp, mN, resL, mFor, mIL, mIT, mIZ, mPar, mIsi, mSub, mSubAug, mAug, mGet, getT, ioOut, ioIx, cellAt, Cell.dat, ni_d, ni_un, ni_own, ca_d, if_true, g0, gs, List.length_cons, List.length_nil, Nat.zero_add, Nat.reduceAdd, List.cons_append, List.nil_append, List.replicate, List.getElem?_cons_zero, List.getElem?_cons_succ, List.set_cons_zero, List.set_cons_succ, Option.bind_some, Option.bind_none, List.map_cons, List.map_nil, List.append_nil, isi_int_non, isi_int_bl, isi_int_int, isi_int_str, isi_int_lst, isi_int_scr, isi_int_tup, isi_bool_non, isi_bool_bl, isi_bool_int, isi_bool_str, isi_bool_lst, isi_bool_scr, isi_bool_tup, isi_list_non, isi_list_bl, isi_list_int, isi_list_str, isi_list_lst, isi_list_scr, isi_list_tup, isi_tuple_non, isi_tuple_bl, isi_tuple_int, isi_tuple_str, isi_tuple_lst, isi_tuple_scr, isi_tuple_tup, isi_str_non, isi_str_bl, isi_str_int, isi_str_str, isi_str_lst, isi_str_scr, isi_str_tup, len_l, len_t, len_s, tu_l, tu_t, li_l, li_t, ci, ad_i, su_i, nn_n, nn_i, nn_l, nn_t, in_n, in_i, in_l, in_t, Bool.not_true, Bool.not_false])

theorem start_re {k : Int} (hk : K23 k) {c : Co} (hc : c ∈ cosk k) : start0 k c ∈ reach k c := by
  have h : ((cosk k).all fun c => (reach k c).contains (start0 k c)) = true := by rcases hk with rfl | rfl <;> decide +kernel
  exact List.contains_iff_mem.mp (List.all_eq_true.mp h c hc)
def stD (ss : List Sta) : D := .tup (ss.map enc)
def chStart (k : Int) (ch : List Co) : List Sta := ch.map (start0 k)
/-- the states of a chain's coders -/
def ReachC (k : Int) : List Co → List Sta → Prop
  | [], [] => True
  | c :: cs, s :: ss => c ∈ cosk k ∧ s ∈ reach k c ∧ ReachC k cs ss
  | _, _ => False
def chRun (k : Int) : List Co → List Sta → List Int → List Sta × List Int
  | c :: cs, s :: ss, xs => ((runS k c s xs).1 :: (chRun k cs ss (runS k c s xs).2).1, (chRun k cs ss (runS k c s xs).2).2)
  | _, _, xs => ([], xs)
theorem reach_start {k : Int} (hk : K23 k) : ∀ {ch : List Co}, (∀ c ∈ ch, c ∈ cosk k) → ReachC k ch (chStart k ch)
  | [], _ => trivial
  | c :: cs, h => ⟨h c List.mem_cons_self, start_re hk (h c List.mem_cons_self), reach_start hk fun d hd => h d (List.mem_cons_of_mem _ hd)⟩
structure ChOk (k : Int) (cs : List Co) (ss : List Sta) (xs : List Int) : Prop where
  re : ReachC k cs (chRun k cs ss xs).1
  out : ∀ y ∈ (chRun k cs ss xs).2, y ∈ sgs k
  len : (chRun k cs ss xs).2.length ≤ 2 ^ cs.length * xs.length
theorem reach_len {k : Int} : ∀ {cs : List Co} {ss : List Sta}, ReachC k cs ss → ss.length = cs.length
  | [], [], _ => rfl
  | [], _ :: _, h => h.elim
  | _ :: _, [], h => h.elim
  | _ :: cs, _ :: ss, h => by rw [List.length_cons, List.length_cons, reach_len h.2.2]
theorem zip_names {cs : List Co} {ss : List Sta} : zipD (cs.map fun c => .str c.nm) (ss.map enc) = (cs.zip ss).map fun p => .prs [.str p.1.nm, enc p.2] := by
  unfold zipD
  rw [List.zip_map, List.map_map]
  rfl
/-! ### the end of a row -/
def wend (c : Co) (s : Sta) : List Int := match c with
  | .twos | .flags0 | .flags1 | .flags2 => match s with
    | [_, some n] => [n]
    | _ => []
  | _ => []
def chEnd (k : Int) : List Co → List Sta → List Int → List Int
  | c :: cs, s :: ss, xs => chEnd k cs ss ((runS k c s xs).2 ++ wend c (runS k c s xs).1)
  | _, _, xs => xs
theorem ad_l {xs ys : List D} : addD (.lst xs) (.lst ys) = if xs.length + ys.length ≤ LIM then some (.lst (xs ++ ys)) else none := rfl
/-! ### rows -/
def rowRun (k : Int) (ch : List Co) : List Sta → List Int → List Sta × List (List Int)
  | ss, [] => (ss, [])
  | ss, x :: xs => ((rowRun k ch (chRun k ch ss [x]).1 xs).1, (chRun k ch ss [x]).2 :: (rowRun k ch (chRun k ch ss [x]).1 xs).2)
def LL (xss : List (List Int)) : D := .lst (xss.map L)
structure RowOk (k : Int) (ch : List Co) (ss : List Sta) (xs : List Int) : Prop where
  re : ReachC k ch (rowRun k ch ss xs).1
  len : (rowRun k ch ss xs).2.length = xs.length
  out : ∀ ys ∈ (rowRun k ch ss xs).2, ys.length ≤ 4 ∧ ∀ y ∈ ys, y ∈ sgs k
theorem ch4 {k : Int} {ch : List Co} (h : Chn k ch) : 2 ^ ch.length ≤ 4 := by rcases h.len with e | e <;> rw [e] <;> decide
def codeP (k : Int) (ch : List Co) (xs : List Int) : List Int := (rowRun k ch (chStart k ch) xs).2.flatten ++ chEnd k ch (rowRun k ch (chStart k ch) xs).1 []
def cdB : MS := (mSeq (mExt 5 (mSl 6)) (mFl .nx))
theorem cd_loop {a0 a1 a2 a3 a4 : Sl} : ∀ {yss : List (List Int)} {acc : List Int} {b : Sl}, (∀ ys ∈ yss, ys.length ≤ 4) → acc.length + 4 * yss.length ≤ 1000 → notIo b = true →
    ∃ b', loopF (gN 6) cdB (yss.map L) [a0, a1, a2, a3, a4, .own (.lst (acc.map D.int)), b] = some (.nx, [a0, a1, a2, a3, a4, .own (.lst ((acc ++ yss.flatten).map D.int)), b'])
  | [], acc, b, _, _, _ => ⟨b, by simp only [List.map_nil, loopF, List.flatten_nil, List.append_nil]⟩
  | ys :: yss, acc, b, h, hl, nb => by
    have h1 := h ys List.mem_cons_self
    rw [List.length_cons] at hl
    obtain ⟨b', ih⟩ := cd_loop (a0 := a0) (a1 := a1) (a2 := a2) (a3 := a3) (a4 := a4) (yss := yss) (acc := acc ++ ys) (b := .d (L ys)) (fun y hy => h y (List.mem_cons_of_mem _ hy)) (by rw [List.length_append]; omega) rfl
    refine ⟨b', ?_⟩
    rw [List.map_cons]
    unfold loopF
    walk_at "z"
    rw [nb]
    walk_at "z"
    have ht : cdB [a0, a1, a2, a3, a4, .own (.lst (acc.map D.int)), .d (L ys)] = some (.nx, [a0, a1, a2, a3, a4, .own (.lst (acc.map D.int ++ ys.map D.int)), .d (L ys)]) := by
      unfold cdB
      walk_at "z"
      rw [if_pos (show (acc.map D.int).length + (ys.map D.int).length ≤ LIM by rw [List.length_map, List.length_map]; simp only [LIM]; omega)]
    rw [ht]
    walk_at "z"
    rw [List.map_append] at ih
    rw [ih, List.flatten_cons, List.append_assoc]
theorem flat_len : ∀ {yss : List (List Int)}, (∀ ys ∈ yss, ys.length ≤ 4) → yss.flatten.length ≤ 4 * yss.length
  | [], _ => Nat.zero_le _
  | ys :: yss, h => by
    have h1 := h ys List.mem_cons_self
    have ih := flat_len (yss := yss) fun y hy => h y (List.mem_cons_of_mem _ hy)
    rw [List.flatten_cons, List.length_append, List.length_cons]
    omega
end Z
namespace Z
open PySem PySem.Spec PyProof.Rows L2
local macro_rules | `(tactic| walk_at "z") => `(tactic| try simp only [runD, mSeq, mAsg, mCallV, mCall, mA1, mA0, mVal, mV, toSls, toSl, ownIx, gT, gAll, gN, putD, mExt, ownL, putL, mSl, res, mFl, Sl.put, mSet, mVe, mVn, putV, putN, mDisp, valL, mL, mTup, mRet, mX, mIfS, mTB, mB, mNot, mAnd, mOr, mAndV, mOrV, mNotV, mIf, mC, mApp, mN, resL, mFor, mIL, mIT, mIZ, mPar, mIsi, mSub, mSubAug, mAug, mGet, getT, ioOut, ioIx, cellAt, Cell.dat, ni_d, ni_un, ni_own, ca_d, if_true, g0, gs, List.length_cons, List.length_nil, Nat.zero_add, Nat.reduceAdd, List.cons_append, List.nil_append, List.replicate, List.getElem?_cons_zero, List.getElem?_cons_succ, List.set_cons_zero, List.set_cons_succ, Option.bind_some, Option.bind_none, List.map_cons, List.map_nil, List.append_nil, isi_int_non, isi_int_bl, isi_int_int, isi_int_str, isi_int_lst, isi_int_scr, isi_int_tup, isi_bool_non, isi_bool_bl, isi_bool_int, isi_bool_str, isi_bool_lst, isi_bool_scr, isi_bool_tup, isi_list_non, isi_list_bl, isi_list_int, isi_list_str, isi_list_lst, isi_list_scr, isi_list_tup, isi_tuple_non, isi_tuple_bl, isi_tuple_int, isi_tuple_str, isi_tuple_lst, isi_tuple_scr, isi_tuple_tup, isi_str_non, isi_str_bl, isi_str_int, isi_str_str, isi_str_lst, isi_str_scr, isi_str_tup, len_l, len_t, len_s, tu_l, tu_t, li_l, li_t, ci, ad_i, su_i, nn_n, nn_i, nn_l, nn_t, in_n, in_i, in_l, in_t, Bool.not_true, Bool.not_false])

/-! ### lists of ints compared -/
theorem toPs_ints : ∀ xs : List Int, D.toPs (xs.map D.int) = xs.map PyData.int
  | [] => by simp only [List.map_nil, D.toPs]
  | x :: xs => by simp only [List.map_cons, D.toPs, D.toP, toPs_ints xs]
theorem noFns_ints : ∀ xs : List Int, D.noFns (xs.map D.int) = true
  | [] => by simp only [List.map_nil, D.noFns]
  | x :: xs => by simp only [List.map_cons, D.noFns, D.noFn, noFns_ints xs, Bool.and_true]
theorem lay_ints : ∀ xs : List Int, PyData.canLayAll0 (xs.map PyData.int) = true
  | [] => by simp only [List.map_nil, PyData.canLayAll0]
  | x :: xs => by simp only [List.map_cons, PyData.canLayAll0, PyData.canLay0, lay_ints xs, Bool.and_true]
theorem dep_ints : ∀ xs : List Int, PyData.depthAll (xs.map PyData.int) = 0
  | [] => by simp only [List.map_nil, PyData.depthAll]
  | x :: xs => by simp only [List.map_cons, PyData.depthAll, PyData.depth, dep_ints xs, Nat.max_self]
theorem eqv_ints : ∀ xs ys : List Int, PyData.eqvAll (xs.map PyData.int) (ys.map PyData.int) = decide (xs = ys)
  | [], [] => by simp only [List.map_nil, PyData.eqvAll, decide_true]
  | [], y :: ys => by simp [PyData.eqvAll]
  | x :: xs, [] => by simp [PyData.eqvAll]
  | x :: xs, y :: ys => by
    simp only [List.map_cons, PyData.eqvAll, PyData.eqv, eqv_ints xs ys, List.cons.injEq]
    by_cases h : x = y <;> by_cases h' : xs = ys <;> simp [h, h']
theorem okD_L (xs : List Int) : okD (L xs) = true := by
  unfold okD L
  simp only [D.noFn, D.toP, noFns_ints, toPs_ints, SeqAt.shaped, PyData.canLay0, PyData.depth, lay_ints, dep_ints, Bool.true_and]
  decide
theorem okD_scr (xs : List Int) : okD (.scr xs) = true := by
  unfold okD
  simp only [D.noFn, D.toP, SeqAt.shaped, PyData.canLay0, PyData.depth, lay_ints, dep_ints, Bool.true_and]
  decide
theorem eq_L (xs ys : List Int) : eqD (L xs) (L ys) = some (.bl (decide (xs = ys))) := by
  unfold eqD
  rw [okD_L, okD_L]
  simp only [L, D.toP, toPs_ints, PyData.eqv, eqv_ints, Bool.and_self, if_true]
theorem ne_L (xs ys : List Int) : neD (L xs) (L ys) = some (.bl (!decide (xs = ys))) := by
  unfold neD
  rw [okD_L, okD_L]
  simp only [L, D.toP, toPs_ints, PyData.eqv, eqv_ints, Bool.and_self, if_true]
theorem eq_scr (ns : List Int) : eqD (.scr ns) (.lst []) = some (.bl (decide (ns = []))) := by
  have h : okD (.lst []) = true := okD_L []
  unfold eqD
  rw [okD_scr, h]
  have e := eqv_ints ns []
  rw [List.map_nil] at e
  simp only [D.toP, D.toPs, PyData.eqv, e, Bool.and_self, if_true]

/-! ### draws -/
theorem ix_l0 {a b : D} : ixD (.lst [a, b]) (.int 0) = some a := rfl
theorem ix_l1 {a b : D} : ixD (.lst [a, b]) (.int 1) = some b := rfl
theorem at_scr {ns : List Int} {i : Int} (h0 : 0 ≤ i) (h1 : i < ns.length) : ∃ v, ixD (.scr ns) (.int i) = some (.int v) := by
  have hi : i = ((i.toNat : Nat) : Int) := by omega
  have hl : i.toNat < ns.length := by omega
  have h2 : atI ns ((i.toNat : Nat) : Int) = some ns[i.toNat] := atI_nat (List.getElem?_eq_getElem hl)
  rw [← hi] at h2
  refine ⟨ns[i.toNat], ?_⟩
  unfold ixD
  simp only [h2]
theorem mo {a b : Int} (h : 0 < b) : modD (.int a) (.int b) = some (.int (a % b)) := by
  show (if 0 < b then some (D.int (a % b)) else none) = _
  rw [if_pos h]
theorem fd {a b : Int} (h : 0 < b) (h' : b < 1073741824) : fdivD (.int a) (.int b) = some (.int (a / b)) := by
  show (if 0 < b ∧ b < 1073741824 then some (D.int (a / b)) else none) = _
  rw [if_pos ⟨h, h'⟩]
theorem mu_r {a b : Int} (h : -18446744073709551616 < b ∧ b < 18446744073709551616) : mulD (.int a) (.int b) = some (.int (a * b)) := by
  show (if (-18446744073709551616 < a ∧ a < 18446744073709551616) ∨ (-18446744073709551616 < b ∧ b < 18446744073709551616) then some (D.int (a * b)) else _) = _
  rw [if_pos (.inr h)]
theorem mu_l {a b : Int} (h : -18446744073709551616 < a ∧ a < 18446744073709551616) : mulD (.int a) (.int b) = some (.int (a * b)) := by
  show (if (-18446744073709551616 < a ∧ a < 18446744073709551616) ∨ (-18446744073709551616 < b ∧ b < 18446744073709551616) then some (D.int (a * b)) else _) = _
  rw [if_pos (.inl h)]
theorem po {a b : Int} (h : 0 ≤ b ∧ b ≤ 1000) (h' : 0 ≤ a ∧ a < 18446744073709551616) : powD (.int a) (.int b) = some (.int (a ^ b.toNat)) := by
  show (if 0 ≤ b ∧ b ≤ 1000 ∧ a.natAbs < 18446744073709551616 then some (D.int (a ^ b.toNat)) else none) = _
  rw [if_pos ⟨h.1, h.2, by omega⟩]
theorem big : mulD (.int (10 ^ 60)) (.int (10 ^ 60)) = some (.int (10 ^ 120)) := of_isL (by decide +kernel)
theorem set2_0 {a b c : D} : [a, b].set 0 c = [c, b] := rfl
theorem set2_1 {a b c : D} : [a, b].set 1 c = [a, c] := rfl
theorem ixn0 : ixN 2 0 = some 0 := rfl
theorem ixn1 : ixN 2 1 = some 1 := rfl
theorem at0 {a b : D} : atI [a, b] 0 = some a := rfl
theorem at1 {a b : D} : atI [a, b] 1 = some b := rfl
local macro_rules | `(tactic| walk_at "z") => `(tactic| try simp only [runD, mSeq, mAsg, mCallV, mCall, mA1, mA0, mVal, mV, toSls, toSl, ownIx, gT, gAll, gN, putD, mExt, ownL, putL, mSl, res, mFl, Sl.put, mSet, mVe, mVn, putV, putN, mDisp, valL, mL, mTup, mRet, mX, mIfS, mTB, mB, mNot, mAnd, mOr, mAndV, mOrV, mNotV, mIf, mC, mApp, mN, resL, mFor, mIL, mIT, mIZ, mPar, mIsi, mSub, mSubAug, mAug, mGet, getT, ioOut, ioIx, cellAt, Cell.dat, ni_d, ni_un, ni_own, ca_d, if_true, g0, gs, List.length_cons, List.length_nil, Nat.zero_add, Nat.reduceAdd, List.cons_append, List.nil_append, List.replicate, List.getElem?_cons_zero, List.getElem?_cons_succ, List.set_cons_zero, List.set_cons_succ, Option.bind_some, Option.bind_none, List.map_cons, List.map_nil, List.append_nil, isi_int_non, isi_int_bl, isi_int_int, isi_int_str, isi_int_lst, isi_int_scr, isi_int_tup, isi_bool_non, isi_bool_bl, isi_bool_int, isi_bool_str, isi_bool_lst, isi_bool_scr, isi_bool_tup, isi_list_non, isi_list_bl, isi_list_int, isi_list_str, isi_list_lst, isi_list_scr, isi_list_tup, isi_tuple_non, isi_tuple_bl, isi_tuple_int, isi_tuple_str, isi_tuple_lst, isi_tuple_scr, isi_tuple_tup, isi_str_non, isi_str_bl, isi_str_int, isi_str_str, isi_str_lst, isi_str_scr, isi_str_tup, len_l, len_t, len_s, tu_l, tu_t, li_l, li_t, ci, ad_i, su_i, nn_n, nn_i, nn_l, nn_t, in_n, in_i, in_l, in_t, Bool.not_true, Bool.not_false, ix_l0, ix_l1, set2_0, set2_1, ixn0, ixn1, at0, at1])
structure Drawn (ns : List Int) (p t many : Int) (r p' t' : Int) : Prop where
  run : g__law_draw [.d (.scr ns), .io (.lst [.int p, .int t]), .d (.int many)] = some (.int r, some (.lst [.int p', .int t']))
  lo : 0 ≤ r
  hi : r < many
  pos : 0 ≤ p'
theorem mkIo {sl : List Sl} {np nl : Nat} {m : MS} {d : D} {c : Cell} {i : Nat} (h1 : sl.length = np) (h3 : ioIx sl 0 = some i) (h2 : (m (sl ++ List.replicate nl .un)).map (fun q => (q.1, ioOut q.2 (some i))) = some (.rt d, some c)) : runD np nl m sl = some (d, some c) := by
  cases q : m (sl ++ List.replicate nl .un) with
  | none => rw [q] at h2; cases h2
  | some p =>
    obtain ⟨f, ρ⟩ := p
    rw [q] at h2
    have h2 : some (f, ioOut ρ (some i)) = some (.rt d, some c) := h2
    have e1 : f = .rt d := congrArg Prod.fst (Option.some.inj h2)
    have e2 : ioOut ρ (some i) = some c := congrArg Prod.snd (Option.some.inj h2)
    subst e1
    unfold runD
    rw [if_pos h1, q]
    simp only
    rw [h3, e2]
theorem draw_ok {ns : List Int} {p t many : Int} (hm : 0 < many) (hm2 : many < 1073741824) (hp : 0 ≤ p) : ∃ r p' t', Drawn ns p t many r p' t' := by
  by_cases ht : 0 < t
  · refine ⟨t % many, p, t / many, ⟨?_, Int.emod_nonneg _ (by omega), Int.emod_lt_of_pos _ hm, hp⟩⟩
    refine mkIo rfl rfl ?_
    unfold m__law_draw
    walk_at "z"
    repeat ((first | rw [decide_eq_true ht] | rw [mo hm] | rw [fd hm hm2]); walk_at "z")
    rfl
  · by_cases hn : ns = []
    · refine ⟨p % many, p + 1, t, ⟨?_, Int.emod_nonneg _ (by omega), Int.emod_lt_of_pos _ hm, by omega⟩⟩
      refine mkIo rfl rfl ?_
      unfold m__law_draw
      walk_at "z"
      repeat ((first | rw [decide_eq_false ht] | rw [if_pos (by decide)] | rw [eq_scr, decide_eq_true hn] | rw [mo hm]); walk_at "z")
      rfl
    · have hlen : 0 < ns.length := List.length_pos_iff.mpr hn
      have hlen' : (0 : Int) < (ns.length : Int) := by omega
      obtain ⟨v, hv⟩ := at_scr (ns := ns) (i := p % (ns.length : Int)) (Int.emod_nonneg _ (by omega)) (Int.emod_lt_of_pos _ (by omega))
      have hmix : 0 ≤ (v * 1103515245 + 7919 * p + 12345) % 2147483647 ∧ (v * 1103515245 + 7919 * p + 12345) % 2147483647 < 18446744073709551616 := by
        have h1 := Int.emod_nonneg (v * 1103515245 + 7919 * p + 12345) (show (2147483647 : Int) ≠ 0 by decide)
        have h2 := Int.emod_lt_of_pos (v * 1103515245 + 7919 * p + 12345) (show (0 : Int) < 2147483647 by decide)
        omega
      have small : ¬ (p < ns.length ∧ ∃ u, ixD (.scr ns) (.int p) = some (.int u) ∧ 10 ^ 18 ≤ u) → Drawn ns p t many (((v * 1103515245 + 7919 * p + 12345) % 2147483647) ^ 5 % 2147483647 % 999983 % many) (p + 1) t := fun hno => by
        refine ⟨?_, Int.emod_nonneg _ (by omega), Int.emod_lt_of_pos _ hm, by omega⟩
        refine mkIo rfl rfl ?_
        unfold m__law_draw
        walk_at "z"
        by_cases hpl : p < ns.length
        · obtain ⟨u, hu⟩ := at_scr hp hpl
          have hbig : ¬ ((10 : Int) ^ (18 : Int).toNat ≤ u) := fun z => hno ⟨hpl, u, hu, z⟩
          repeat ((first | rw [decide_eq_false ht] | rw [if_pos (by decide)] | rw [eq_scr, decide_eq_false hn] | rw [decide_eq_true hpl] | rw [hu] | rw [po (by decide) (by decide)] | rw [decide_eq_false hbig] | rw [mo hlen'] | rw [hv] | rw [mu_r (by decide)] | rw [mu_l (by decide)] | rw [mo (by decide)] | rw [po (by decide) hmix] | rw [mo hm]); walk_at "z")
          rfl
        · repeat ((first | rw [decide_eq_false ht] | rw [if_pos (by decide)] | rw [eq_scr, decide_eq_false hn] | rw [decide_eq_false hpl] | rw [mo hlen'] | rw [hv] | rw [mu_r (by decide)] | rw [mu_l (by decide)] | rw [mo (by decide)] | rw [po (by decide) hmix] | rw [mo hm]); walk_at "z")
          rfl
      by_cases hyes : p < ns.length ∧ ∃ u, ixD (.scr ns) (.int p) = some (.int u) ∧ 10 ^ 18 ≤ u
      · obtain ⟨hpl, u, hu, hbig⟩ := hyes
        have hbig : (10 : Int) ^ (18 : Int).toNat ≤ u := hbig
        have big' : mulD (.int ((10 : Int) ^ (60 : Int).toNat)) (.int ((10 : Int) ^ (60 : Int).toNat)) = some (.int (10 ^ 120)) := big
        refine ⟨u % many, p + 1, u / many % 10 ^ 120, ⟨?_, Int.emod_nonneg _ (by omega), Int.emod_lt_of_pos _ hm, by omega⟩⟩
        refine mkIo rfl rfl ?_
        unfold m__law_draw
        walk_at "z"
        repeat ((first | rw [decide_eq_false ht] | rw [if_pos (by decide)] | rw [eq_scr, decide_eq_false hn] | rw [decide_eq_true hpl] | rw [hu] | rw [po (by decide) (by decide)] | rw [decide_eq_true hbig] | rw [fd hm hm2] | rw [big'] | rw [mo (show (0 : Int) < 10 ^ 120 by decide)] | rw [mo hm]); walk_at "z")
        rfl
      · exact ⟨_, _, _, small hyes⟩

end Z
namespace Z
open PySem PySem.Spec PyProof.Rows L2
/-! ### the law's draws of rows and coders -/
theorem ca_own {c : Cell} : Sl.cell? (.own c) = some c := rfl
theorem ca_io {c : Cell} : Sl.cell? (.io c) = some c := rfl
theorem eo_rep : True := trivial
local macro_rules | `(tactic| walk_at "z") => `(tactic| try simp only [runD, mSeq, mAsg, mCallV, mCall, mA1, mA0, mVal, mV, toSls, toSl, ownIx, gT, gAll, gN, putD, mExt, ownL, putL, mSl, res, mFl, Sl.put, mSet, mVe, mVn, putV, putN, mDisp, valL, mL, mTup, mRet, mX, mIfS, mTB, mB, mNot, mAnd, mOr, mAndV, mOrV, mNotV, mIf, mC, mApp, mN, resL, mFor, mIL, mIT, mIZ, mPar, mIsi, mSub, mSubAug, mAug, mGet, getT, ioOut, ioIx, cellAt, Cell.dat, ni_d, ni_un, ni_own, ca_d, if_true, g0, gs, List.length_cons, List.length_nil, Nat.zero_add, Nat.reduceAdd, List.cons_append, List.nil_append, List.replicate, List.getElem?_cons_zero, List.getElem?_cons_succ, List.set_cons_zero, List.set_cons_succ, Option.bind_some, Option.bind_none, List.map_cons, List.map_nil, List.append_nil, isi_int_non, isi_int_bl, isi_int_int, isi_int_str, isi_int_lst, isi_int_scr, isi_int_tup, isi_bool_non, isi_bool_bl, isi_bool_int, isi_bool_str, isi_bool_lst, isi_bool_scr, isi_bool_tup, isi_list_non, isi_list_bl, isi_list_int, isi_list_str, isi_list_lst, isi_list_scr, isi_list_tup, isi_tuple_non, isi_tuple_bl, isi_tuple_int, isi_tuple_str, isi_tuple_lst, isi_tuple_scr, isi_tuple_tup, isi_str_non, isi_str_bl, isi_str_int, isi_str_str, isi_str_lst, isi_str_scr, isi_str_tup, len_l, len_t, len_s, tu_l, tu_t, li_l, li_t, ci, ad_i, su_i, nn_n, nn_i, nn_l, nn_t, in_n, in_i, in_l, in_t, Bool.not_true, Bool.not_false, ix_l0, ix_l1, set2_0, set2_1, ixn0, ixn1, at0, at1, mBN, putC, ca_own, ca_io, eo_rep])
def Twn (p t : Int) : Cell := .lst [.int p, .int t]

theorem lcoders_ok {k : Int} (hk : K23 k) : g__law_coders [.d (.int k)] = some (namesD k, none) := by rcases hk with rfl | rfl <;> exact of_isV (by decide +kernel)
theorem ix_in {ds : List D} {r : Int} (h0 : 0 ≤ r) (h1 : r < (ds.length : Int)) : ∃ d, ixD (.lst ds) (.int r) = some d ∧ d ∈ ds := by
  have hl : r.toNat < ds.length := by omega
  have h2 : atI ds ((r.toNat : Nat) : Int) = some ds[r.toNat] := atI_nat (List.getElem?_eq_getElem hl)
  rw [show ((r.toNat : Nat) : Int) = r by omega] at h2
  exact ⟨ds[r.toNat], h2, List.getElem_mem hl⟩
theorem pick_ok {ns : List Int} {p t : Int} {ds : List D} (hn : ds ≠ []) (hl : ds.length ≤ 1000) (hp : 0 ≤ p) : ∃ d p' t', g__law_pick [.d (.scr ns), .io (.lst [.int p, .int t]), .d (.lst ds)] = some (d, some (.lst [.int p', .int t'])) ∧ d ∈ ds ∧ 0 ≤ p' := by
  have h0 : 0 < ds.length := List.length_pos_iff.mpr hn
  obtain ⟨r, p', t', dr⟩ := draw_ok (ns := ns) (p := p) (t := t) (many := (ds.length : Int)) (by omega) (by omega) hp
  obtain ⟨d, hd, hm⟩ := ix_in dr.lo dr.hi
  refine ⟨d, p', t', mkIo rfl rfl ?_, hm, dr.pos⟩
  unfold m__law_pick
  walk_at "z"
  rw [dr.run]
  walk_at "z"
  rw [hd]
  walk_at "z"
  rfl
theorem pickC_ok {ns : List Int} {p t k : Int} (hk : K23 k) (hp : 0 ≤ p) : ∃ c p' t', g__law_pick [.d (.scr ns), .io (.lst [.int p, .int t]), .d (namesD k)] = some (.str (Co.nm c), some (.lst [.int p', .int t'])) ∧ c ∈ cosk k ∧ 0 ≤ p' := by
  have hne : (cosk k).map (fun c => D.str c.nm) ≠ [] := by rcases hk with rfl | rfl <;> decide
  have hl : ((cosk k).map fun c => D.str c.nm).length ≤ 1000 := by rw [List.length_map]; rcases hk with rfl | rfl <;> decide
  obtain ⟨d, p', t', h1, h2, h3⟩ := pick_ok (ns := ns) (t := t) hne hl hp
  obtain ⟨c, hc, rfl⟩ := List.mem_map.mp h2
  exact ⟨c, p', t', h1, hc, h3⟩

theorem eq_i {a b : Int} : eqD (.int a) (.int b) = some (.bl (decide (a = b))) := by
  have h : ∀ i : Int, okD (.int i) = true := fun _ => rfl
  unfold eqD
  rw [h, h]
  simp only [D.toP, PyData.eqv, Bool.and_self, if_true]
  rw [Bool.beq_eq_decide_eq]
theorem sg_dr {k s : Int} (hk : K23 k) (h : 0 ≤ s) (h' : s < k) : s ∈ sgs k := by
  have : s = 0 ∨ s = 1 ∨ s = 2 := by rcases hk with rfl | rfl <;> omega
  rcases hk with rfl | rfl <;> rcases this with rfl | rfl | rfl <;> first | decide | omega
def lrB : MS := (mSeq (mSet 5 (mVe (mIf (mAnd (mTB (mB neD (mSl 4) (mVal (mL (mDisp mA0))))) (mTB (mB eqD (mVal (mCall g__law_draw (mA1 (mVal (mV 0)) (mA1 (mSl 1) (mA1 (mVal (mC (.int 2))) mA0))))) (mVal (mC (.int 0)))))) (mV 5) (mCall g__law_draw (mA1 (mVal (mV 0)) (mA1 (mSl 1) (mA1 (mVal (mV 2)) mA0))))))) (mSeq (mApp 4 (mV 5)) (mFl .nx)))
theorem lr_turn {ns : List Int} {k p t : Int} (hk : K23 k) (hp : 0 ≤ p) {most turn : D} {acc : List Int} {last : Int} (hl : last ∈ sgs k) (ha : acc.length < 1000) :
    ∃ x p' t', lrB [.d (.scr ns), .io (.lst [.int p, .int t]), .d (.int k), .d most, .own (.lst (acc.map D.int)), .d (.int last), .d turn] = some (.nx, [.d (.scr ns), .io (.lst [.int p', .int t']), .d (.int k), .d most, .own (.lst ((acc ++ [x]).map D.int)), .d (.int x), .d turn]) ∧ x ∈ sgs k ∧ 0 ≤ p' := by
  have hk2 : 2 ≤ k ∧ k ≤ 3 := by rcases hk with rfl | rfl <;> decide
  have hlim : (acc.map D.int).length < LIM := by rw [List.length_map]; simp only [LIM]; omega
  have e0 : neD (.lst (acc.map D.int)) (.lst []) = some (.bl (!decide (acc = []))) := ne_L acc []
  by_cases hn : acc = []
  · obtain ⟨r, p', t', dr⟩ := draw_ok (ns := ns) (p := p) (t := t) (many := k) (by omega) (by omega) hp
    refine ⟨r, p', t', ?_, sg_dr hk dr.lo dr.hi, dr.pos⟩
    unfold lrB
    walk_at "z"
    repeat ((first | rw [if_pos (show ([] : List D).length ≤ LIM by decide)] | rw [if_pos (show 0 ≤ LIM by decide)] | rw [e0, decide_eq_true hn] | rw [dr.run] | rw [if_pos hlim]); walk_at "z")
    simp only [List.map_append, List.map_cons, List.map_nil]
  · obtain ⟨r0, p0, t0, d0⟩ := draw_ok (ns := ns) (p := p) (t := t) (many := 2) (by decide) (by decide) hp
    by_cases hr : r0 = 0
    · refine ⟨last, p0, t0, ?_, hl, d0.pos⟩
      unfold lrB
      walk_at "z"
      repeat ((first | rw [if_pos (show ([] : List D).length ≤ LIM by decide)] | rw [if_pos (show 0 ≤ LIM by decide)] | rw [e0, decide_eq_false hn] | rw [d0.run] | rw [eq_i, decide_eq_true hr] | rw [if_pos hlim]); walk_at "z")
      simp only [List.map_append, List.map_cons, List.map_nil]
    · obtain ⟨r, p', t', dr⟩ := draw_ok (ns := ns) (p := p0) (t := t0) (many := k) (by omega) (by omega) d0.pos
      refine ⟨r, p', t', ?_, sg_dr hk dr.lo dr.hi, dr.pos⟩
      unfold lrB
      walk_at "z"
      repeat ((first | rw [if_pos (show ([] : List D).length ≤ LIM by decide)] | rw [if_pos (show 0 ≤ LIM by decide)] | rw [e0, decide_eq_false hn] | rw [d0.run] | rw [eq_i, decide_eq_false hr] | rw [dr.run] | rw [if_pos hlim]); walk_at "z")
      simp only [List.map_append, List.map_cons, List.map_nil]
theorem lr_loop {ns : List Int} {k : Int} (hk : K23 k) {most : D} : ∀ {ds : List D} {p t : Int} {acc : List Int} {last : Int} {turn : Sl}, 0 ≤ p → last ∈ sgs k → (∀ x ∈ acc, x ∈ sgs k) → acc.length + ds.length ≤ 1000 → notIo turn = true →
    ∃ (xs : List Int) (p' t' last' : Int) (turn' : Sl), loopF (gN 6) lrB ds [.d (.scr ns), .io (.lst [.int p, .int t]), .d (.int k), .d most, .own (.lst (acc.map D.int)), .d (.int last), turn] = some (.nx, [.d (.scr ns), .io (.lst [.int p', .int t']), .d (.int k), .d most, .own (.lst (xs.map D.int)), .d (.int last'), turn']) ∧ (∀ x ∈ xs, x ∈ sgs k) ∧ xs.length = acc.length + ds.length ∧ 0 ≤ p'
  | [], p, t, acc, last, turn, hp, hl, ha, _, _ => ⟨acc, p, t, last, turn, by simp only [loopF], ha, rfl, hp⟩
  | d :: ds, p, t, acc, last, turn, hp, hl, ha, hlen, nt => by
    rw [List.length_cons] at hlen
    obtain ⟨x, p1, t1, h1, hx, hp1⟩ := lr_turn (ns := ns) (p := p) (t := t) (most := most) (turn := d) (acc := acc) (last := last) hk hp hl (by omega)
    obtain ⟨xs, p', t', last', turn', h2, h3, h4, h5⟩ := lr_loop hk (ns := ns) (most := most) (ds := ds) (p := p1) (t := t1) (acc := acc ++ [x]) (last := x) (turn := .d d) hp1 hx (fun y hy => by
      rcases List.mem_append.mp hy with hy | hy
      · exact ha y hy
      · rw [List.mem_singleton.mp hy]; exact hx) (by rw [List.length_append, List.length_singleton]; omega) rfl
    refine ⟨xs, p', t', last', turn', ?_, h3, ?_, h5⟩
    · unfold loopF
      walk_at "z"
      rw [nt]
      walk_at "z"
      rw [h1]
      walk_at "z"
      exact h2
    · rw [h4, List.length_append, List.length_singleton, List.length_cons]
      omega
theorem rng_len (n : Nat) : (rngL 0 n).length = n := by unfold rngL; rw [List.length_map, List.length_range]
theorem lrow_ok {ns : List Int} {k p t most : Int} (hk : K23 k) (hp : 0 ≤ p) (hm : 0 ≤ most ∧ most ≤ 500) : ∃ (xs : List Int) (p' t' : Int), g__law_row [.d (.scr ns), .io (.lst [.int p, .int t]), .d (.int k), .d (.int most)] = some (L xs, some (.lst [.int p', .int t'])) ∧ (∀ x ∈ xs, x ∈ sgs k) ∧ (xs.length : Int) ≤ most ∧ 0 ≤ p' := by
  obtain ⟨r, p1, t1, dr⟩ := draw_ok (ns := ns) (p := p) (t := t) (many := most + 1) (by omega) (by omega) hp
  have h0 := dr.lo
  have h1 := dr.hi
  obtain ⟨xs, p', t', last', turn', h2, h3, h4, h5⟩ := lr_loop hk (ns := ns) (most := .int most) (ds := rngL 0 r.toNat) (p := p1) (t := t1) (acc := []) (last := 0) (turn := .un) dr.pos (by rcases hk with rfl | rfl <;> decide) (fun x hx => (by cases hx)) (by rw [rng_len, List.length_nil]; omega) rfl
  rw [rng_len, List.length_nil] at h4
  refine ⟨xs, p', t', mkIo rfl rfl ?_, h3, by omega, h5⟩
  unfold m__law_row
  walk_at "z"
  rw [if_pos (by decide)]
  walk_at "z"
  unfold mIR1
  walk_at "z"
  rw [dr.run]
  walk_at "z"
  rw [if_pos (show r.natAbs < 1000000 by omega)]
  walk_at "z"
  unfold lrB at h2
  simp only [List.map_nil] at h2
  rw [h2]
  walk_at "z"
  rfl


/-! ### codes by coders one after the other -/
def codeS (k : Int) (c : Co) (xs : List Int) : List Int := (runS k c (start0 k c) xs).2 ++ wend c (runS k c (start0 k c) xs).1
theorem runS_app {k : Int} {c : Co} : ∀ {xs ys : List Int} {s : Sta}, runS k c s (xs ++ ys) = ((runS k c (runS k c s xs).1 ys).1, (runS k c s xs).2 ++ (runS k c (runS k c s xs).1 ys).2)
  | [], ys, s => by simp only [List.nil_append, runS]
  | x :: xs, ys, s => by simp only [List.cons_append, runS, runS_app (xs := xs), List.append_assoc]
theorem rowRun1 {k : Int} {c : Co} : ∀ {xs : List Int} {s : Sta}, (rowRun k [c] [s] xs).1 = [(runS k c s xs).1] ∧ (rowRun k [c] [s] xs).2.flatten = (runS k c s xs).2
  | [], s => ⟨rfl, rfl⟩
  | x :: xs, s => by
    have e : chRun k [c] [s] [x] = ([(stp k c s x).1], (stp k c s x).2) := by simp only [chRun, runS, List.append_nil]
    obtain ⟨h1, h2⟩ := rowRun1 (k := k) (c := c) (xs := xs) (s := (stp k c s x).1)
    unfold rowRun
    rw [e]
    simp only [List.flatten_cons]
    rw [h1, h2]
    exact ⟨rfl, rfl⟩
theorem codeP1 (k : Int) (c : Co) (xs : List Int) : codeP k [c] xs = codeS k c xs := by
  unfold codeP codeS
  obtain ⟨h1, h2⟩ := rowRun1 (k := k) (c := c) (xs := xs) (s := start0 k c)
  rw [show chStart k [c] = [start0 k c] from rfl, h1, h2]
  simp only [chEnd, runS, List.nil_append]
theorem rowRun2 {k : Int} {a b : Co} : ∀ {xs : List Int} {s u : Sta}, (rowRun k [a, b] [s, u] xs).1 = [(runS k a s xs).1, (runS k b u (runS k a s xs).2).1] ∧ (rowRun k [a, b] [s, u] xs).2.flatten = (runS k b u (runS k a s xs).2).2
  | [], s, u => ⟨rfl, rfl⟩
  | x :: xs, s, u => by
    have e : chRun k [a, b] [s, u] [x] = ([(stp k a s x).1, (runS k b u (stp k a s x).2).1], (runS k b u (stp k a s x).2).2) := by simp only [chRun, runS, List.append_nil]
    obtain ⟨h1, h2⟩ := rowRun2 (k := k) (a := a) (b := b) (xs := xs) (s := (stp k a s x).1) (u := (runS k b u (stp k a s x).2).1)
    unfold rowRun
    rw [e]
    simp only [List.flatten_cons]
    rw [h1, h2]
    simp only [runS, runS_app]
    exact ⟨trivial, trivial⟩
theorem codeP2 (k : Int) (a b : Co) (xs : List Int) : codeP k [a, b] xs = codeS k b (codeS k a xs) := by
  unfold codeP codeS
  obtain ⟨h1, h2⟩ := rowRun2 (k := k) (a := a) (b := b) (xs := xs) (s := start0 k a) (u := start0 k b)
  rw [show chStart k [a, b] = [start0 k a, start0 k b] from rfl, h1, h2]
  simp only [chEnd, runS, List.nil_append, runS_app, List.append_assoc]
theorem ch1 {k : Int} {c : Co} (h : c ∈ cosk k) : Chn k [c] := ⟨.inl rfl, fun d hd => by rw [List.mem_singleton.mp hd]; exact h⟩
theorem ch2 {k : Int} {a b : Co} (h : a ∈ cosk k) (h' : b ∈ cosk k) : Chn k [a, b] := ⟨.inr rfl, fun d hd => by
  rcases List.mem_cons.mp hd with rfl | hd
  · exact h
  · rw [List.mem_singleton.mp hd]; exact h'⟩
end Z
namespace Z
open PySem PySem.Spec PyProof.Rows L2
local macro_rules | `(tactic| walk_at "z") => `(tactic| try simp only [runD, mSeq, mAsg, mCallV, mCall, mA1, mA0, mVal, mV, toSls, toSl, ownIx, gT, gAll, gN, putD, mExt, ownL, putL, mSl, res, mFl, Sl.put, mSet, mVe, mVn, putV, putN, mDisp, valL, mL, mTup, mRet, mX, mIfS, mTB, mB, mNot, mAnd, mOr, mAndV, mOrV, mNotV, mIf, mC, mApp, mN, resL, mFor, mIL, mIT, mIZ, mPar, mIsi, mSub, mSubAug, mAug, mGet, getT, ioOut, ioIx, cellAt, Cell.dat, ni_d, ni_un, ni_own, ca_d, if_true, g0, gs, List.length_cons, List.length_nil, Nat.zero_add, Nat.reduceAdd, List.cons_append, List.nil_append, List.replicate, List.getElem?_cons_zero, List.getElem?_cons_succ, List.set_cons_zero, List.set_cons_succ, Option.bind_some, Option.bind_none, List.map_cons, List.map_nil, List.append_nil, isi_int_non, isi_int_bl, isi_int_int, isi_int_str, isi_int_lst, isi_int_scr, isi_int_tup, isi_bool_non, isi_bool_bl, isi_bool_int, isi_bool_str, isi_bool_lst, isi_bool_scr, isi_bool_tup, isi_list_non, isi_list_bl, isi_list_int, isi_list_str, isi_list_lst, isi_list_scr, isi_list_tup, isi_tuple_non, isi_tuple_bl, isi_tuple_int, isi_tuple_str, isi_tuple_lst, isi_tuple_scr, isi_tuple_tup, isi_str_non, isi_str_bl, isi_str_int, isi_str_str, isi_str_lst, isi_str_scr, isi_str_tup, len_l, len_t, len_s, tu_l, tu_t, li_l, li_t, ci, ad_i, su_i, nn_n, nn_i, nn_l, nn_t, in_n, in_i, in_l, in_t, Bool.not_true, Bool.not_false, ix_l0, ix_l1, set2_0, set2_1, ixn0, ixn1, at0, at1, mBN, putC, ca_own, ca_io, eo_rep])

/-! ### chains drawn -/
theorem pk_loop {ns : List Int} {k : Int} (hk : K23 k) {a3 : Sl} : ∀ {ds : List D} {p t : Int} {acc : List D}, 0 ≤ p → acc.length + ds.length ≤ 100 → ∃ (cs : List Co) (p' t' : Int), loopC [4] (gN 4) mYes (mCall g__law_pick (mA1 (mVal (mV 0)) (mA1 (mSl 1) (mA1 (mVal (mCall g__law_coders (mA1 (mVal (mV 2)) mA0))) mA0)))) ds [.d (.scr ns), .io (.lst [.int p, .int t]), .d (.int k), a3, .un] acc = some (acc ++ cs.map (fun c => D.str c.nm), [.d (.scr ns), .io (.lst [.int p', .int t']), .d (.int k), a3, .un]) ∧ cs.length = ds.length ∧ (∀ c ∈ cs, c ∈ cosk k) ∧ 0 ≤ p'
  | [], p, t, acc, hp, _ => ⟨[], p, t, by simp only [loopC, List.append_nil, List.map_nil], rfl, fun d hd => (by cases hd), hp⟩
  | d :: ds, p, t, acc, hp, hl => by
    obtain ⟨c, p1, t1, h1, h2, h3⟩ := pickC_ok (ns := ns) (t := t) hk hp
    rw [List.length_cons] at hl
    obtain ⟨cs, p', t', i1, i2, i3, i4⟩ := pk_loop hk (a3 := a3) (ds := ds) (p := p1) (t := t1) (acc := acc ++ [.str c.nm]) h3 (by rw [List.length_append, List.length_singleton]; omega)
    refine ⟨c :: cs, p', t', ?_, by rw [List.length_cons, List.length_cons, i2], fun x hx => (List.mem_cons.mp hx).elim (fun e => e ▸ h2) (i3 x), i4⟩
    have e0 := lcoders_ok hk
    have e1 : mCall g__law_pick (mA1 (mVal (mV 0)) (mA1 (mSl 1) (mA1 (mVal (mCall g__law_coders (mA1 (mVal (mV 2)) mA0))) mA0))) [.d (.scr ns), .io (.lst [.int p, .int t]), .d (.int k), a3, .d d] = some (.str c.nm, [.d (.scr ns), .io (.lst [.int p1, .int t1]), .d (.int k), a3, .d d]) := by
      walk_at "z"
      rw [e0]
      walk_at "z"
      rw [h1]
    have hp0 : plainAt [.d (.scr ns), .io (.lst [.int p, .int t]), .d (.int k), a3, .un] [4] = true := rfl
    have hw : gN 4 d (wipeR [.d (.scr ns), .io (.lst [.int p, .int t]), .d (.int k), a3, .un] [4]) = some [.d (.scr ns), .io (.lst [.int p, .int t]), .d (.int k), a3, .d d] := rfl
    have hp1 : plainAt [.d (.scr ns), .io (.lst [.int p1, .int t1]), .d (.int k), a3, .d d] [4] = true := rfl
    have hu : unwipe [.d (.scr ns), .io (.lst [.int p1, .int t1]), .d (.int k), a3, .d d] [.d (.scr ns), .io (.lst [.int p, .int t]), .d (.int k), a3, .un] [4] = [.d (.scr ns), .io (.lst [.int p1, .int t1]), .d (.int k), a3, .un] := rfl
    have hL : LIM = 65536 := rfl
    simp only [loopC, hp0, if_true, hw, mYes, e1, hp1, Bool.true_and, decide_eq_true (show acc.length < LIM by omega), hu]
    rw [i1, List.append_assoc]
    rfl
theorem lchain_ok {ns : List Int} {k p t : Int} (hk : K23 k) (hp : 0 ≤ p) : ∃ (ch : List Co) (p' t' : Int), g__law_chain [.d (.scr ns), .io (.lst [.int p, .int t]), .d (.int k)] = some (chD ch, some (.lst [.int p', .int t'])) ∧ Chn k ch ∧ 0 ≤ p' := by
  obtain ⟨r, p1, t1, dr⟩ := draw_ok (ns := ns) (p := p) (t := t) (many := 2) (by decide) (by decide) hp
  have l := dr.lo
  have u := dr.hi
  obtain ⟨cs, p', t', h1, h2, h3, h4⟩ := pk_loop (ns := ns) hk (a3 := .un) (ds := rngL 0 (1 + r).toNat) (p := p1) (t := t1) (acc := []) dr.pos (by rw [rng_len, List.length_nil]; omega)
  rw [rng_len] at h2
  rw [List.nil_append] at h1
  refine ⟨cs, p', t', mkIo rfl rfl ?_, ⟨by omega, h3⟩, h4⟩
  unfold m__law_chain
  unfold mLc mIR1
  walk_at "z"
  rw [dr.run]
  walk_at "z"
  rw [if_pos (show (1 + r).natAbs < 1000000 by omega)]
  walk_at "z"
  rw [h1]
  walk_at "z"
  rfl

end Z
namespace Z
open PySem PySem.Spec PyProof.Rows L2
local macro_rules | `(tactic| walk_at "x") => `(tactic| try simp only [runD, mSeq, mAsg, mCallV, mCall, mA1, mA0, mVal, mV, toSls, toSl, ownIx, gT, gAll, gN, putD, mExt, ownL, putL, mSl, res, mFl, Sl.put, mSet, mVe, mVn, putV, putN, mDisp, valL, mL, mTup, mRet, mX, mIfS, mTB, mB, mNot, mAnd, mOr, mAndV, mOrV, mNotV, mIf, mC, mApp, mN, resL, mFor, mIL, mIT, mIZ, mPar, mIsi, mSub, mSubAug, mAug, mGet, getT, ioOut, ioIx, cellAt, Cell.dat, ni_d, ni_un, ni_own, ca_d, if_true, g0, gs, List.length_cons, List.length_nil, Nat.zero_add, Nat.reduceAdd, List.cons_append, List.nil_append, List.replicate, List.getElem?_cons_zero, List.getElem?_cons_succ, List.set_cons_zero, List.set_cons_succ, Option.bind_some, Option.bind_none, List.map_cons, List.map_nil, List.append_nil, isi_int_non, isi_int_bl, isi_int_int, isi_int_str, isi_int_lst, isi_int_scr, isi_int_tup, isi_bool_non, isi_bool_bl, isi_bool_int, isi_bool_str, isi_bool_lst, isi_bool_scr, isi_bool_tup, isi_list_non, isi_list_bl, isi_list_int, isi_list_str, isi_list_lst, isi_list_scr, isi_list_tup, isi_tuple_non, isi_tuple_bl, isi_tuple_int, isi_tuple_str, isi_tuple_lst, isi_tuple_scr, isi_tuple_tup, isi_str_non, isi_str_bl, isi_str_int, isi_str_str, isi_str_lst, isi_str_scr, isi_str_tup, len_l, len_t, len_s, tu_l, tu_t, li_l, li_t, ci, ad_i, su_i, nn_n, nn_i, nn_l, nn_t, in_n, in_i, in_l, in_t, Bool.not_true, Bool.not_false, ix_l0, ix_l1, set2_0, set2_1, ixn0, ixn1, at0, at1, mBN, putC, ca_own, ca_io, eo_rep, mAS, rSeq, rCall, rIf, rRz, rNev, runR, mDf, mCallE, rCallE, mTryK, ioIx])
theorem runR_ok {np nl : Nat} {r : MR} {sl : List Sl} {C : Str} {ρ : Rho} (h : sl.length = np ∧ ioIx sl 0 = none) (hr : r (sl ++ List.replicate nl .un) = some (C, ρ)) : runR np nl r sl = some C := by
  unfold runR
  rw [if_pos h, hr]
theorem runR_no {np nl : Nat} {r : MR} {sl : List Sl} (hr : r (sl ++ List.replicate nl .un) = none) : runR np nl r sl = none := by
  unfold runR
  rw [hr]
  split <;> rfl
theorem rseq_n {r1 r2 : MR} {m1 : MS} {ρ ρ1 : Rho} (h1 : r1 ρ = none) (h2 : m1 ρ = some (.nx, ρ1)) : rSeq r1 m1 r2 ρ = r2 ρ1 := by
  unfold rSeq
  rw [h1, h2]
theorem rseq_s {r1 r2 : MR} {m1 : MS} {ρ : Rho} {x : Str × Rho} (h1 : r1 ρ = some x) : rSeq r1 m1 r2 ρ = some x := by
  unfold rSeq
  rw [h1]
theorem rseq_z {r1 r2 : MR} {ρ : Rho} (h1 : r1 ρ = none) : rSeq r1 mNev r2 ρ = none := by
  unfold rSeq
  rw [h1]
  rfl
theorem rif_t {c : MT} {r1 r2 : MR} {ρ ρ1 : Rho} (h : c ρ = some (true, ρ1)) : rIf c r1 r2 ρ = r1 ρ1 := by
  unfold rIf
  rw [h]
theorem rif_f {c : MT} {r1 r2 : MR} {ρ ρ1 : Rho} (h : c ρ = some (false, ρ1)) : rIf c r1 r2 ρ = r2 ρ1 := by
  unfold rIf
  rw [h]
theorem rcall_s {r : Rf} {m : MA} {ρ : Rho} {os : List Od} {sls : List Sl} {C : Str} (hm : m ρ = some (os, ρ)) (hs : toSls ρ os = some sls) (ho : ownIx ρ os = []) (hr : r sls = some C) : rCall r m ρ = some (C, ρ) := by
  unfold rCall
  rw [hm]
  simp only [hs, ho, hr]
theorem rcall_n {r : Rf} {m : MA} {ρ : Rho} {os : List Od} {sls : List Sl} (hm : m ρ = some (os, ρ)) (hs : toSls ρ os = some sls) (ho : ownIx ρ os = []) (hr : r sls = none) : rCall r m ρ = none := by
  unfold rCall
  rw [hm]
  simp only [hs, ho, hr]
theorem rcallE_s {G : GX} {mf : ME} {n : Str} {g : Gf} {r : Rf} {m : MA} {ρ : Rho} {os : List Od} {sls : List Sl} {C : Str} (hf : mf ρ = some (.fn n, ρ)) (hG : G n = some (g, r)) (hm : m ρ = some (os, ρ)) (hs : toSls ρ os = some sls) (ho : ownIx ρ os = []) (hr : r sls = some C) : rCallE G mf m ρ = some (C, ρ) := by
  unfold rCallE
  rw [hf]
  simp only [hG]
  exact rcall_s hm hs ho hr
theorem rcallE_n {G : GX} {mf : ME} {n : Str} {g : Gf} {r : Rf} {m : MA} {ρ : Rho} {os : List Od} {sls : List Sl} (hf : mf ρ = some (.fn n, ρ)) (hG : G n = some (g, r)) (hm : m ρ = some (os, ρ)) (hs : toSls ρ os = some sls) (ho : ownIx ρ os = []) (hr : r sls = none) : rCallE G mf m ρ = none := by
  unfold rCallE
  rw [hf]
  simp only [hG]
  exact rcall_n hm hs ho hr
theorem mcall_s {g : Gf} {m : MA} {ρ : Rho} {os : List Od} {sls : List Sl} {d : D} (hm : m ρ = some (os, ρ)) (hs : toSls ρ os = some sls) (ho : ownIx ρ os = []) (hr : g sls = some (d, none)) : mCall g m ρ = some (d, ρ) := by
  unfold mCall
  rw [hm]
  simp only [hs, ho, hr]
theorem mcallE_s {G : GX} {mf : ME} {n : Str} {g : Gf} {r : Rf} {m : MA} {ρ : Rho} {os : List Od} {sls : List Sl} {d : D} (hf : mf ρ = some (.fn n, ρ)) (hG : G n = some (g, r)) (hm : m ρ = some (os, ρ)) (hs : toSls ρ os = some sls) (ho : ownIx ρ os = []) (hr : g sls = some (d, none)) : mCallE G mf m ρ = some (d, ρ) := by
  unfold mCallE
  rw [hf]
  simp only [hG]
  exact mcall_s hm hs ho hr
theorem mx_n {g : ME} {ρ ρ1 : Rho} {d : D} (h : g ρ = some (d, ρ1)) : mX g ρ = some (.nx, ρ1) := by
  unfold mX
  rw [h]
theorem mret_s {g : ME} {ρ ρ1 : Rho} {d : D} (h : g ρ = some (d, ρ1)) : mRet g ρ = some (.rt d, ρ1) := by
  unfold mRet
  rw [h]
theorem mseq_n {m n : MS} {ρ ρ1 : Rho} (h : m ρ = some (.nx, ρ1)) : mSeq m n ρ = n ρ1 := by
  unfold mSeq
  rw [h]
theorem mseq_r {m n : MS} {ρ ρ1 : Rho} {d : D} (h : m ρ = some (.rt d, ρ1)) : mSeq m n ρ = some (.rt d, ρ1) := by
  unfold mSeq
  rw [h]
theorem mifs_t {c : MT} {m n : MS} {ρ ρ1 : Rho} (h : c ρ = some (true, ρ1)) : mIfS c m n ρ = m ρ1 := by
  unfold mIfS
  rw [h]
theorem runD_ok {np nl : Nat} {m : MS} {sl : List Sl} {d : D} {ρ : Rho} (h : sl.length = np) (hi : ioIx sl 0 = none) (hr : m (sl ++ List.replicate nl .un) = some (.rt d, ρ)) : runD np nl m sl = some (d, none) := by
  unfold runD
  rw [if_pos h, hr, hi]
  rfl
/-! ### what the laws ask of errors -/
def eqT (x : Option D) : Bool := match x with
  | some (.bl true) => true
  | _ => false
theorem of_eqT {x : Option D} (h : eqT x = true) : x = some (.bl true) := by
  unfold eqT at h
  split at h
  · rfl
  · cases h
abbrev rzD (j : Int) : D := .tup [.str "raised", .int j]
theorem rz_eq {n : Nat} (hn : n ≤ 13) {j : Nat} (hj : j ≤ 11) : eqD (.lst (List.replicate n (rzD j))) (.lst (List.replicate n (rzD j))) = some (.bl true) := by
  have h : ((List.range 14).all fun n => (List.range 12).all fun j => eqT (eqD (.lst (List.replicate n (rzD (j : Nat)))) (.lst (List.replicate n (rzD (j : Nat)))))) = true := by decide +kernel
  have h := List.all_eq_true.mp (List.all_eq_true.mp h n (List.mem_range.mpr (by omega))) j (List.mem_range.mpr (by omega))
  exact of_eqT h
end Z
namespace Z
open PySem PySem.Spec PyProof.Rows L2
local macro_rules | `(tactic| walk_at "x") => `(tactic| try simp only [runD, mSeq, mAsg, mCallV, mCall, mA1, mA0, mVal, mV, toSls, toSl, ownIx, gT, gAll, gN, putD, mExt, ownL, putL, mSl, res, mFl, Sl.put, mSet, mVe, mVn, putV, putN, mDisp, valL, mL, mTup, mRet, mX, mIfS, mTB, mB, mNot, mAnd, mOr, mAndV, mOrV, mNotV, mIf, mC, mApp, mN, resL, mFor, mIL, mIT, mIZ, mPar, mIsi, mSub, mSubAug, mAug, mGet, getT, ioOut, ioIx, cellAt, Cell.dat, ni_d, ni_un, ni_own, ca_d, if_true, g0, gs, List.length_cons, List.length_nil, Nat.zero_add, Nat.reduceAdd, List.cons_append, List.nil_append, List.replicate, List.getElem?_cons_zero, List.getElem?_cons_succ, List.set_cons_zero, List.set_cons_succ, Option.bind_some, Option.bind_none, List.map_cons, List.map_nil, List.append_nil, isi_int_non, isi_int_bl, isi_int_int, isi_int_str, isi_int_lst, isi_int_scr, isi_int_tup, isi_bool_non, isi_bool_bl, isi_bool_int, isi_bool_str, isi_bool_lst, isi_bool_scr, isi_bool_tup, isi_list_non, isi_list_bl, isi_list_int, isi_list_str, isi_list_lst, isi_list_scr, isi_list_tup, isi_tuple_non, isi_tuple_bl, isi_tuple_int, isi_tuple_str, isi_tuple_lst, isi_tuple_scr, isi_tuple_tup, isi_str_non, isi_str_bl, isi_str_int, isi_str_str, isi_str_lst, isi_str_scr, isi_str_tup, len_l, len_t, len_s, tu_l, tu_t, li_l, li_t, ci, ad_i, su_i, nn_n, nn_i, nn_l, nn_t, in_n, in_i, in_l, in_t, Bool.not_true, Bool.not_false, ix_l0, ix_l1, set2_0, set2_1, ixn0, ixn1, at0, at1, mBN, putC, ca_own, ca_io, eo_rep, mAS, rSeq, rCall, rIf, rRz, rNev, runR, mDf, mCallE, rCallE, mTryK, ioIx])
/-! ### texts -/
theorem ok_lay {d : D} (h : okD d = true) : d.toP.canLay0 = true := by
  unfold okD at h
  simp only [Bool.and_eq_true] at h
  exact SeqAt.canLay_of_shaped h.2
theorem ne_self {d : D} (h : okD d = true) : neD d d = some (.bl false) := by
  unfold neD
  rw [h, SeqAt.eqv_refl _ (ok_lay h)]
  rfl
theorem eq_self {d : D} (h : okD d = true) : eqD d d = some (.bl true) := by
  unfold eqD
  rw [h, SeqAt.eqv_refl _ (ok_lay h)]
  rfl
theorem toPs_strs : ∀ xs : List Str, D.toPs (xs.map D.str) = xs.map PyData.str
  | [] => rfl
  | x :: xs => by simp only [List.map_cons, D.toPs, D.toP, toPs_strs xs]
theorem nof_strs : ∀ xs : List Str, D.noFns (xs.map D.str) = true
  | [] => rfl
  | x :: xs => by simp only [List.map_cons, D.noFns, D.noFn, nof_strs xs, Bool.and_true]
theorem lay_strs : ∀ {xs : List Str}, (∀ x ∈ xs, PyData.strOk x = true) → PyData.canLayAll0 (xs.map PyData.str) = true
  | [], _ => by simp only [List.map_nil, PyData.canLayAll0]
  | x :: xs, h => by simp only [List.map_cons, PyData.canLayAll0, PyData.canLay0, lay_strs fun y hy => h y (List.mem_cons_of_mem _ hy), h x List.mem_cons_self, Bool.and_true]
theorem dep_strs : ∀ xs : List Str, PyData.depthAll (xs.map PyData.str) = 0
  | [] => by simp only [List.map_nil, PyData.depthAll]
  | x :: xs => by simp only [List.map_cons, PyData.depthAll, PyData.depth, dep_strs xs, Nat.max_self]
theorem okD_strs {xs : List Str} (h : ∀ x ∈ xs, PyData.strOk x = true) : okD (.tup (xs.map D.str)) = true := by
  unfold okD
  simp only [D.noFn, nof_strs, D.toP, toPs_strs, SeqAt.shaped, PyData.canLay0, PyData.depth, lay_strs h, dep_strs, Bool.true_and]
  decide
theorem okD_str {x : Str} (h : PyData.strOk x = true) : okD (.str x) = true := by
  unfold okD
  simp only [D.noFn, D.toP, SeqAt.shaped, PyData.canLay0, PyData.depth, h, Bool.true_and]
  decide
/-- a text of signs below 128 -/
def asc (x : Str) : Prop := ∀ c ∈ x.cps.toList, c < 128
theorem asc_ok {x : Str} (h : asc x) : PyData.strOk x = true := by
  unfold PyData.strOk
  rw [← Array.all_toList]
  exact List.all_eq_true.mpr fun c hc => decide_eq_true (Nat.lt_of_lt_of_le (h c hc) (by decide))
open TL in
theorem spl_sub (S : List Nat) : ∀ (l : List Nat) (k : Nat) (acc : List Nat), ∀ p ∈ spl S k acc l, ∀ c ∈ p, c ∈ acc ∨ c ∈ l := by
  intro l
  induction l with
  | nil =>
    intro k acc p hp c hc
    rw [spl_nil, List.mem_singleton] at hp
    subst hp
    exact .inl hc
  | cons a r ih =>
    intro k acc p hp c hc
    cases k with
    | zero =>
      cases h : pre S (a :: r)
      · rw [spl_miss h] at hp
        rcases ih 0 _ p hp c hc with q | q
        · rcases List.mem_append.mp q with q | q
          · exact .inl q
          · rw [List.mem_singleton] at q
            subst q
            exact .inr List.mem_cons_self
        · exact .inr (List.mem_cons_of_mem _ q)
      · rw [spl_hit h] at hp
        rcases List.mem_cons.mp hp with rfl | hp
        · exact .inl hc
        · rcases ih _ [] p hp c hc with q | q
          · cases q
          · exact .inr (List.mem_cons_of_mem _ q)
    | succ k =>
      have e : spl S (k + 1) acc (a :: r) = spl S k acc r := rfl
      rw [e] at hp
      rcases ih k acc p hp c hc with q | q
      · exact .inl q
      · exact .inr (List.mem_cons_of_mem _ q)
abbrev bar : Str := "|"
open TL in
theorem bar_tl : tl bar = [124] := by decide +kernel
open TL in
theorem bar_kind {x : Str} : ¬ Builtin.Str.strKind x < Builtin.Str.strKind bar := kind_ok (by decide +kernel)
open TL in
theorem split_asc {x : Str} (h : asc x) : ∀ p ∈ Txt.split x bar, asc p := fun p hp c hc => by
  have e := split_spl x bar (by rw [bar_tl]; exact List.cons_ne_nil _ _) bar_kind
  have hm : tl p ∈ (Txt.split x bar).map tl := List.mem_map.mpr ⟨p, hp, rfl⟩
  rw [e] at hm
  rcases spl_sub _ _ _ _ _ hm c hc with q | q
  · cases q
  · exact h c q
theorem splitB_len (x : Str) : (Txt.split x bar).length ≤ x.length + 2 := by
  have := PyProof.Rows.split_le x bar
  omega
theorem strs_map : ∀ xs : List Str, strsD (xs.map D.str) = some xs
  | [] => rfl
  | x :: xs => by
    show (match strsD (xs.map D.str) with | some ys => some (x :: ys) | none => none) = _
    rw [strs_map xs]
theorem bls_map (g : D → Bool) : ∀ ds : List D, blsD (ds.map fun d => .bl (g d)) = some (ds.map g)
  | [] => rfl
  | d :: ds => by
    show (match blsD (ds.map fun d => .bl (g d)) with | some ys => some (g d :: ys) | none => none) = _
    rw [bls_map g ds]
    rfl
theorem all_map (g : D → Bool) (ds : List D) : allD [.lst (ds.map fun d => .bl (g d))] = some (.bl ((ds.map g).all id)) := by
  show (match blsD (ds.map fun d => .bl (g d)) with
    | some bs => some (D.bl (bs.all id))
    | none => none) = _
  rw [bls_map]
/-! ### any texts as coders -/
def inb (k : Int) (d : D) : Bool := match inD false d (namesD k) with
  | some (.bl b) => b
  | _ => false
theorem in_any {k : Int} (hk : K23 k) (p : Str) : inD false (.str p) (namesD k) = some (.bl (inb k (.str p))) := by
  have h : ∃ b, inD false (.str p) (namesD k) = some (.bl b) := by rcases hk with rfl | rfl <;> exact ⟨_, rfl⟩
  obtain ⟨b, h⟩ := h
  unfold inb
  rw [h]
theorem in12b (n : Nat) : ∃ b, inD true (.int (n : Int)) (.tup [.int 1, .int 2]) = some (.bl b) := ⟨_, rfl⟩
theorem itc {k : Int} (hk : K23 k) {ps : List Str} (hl : ps.length ≤ LIM) : ∃ b, g_is_tuple_of_coders [.d (.int k), .d (.tup (ps.map D.str))] = some (.bl b, none) := by
  obtain ⟨b, e⟩ := in12b ps.length
  cases b
  · refine ⟨((ps.map D.str).map (inb k)).all id, mkD rfl rfl ?_⟩
    unfold m_is_tuple_of_coders
    walk_at "x"
    rw [if_pos (show 2 ≤ LIM by decide)]
    walk_at "x"
    rw [List.length_map, e]
    walk_at "x"
    rw [names_ok hk]
    walk_at "x"
    unfold mLc
    walk_at "x"
    rw [lc_const (f := fun d => .bl (inb k d)) rfl (fun d hd => ?_) (by rw [List.length_map, List.length_nil, Nat.zero_add]; exact hl)]
    · walk_at "x"
      rw [all_map]
      rfl
    · obtain ⟨p, hp, rfl⟩ := List.mem_map.mp hd
      refine ⟨[.d (.int k), .d (.tup (ps.map D.str)), .d (namesD k), .d (.str p)], [.d (.int k), .d (.tup (ps.map D.str)), .d (namesD k), .d (.str p)], rfl, rfl, ?_, rfl, rfl⟩
      walk_at "x"
      rw [in_any hk p]
  · refine ⟨false, mkD rfl rfl ?_⟩
    unfold m_is_tuple_of_coders
    walk_at "x"
    rw [if_pos (show 2 ≤ LIM by decide)]
    walk_at "x"
    rw [List.length_map, e]
    walk_at "x"
    rfl
/-! ### parse_chain, any text -/
theorem rsize_ok {k : Int} (hk : K23 k) : r_check_size [.d (.int k)] = none := by rcases hk with rfl | rfl <;> decide +kernel
theorem str_g (x : Str) : g__check_string [.d (.str x)] = some (.non, none) := rfl
theorem str_r (x : Str) : r__check_string [.d (.str x)] = none := rfl
abbrev due (x : Str) : D := .tup ((Txt.split x bar).map D.str)
theorem splD {x : Str} (h : x.length ≤ 60000) : splitD x (.str bar) = some (.lst ((Txt.split x bar).map D.str)) := by
  show (if (bar.length == 0) = false ∧ x.length + 2 ≤ LIM then some (D.lst ((Txt.split x bar).map D.str)) else none) = _
  rw [if_pos ⟨by decide +kernel, Nat.le_trans (show x.length + 2 ≤ 60002 by omega) (by decide)⟩]
theorem rseq_rt {r1 r2 : MR} {m1 : MS} {ρ ρ1 : Rho} {d : D} (h1 : r1 ρ = none) (h2 : m1 ρ = some (.rt d, ρ1)) : rSeq r1 m1 r2 ρ = none := by
  unfold rSeq
  rw [h1, h2]
theorem pc_set {k : Int} {x : Str} (h : x.length ≤ 60000) : (mSet 2 (mVe (mN tupleD (mA1 (mVal (mS1 splitD (mSl 1) (mVal (mC (.str ("|" : Str)))))) mA0)))) [.d (.int k), .d (.str x), .un] = some (.nx, [.d (.int k), .d (.str x), .d (due x)]) := by
  have e := splD h
  unfold mS1
  walk_at "x"
  rw [e]
  rfl
theorem mnot_s {m : ME} {ρ ρ1 : Rho} {b : Bool} (h : m ρ = some (.bl b, ρ1)) : mNot (mTB m) ρ = some (!b, ρ1) := by
  unfold mNot mTB
  rw [h]
theorem mifs_f {c : MT} {m n : MS} {ρ ρ1 : Rho} (h : c ρ = some (false, ρ1)) : mIfS c m n ρ = n ρ1 := by
  unfold mIfS
  rw [h]
section
variable {k : Int} {x : Str} {b : Bool}
theorem pc_r (hk : K23 k) (h : x.length ≤ 60000) (e : g_is_tuple_of_coders [.d (.int k), .d (due x)] = some (.bl b, none)) : r_parse_chain [.d (.int k), .d (.str x)] = if b then none else some "ParseError" := by
  have c : mNot (mTB (mCall g_is_tuple_of_coders (mA1 (mVal (mV 0)) (mA1 (mVal (mV 2)) mA0)))) [.d (.int k), .d (.str x), .d (due x)] = some (!b, [.d (.int k), .d (.str x), .d (due x)]) := mnot_s (mcall_s rfl rfl rfl e)
  have s : ∀ r, rm_parse_chain [.d (.int k), .d (.str x), .un] = r ↔ (rSeq (rIf (mNot (mTB (mCall g_is_tuple_of_coders (mA1 (mVal (mV 0)) (mA1 (mVal (mV 2)) mA0))))) (rSeq (rRz ("ParseError" : Str) (mC (.str ("no chain has this text" : Str)))) mNev rNev) rNev) mNev rNev) [.d (.int k), .d (.str x), .d (due x)] = r := fun r => by
    unfold rm_parse_chain
    rw [rseq_n (rcall_n rfl rfl rfl (rsize_ok hk)) (mx_n (mcall_s rfl rfl rfl (size_ok hk))), rseq_n (rcall_n rfl rfl rfl (str_r x)) (mx_n (mcall_s rfl rfl rfl (str_g x))), rseq_n rfl (pc_set h)]
  cases b
  · exact runR_ok ⟨rfl, rfl⟩ ((s _).mpr (rseq_s ((rif_t c).trans rfl)))
  · exact runR_no ((s _).mpr (rseq_z ((rif_f c).trans rfl)))
theorem pc_g (hk : K23 k) (h : x.length ≤ 60000) (e : g_is_tuple_of_coders [.d (.int k), .d (due x)] = some (.bl true, none)) : g_parse_chain [.d (.int k), .d (.str x)] = some (due x, none) := by
  have c : mNot (mTB (mCall g_is_tuple_of_coders (mA1 (mVal (mV 0)) (mA1 (mVal (mV 2)) mA0)))) [.d (.int k), .d (.str x), .d (due x)] = some (false, [.d (.int k), .d (.str x), .d (due x)]) := mnot_s (mcall_s rfl rfl rfl e)
  refine runD_ok rfl rfl (ρ := [.d (.int k), .d (.str x), .d (due x)]) ?_
  show m_parse_chain [.d (.int k), .d (.str x), .un] = _
  unfold m_parse_chain
  rw [mseq_n (mx_n (mcall_s rfl rfl rfl (size_ok hk))), mseq_n (mx_n (mcall_s rfl rfl rfl (str_g x))), mseq_n (pc_set h), mseq_n ((mifs_f c).trans rfl)]
  rfl
theorem ic_g (hk : K23 k) (e : g_is_tuple_of_coders [.d (.int k), .d (due x)] = some (.bl b, none)) : g_is_chain [.d (.int k), .d (due x)] = some (.bl b, none) := by
  refine runD_ok rfl rfl (ρ := [.d (.int k), .d (due x)]) ?_
  show m_is_chain [.d (.int k), .d (due x)] = _
  unfold m_is_chain
  rw [mseq_n (mx_n (mcall_s rfl rfl rfl (size_ok hk)))]
  exact mseq_r (mret_s (mcall_s rfl rfl rfl e))
end
theorem tryk_s {i : Nat} {m : MS} {r : MR} {f : Str → Option D} {ρ ρ1 : Rho} {C : Str} {s : Sl} {d : D} (hr : r ρ = some (C, ρ1)) (hs : ρ1[i]? = some s) (hn : notIo s = true) (hf : f C = some d) : mTryK i m r f ρ = some (.rt d, ρ1.set i .un) := by
  unfold mTryK
  rw [hr]
  simp only [hs, hn, hf, if_true]
theorem tryk_n {i : Nat} {m : MS} {r : MR} {f : Str → Option D} {ρ : Rho} (hr : r ρ = none) : mTryK i m r f ρ = m ρ := by
  unfold mTryK
  rw [hr]
theorem mif_t {c : MT} {m n : ME} {ρ ρ1 : Rho} (h : c ρ = some (true, ρ1)) : mIf c m n ρ = m ρ1 := by
  unfold mIf
  rw [h]
theorem mif_f {c : MT} {m n : ME} {ρ ρ1 : Rho} (h : c ρ = some (false, ρ1)) : mIf c m n ρ = n ρ1 := by
  unfold mIf
  rw [h]
theorem fpe : f__law_read ("ParseError" : Str) = some .non := rfl
section
variable {k : Int} {x : Str} {b : Bool}
theorem read_c (hk : K23 k) (h : x.length ≤ 60000) (e : g_is_tuple_of_coders [.d (.int k), .d (due x)] = some (.bl b, none)) : g__law_read [.d (.int k), .d (.str x), .d (.bl false)] = some (if b then due x else .non, none) := by
  have r := pc_r hk h e
  cases b
  · refine runD_ok rfl rfl (ρ := [.d (.int k), .d (.str x), .d (.bl false), .un]) ?_
    show m__law_read [.d (.int k), .d (.str x), .d (.bl false), .un] = _
    unfold m__law_read
    exact mseq_r (tryk_s (ρ1 := [.d (.int k), .d (.str x), .d (.bl false), .un]) (s := .un) (rseq_s ((rif_f rfl).trans (rcall_s rfl rfl rfl r))) rfl rfl fpe)
  · refine runD_ok rfl rfl (ρ := [.d (.int k), .d (.str x), .d (.bl false), .un]) ?_
    show m__law_read [.d (.int k), .d (.str x), .d (.bl false), .un] = _
    unfold m__law_read
    exact mseq_r ((tryk_n (rseq_z ((rif_f rfl).trans (rcall_n rfl rfl rfl r)))).trans (mseq_r (mret_s ((mif_f rfl).trans (mcall_s rfl rfl rfl (pc_g hk h e))))))
theorem read_rE (hk : K23 k) (e : r_parse_row [.d (.int k), .d (.str x)] = some "ParseError") : g__law_read [.d (.int k), .d (.str x), .d (.bl true)] = some (.non, none) := by
  refine runD_ok rfl rfl (ρ := [.d (.int k), .d (.str x), .d (.bl true), .un]) ?_
  show m__law_read [.d (.int k), .d (.str x), .d (.bl true), .un] = _
  unfold m__law_read
  exact mseq_r (tryk_s (ρ1 := [.d (.int k), .d (.str x), .d (.bl true), .un]) (s := .un) (rseq_s ((rif_t rfl).trans (rcall_s rfl rfl rfl e))) rfl rfl fpe)
theorem read_rN {d : D} (hk : K23 k) (e : r_parse_row [.d (.int k), .d (.str x)] = none) (g : g_parse_row [.d (.int k), .d (.str x)] = some (d, none)) : g__law_read [.d (.int k), .d (.str x), .d (.bl true)] = some (d, none) := by
  refine runD_ok rfl rfl (ρ := [.d (.int k), .d (.str x), .d (.bl true), .un]) ?_
  show m__law_read [.d (.int k), .d (.str x), .d (.bl true), .un] = _
  unfold m__law_read
  exact mseq_r ((tryk_n (rseq_z ((rif_t rfl).trans (rcall_n rfl rfl rfl e)))).trans (mseq_r (mret_s ((mif_t rfl).trans (mcall_s rfl rfl rfl g)))))
end

end Z
namespace Z
open PySem PySem.Spec PyProof.Rows L2
local macro_rules | `(tactic| walk_at "x") => `(tactic| try simp only [runD, mSeq, mAsg, mCallV, mCall, mA1, mA0, mVal, mV, toSls, toSl, ownIx, gT, gAll, gN, putD, mExt, ownL, putL, mSl, res, mFl, Sl.put, mSet, mVe, mVn, putV, putN, mDisp, valL, mL, mTup, mRet, mX, mIfS, mTB, mB, mNot, mAnd, mOr, mAndV, mOrV, mNotV, mIf, mC, mApp, mN, resL, mFor, mIL, mIT, mIZ, mPar, mIsi, mSub, mSubAug, mAug, mGet, getT, ioOut, ioIx, cellAt, Cell.dat, ni_d, ni_un, ni_own, ca_d, if_true, g0, gs, List.length_cons, List.length_nil, Nat.zero_add, Nat.reduceAdd, List.cons_append, List.nil_append, List.replicate, List.getElem?_cons_zero, List.getElem?_cons_succ, List.set_cons_zero, List.set_cons_succ, Option.bind_some, Option.bind_none, List.map_cons, List.map_nil, List.append_nil, isi_int_non, isi_int_bl, isi_int_int, isi_int_str, isi_int_lst, isi_int_scr, isi_int_tup, isi_bool_non, isi_bool_bl, isi_bool_int, isi_bool_str, isi_bool_lst, isi_bool_scr, isi_bool_tup, isi_list_non, isi_list_bl, isi_list_int, isi_list_str, isi_list_lst, isi_list_scr, isi_list_tup, isi_tuple_non, isi_tuple_bl, isi_tuple_int, isi_tuple_str, isi_tuple_lst, isi_tuple_scr, isi_tuple_tup, isi_str_non, isi_str_bl, isi_str_int, isi_str_str, isi_str_lst, isi_str_scr, isi_str_tup, len_l, len_t, len_s, tu_l, tu_t, li_l, li_t, ci, ad_i, su_i, nn_n, nn_i, nn_l, nn_t, in_n, in_i, in_l, in_t, Bool.not_true, Bool.not_false, ix_l0, ix_l1, set2_0, set2_1, ixn0, ixn1, at0, at1, mBN, putC, ca_own, ca_io, eo_rep, mAS, rSeq, rCall, rIf, rRz, rNev, runR, mDf, mCallE, rCallE, mTryK, ioIx])
/-! ### rows as texts -/
def chI (x : Int) : Nat := 48 + x.toNat
abbrev one (c : Nat) : Str := ⟨#[c]⟩
abbrev fig (x : Int) : Str := one (chI x)
/-- the signs that a row's text and the law's changes have -/
abbrev alph : List Nat := [48, 49, 50, 32, 45]
def vl (c : Nat) : Int := if 48 ≤ c ∧ c ≤ 50 then (c : Int) - 48 else -1
def isd (k : Int) (c : Nat) : Bool := decide (48 ≤ c ∧ (c : Int) < 48 + k)
theorem fig_in {k : Int} (hk : K23 k) {x : Int} (hx : x ∈ sgs k) : ixSD c_FIGURES (.int x) = some (.str (fig x)) := by
  have h : ((sgs k).all fun x => isL (ixSD c_FIGURES (.int x)) (.str (fig x))) = true := by rcases hk with rfl | rfl <;> decide +kernel
  exact of_isL (List.all_eq_true.mp h x hx)
theorem str_in {k : Int} (hk : K23 k) {x : Int} (hx : x ∈ sgs k) : strD [.int x] = some (.str (fig x)) := by
  have h : ((sgs k).all fun x => isL (strD [.int x]) (.str (fig x))) = true := by rcases hk with rfl | rfl <;> decide +kernel
  exact of_isL (List.all_eq_true.mp h x hx)
theorem find_in {c : Nat} (hc : c ∈ alph) : findD "012" (.str (one c)) = some (.int (vl c)) := by
  have h : (alph.all fun c => isL (findD "012" (.str (one c))) (.int (vl c))) = true := by decide +kernel
  exact of_isL (List.all_eq_true.mp h c hc)
theorem sign_in {k : Int} (hk : K23 k) {c : Nat} (hc : c ∈ alph) : g_is_sign [.d (.int k), .d (.int (vl c))] = some (.bl (isd k c), none) := by
  have h : (alph.all fun c => isV (g_is_sign [.d (.int k), .d (.int (vl c))]) (.bl (isd k c))) = true := by rcases hk with rfl | rfl <;> decide +kernel
  exact of_isV (List.all_eq_true.mp h c hc)
theorem has_in {k : Int} (hk : K23 k) {c : Nat} (hc : c ∈ alph) : inSD false (.str (one c)) (.str (cutS "012" none (some k))) = some (.bl (isd k c)) := by
  have h : (alph.all fun c => isL (inSD false (.str (one c)) (.str (cutS "012" none (some k)))) (.bl (isd k c))) = true := by rcases hk with rfl | rfl <;> decide +kernel
  exact of_isL (List.all_eq_true.mp h c hc)
theorem int_in {k : Int} (hk : K23 k) {c : Nat} (hc : c ∈ alph) (h : isd k c = true) : intD [.str (one c)] = some (.int (vl c)) := by
  have e : (alph.all fun c => !isd k c || isL (intD [.str (one c)]) (.int (vl c))) = true := by rcases hk with rfl | rfl <;> decide +kernel
  have e := List.all_eq_true.mp e c hc
  rw [h] at e
  exact of_isL e
theorem chI_in {k : Int} (hk : K23 k) {x : Int} (hx : x ∈ sgs k) : chI x ∈ alph ∧ vl (chI x) = x ∧ isd k (chI x) = true := by
  have h : ((sgs k).all fun x => alph.contains (chI x) && decide (vl (chI x) = x) && isd k (chI x)) = true := by rcases hk with rfl | rfl <;> decide +kernel
  have h := List.all_eq_true.mp h x hx
  simp only [Bool.and_eq_true, decide_eq_true_eq, List.contains_iff_mem] at h
  exact ⟨h.1.1, h.1.2, h.2⟩
/-- the text of a row -/
abbrev lineS (xs : List Int) : Str := Txt.join "" (xs.map fig)
open TL in
theorem joinL_nil : ∀ ps : List (List Nat), joinL [] ps = ps.flatten
  | [] => rfl
  | [p] => by rw [joinL, List.flatten_cons, List.flatten_nil, List.append_nil]
  | p :: q :: r => by rw [joinL, List.nil_append, joinL_nil (q :: r), List.flatten_cons, List.flatten_cons, List.flatten_cons]
open TL in
theorem line_tl (xs : List Int) : tl (lineS xs) = xs.map chI := by
  unfold lineS
  rw [join_eq, tl_join, show tl ("" : Str) = [] from by decide +kernel, joinL_nil]
  induction xs with
  | nil => rfl
  | cons x xs ih =>
    rw [List.map_cons, List.map_cons, List.flatten_cons, ih]
    rfl
open TL in
theorem line_len (xs : List Int) : (lineS xs).length = xs.length := by rw [len_tl, line_tl, List.length_map]
theorem sum_fig (xs : List Int) : (((xs.map fig).map Str.length).sum + (xs.map fig).length * ("" : Str).length) = xs.length := by
  have e : ("" : Str).length = 0 := by decide +kernel
  rw [e, Nat.mul_zero, Nat.add_zero]
  induction xs with
  | nil => rfl
  | cons x xs ih =>
    rw [List.map_cons, List.map_cons, List.sum_cons, ih, List.length_cons]
    show 1 + xs.length = _
    omega
theorem join_fig {xs : List Int} (h : xs.length ≤ 1000) : joinD "" (.lst (xs.map fun x => .str (fig x))) = some (.str (lineS xs)) := by
  have e : (xs.map fun x => D.str (fig x)) = (xs.map fig).map D.str := by rw [List.map_map]; rfl
  rw [e]
  show (match strsD ((xs.map fig).map D.str) with
    | some ys => if (ys.map Str.length).sum + ys.length * ("" : Str).length ≤ 16777216 then some (D.str (Txt.join "" ys)) else none
    | none => none) = _
  rw [strs_map]
  show (if ((xs.map fig).map Str.length).sum + (xs.map fig).length * ("" : Str).length ≤ 16777216 then some (D.str (Txt.join "" (xs.map fig))) else none) = _
  rw [if_pos (by rw [sum_fig]; omega)]
/-! ### format_row -/
theorem map_ints (xs : List Int) (f : Int → D) : (xs.map D.int).map (fun d : D => match d with | .int i => f i | _ => .non) = xs.map f := by
  rw [List.map_map]
  rfl
theorem fr_lc {k : Int} (hk : K23 k) {xs : List Int} (h : Row k xs) : loopC [2] (gN 2) mYes (mB ixSD (mVal (mC c_FIGURES)) (mSl 2)) (xs.map D.int) [.d (.int k), .d (L xs), .un] [] = some (xs.map fun x => .str (fig x), [.d (.int k), .d (L xs), .un]) := by
  rw [lc_const (f := fun d => match d with | .int i => .str (fig i) | _ => .non) rfl (fun d hd => ?_) (by rw [List.length_map, List.length_nil, Nat.zero_add]; exact Nat.le_trans h.len (by decide)), List.nil_append, map_ints]
  obtain ⟨x, hx, rfl⟩ := List.mem_map.mp hd
  have e := fig_in hk (h.mem x hx)
  refine ⟨[.d (.int k), .d (L xs), .d (.int x)], [.d (.int k), .d (L xs), .d (.int x)], rfl, rfl, ?_, rfl, rfl⟩
  walk_at "x"
  rw [e]
theorem fr_ok {k : Int} (hk : K23 k) {xs : List Int} (h : Row k xs) : g_format_row [.d (.int k), .d (L xs)] = some (.str (lineS xs), none) := by
  have e := fr_lc hk h
  have j := join_fig (xs := xs) (by have := h.len; omega)
  refine runD_ok rfl rfl (ρ := [.d (.int k), .d (L xs), .un]) ?_
  show m_format_row [.d (.int k), .d (L xs), .un] = _
  unfold m_format_row
  rw [mseq_n (mx_n (mcall_s rfl rfl rfl (size_ok hk))), mseq_n (mx_n (mcall_s rfl rfl rfl (row_ok hk h)))]
  refine mseq_r (mret_s ?_)
  unfold mS1 mLc
  walk_at "x"
  unfold L
  walk_at "x"
  rw [show (loopC [2] (gN 2) mYes (mB ixSD (mVal (mC c_FIGURES)) (mSl 2)) (xs.map D.int) [.d (.int k), .d (.lst (xs.map D.int)), .un] []) = _ from e]
  walk_at "x"
  rw [j]

end Z
namespace Z
open PySem PySem.Spec PyProof.Rows L2
local macro_rules | `(tactic| walk_at "x") => `(tactic| try simp only [runD, mSeq, mAsg, mCallV, mCall, mA1, mA0, mVal, mV, toSls, toSl, ownIx, gT, gAll, gN, putD, mExt, ownL, putL, mSl, res, mFl, Sl.put, mSet, mVe, mVn, putV, putN, mDisp, valL, mL, mTup, mRet, mX, mIfS, mTB, mB, mNot, mAnd, mOr, mAndV, mOrV, mNotV, mIf, mC, mApp, mN, resL, mFor, mIL, mIT, mIZ, mPar, mIsi, mSub, mSubAug, mAug, mGet, getT, ioOut, ioIx, cellAt, Cell.dat, ni_d, ni_un, ni_own, ca_d, if_true, g0, gs, List.length_cons, List.length_nil, Nat.zero_add, Nat.reduceAdd, List.cons_append, List.nil_append, List.replicate, List.getElem?_cons_zero, List.getElem?_cons_succ, List.set_cons_zero, List.set_cons_succ, Option.bind_some, Option.bind_none, List.map_cons, List.map_nil, List.append_nil, isi_int_non, isi_int_bl, isi_int_int, isi_int_str, isi_int_lst, isi_int_scr, isi_int_tup, isi_bool_non, isi_bool_bl, isi_bool_int, isi_bool_str, isi_bool_lst, isi_bool_scr, isi_bool_tup, isi_list_non, isi_list_bl, isi_list_int, isi_list_str, isi_list_lst, isi_list_scr, isi_list_tup, isi_tuple_non, isi_tuple_bl, isi_tuple_int, isi_tuple_str, isi_tuple_lst, isi_tuple_scr, isi_tuple_tup, isi_str_non, isi_str_bl, isi_str_int, isi_str_str, isi_str_lst, isi_str_scr, isi_str_tup, len_l, len_t, len_s, tu_l, tu_t, li_l, li_t, ci, ad_i, su_i, nn_n, nn_i, nn_l, nn_t, in_n, in_i, in_l, in_t, Bool.not_true, Bool.not_false, ix_l0, ix_l1, set2_0, set2_1, ixn0, ixn1, at0, at1, mBN, putC, ca_own, ca_io, eo_rep, mAS, rSeq, rCall, rIf, rRz, rNev, runR, mDf, mCallE, rCallE, mTryK, ioIx])
/-! ### parse_row -/
theorem mcall_t {g : Gf} {m : MA} {ρ ρ1 : Rho} {os : List Od} {sls : List Sl} {d : D} (hm : m ρ = some (os, ρ1)) (hs : toSls ρ1 os = some sls) (ho : ownIx ρ1 os = []) (hr : g sls = some (d, none)) : mCall g m ρ = some (d, ρ1) := by
  unfold mCall
  rw [hm]
  simp only [hs, ho, hr]
theorem lc_idx {α : Type} {h f : α → D} {ρ : Rho} {vs : List Nat} {g : MG} {tt : MT} {te : ME} (hp : plainAt ρ vs = true) : ∀ {as : List α} {acc : List D}, (∀ a ∈ as, ∃ ρ1 ρ3, g (h a) (wipeR ρ vs) = some ρ1 ∧ tt ρ1 = some (true, ρ1) ∧ te ρ1 = some (f a, ρ3) ∧ plainAt ρ3 vs = true ∧ unwipe ρ3 ρ vs = ρ) → acc.length + as.length ≤ LIM →
    loopC vs g tt te (as.map h) ρ acc = some (acc ++ as.map f, ρ)
  | [], acc, _, _ => by simp only [loopC, List.map_nil, List.append_nil]
  | d :: ds, acc, q, hl => by
    obtain ⟨ρ1, ρ3, h1, h2, h3, h4, h5⟩ := q d List.mem_cons_self
    rw [List.length_cons] at hl
    rw [List.map_cons]
    simp only [loopC, hp, if_true, h1, h2, h3, h4, Bool.true_and, decide_eq_true (show acc.length < LIM by omega), h5]
    rw [lc_idx hp (fun e he => q e (List.mem_cons_of_mem _ he)) (by rw [List.length_append, List.length_singleton]; omega), List.append_assoc]
    rfl
theorem bls_idx {α : Type} (p : α → Bool) : ∀ as : List α, blsD (as.map fun a => .bl (p a)) = some (as.map p)
  | [] => rfl
  | a :: as => by
    show (match blsD (as.map fun a => .bl (p a)) with | some ys => some (p a :: ys) | none => none) = _
    rw [bls_idx p as]
    rfl
theorem all_idx {α : Type} (p : α → Bool) (as : List α) : allD [.lst (as.map fun a => .bl (p a))] = some (.bl (as.all p)) := by
  show (match blsD (as.map fun a => .bl (p a)) with
    | some bs => some (D.bl (bs.all id))
    | none => none) = _
  rw [bls_idx]
  show some (D.bl ((as.map p).all id)) = _
  rw [List.all_map]
  rfl
/-- a text of the alphabet -/
structure Al (x : Str) (cs : List Nat) : Prop where
  eq : x.cps.toList = cs
  mem : ∀ c ∈ cs, c ∈ alph
  len : cs.length ≤ 1000
def okA (k : Int) (cs : List Nat) : Bool := decide (cs.length ≤ 40) && cs.all (isd k)
theorem chs_al {x : Str} {cs : List Nat} (h : Al x cs) : chsD x = cs.map fun c => .str (one c) := by
  unfold chsD
  rw [h.eq]
abbrev LV (cs : List Nat) : D := .lst (cs.map fun c => .int (vl c))
theorem LV_eq (cs : List Nat) : LV cs = L (cs.map vl) := by
  unfold LV L
  rw [List.map_map]
  rfl
theorem LV_len {cs : List Nat} : lenD [LV cs] = some (.int (cs.length : Int)) := by
  unfold LV
  rw [len_l, List.length_map]
theorem as_al {k : Int} (hk : K23 k) {cs : List Nat} (hm : ∀ c ∈ cs, c ∈ alph) (hl : cs.length ≤ 1000) : g__are_signs [.d (.int k), .d (LV cs)] = some (.bl (cs.all (isd k)), none) := by
  refine mkD rfl rfl ?_
  unfold m__are_signs
  walk_at "x"
  unfold mLc
  walk_at "x"
  rw [lc_idx (f := fun c => .bl (isd k c)) rfl (fun c hc => ?_) (by rw [List.length_nil, Nat.zero_add]; exact Nat.le_trans hl (by decide))]
  · walk_at "x"
    rw [all_idx]
    rfl
  · have e := sign_in hk (hm c hc)
    exact ⟨[.d (.int k), .d (LV cs), .d (.int (vl c))], [.d (.int k), .d (LV cs), .d (.int (vl c))], rfl, rfl, mcall_t rfl rfl rfl e, rfl, rfl⟩
theorem ls_al {k : Int} (hk : K23 k) {cs : List Nat} (hm : ∀ c ∈ cs, c ∈ alph) (hl : cs.length ≤ 1000) : g_is_list_of_signs [.d (.int k), .d (LV cs), .d (.int 40)] = some (.bl (okA k cs), none) := by
  have e := as_al hk hm hl
  have l := LV_len (cs := cs)
  refine mkD rfl rfl ?_
  unfold m_is_list_of_signs okA
  by_cases h : cs.length ≤ 40
  · rw [decide_eq_true h, Bool.true_and]
    unfold LV at *
    walk_at "x"
    rw [List.length_map, decide_eq_true (show (cs.length : Int) ≤ 40 by omega)]
    walk_at "x"
    rw [e]
    rfl
  · rw [decide_eq_false h, Bool.false_and]
    unfold LV at *
    walk_at "x"
    rw [List.length_map, decide_eq_false (show ¬ (cs.length : Int) ≤ 40 by omega)]
    rfl
section
variable {k : Int} {x : Str} {cs : List Nat}
theorem pr_set (h : Al x cs) : (mSet 2 (mVn (mLc (mIS (mV 1)) [3] (gN 3) mYes (mS1 findD (mVal (mC c_FIGURES)) (mSl 3))))) [.d (.int k), .d (.str x), .un, .un] = some (.nx, [.d (.int k), .d (.str x), .own (.lst (cs.map fun c => .int (vl c))), .un]) := by
  have lc : loopC [3] (gN 3) mYes (mS1 findD (mVal (mC c_FIGURES)) (mSl 3)) (cs.map fun c => .str (one c)) [.d (.int k), .d (.str x), .un, .un] [] = some (cs.map fun c => .int (vl c), [.d (.int k), .d (.str x), .un, .un]) := by
    rw [lc_idx (f := fun c => .int (vl c)) rfl (fun c hc => ?_) (by rw [List.length_nil, Nat.zero_add]; exact Nat.le_trans h.len (by decide)), List.nil_append]
    have e := find_in (h.mem c hc)
    refine ⟨[.d (.int k), .d (.str x), .un, .d (.str (one c))], [.d (.int k), .d (.str x), .un, .d (.str (one c))], rfl, rfl, ?_, rfl, rfl⟩
    unfold mS1 c_FIGURES
    walk_at "x"
    rw [e]
  unfold mLc mIS
  walk_at "x"
  rw [chs_al h]
  rw [lc]
  rfl
theorem pr_r (hk : K23 k) (h : Al x cs) : r_parse_row [.d (.int k), .d (.str x)] = if okA k cs then none else some "ParseError" := by
  have e := ls_al hk h.mem h.len
  have c : mNot (mTB (mCall g_is_list_of_signs (mA1 (mVal (mV 0)) (mA1 (mVal (mV 2)) (mA1 (mVal (mC c_LONGEST_ROW)) mA0))))) [.d (.int k), .d (.str x), .own (.lst (cs.map fun c => .int (vl c))), .un] = some (!okA k cs, [.d (.int k), .d (.str x), .d (LV cs), .un]) := mnot_s (mcall_t rfl rfl rfl e)
  have s : ∀ r, rm_parse_row [.d (.int k), .d (.str x), .un, .un] = r ↔ (rSeq (rIf (mNot (mTB (mCall g_is_list_of_signs (mA1 (mVal (mV 0)) (mA1 (mVal (mV 2)) (mA1 (mVal (mC c_LONGEST_ROW)) mA0)))))) (rSeq (rRz ("ParseError" : Str) (mC (.str ("no row has this text" : Str)))) mNev rNev) rNev) mNev rNev) [.d (.int k), .d (.str x), .own (.lst (cs.map fun c => .int (vl c))), .un] = r := fun r => by
    unfold rm_parse_row
    rw [rseq_n (rcall_n rfl rfl rfl (rsize_ok hk)) (mx_n (mcall_s rfl rfl rfl (size_ok hk))), rseq_n (rcall_n rfl rfl rfl (str_r x)) (mx_n (mcall_s rfl rfl rfl (str_g x))), rseq_n rfl (pr_set h)]
  cases q : okA k cs
  · rw [q] at c
    exact runR_ok ⟨rfl, rfl⟩ ((s _).mpr (rseq_s ((rif_t c).trans rfl)))
  · rw [q] at c
    exact runR_no ((s _).mpr (rseq_z ((rif_f c).trans rfl)))
theorem pr_g (hk : K23 k) (h : Al x cs) (q : okA k cs = true) : g_parse_row [.d (.int k), .d (.str x)] = some (LV cs, none) := by
  have e := ls_al hk h.mem h.len
  rw [q] at e
  have c : mNot (mTB (mCall g_is_list_of_signs (mA1 (mVal (mV 0)) (mA1 (mVal (mV 2)) (mA1 (mVal (mC c_LONGEST_ROW)) mA0))))) [.d (.int k), .d (.str x), .own (.lst (cs.map fun c => .int (vl c))), .un] = some (false, [.d (.int k), .d (.str x), .d (LV cs), .un]) := mnot_s (mcall_t rfl rfl rfl e)
  refine runD_ok rfl rfl (ρ := [.d (.int k), .d (.str x), .d (LV cs), .un]) ?_
  show m_parse_row [.d (.int k), .d (.str x), .un, .un] = _
  unfold m_parse_row
  rw [mseq_n (mx_n (mcall_s rfl rfl rfl (size_ok hk))), mseq_n (mx_n (mcall_s rfl rfl rfl (str_g x))), mseq_n (pr_set h), mseq_n ((mifs_f c).trans rfl)]
  rfl
theorem read_r (hk : K23 k) (h : Al x cs) : g__law_read [.d (.int k), .d (.str x), .d (.bl true)] = some (if okA k cs then LV cs else .non, none) := by
  have r := pr_r hk h
  cases q : okA k cs
  · rw [q] at r
    exact read_rE hk r
  · rw [q] at r
    exact read_rN hk r (pr_g hk h q)
end
theorem line_al {k : Int} (hk : K23 k) {xs : List Int} (h : Row k xs) : Al (lineS xs) (xs.map chI) := ⟨line_tl xs, fun c hc => by
  obtain ⟨x, hx, rfl⟩ := List.mem_map.mp hc
  exact (chI_in hk (h.mem x hx)).1, by rw [List.length_map]; have := h.len; omega⟩
theorem line_LV {k : Int} (hk : K23 k) {xs : List Int} (h : ∀ x ∈ xs, x ∈ sgs k) : LV (xs.map chI) = L xs := by
  rw [LV_eq, List.map_map]
  congr 1
  have : ∀ x ∈ xs, (vl ∘ chI) x = id x := fun x hx => (chI_in hk (h x hx)).2.1
  rw [List.map_congr_left this, List.map_id]
theorem line_ok {k : Int} (hk : K23 k) {xs : List Int} (h : Row k xs) : okA k (xs.map chI) = true := by
  unfold okA
  rw [List.length_map, decide_eq_true h.len, Bool.true_and]
  refine List.all_eq_true.mpr fun c hc => ?_
  obtain ⟨x, hx, rfl⟩ := List.mem_map.mp hc
  exact (chI_in hk (h.mem x hx)).2.2
theorem pr_line {k : Int} (hk : K23 k) {xs : List Int} (h : Row k xs) : g_parse_row [.d (.int k), .d (.str (lineS xs))] = some (L xs, none) := by
  rw [← line_LV hk h.mem]
  exact pr_g hk (line_al hk h) (line_ok hk h)

end Z
namespace Z
open PySem PySem.Spec PyProof.Rows L2
local macro_rules | `(tactic| walk_at "x") => `(tactic| try simp only [runD, mSeq, mAsg, mCallV, mCall, mA1, mA0, mVal, mV, toSls, toSl, ownIx, gT, gAll, gN, putD, mExt, ownL, putL, mSl, res, mFl, Sl.put, mSet, mVe, mVn, putV, putN, mDisp, valL, mL, mTup, mRet, mX, mIfS, mTB, mB, mNot, mAnd, mOr, mAndV, mOrV, mNotV, mIf, mC, mApp, mN, resL, mFor, mIL, mIT, mIZ, mPar, mIsi, mSub, mSubAug, mAug, mGet, getT, ioOut, ioIx, cellAt, Cell.dat, ni_d, ni_un, ni_own, ca_d, if_true, g0, gs, List.length_cons, List.length_nil, Nat.zero_add, Nat.reduceAdd, List.cons_append, List.nil_append, List.replicate, List.getElem?_cons_zero, List.getElem?_cons_succ, List.set_cons_zero, List.set_cons_succ, Option.bind_some, Option.bind_none, List.map_cons, List.map_nil, List.append_nil, isi_int_non, isi_int_bl, isi_int_int, isi_int_str, isi_int_lst, isi_int_scr, isi_int_tup, isi_bool_non, isi_bool_bl, isi_bool_int, isi_bool_str, isi_bool_lst, isi_bool_scr, isi_bool_tup, isi_list_non, isi_list_bl, isi_list_int, isi_list_str, isi_list_lst, isi_list_scr, isi_list_tup, isi_tuple_non, isi_tuple_bl, isi_tuple_int, isi_tuple_str, isi_tuple_lst, isi_tuple_scr, isi_tuple_tup, isi_str_non, isi_str_bl, isi_str_int, isi_str_str, isi_str_lst, isi_str_scr, isi_str_tup, len_l, len_t, len_s, tu_l, tu_t, li_l, li_t, ci, ad_i, su_i, nn_n, nn_i, nn_l, nn_t, in_n, in_i, in_l, in_t, Bool.not_true, Bool.not_false, ix_l0, ix_l1, set2_0, set2_1, ixn0, ixn1, at0, at1, mBN, putC, ca_own, ca_io, eo_rep, mAS, rSeq, rCall, rIf, rRz, rNev, runR, mDf, mCallE, rCallE, mTryK, ioIx])
/-! ### chains as texts -/
abbrev tx (ch : List Co) : Str := Txt.join bar (ch.map Co.nm)
theorem chD_strs (ch : List Co) : chD ch = .tup ((ch.map Co.nm).map D.str) := by
  unfold chD
  rw [List.map_map]
  rfl
theorem nm_len (c : Co) : c.nm.length ≤ 8 := by cases c <;> decide +kernel
theorem nm_asc (c : Co) : asc c.nm := by
  have h : ∀ c : Co, (c.nm.cps.toList.all fun x => decide (x < 128)) = true := fun c => by cases c <;> decide +kernel
  exact fun x hx => of_decide_eq_true (List.all_eq_true.mp (h c) x hx)
theorem nm_bar (c : Co) : 124 ∉ TL.tl c.nm := by
  have h : ∀ c : Co, (c.nm.cps.toList.all fun x => decide (x ≠ 124)) = true := fun c => by cases c <;> decide +kernel
  exact fun hx => of_decide_eq_true (List.all_eq_true.mp (h c) 124 hx) rfl
open TL in
theorem tx_tl (ch : List Co) : tl (tx ch) = joinL [124] (ch.map fun c => tl c.nm) := by
  unfold tx
  rw [join_eq, tl_join, bar_tl, List.map_map]
  rfl
section
variable {k : Int} {ch : List Co}
open TL in
theorem tx_two (h : Chn k ch) : (∃ c, ch = [c] ∧ tl (tx ch) = tl c.nm) ∨ ∃ c d, ch = [c, d] ∧ tl (tx ch) = tl c.nm ++ ([124] ++ tl d.nm) := by
  match ch, h.len with
  | [c], _ => exact .inl ⟨c, rfl, tx_tl [c]⟩
  | [c, d], _ => exact .inr ⟨c, d, rfl, tx_tl [c, d]⟩
  | [], h => simp at h
  | _ :: _ :: _ :: _, h => simp at h
open TL in
theorem tx_len (h : Chn k ch) : (tx ch).length ≤ 17 := by
  rw [len_tl]
  rcases tx_two h with ⟨c, _, e⟩ | ⟨c, d, _, e⟩
  · rw [e, ← len_tl]
    have := nm_len c
    omega
  · rw [e, List.length_append, List.length_append, ← len_tl, ← len_tl, List.length_singleton]
    have := nm_len c
    have := nm_len d
    omega
theorem tx_asc (h : Chn k ch) : asc (tx ch) := by
  intro x hx
  rcases tx_two h with ⟨c, _, e⟩ | ⟨c, d, _, e⟩
  · have : x ∈ TL.tl (tx ch) := hx
    rw [e] at this
    exact nm_asc c x this
  · have : x ∈ TL.tl (tx ch) := hx
    rw [e] at this
    rcases List.mem_append.mp this with q | q
    · exact nm_asc c x q
    · rcases List.mem_append.mp q with q | q
      · rw [List.mem_singleton] at q
        subst q
        decide
      · exact nm_asc d x q
theorem tx_split (h : Chn k ch) : Txt.split (tx ch) bar = ch.map Co.nm := by
  refine TL.split_join (s := 124) (S := []) bar_tl (by decide +kernel) (fun e => ?_) fun p hp => ?_
  · have := List.map_eq_nil_iff.mp e
    rw [this] at h
    rcases h.len with q | q <;> cases q
  · obtain ⟨c, _, rfl⟩ := List.mem_map.mp hp
    exact nm_bar c
theorem tx_due (h : Chn k ch) : due (tx ch) = chD ch := by
  rw [chD_strs]
  unfold due
  rw [tx_split h]
theorem tx_join (h : Chn k ch) : joinD bar (chD ch) = some (.str (tx ch)) := by
  rw [chD_strs]
  show (match strsD ((ch.map Co.nm).map D.str) with
    | some ys => if (ys.map Str.length).sum + ys.length * bar.length ≤ 16777216 then some (D.str (Txt.join bar ys)) else none
    | none => none) = _
  rw [strs_map]
  show (if ((ch.map Co.nm).map Str.length).sum + (ch.map Co.nm).length * bar.length ≤ 16777216 then some (D.str (tx ch)) else none) = _
  have b : bar.length = 1 := by decide +kernel
  rw [if_pos]
  rw [b]
  rcases tx_two h with ⟨c, rfl, _⟩ | ⟨c, d, rfl, _⟩
  · have := nm_len c
    simp only [List.map_cons, List.map_nil, List.sum_cons, List.sum_nil, List.length_cons, List.length_nil]
    omega
  · have := nm_len c
    have := nm_len d
    simp only [List.map_cons, List.map_nil, List.sum_cons, List.sum_nil, List.length_cons, List.length_nil]
    omega
theorem fc_ok (hk : K23 k) (h : Chn k ch) : g_format_chain [.d (.int k), .d (chD ch)] = some (.str (tx ch), none) := by
  have j := tx_join h
  refine runD_ok rfl rfl (ρ := [.d (.int k), .d (chD ch)]) ?_
  show m_format_chain [.d (.int k), .d (chD ch)] = _
  unfold m_format_chain
  rw [mseq_n (mx_n (mcall_s rfl rfl rfl (size_ok hk))), mseq_n (mx_n (mcall_s rfl rfl rfl (chain_ok hk h)))]
  refine mseq_r (mret_s ?_)
  unfold mS1
  walk_at "x"
  rw [j]
theorem pc_ok (hk : K23 k) (h : Chn k ch) : g_parse_chain [.d (.int k), .d (.str (tx ch))] = some (chD ch, none) := by
  rw [← tx_due h]
  refine pc_g hk (by have := tx_len h; omega) ?_
  rw [tx_due h]
  exact tc_ok hk h
end
/-! ### changed texts -/
theorem cut_len (x : Str) (lo hi : Option Int) : (cutS x lo hi).length ≤ x.length := cutS_length x lo hi
theorem cut_mem {x : Str} {lo hi : Option Int} {c : Nat} (h : c ∈ (cutS x lo hi).cps.toList) : c ∈ x.cps.toList := by
  unfold cutS at h
  exact List.mem_of_mem_drop (List.mem_of_mem_take h)
abbrev chg (x s : Str) (a b : Int) : Str := cutS x none (some a) ++ s ++ cutS x (some b) none
theorem app_len (x y : Str) : (x ++ y).length = x.length + y.length := by
  rw [TL.len_tl, TL.tl_append, List.length_append, ← TL.len_tl, ← TL.len_tl]
theorem chg_len (x s : Str) (a b : Int) : (chg x s a b).length ≤ 2 * x.length + s.length := by
  unfold chg
  rw [app_len, app_len]
  have := cut_len x none (some a)
  have := cut_len x (some b) none
  omega
theorem chg_mem {x s : Str} {a b : Int} {c : Nat} (h : c ∈ (chg x s a b).cps.toList) : c ∈ x.cps.toList ∨ c ∈ s.cps.toList := by
  have h : c ∈ TL.tl (chg x s a b) := h
  unfold chg at h
  rw [TL.tl_append, TL.tl_append] at h
  rcases List.mem_append.mp h with q | q
  · rcases List.mem_append.mp q with q | q
    · exact .inl (cut_mem q)
    · exact .inr q
  · exact .inl (cut_mem q)
theorem add_str {x y : Str} (h : x.length + y.length ≤ 60000) : addD (.str x) (.str y) = some (.str (x ++ y)) := by
  show (if x.length + y.length ≤ LIM then some (D.str (x ++ y)) else none) = _
  rw [if_pos (Nat.le_trans h (by decide))]
theorem len_str {x : Str} (h : x.length ≤ 60000) : lenD [.str x] = some (.int (x.length : Int)) := by
  show (if x.length ≤ LIM then some (D.int x.length) else none) = _
  rw [if_pos (Nat.le_trans h (by decide))]

end Z
namespace Z
open PySem PySem.Spec PyProof.Rows L2
local macro_rules | `(tactic| walk_at "x") => `(tactic| try simp only [runD, mSeq, mAsg, mCallV, mCall, mA1, mA0, mVal, mV, toSls, toSl, ownIx, gT, gAll, gN, putD, mExt, ownL, putL, mSl, res, mFl, Sl.put, mSet, mVe, mVn, putV, putN, mDisp, valL, mL, mTup, mRet, mX, mIfS, mTB, mB, mNot, mAnd, mOr, mAndV, mOrV, mNotV, mIf, mC, mApp, mN, resL, mFor, mIL, mIT, mIZ, mPar, mIsi, mSub, mSubAug, mAug, mGet, getT, ioOut, ioIx, cellAt, Cell.dat, ni_d, ni_un, ni_own, ca_d, if_true, g0, gs, List.length_cons, List.length_nil, Nat.zero_add, Nat.reduceAdd, List.cons_append, List.nil_append, List.replicate, List.getElem?_cons_zero, List.getElem?_cons_succ, List.set_cons_zero, List.set_cons_succ, Option.bind_some, Option.bind_none, List.map_cons, List.map_nil, List.append_nil, isi_int_non, isi_int_bl, isi_int_int, isi_int_str, isi_int_lst, isi_int_scr, isi_int_tup, isi_bool_non, isi_bool_bl, isi_bool_int, isi_bool_str, isi_bool_lst, isi_bool_scr, isi_bool_tup, isi_list_non, isi_list_bl, isi_list_int, isi_list_str, isi_list_lst, isi_list_scr, isi_list_tup, isi_tuple_non, isi_tuple_bl, isi_tuple_int, isi_tuple_str, isi_tuple_lst, isi_tuple_scr, isi_tuple_tup, isi_str_non, isi_str_bl, isi_str_int, isi_str_str, isi_str_lst, isi_str_scr, isi_str_tup, len_l, len_t, len_s, tu_l, tu_t, li_l, li_t, ci, ad_i, su_i, nn_n, nn_i, nn_l, nn_t, in_n, in_i, in_l, in_t, Bool.not_true, Bool.not_false, ix_l0, ix_l1, set2_0, set2_1, ixn0, ixn1, at0, at1, mBN, putC, ca_own, ca_io, eo_rep, mAS, rSeq, rCall, rIf, rRz, rNev, runR, mDf, mCallE, rCallE, mTryK, ioIx])
theorem mor_ff {c1 c2 : MT} {ρ ρ1 ρ2 : Rho} (h1 : c1 ρ = some (false, ρ1)) (h2 : c2 ρ1 = some (false, ρ2)) : mOr c1 c2 ρ = some (false, ρ2) := by
  unfold mOr
  rw [h1]
  exact h2
theorem mif_n {c : MT} {a : MS} {ρ ρ1 : Rho} (h : c ρ = some (false, ρ1)) : mIfS c a (mFl .nx) ρ = some (.nx, ρ1) := by
  unfold mIfS
  rw [h]
  rfl
theorem mtb_s {m : ME} {ρ ρ1 : Rho} {b : Bool} (h : m ρ = some (.bl b, ρ1)) : mTB m ρ = some (b, ρ1) := by
  unfold mTB
  rw [h]
theorem mb_t {f : D → D → Option D} {m n : MO} {ρ ρ1 ρ2 : Rho} {o1 o2 : Od} {x y z : D} (hm : m ρ = some (o1, ρ1)) (hn : n ρ1 = some (o2, ρ2)) (r1 : res ρ2 o1 = some x) (r2 : res ρ2 o2 = some y) (hf : f x y = some z) : mB f m n ρ = some (z, ρ2) := by
  unfold mB
  rw [hm]
  simp only [hn, r1, r2, hf]
theorem mval_s {m : ME} {ρ ρ1 : Rho} {d : D} (h : m ρ = some (d, ρ1)) : mVal m ρ = some (.val d, ρ1) := by
  unfold mVal
  rw [h]
abbrev picks : List Str := ["", "|", "|same", "0", "s", " "]
abbrev picks2 : List Str := ["", "0", "2", " ", "-"]
theorem pick_facts {s : Str} (h : s ∈ picks) : asc s ∧ s.length ≤ 5 := by
  have e : (picks.all fun s => (s.cps.toList.all fun c => decide (c < 128)) && decide (s.length ≤ 5)) = true := by decide +kernel
  have e := List.all_eq_true.mp e s h
  simp only [Bool.and_eq_true, decide_eq_true_eq, List.all_eq_true] at e
  exact ⟨e.1, e.2⟩
theorem pick2_facts {s : Str} (h : s ∈ picks2) : (∀ c ∈ s.cps.toList, c ∈ alph) ∧ s.length ≤ 1 := by
  have e : (picks2.all fun s => (s.cps.toList.all fun c => alph.contains c) && decide (s.length ≤ 1)) = true := by decide +kernel
  have e := List.all_eq_true.mp e s h
  simp only [Bool.and_eq_true, decide_eq_true_eq, List.all_eq_true, List.contains_iff_mem] at e
  exact ⟨e.1, e.2⟩
section
variable {ns : List Int} {p t k : Int} {ch : List Co} {xs : List Int}
theorem P3 (hk : K23 k) (h : Chn k ch) (hr : Row k xs) : (mPar 5 6 (mVe (mS1 joinD (mVal (mC (.str ("|" : Str)))) (mSl 3))) (mVe (mS1 joinD (mVal (mC (.str ("" : Str)))) (mVal (mL (mLc (mIL (mV 4)) [7] (gN 7) mYes (mN strD (mA1 (mSl 7) mA0)))))))) [.d (.scr ns), .own (.lst [.int p, .int t]), .d (.int k), .d (chD ch), .d (L xs), .un, .un, .un, .un, .un, .un, .un, .un, .un] = some (.nx, [.d (.scr ns), .own (.lst [.int p, .int t]), .d (.int k), .d (chD ch), .d (L xs), .d (.str (tx ch)), .d (.str (lineS xs)), .un, .un, .un, .un, .un, .un, .un]) := by
  have j1 := tx_join h
  have j2 := join_fig (xs := xs) (by have := hr.len; omega)
  have lc : loopC [7] (gN 7) mYes (mN strD (mA1 (mSl 7) mA0)) (xs.map D.int) [.d (.scr ns), .own (.lst [.int p, .int t]), .d (.int k), .d (chD ch), .d (L xs), .un, .un, .un, .un, .un, .un, .un, .un, .un] [] = some (xs.map fun x => .str (fig x), [.d (.scr ns), .own (.lst [.int p, .int t]), .d (.int k), .d (chD ch), .d (L xs), .un, .un, .un, .un, .un, .un, .un, .un, .un]) := by
    rw [lc_idx (f := fun x => .str (fig x)) rfl (fun x hx => ?_) (by rw [List.length_nil, Nat.zero_add]; exact Nat.le_trans hr.len (by decide)), List.nil_append]
    have e := str_in hk (hr.mem x hx)
    refine ⟨[.d (.scr ns), .own (.lst [.int p, .int t]), .d (.int k), .d (chD ch), .d (L xs), .un, .un, .d (.int x), .un, .un, .un, .un, .un, .un], [.d (.scr ns), .own (.lst [.int p, .int t]), .d (.int k), .d (chD ch), .d (L xs), .un, .un, .d (.int x), .un, .un, .un, .un, .un, .un], rfl, rfl, ?_, rfl, rfl⟩
    walk_at "x"
    rw [e]
  unfold mS1 mLc
  walk_at "x"
  rw [j1]
  walk_at "x"
  unfold L at *
  walk_at "x"
  rw [lc]
  walk_at "x"
  rw [j2]
  walk_at "x"
theorem P4 (hk : K23 k) (h : Chn k ch) : (mIfS (mOr (mTB (mB neD (mVal (mCall g_format_chain (mA1 (mVal (mV 2)) (mA1 (mVal (mV 3)) mA0)))) (mSl 5))) (mTB (mB neD (mVal (mCall g_parse_chain (mA1 (mVal (mV 2)) (mA1 (mVal (mV 5)) mA0)))) (mSl 3)))) (mSeq (mRet (mC (.bl false))) (mFl .nx)) (mFl .nx)) [.d (.scr ns), .own (.lst [.int p, .int t]), .d (.int k), .d (chD ch), .d (L xs), .d (.str (tx ch)), .d (.str (lineS xs)), .un, .un, .un, .un, .un, .un, .un] = some (.nx, [.d (.scr ns), .own (.lst [.int p, .int t]), .d (.int k), .d (chD ch), .d (L xs), .d (.str (tx ch)), .d (.str (lineS xs)), .un, .un, .un, .un, .un, .un, .un]) := by
  refine mif_n (mor_ff (mtb_s (mb_t (mval_s (mcall_s rfl rfl rfl (fc_ok hk h))) rfl rfl rfl (ne_self (okD_str (asc_ok (tx_asc h)))))) (mtb_s (mb_t (mval_s (mcall_s rfl rfl rfl (pc_ok hk h))) rfl rfl rfl ?_)))
  rw [← tx_due h]
  exact ne_self (okD_strs fun p hp => asc_ok (split_asc (tx_asc h) p hp))
theorem line_asc (hk : K23 k) (hr : Row k xs) : asc (lineS xs) := fun c hc => by
  have h : ∀ c ∈ alph, c < 128 := by decide
  exact h c ((line_al hk hr).mem c (by rw [← (line_al hk hr).eq]; exact hc))
theorem P5 (hk : K23 k) (hr : Row k xs) : (mIfS (mOr (mTB (mB neD (mVal (mCall g_format_row (mA1 (mVal (mV 2)) (mA1 (mVal (mV 4)) mA0)))) (mSl 6))) (mTB (mB neD (mVal (mCall g_parse_row (mA1 (mVal (mV 2)) (mA1 (mVal (mV 6)) mA0)))) (mSl 4)))) (mSeq (mRet (mC (.bl false))) (mFl .nx)) (mFl .nx)) [.d (.scr ns), .own (.lst [.int p, .int t]), .d (.int k), .d (chD ch), .d (L xs), .d (.str (tx ch)), .d (.str (lineS xs)), .un, .un, .un, .un, .un, .un, .un] = some (.nx, [.d (.scr ns), .own (.lst [.int p, .int t]), .d (.int k), .d (chD ch), .d (L xs), .d (.str (tx ch)), .d (.str (lineS xs)), .un, .un, .un, .un, .un, .un, .un]) := by
  refine mif_n (mor_ff (mtb_s (mb_t (mval_s (mcall_s rfl rfl rfl (fr_ok hk hr))) rfl rfl rfl (ne_self (okD_str (asc_ok (line_asc hk hr)))))) (mtb_s (mb_t (mval_s (mcall_s rfl rfl rfl (pr_line hk hr))) rfl rfl rfl (ne_self (okD_L xs)))))
def un4 (x7 x9 x10 x11 : Sl) : Prop := (x7 = .un ∧ x9 = .un ∧ x10 = .un ∧ x11 = .un) ∨ ∃ d7 d9 d10 d11, x7 = .d d7 ∧ x9 = .d d9 ∧ x10 = .d d10 ∧ x11 = .d d11
theorem B0 (h : Chn k ch) (hp : 0 ≤ p) {x7 x9 x10 x11 : Sl} (hq : un4 x7 x9 x10 x11) {tu : D} : ∃ (a : Int) (s : Str) (p2 t2 : Int), 0 ≤ p2 ∧ s ∈ picks ∧ (mPar 9 7 (mVe (mCall g__law_draw (mA1 (mVal (mV 0)) (mA1 (mSl 1) (mA1 (mVal (mB addD (mVal (mN lenD (mA1 (mSl 5) mA0))) (mVal (mC (.int 1))))) mA0))))) (mVe (mCall g__law_pick (mA1 (mVal (mV 0)) (mA1 (mSl 1) (mA1 (mVal (mL (mDisp (mA1 (mVal (mC (.str ("" : Str)))) (mA1 (mVal (mC (.str ("|" : Str)))) (mA1 (mVal (mC (.str ("|same" : Str)))) (mA1 (mVal (mC (.str ("0" : Str)))) (mA1 (mVal (mC (.str ("s" : Str)))) (mA1 (mVal (mC (.str (" " : Str)))) mA0))))))))) mA0)))))) [.d (.scr ns), .own (.lst [.int p, .int t]), .d (.int k), .d (chD ch), .d (L xs), .d (.str (tx ch)), .d (.str (lineS xs)), x7, .d tu, x9, x10, x11, .un, .un] = some (.nx, [.d (.scr ns), .own (.lst [.int p2, .int t2]), .d (.int k), .d (chD ch), .d (L xs), .d (.str (tx ch)), .d (.str (lineS xs)), .d (.str s), .d tu, .d (.int a), x10, x11, .un, .un]) := by
  have hl := tx_len h
  have ln := len_str (x := tx ch) (by omega)
  obtain ⟨a, p1, t1, d1⟩ := draw_ok (ns := ns) (p := p) (t := t) (many := ((tx ch).length : Int) + 1) (by omega) (by omega) hp
  obtain ⟨d, p2, t2, e2, hd, hp2⟩ := pick_ok (ns := ns) (p := p1) (t := t1) (ds := picks.map D.str) (by decide) (by decide) d1.pos
  obtain ⟨s, hs, rfl⟩ := List.mem_map.mp hd
  have e2 : g__law_pick [.d (.scr ns), .io (.lst [.int p1, .int t1]), .d (.lst [.str "", .str "|", .str "|same", .str "0", .str "s", .str " "])] = some (.str s, some (.lst [.int p2, .int t2])) := e2
  refine ⟨a, s, p2, t2, hp2, hs, ?_⟩
  rcases hq with ⟨rfl, rfl, rfl, rfl⟩ | ⟨d7, d9, d10, d11, rfl, rfl, rfl, rfl⟩
  all_goals
    walk_at "x"
    repeat ((first | rw [ln] | rw [d1.run] | rw [e2] | rw [if_pos (show 6 ≤ LIM by decide)] | rw [if_pos (show 5 ≤ LIM by decide)] | rw [if_pos (show 4 ≤ LIM by decide)] | rw [if_pos (show 3 ≤ LIM by decide)] | rw [if_pos (show 2 ≤ LIM by decide)] | rw [if_pos (show 1 ≤ LIM by decide)]); walk_at "x")
def un2 (x10 x11 : Sl) : Prop := (x10 = .un ∧ x11 = .un) ∨ ∃ d10 d11, x10 = .d d10 ∧ x11 = .d d11
theorem B1 (h : Chn k ch) (hp : 0 ≤ p) {x10 x11 : Sl} (hq : un2 x10 x11) {s : Str} (hs : s ∈ picks) {tu : D} {a : Int} : ∃ (b p2 t2 : Int), 0 ≤ p2 ∧ (mSet 10 (mVe (mB addD (mVal (mB addD (mVal (mSliceS (mSl 5) mP0 (mP1 (mSl 9)))) (mSl 7))) (mVal (mSliceS (mSl 5) (mP1 (mVal (mB addD (mSl 9) (mVal (mCall g__law_draw (mA1 (mVal (mV 0)) (mA1 (mSl 1) (mA1 (mVal (mC (.int 2))) mA0)))))))) mP0))))) [.d (.scr ns), .own (.lst [.int p, .int t]), .d (.int k), .d (chD ch), .d (L xs), .d (.str (tx ch)), .d (.str (lineS xs)), .d (.str s), .d tu, .d (.int a), x10, x11, .un, .un] = some (.nx, [.d (.scr ns), .own (.lst [.int p2, .int t2]), .d (.int k), .d (chD ch), .d (L xs), .d (.str (tx ch)), .d (.str (lineS xs)), .d (.str s), .d tu, .d (.int a), .d (.str (chg (tx ch) s a b)), x11, .un, .un]) := by
  have hl := tx_len h
  have sl := (pick_facts hs).2
  obtain ⟨r, p2, t2, d1⟩ := draw_ok (ns := ns) (p := p) (t := t) (many := 2) (by decide) (by decide) hp
  have c1 := cut_len (tx ch) none (some a)
  have c2 := cut_len (tx ch) (some (a + r)) none
  have a1 := add_str (x := cutS (tx ch) none (some a)) (y := s) (by omega)
  have a2 := add_str (x := cutS (tx ch) none (some a) ++ s) (y := cutS (tx ch) (some (a + r)) none) (by rw [app_len]; omega)
  have il : (tx ch).length ≤ LIM := Nat.le_trans hl (by decide)
  refine ⟨a + r, p2, t2, d1.pos, ?_⟩
  unfold mSliceS mP0 mP1
  rcases hq with ⟨rfl, rfl⟩ | ⟨d10, d11, rfl, rfl⟩
  all_goals
    walk_at "x"
    repeat ((first | rw [a1] | rw [a2] | rw [d1.run] | rw [if_pos il] | rw [if_pos (show 6 ≤ LIM by decide)] | rw [if_pos (show 5 ≤ LIM by decide)] | rw [if_pos (show 4 ≤ LIM by decide)] | rw [if_pos (show 3 ≤ LIM by decide)] | rw [if_pos (show 2 ≤ LIM by decide)] | rw [if_pos (show 1 ≤ LIM by decide)]); walk_at "x")
theorem B2 {x11 : Sl} (hq : x11 = .un ∨ ∃ d, x11 = .d d) {x : Str} (hx : x.length ≤ 60000) {s tu a : D} : (mSet 11 (mVe (mN tupleD (mA1 (mVal (mS1 splitD (mSl 10) (mVal (mC (.str ("|" : Str)))))) mA0)))) [.d (.scr ns), .own (.lst [.int p, .int t]), .d (.int k), .d (chD ch), .d (L xs), .d (.str (tx ch)), .d (.str (lineS xs)), .d s, .d tu, .d a, .d (.str x), x11, .un, .un] = some (.nx, [.d (.scr ns), .own (.lst [.int p, .int t]), .d (.int k), .d (chD ch), .d (L xs), .d (.str (tx ch)), .d (.str (lineS xs)), .d s, .d tu, .d a, .d (.str x), .d (due x), .un, .un]) := by
  have e := splD hx
  unfold mS1
  rcases hq with rfl | ⟨d, rfl⟩
  all_goals
    walk_at "x"
    repeat ((first | rw [e] | rw [if_pos (show 6 ≤ LIM by decide)] | rw [if_pos (show 5 ≤ LIM by decide)] | rw [if_pos (show 4 ≤ LIM by decide)] | rw [if_pos (show 3 ≤ LIM by decide)] | rw [if_pos (show 2 ≤ LIM by decide)] | rw [if_pos (show 1 ≤ LIM by decide)]); walk_at "x")
theorem B3 (hk : K23 k) {x : Str} (hx : x.length ≤ 60000) (hb : asc x) {s tu a : D} : (mIfS (mTB (mB neD (mVal (mCall g__law_read (mA1 (mVal (mV 2)) (mA1 (mVal (mV 10)) (mA1 (mVal (mC (.bl false))) mA0))))) (mVal (mIf (mTB (mCall g_is_chain (mA1 (mVal (mV 2)) (mA1 (mVal (mV 11)) mA0)))) (mV 11) (mC .non))))) (mSeq (mRet (mC (.bl false))) (mFl .nx)) (mFl .nx)) [.d (.scr ns), .own (.lst [.int p, .int t]), .d (.int k), .d (chD ch), .d (L xs), .d (.str (tx ch)), .d (.str (lineS xs)), .d s, .d tu, .d a, .d (.str x), .d (due x), .un, .un] = some (.nx, [.d (.scr ns), .own (.lst [.int p, .int t]), .d (.int k), .d (chD ch), .d (L xs), .d (.str (tx ch)), .d (.str (lineS xs)), .d s, .d tu, .d a, .d (.str x), .d (due x), .un, .un]) := by
  have hl := splitB_len x
  obtain ⟨b, e⟩ := itc hk (ps := Txt.split x bar) (Nat.le_trans (show _ ≤ 60002 by omega) (by decide))
  have e1 := read_c hk hx e
  have e2 := ic_g hk e
  refine mif_n (mtb_s (mb_t (x := if b then due x else .non) (y := if b then due x else .non) (mval_s (mcall_s rfl rfl rfl e1)) (mval_s (d := if b then due x else .non) ?_) rfl rfl (ne_self ?_)))
  · cases b
    · exact (mif_f (mtb_s (mcall_s rfl rfl rfl e2))).trans rfl
    · exact (mif_t (mtb_s (mcall_s rfl rfl rfl e2))).trans rfl
  · cases b
    · show okD .non = true
      decide
    · exact okD_strs fun p hp => asc_ok (split_asc hb p hp)
theorem turn (hk : K23 k) (h : Chn k ch) (hp : 0 ≤ p) {x7 x9 x10 x11 : Sl} (hq : un4 x7 x9 x10 x11) {tu : D} : ∃ (p2 t2 : Int) (y7 y9 y10 y11 : Sl), 0 ≤ p2 ∧ un4 y7 y9 y10 y11 ∧ (mSeq (mPar 9 7 (mVe (mCall g__law_draw (mA1 (mVal (mV 0)) (mA1 (mSl 1) (mA1 (mVal (mB addD (mVal (mN lenD (mA1 (mSl 5) mA0))) (mVal (mC (.int 1))))) mA0))))) (mVe (mCall g__law_pick (mA1 (mVal (mV 0)) (mA1 (mSl 1) (mA1 (mVal (mL (mDisp (mA1 (mVal (mC (.str ("" : Str)))) (mA1 (mVal (mC (.str ("|" : Str)))) (mA1 (mVal (mC (.str ("|same" : Str)))) (mA1 (mVal (mC (.str ("0" : Str)))) (mA1 (mVal (mC (.str ("s" : Str)))) (mA1 (mVal (mC (.str (" " : Str)))) mA0))))))))) mA0)))))) (mSeq (mSet 10 (mVe (mB addD (mVal (mB addD (mVal (mSliceS (mSl 5) mP0 (mP1 (mSl 9)))) (mSl 7))) (mVal (mSliceS (mSl 5) (mP1 (mVal (mB addD (mSl 9) (mVal (mCall g__law_draw (mA1 (mVal (mV 0)) (mA1 (mSl 1) (mA1 (mVal (mC (.int 2))) mA0)))))))) mP0))))) (mSeq (mSet 11 (mVe (mN tupleD (mA1 (mVal (mS1 splitD (mSl 10) (mVal (mC (.str ("|" : Str)))))) mA0)))) (mSeq (mIfS (mTB (mB neD (mVal (mCall g__law_read (mA1 (mVal (mV 2)) (mA1 (mVal (mV 10)) (mA1 (mVal (mC (.bl false))) mA0))))) (mVal (mIf (mTB (mCall g_is_chain (mA1 (mVal (mV 2)) (mA1 (mVal (mV 11)) mA0)))) (mV 11) (mC .non))))) (mSeq (mRet (mC (.bl false))) (mFl .nx)) (mFl .nx)) (mFl .nx))))) [.d (.scr ns), .own (.lst [.int p, .int t]), .d (.int k), .d (chD ch), .d (L xs), .d (.str (tx ch)), .d (.str (lineS xs)), x7, .d tu, x9, x10, x11, .un, .un] = some (.nx, [.d (.scr ns), .own (.lst [.int p2, .int t2]), .d (.int k), .d (chD ch), .d (L xs), .d (.str (tx ch)), .d (.str (lineS xs)), y7, .d tu, y9, y10, y11, .un, .un]) := by
  obtain ⟨a, s, p1, t1, hp1, hs, b0⟩ := B0 (xs := xs) h hp hq (ns := ns) (t := t) (tu := tu)
  have q2 : un2 x10 x11 := by
    rcases hq with ⟨_, _, e, f⟩ | ⟨_, _, d10, d11, _, _, e, f⟩
    · exact .inl ⟨e, f⟩
    · exact .inr ⟨d10, d11, e, f⟩
  have q3 : x11 = .un ∨ ∃ d, x11 = .d d := by
    rcases q2 with ⟨_, e⟩ | ⟨_, d, _, e⟩
    · exact .inl e
    · exact .inr ⟨d, e⟩
  obtain ⟨b, p2, t2, hp2, b1⟩ := B1 (ns := ns) (t := t1) (xs := xs) h hp1 q2 hs (tu := tu) (a := a)
  have cl := chg_len (tx ch) s a b
  have hl := tx_len h
  have sl := pick_facts hs
  have hx : (chg (tx ch) s a b).length ≤ 60000 := by omega
  have ha : asc (chg (tx ch) s a b) := fun c hc => by
    rcases chg_mem hc with q | q
    · exact tx_asc h c q
    · exact sl.1 c q
  have b2 := B2 (ns := ns) (p := p2) (t := t2) (k := k) (ch := ch) (xs := xs) q3 hx (s := .str s) (tu := tu) (a := .int a)
  have b3 := B3 (ns := ns) (p := p2) (t := t2) (ch := ch) (xs := xs) hk hx ha (s := .str s) (tu := tu) (a := .int a)
  refine ⟨p2, t2, .d (.str s), .d (.int a), .d (.str (chg (tx ch) s a b)), .d (due (chg (tx ch) s a b)), hp2, .inr ⟨_, _, _, _, rfl, rfl, rfl, rfl⟩, ?_⟩
  rw [mseq_n b0, mseq_n b1, mseq_n b2, mseq_n b3]
  rfl
theorem lp (hk : K23 k) (h : Chn k ch) : ∀ {ds : List D} {p t : Int} {x7 x8 x9 x10 x11 : Sl}, 0 ≤ p → un4 x7 x9 x10 x11 → (x8 = .un ∨ ∃ d, x8 = .d d) → ∃ (p2 t2 : Int) (y7 y8 y9 y10 y11 : Sl), 0 ≤ p2 ∧ un4 y7 y9 y10 y11 ∧ (y8 = .un ∨ ∃ d, y8 = .d d) ∧ loopF (gN 8) (mSeq (mPar 9 7 (mVe (mCall g__law_draw (mA1 (mVal (mV 0)) (mA1 (mSl 1) (mA1 (mVal (mB addD (mVal (mN lenD (mA1 (mSl 5) mA0))) (mVal (mC (.int 1))))) mA0))))) (mVe (mCall g__law_pick (mA1 (mVal (mV 0)) (mA1 (mSl 1) (mA1 (mVal (mL (mDisp (mA1 (mVal (mC (.str ("" : Str)))) (mA1 (mVal (mC (.str ("|" : Str)))) (mA1 (mVal (mC (.str ("|same" : Str)))) (mA1 (mVal (mC (.str ("0" : Str)))) (mA1 (mVal (mC (.str ("s" : Str)))) (mA1 (mVal (mC (.str (" " : Str)))) mA0))))))))) mA0)))))) (mSeq (mSet 10 (mVe (mB addD (mVal (mB addD (mVal (mSliceS (mSl 5) mP0 (mP1 (mSl 9)))) (mSl 7))) (mVal (mSliceS (mSl 5) (mP1 (mVal (mB addD (mSl 9) (mVal (mCall g__law_draw (mA1 (mVal (mV 0)) (mA1 (mSl 1) (mA1 (mVal (mC (.int 2))) mA0)))))))) mP0))))) (mSeq (mSet 11 (mVe (mN tupleD (mA1 (mVal (mS1 splitD (mSl 10) (mVal (mC (.str ("|" : Str)))))) mA0)))) (mSeq (mIfS (mTB (mB neD (mVal (mCall g__law_read (mA1 (mVal (mV 2)) (mA1 (mVal (mV 10)) (mA1 (mVal (mC (.bl false))) mA0))))) (mVal (mIf (mTB (mCall g_is_chain (mA1 (mVal (mV 2)) (mA1 (mVal (mV 11)) mA0)))) (mV 11) (mC .non))))) (mSeq (mRet (mC (.bl false))) (mFl .nx)) (mFl .nx)) (mFl .nx))))) ds [.d (.scr ns), .own (.lst [.int p, .int t]), .d (.int k), .d (chD ch), .d (L xs), .d (.str (tx ch)), .d (.str (lineS xs)), x7, x8, x9, x10, x11, .un, .un] = some (.nx, [.d (.scr ns), .own (.lst [.int p2, .int t2]), .d (.int k), .d (chD ch), .d (L xs), .d (.str (tx ch)), .d (.str (lineS xs)), y7, y8, y9, y10, y11, .un, .un])
  | [], p, t, x7, x8, x9, x10, x11, hp, hq, h8 => ⟨p, t, x7, x8, x9, x10, x11, hp, hq, h8, rfl⟩
  | d :: ds, p, t, x7, x8, x9, x10, x11, hp, hq, h8 => by
    obtain ⟨p1, t1, y7, y9, y10, y11, hp1, hq1, b⟩ := turn (ns := ns) (t := t) (xs := xs) hk h hp hq (tu := d)
    obtain ⟨p2, t2, z7, z8, z9, z10, z11, hp2, hq2, h8', e⟩ := lp hk h (ds := ds) (t := t1) (x8 := .d d) hp1 hq1 (.inr ⟨d, rfl⟩)
    refine ⟨p2, t2, z7, z8, z9, z10, z11, hp2, hq2, h8', ?_⟩
    have g : gN 8 d [.d (.scr ns), .own (.lst [.int p, .int t]), .d (.int k), .d (chD ch), .d (L xs), .d (.str (tx ch)), .d (.str (lineS xs)), x7, x8, x9, x10, x11, .un, .un] = some [.d (.scr ns), .own (.lst [.int p, .int t]), .d (.int k), .d (chD ch), .d (L xs), .d (.str (tx ch)), .d (.str (lineS xs)), x7, .d d, x9, x10, x11, .un, .un] := by
      rcases h8 with rfl | ⟨q, rfl⟩ <;> rfl
    unfold loopF
    rw [g]
    simp only [b]
    exact e
end

end Z
namespace Z
open PySem PySem.Spec PyProof.Rows L2
local macro_rules | `(tactic| walk_at "x") => `(tactic| try simp only [runD, mSeq, mAsg, mCallV, mCall, mA1, mA0, mVal, mV, toSls, toSl, ownIx, gT, gAll, gN, putD, mExt, ownL, putL, mSl, res, mFl, Sl.put, mSet, mVe, mVn, putV, putN, mDisp, valL, mL, mTup, mRet, mX, mIfS, mTB, mB, mNot, mAnd, mOr, mAndV, mOrV, mNotV, mIf, mC, mApp, mN, resL, mFor, mIL, mIT, mIZ, mPar, mIsi, mSub, mSubAug, mAug, mGet, getT, ioOut, ioIx, cellAt, Cell.dat, ni_d, ni_un, ni_own, ca_d, if_true, g0, gs, List.length_cons, List.length_nil, Nat.zero_add, Nat.reduceAdd, List.cons_append, List.nil_append, List.replicate, List.getElem?_cons_zero, List.getElem?_cons_succ, List.set_cons_zero, List.set_cons_succ, Option.bind_some, Option.bind_none, List.map_cons, List.map_nil, List.append_nil, isi_int_non, isi_int_bl, isi_int_int, isi_int_str, isi_int_lst, isi_int_scr, isi_int_tup, isi_bool_non, isi_bool_bl, isi_bool_int, isi_bool_str, isi_bool_lst, isi_bool_scr, isi_bool_tup, isi_list_non, isi_list_bl, isi_list_int, isi_list_str, isi_list_lst, isi_list_scr, isi_list_tup, isi_tuple_non, isi_tuple_bl, isi_tuple_int, isi_tuple_str, isi_tuple_lst, isi_tuple_scr, isi_tuple_tup, isi_str_non, isi_str_bl, isi_str_int, isi_str_str, isi_str_lst, isi_str_scr, isi_str_tup, len_l, len_t, len_s, tu_l, tu_t, li_l, li_t, ci, ad_i, su_i, nn_n, nn_i, nn_l, nn_t, in_n, in_i, in_l, in_t, Bool.not_true, Bool.not_false, ix_l0, ix_l1, set2_0, set2_1, ixn0, ixn1, at0, at1, mBN, putC, ca_own, ca_io, eo_rep, mAS, rSeq, rCall, rIf, rRz, rNev, runR, mDf, mCallE, rCallE, mTryK, ioIx])
section
variable {ns : List Int} {p t k : Int} {ch : List Co} {xs : List Int}
theorem P6 (hk : K23 k) (h : Chn k ch) (hp : 0 ≤ p) : ∃ (p2 t2 : Int) (y7 y8 y9 y10 y11 : Sl), 0 ≤ p2 ∧ un4 y7 y9 y10 y11 ∧ (y8 = .un ∨ ∃ d, y8 = .d d) ∧ (mFor (mIR1 (mVal (mC (.int 6)))) (gN 8) (mSeq (mPar 9 7 (mVe (mCall g__law_draw (mA1 (mVal (mV 0)) (mA1 (mSl 1) (mA1 (mVal (mB addD (mVal (mN lenD (mA1 (mSl 5) mA0))) (mVal (mC (.int 1))))) mA0))))) (mVe (mCall g__law_pick (mA1 (mVal (mV 0)) (mA1 (mSl 1) (mA1 (mVal (mL (mDisp (mA1 (mVal (mC (.str ("" : Str)))) (mA1 (mVal (mC (.str ("|" : Str)))) (mA1 (mVal (mC (.str ("|same" : Str)))) (mA1 (mVal (mC (.str ("0" : Str)))) (mA1 (mVal (mC (.str ("s" : Str)))) (mA1 (mVal (mC (.str (" " : Str)))) mA0))))))))) mA0)))))) (mSeq (mSet 10 (mVe (mB addD (mVal (mB addD (mVal (mSliceS (mSl 5) mP0 (mP1 (mSl 9)))) (mSl 7))) (mVal (mSliceS (mSl 5) (mP1 (mVal (mB addD (mSl 9) (mVal (mCall g__law_draw (mA1 (mVal (mV 0)) (mA1 (mSl 1) (mA1 (mVal (mC (.int 2))) mA0)))))))) mP0))))) (mSeq (mSet 11 (mVe (mN tupleD (mA1 (mVal (mS1 splitD (mSl 10) (mVal (mC (.str ("|" : Str)))))) mA0)))) (mSeq (mIfS (mTB (mB neD (mVal (mCall g__law_read (mA1 (mVal (mV 2)) (mA1 (mVal (mV 10)) (mA1 (mVal (mC (.bl false))) mA0))))) (mVal (mIf (mTB (mCall g_is_chain (mA1 (mVal (mV 2)) (mA1 (mVal (mV 11)) mA0)))) (mV 11) (mC .non))))) (mSeq (mRet (mC (.bl false))) (mFl .nx)) (mFl .nx)) (mFl .nx)))))) [.d (.scr ns), .own (.lst [.int p, .int t]), .d (.int k), .d (chD ch), .d (L xs), .d (.str (tx ch)), .d (.str (lineS xs)), .un, .un, .un, .un, .un, .un, .un] = some (.nx, [.d (.scr ns), .own (.lst [.int p2, .int t2]), .d (.int k), .d (chD ch), .d (L xs), .d (.str (tx ch)), .d (.str (lineS xs)), y7, y8, y9, y10, y11, .un, .un]) := by
  obtain ⟨p2, t2, y7, y8, y9, y10, y11, h1, h2, h3, e⟩ := lp (ns := ns) (xs := xs) hk h (ds := rngL 0 6) (t := t) (x8 := .un) hp (.inl ⟨rfl, rfl, rfl, rfl⟩) (.inl rfl)
  exact ⟨p2, t2, y7, y8, y9, y10, y11, h1, h2, h3, e⟩
theorem P7 (hr : Row k xs) (hp : 0 ≤ p) {x7 x8 x9 x10 x11 : Sl} (hq : un4 x7 x9 x10 x11) : ∃ (a p2 t2 : Int), 0 ≤ p2 ∧ (mSet 9 (mVe (mCall g__law_draw (mA1 (mVal (mV 0)) (mA1 (mSl 1) (mA1 (mVal (mB addD (mVal (mN lenD (mA1 (mSl 6) mA0))) (mVal (mC (.int 1))))) mA0)))))) [.d (.scr ns), .own (.lst [.int p, .int t]), .d (.int k), .d (chD ch), .d (L xs), .d (.str (tx ch)), .d (.str (lineS xs)), x7, x8, x9, x10, x11, .un, .un] = some (.nx, [.d (.scr ns), .own (.lst [.int p2, .int t2]), .d (.int k), .d (chD ch), .d (L xs), .d (.str (tx ch)), .d (.str (lineS xs)), x7, x8, .d (.int a), x10, x11, .un, .un]) := by
  have hl := hr.len
  have ln := len_str (x := lineS xs) (by rw [line_len]; omega)
  rw [line_len] at ln
  obtain ⟨a, p1, t1, d1⟩ := draw_ok (ns := ns) (p := p) (t := t) (many := (xs.length : Int) + 1) (by omega) (by omega) hp
  refine ⟨a, p1, t1, d1.pos, ?_⟩
  rcases hq with ⟨rfl, rfl, rfl, rfl⟩ | ⟨d7, d9, d10, d11, rfl, rfl, rfl, rfl⟩
  all_goals
    walk_at "x"
    repeat ((first | rw [ln] | rw [d1.run]); walk_at "x")
theorem P8 (hr : Row k xs) (hp : 0 ≤ p) {x7 x8 x10 x11 : Sl} (hq : un2 x10 x11) {a : Int} : ∃ (s : Str) (p2 t2 : Int), 0 ≤ p2 ∧ s ∈ picks2 ∧ (mSet 10 (mVe (mB addD (mVal (mB addD (mVal (mSliceS (mSl 6) mP0 (mP1 (mSl 9)))) (mVal (mCall g__law_pick (mA1 (mVal (mV 0)) (mA1 (mSl 1) (mA1 (mVal (mL (mDisp (mA1 (mVal (mC (.str ("" : Str)))) (mA1 (mVal (mC (.str ("0" : Str)))) (mA1 (mVal (mC (.str ("2" : Str)))) (mA1 (mVal (mC (.str (" " : Str)))) (mA1 (mVal (mC (.str ("-" : Str)))) mA0)))))))) mA0))))))) (mVal (mSliceS (mSl 6) (mP1 (mVal (mB addD (mSl 9) (mVal (mC (.int 1)))))) mP0))))) [.d (.scr ns), .own (.lst [.int p, .int t]), .d (.int k), .d (chD ch), .d (L xs), .d (.str (tx ch)), .d (.str (lineS xs)), x7, x8, .d (.int a), x10, x11, .un, .un] = some (.nx, [.d (.scr ns), .own (.lst [.int p2, .int t2]), .d (.int k), .d (chD ch), .d (L xs), .d (.str (tx ch)), .d (.str (lineS xs)), x7, x8, .d (.int a), .d (.str (chg (lineS xs) s a (a + 1))), x11, .un, .un]) := by
  have hl := hr.len
  have ll := line_len xs
  obtain ⟨d, p2, t2, e2, hd, hp2⟩ := pick_ok (ns := ns) (p := p) (t := t) (ds := picks2.map D.str) (by decide) (by decide) hp
  obtain ⟨s, hs, rfl⟩ := List.mem_map.mp hd
  have e2 : g__law_pick [.d (.scr ns), .io (.lst [.int p, .int t]), .d (.lst [.str "", .str "0", .str "2", .str " ", .str "-"])] = some (.str s, some (.lst [.int p2, .int t2])) := e2
  have sl := (pick2_facts hs).2
  have c1 := cut_len (lineS xs) none (some a)
  have c2 := cut_len (lineS xs) (some (a + 1)) none
  have a1 := add_str (x := cutS (lineS xs) none (some a)) (y := s) (by omega)
  have a2 := add_str (x := cutS (lineS xs) none (some a) ++ s) (y := cutS (lineS xs) (some (a + 1)) none) (by rw [app_len]; omega)
  have il : (lineS xs).length ≤ LIM := Nat.le_trans (show (lineS xs).length ≤ 40 by omega) (by decide)
  refine ⟨s, p2, t2, hp2, hs, ?_⟩
  unfold mSliceS mP0 mP1
  rcases hq with ⟨rfl, rfl⟩ | ⟨d10, d11, rfl, rfl⟩
  all_goals
    walk_at "x"
    repeat ((first | rw [a1] | rw [a2] | rw [e2] | rw [if_pos il] | rw [if_pos (show 6 ≤ LIM by decide)] | rw [if_pos (show 5 ≤ LIM by decide)] | rw [if_pos (show 4 ≤ LIM by decide)] | rw [if_pos (show 3 ≤ LIM by decide)] | rw [if_pos (show 2 ≤ LIM by decide)] | rw [if_pos (show 1 ≤ LIM by decide)]); walk_at "x")
theorem P9 (hk : K23 k) {x7 x8 x9 x11 : Sl} {x : Str} {cs : List Nat} (ha : Al x cs) : (mSet 12 (mVe (mAndV (mN allD (mA1 (mVal (mL (mLc (mIS (mV 10)) [13] (gN 13) mYes (mB (inSD false) (mSl 13) (mVal (mSliceS (mVal (mC (.str ("012" : Str)))) mP0 (mP1 (mSl 2)))))))) mA0)) (mB (cmpI fun i j => decide (i < j)) (mVal (mN lenD (mA1 (mSl 10) mA0))) (mVal (mC (.int 41))))))) [.d (.scr ns), .own (.lst [.int p, .int t]), .d (.int k), .d (chD ch), .d (L xs), .d (.str (tx ch)), .d (.str (lineS xs)), x7, x8, x9, .d (.str x), x11, .un, .un] = some (.nx, [.d (.scr ns), .own (.lst [.int p, .int t]), .d (.int k), .d (chD ch), .d (L xs), .d (.str (tx ch)), .d (.str (lineS xs)), x7, x8, x9, .d (.str x), x11, .d (.bl (okA k cs)), .un]) := by
  have lc : loopC [13] (gN 13) mYes (mB (inSD false) (mSl 13) (mVal (mSliceS (mVal (mC (.str ("012" : Str)))) mP0 (mP1 (mSl 2))))) (cs.map fun c => .str (one c)) [.d (.scr ns), .own (.lst [.int p, .int t]), .d (.int k), .d (chD ch), .d (L xs), .d (.str (tx ch)), .d (.str (lineS xs)), x7, x8, x9, .d (.str x), x11, .un, .un] [] = some (cs.map fun c => .bl (isd k c), [.d (.scr ns), .own (.lst [.int p, .int t]), .d (.int k), .d (chD ch), .d (L xs), .d (.str (tx ch)), .d (.str (lineS xs)), x7, x8, x9, .d (.str x), x11, .un, .un]) := by
    rw [lc_idx (f := fun c => .bl (isd k c)) (by rfl) (fun c hc => ?_) (by rw [List.length_nil, Nat.zero_add]; exact Nat.le_trans ha.len (by decide)), List.nil_append]
    have e := has_in hk (ha.mem c hc)
    have il : ("012" : Str).length ≤ LIM := by decide +kernel
    refine ⟨[.d (.scr ns), .own (.lst [.int p, .int t]), .d (.int k), .d (chD ch), .d (L xs), .d (.str (tx ch)), .d (.str (lineS xs)), x7, x8, x9, .d (.str x), x11, .un, .d (.str (one c))], [.d (.scr ns), .own (.lst [.int p, .int t]), .d (.int k), .d (chD ch), .d (L xs), .d (.str (tx ch)), .d (.str (lineS xs)), x7, x8, x9, .d (.str x), x11, .un, .d (.str (one c))], rfl, rfl, ?_, rfl, rfl⟩
    unfold mSliceS mP0 mP1
    walk_at "x"
    rw [if_pos il]
    walk_at "x"
    rw [e]
  have l : x.length = cs.length := by rw [← ha.eq, Array.length_toList]; rfl
  have ln := len_str (x := x) (by have := ha.len; omega)
  rw [l] at ln
  have ok : okA k cs = (cs.all (isd k) && decide ((cs.length : Int) < 41)) := by
    unfold okA
    rw [Bool.and_comm]
    congr 1
    exact decide_eq_decide.mpr (by omega)
  rw [ok]
  unfold mLc mIS
  walk_at "x"
  rw [chs_al ha]
  rw [lc]
  walk_at "x"
  rw [all_idx]
  cases q : cs.all (isd k)
  · walk_at "x"
    rfl
  · walk_at "x"
    repeat ((first | rw [ln]); walk_at "x")
    rfl
theorem P10 (hk : K23 k) {x7 x8 x9 x11 : Sl} {x : Str} {cs : List Nat} (ha : Al x cs) : (mRet (mB eqD (mVal (mCall g__law_read (mA1 (mVal (mV 2)) (mA1 (mVal (mV 10)) (mA1 (mVal (mC (.bl true))) mA0))))) (mVal (mIf (mTB (mV 12)) (mL (mLc (mIS (mV 10)) [13] (gN 13) mYes (mN intD (mA1 (mSl 13) mA0)))) (mC .non))))) [.d (.scr ns), .own (.lst [.int p, .int t]), .d (.int k), .d (chD ch), .d (L xs), .d (.str (tx ch)), .d (.str (lineS xs)), x7, x8, x9, .d (.str x), x11, .d (.bl (okA k cs)), .un] = some (.rt (.bl true), [.d (.scr ns), .own (.lst [.int p, .int t]), .d (.int k), .d (chD ch), .d (L xs), .d (.str (tx ch)), .d (.str (lineS xs)), x7, x8, x9, .d (.str x), x11, .d (.bl (okA k cs)), .un]) := by
  have r := read_r hk ha
  refine mret_s (mb_t (x := if okA k cs then LV cs else .non) (y := if okA k cs then LV cs else .non) (mval_s (mcall_s rfl rfl rfl r)) (mval_s (d := if okA k cs then LV cs else .non) ?_) rfl rfl ?_)
  · cases q : okA k cs
    · exact (mif_f rfl).trans rfl
    · refine (mif_t rfl).trans ?_
      have hall : cs.all (isd k) = true := by
        unfold okA at q
        simp only [Bool.and_eq_true] at q
        exact q.2
      have lc : loopC [13] (gN 13) mYes (mN intD (mA1 (mSl 13) mA0)) (cs.map fun c => .str (one c)) [.d (.scr ns), .own (.lst [.int p, .int t]), .d (.int k), .d (chD ch), .d (L xs), .d (.str (tx ch)), .d (.str (lineS xs)), x7, x8, x9, .d (.str x), x11, .d (.bl true), .un] [] = some (cs.map fun c => .int (vl c), [.d (.scr ns), .own (.lst [.int p, .int t]), .d (.int k), .d (chD ch), .d (L xs), .d (.str (tx ch)), .d (.str (lineS xs)), x7, x8, x9, .d (.str x), x11, .d (.bl true), .un]) := by
        rw [lc_idx (f := fun c => .int (vl c)) (by rfl) (fun c hc => ?_) (by rw [List.length_nil, Nat.zero_add]; exact Nat.le_trans ha.len (by decide)), List.nil_append]
        have e := int_in hk (ha.mem c hc) (List.all_eq_true.mp hall c hc)
        refine ⟨[.d (.scr ns), .own (.lst [.int p, .int t]), .d (.int k), .d (chD ch), .d (L xs), .d (.str (tx ch)), .d (.str (lineS xs)), x7, x8, x9, .d (.str x), x11, .d (.bl true), .d (.str (one c))], [.d (.scr ns), .own (.lst [.int p, .int t]), .d (.int k), .d (chD ch), .d (L xs), .d (.str (tx ch)), .d (.str (lineS xs)), x7, x8, x9, .d (.str x), x11, .d (.bl true), .d (.str (one c))], rfl, rfl, ?_, rfl, rfl⟩
        walk_at "x"
        rw [e]
      unfold mLc mIS
      walk_at "x"
      rw [chs_al ha]
      rw [lc]
  · cases q : okA k cs
    · show eqD .non .non = _
      exact eq_self (by decide)
    · show eqD (LV cs) (LV cs) = _
      rw [LV_eq]
      exact eq_self (okD_L _)
end
theorem fe_ok : ∀ C d, f__law_read C = some d → C ∈ EN := by
  intro C d h
  unfold f__law_read at h
  repeat (split at h; · (rename_i e; subst e; decide))
  cases h
theorem law_true (ns : List Int) (h : ns.length ≤ 63) : ∃ c, g_law [.d (.scr ns)] = some (.bl true, c) := by
  obtain ⟨r1, p1, t1, d1⟩ := draw_ok (ns := ns) (p := 0) (t := 0) (many := 2) (by decide) (by decide) (by decide)
  have hk : K23 (2 + r1) := by
    have := d1.lo
    have := d1.hi
    unfold K23
    omega
  generalize hkk : 2 + r1 = k at hk
  obtain ⟨ch, p2, t2, hch, chn, hp2⟩ := lchain_ok (ns := ns) (t := t1) hk d1.pos
  obtain ⟨xs, p3, t3, hrow, hm, hl, hp3⟩ := lrow_ok (ns := ns) (t := t2) (most := 40) hk hp2 (by omega)
  have row : Row k xs := ⟨by omega, hm⟩
  have f1 : (mSet 2 (mVe (mB addD (mVal (mC (.int 2))) (mVal (mCall g__law_draw (mA1 (mVal (mV 0)) (mA1 (mSl 1) (mA1 (mVal (mC (.int 2))) mA0)))))))) [.d (.scr ns), .own (.lst [.int 0, .int 0]), .un, .un, .un, .un, .un, .un, .un, .un, .un, .un, .un, .un] = some (.nx, [.d (.scr ns), .own (.lst [.int p1, .int t1]), .d (.int k), .un, .un, .un, .un, .un, .un, .un, .un, .un, .un, .un]) := by
    walk_at "x"
    rw [d1.run]
    walk_at "x"
    rw [hkk]
  have f2 : (mPar 3 4 (mVe (mCall g__law_chain (mA1 (mVal (mV 0)) (mA1 (mSl 1) (mA1 (mVal (mV 2)) mA0))))) (mVe (mCall g__law_row (mA1 (mVal (mV 0)) (mA1 (mSl 1) (mA1 (mVal (mV 2)) (mA1 (mVal (mC (.int 40))) mA0))))))) [.d (.scr ns), .own (.lst [.int p1, .int t1]), .d (.int k), .un, .un, .un, .un, .un, .un, .un, .un, .un, .un, .un] = some (.nx, [.d (.scr ns), .own (.lst [.int p3, .int t3]), .d (.int k), .d (chD ch), .d (L xs), .un, .un, .un, .un, .un, .un, .un, .un, .un]) := by
    walk_at "x"
    repeat ((first | rw [hch] | rw [hrow]); walk_at "x")
  have f3 := P3 (ns := ns) (p := p3) (t := t3) hk chn row
  have f4 := P4 (ns := ns) (p := p3) (t := t3) (xs := xs) hk chn
  have f5 := P5 (ns := ns) (p := p3) (t := t3) (ch := ch) hk row
  obtain ⟨p4, t4, x7, x8, x9, x10, x11, hp4, hq4, _, f6⟩ := P6 (ns := ns) (p := p3) (t := t3) (xs := xs) hk chn hp3
  obtain ⟨a, p5, t5, hp5, f7⟩ := P7 (ns := ns) (t := t4) (ch := ch) row hp4 hq4 (x8 := x8)
  have q2 : un2 x10 x11 := by
    rcases hq4 with ⟨_, _, e, f⟩ | ⟨_, _, d10, d11, _, _, e, f⟩
    · exact .inl ⟨e, f⟩
    · exact .inr ⟨d10, d11, e, f⟩
  obtain ⟨s, p6, t6, hp6, hs, f8⟩ := P8 (ns := ns) (t := t5) (ch := ch) row hp5 q2 (x7 := x7) (x8 := x8) (a := a)
  have al := line_al hk row
  have cl := chg_len (lineS xs) s a (a + 1)
  have ll := line_len xs
  have pf := pick2_facts hs
  have ha : Al (chg (lineS xs) s a (a + 1)) (chg (lineS xs) s a (a + 1)).cps.toList := ⟨rfl, fun c hc => by
    rcases chg_mem hc with q | q
    · exact al.mem c (by rw [← al.eq]; exact q)
    · exact pf.1 c q, by
    have e : (chg (lineS xs) s a (a + 1)).cps.toList.length = (chg (lineS xs) s a (a + 1)).length := Array.length_toList
    have := row.len
    omega⟩
  have f9 := P9 (ns := ns) (p := p6) (t := t6) (ch := ch) (xs := xs) (x7 := x7) (x8 := x8) (x9 := .d (.int a)) (x11 := x11) hk ha
  have f10 := P10 (ns := ns) (p := p6) (t := t6) (ch := ch) (xs := xs) (x7 := x7) (x8 := x8) (x9 := .d (.int a)) (x11 := x11) hk ha
  obtain ⟨ρ, fin⟩ : ∃ ρ, m_law [.d (.scr ns), .un, .un, .un, .un, .un, .un, .un, .un, .un, .un, .un, .un, .un] = some (.rt (.bl true), ρ) := by
    refine ⟨[.d (.scr ns), .own (.lst [.int p6, .int t6]), .d (.int k), .d (chD ch), .d (L xs), .d (.str (tx ch)), .d (.str (lineS xs)), x7, x8, .d (.int a), .d (.str (chg (lineS xs) s a (a + 1))), x11, .d (.bl (okA k (chg (lineS xs) s a (a + 1)).cps.toList)), .un], ?_⟩
    · unfold m_law
      rw [mseq_n (ρ1 := [.d (.scr ns), .own (.lst [.int 0, .int 0]), .un, .un, .un, .un, .un, .un, .un, .un, .un, .un, .un, .un]) rfl, mseq_n f1, mseq_n f2, mseq_n f3, mseq_n f4, mseq_n f5, mseq_n f6, mseq_n f7, mseq_n f8, mseq_n f9]
      exact mseq_r f10
  exact ⟨none, runD_ok rfl rfl fin⟩

end Z
namespace Z
open PySem PySem.Spec PyProof.Rows L2
theorem sc__law_draw : FnScope n__law_draw ["_law_script", "_law_town", "_law_many"] (defScope s__law_draw) := ⟨rfl, rfl, rfl, by decide +kernel, rfl, by decide +kernel, by decide +kernel⟩
theorem sc__law_pick : FnScope n__law_pick ["_law_script", "_law_town", "_law_some"] (defScope s__law_pick) := ⟨rfl, rfl, rfl, by decide +kernel, rfl, by decide +kernel, by decide +kernel⟩
theorem sc__law_coders : FnScope n__law_coders ["_law_k"] (defScope s__law_coders) := ⟨rfl, rfl, rfl, by decide +kernel, rfl, by decide +kernel, by decide +kernel⟩
theorem sc__law_chain : FnScope n__law_chain ["_law_script", "_law_town", "_law_k"] (defScope s__law_chain) := ⟨rfl, rfl, rfl, by decide +kernel, rfl, by decide +kernel, by decide +kernel⟩
theorem sc__law_row : FnScope n__law_row ["_law_script", "_law_town", "_law_k", "_law_most"] (defScope s__law_row) := ⟨rfl, rfl, rfl, by decide +kernel, rfl, by decide +kernel, by decide +kernel⟩
theorem sc_is_integer : FnScope n_is_integer ["value"] (defScope s_is_integer) := ⟨rfl, rfl, rfl, by decide +kernel, rfl, by decide +kernel, by decide +kernel⟩
theorem sc_check_size : FnScope n_check_size ["k"] (defScope s_check_size) := ⟨rfl, rfl, rfl, by decide +kernel, rfl, by decide +kernel, by decide +kernel⟩
theorem sc__check_string : FnScope n__check_string ["text"] (defScope s__check_string) := ⟨rfl, rfl, rfl, by decide +kernel, rfl, by decide +kernel, by decide +kernel⟩
theorem sc_is_sign : FnScope n_is_sign ["k", "value"] (defScope s_is_sign) := ⟨rfl, rfl, rfl, by decide +kernel, rfl, by decide +kernel, by decide +kernel⟩
theorem sc__are_signs : FnScope n__are_signs ["k", "values"] (defScope s__are_signs) := ⟨rfl, rfl, rfl, by decide +kernel, rfl, by decide +kernel, by decide +kernel⟩
theorem sc_is_list_of_signs : FnScope n_is_list_of_signs ["k", "candidate", "longest"] (defScope s_is_list_of_signs) := ⟨rfl, rfl, rfl, by decide +kernel, rfl, by decide +kernel, by decide +kernel⟩
theorem sc_parse_row : FnScope n_parse_row ["k", "text"] (defScope s_parse_row) := ⟨rfl, rfl, rfl, by decide +kernel, rfl, by decide +kernel, by decide +kernel⟩
theorem sc_coder_names : FnScope n_coder_names ["k"] (defScope s_coder_names) := ⟨rfl, rfl, rfl, by decide +kernel, rfl, by decide +kernel, by decide +kernel⟩
theorem sc_is_tuple_of_coders : FnScope n_is_tuple_of_coders ["k", "candidate"] (defScope s_is_tuple_of_coders) := ⟨rfl, rfl, rfl, by decide +kernel, rfl, by decide +kernel, by decide +kernel⟩
theorem sc_parse_chain : FnScope n_parse_chain ["k", "text"] (defScope s_parse_chain) := ⟨rfl, rfl, rfl, by decide +kernel, rfl, by decide +kernel, by decide +kernel⟩
theorem sc__law_read : FnScope n__law_read ["_law_k", "_law_text", "_law_as_row"] (defScope s__law_read) := ⟨rfl, rfl, rfl, by decide +kernel, rfl, by decide +kernel, by decide +kernel⟩
theorem sc_check_chain : FnScope n_check_chain ["k", "chain"] (defScope s_check_chain) := ⟨rfl, rfl, rfl, by decide +kernel, rfl, by decide +kernel, by decide +kernel⟩
theorem sc_format_chain : FnScope n_format_chain ["k", "chain"] (defScope s_format_chain) := ⟨rfl, rfl, rfl, by decide +kernel, rfl, by decide +kernel, by decide +kernel⟩
theorem sc_check_row : FnScope n_check_row ["k", "row", "longest"] (defScope s_check_row) := ⟨rfl, rfl, rfl, by decide +kernel, rfl, by decide +kernel, by decide +kernel⟩
theorem sc_format_row : FnScope n_format_row ["k", "row"] (defScope s_format_row) := ⟨rfl, rfl, rfl, by decide +kernel, rfl, by decide +kernel, by decide +kernel⟩
theorem sc_is_chain : FnScope n_is_chain ["k", "candidate"] (defScope s_is_chain) := ⟨rfl, rfl, rfl, by decide +kernel, rfl, by decide +kernel, by decide +kernel⟩
theorem sc_law : FnScope n_law ["_law_script"] (defScope s_law) := ⟨rfl, rfl, rfl, by decide +kernel, rfl, by decide +kernel, by decide +kernel⟩
/-- what the defs stand on: the module's names -/
structure Top (P : Program) (K : PySem.W.Frag) (w : World) (mg : Str → Option Value) : Prop where
  b_all : mg "all" = none
  b_bool : mg "bool" = none
  b_int : mg "int" = none
  b_isinstance : mg "isinstance" = none
  b_len : mg "len" = none
  b_list : mg "list" = none
  b_range : mg "range" = none
  b_sorted : mg "sorted" = none
  b_str : mg "str" = none
  b_tuple : mg "tuple" = none
  c_PLAIN_NAMES : Gc K ⟨mg, P, w⟩ "PLAIN_NAMES" c_PLAIN_NAMES
  c_FLAG_NAMES : Gc K ⟨mg, P, w⟩ "FLAG_NAMES" c_FLAG_NAMES
  c_LONGEST_ROW : Gc K ⟨mg, P, w⟩ "LONGEST_ROW" c_LONGEST_ROW
  c_FIGURES : Gc K ⟨mg, P, w⟩ "FIGURES" c_FIGURES
  xf : XF K ⟨mg, P, w⟩ EN TN
section
variable {P : Program} {w : World} {K : PySem.W.Frag} {mg : Str → Option Value} {base : Heap}
structure Tp__law_draw (P : Program) (w : World) (K : PySem.W.Frag) (mg : Str → Option Value) (base : Heap) : Prop extends Top P K w mg where
  tt__law_draw : True
set_option maxHeartbeats 4000000 in
theorem ok__law_draw {f : Addr} {fd : FuncData} (T : Tp__law_draw P w K mg base) (Fn : Fun K "_law_draw" "_law_draw" s__law_draw f fd) : FnOk P w K mg base CX0 1 f fd ["_law_script", "_law_town", "_law_many"] (spD K ⟨mg, P, w⟩ g__law_draw) :=
  fnD Fn sc__law_draw fun cdv A outer s H E hr => (sb_cons (ss_if (st_cmp o_gt (so_e (se_ix ix_all (so_sl 1) (so_e se_int))) (so_e se_int)) (sb_cons (ss_set 3 sc__law_draw.nd (sv_e (se_op o_mod (so_e (se_ix ix_all (so_sl 1) (so_e se_int))) (so_sl 2)))) (sb_cons (ss_sub 1 (so_e se_int) (se_op o_fdiv (so_e (se_ix ix_all (so_sl 1) (so_e se_int))) (so_sl 2))) (sb_cons (ss_ret (se_v 3)) sb_nil))) sb_nil) (sb_cons (ss_set 4 sc__law_draw.nd (sv_e (se_ix ix_all (so_sl 1) (so_e se_int)))) (sb_cons (ss_subAug 1 ip_add (so_e se_int) se_int) (sb_cons (ss_if (st_cmp (o_eq hr.units) (so_sl 0) (so_e (se_n (sn_list sa_nil)))) (sb_cons (ss_ret (se_op o_mod (so_sl 4) (so_sl 2))) sb_nil) sb_nil) (sb_cons (ss_if (st_w (sw_and (st_cmp o_lt (so_sl 4) (so_e (se_callB n_len (by rfl) T.b_len (by decide +kernel) (sa_cons (so_sl 0) sa_nil)))) (sw_and1 (st_cmp o_ge (so_e (se_ix ix_all (so_sl 0) (so_sl 4))) (so_e (se_op o_pow (so_e se_int) (so_e se_int))))))) (sb_cons (ss_sub 1 (so_e se_int) (se_op o_mod (so_e (se_op o_fdiv (so_e (se_ix ix_all (so_sl 0) (so_sl 4))) (so_sl 2))) (so_e (se_op o_mul (so_e (se_op o_pow (so_e se_int) (so_e se_int))) (so_e (se_op o_pow (so_e se_int) (so_e se_int))))))) (sb_cons (ss_ret (se_op o_mod (so_e (se_ix ix_all (so_sl 0) (so_sl 4))) (so_sl 2))) sb_nil)) sb_nil) (sb_cons (ss_set 5 sc__law_draw.nd (sv_e (se_op o_mod (so_e (se_op o_add (so_e (se_op o_add (so_e (se_op o_mul (so_e (se_ix ix_all (so_sl 0) (so_e (se_op o_mod (so_sl 4) (so_e (se_callB n_len (by rfl) T.b_len (by decide +kernel) (sa_cons (so_sl 0) sa_nil))))))) (so_e se_int))) (so_e (se_op o_mul (so_e se_int) (so_sl 4))))) (so_e se_int))) (so_e se_int)))) (sb_cons (ss_ret (se_op o_mod (so_e (se_op o_mod (so_e (se_op o_mod (so_e (se_op o_pow (so_sl 5) (so_e se_int))) (so_e se_int))) (so_e se_int))) (so_sl 2))) sb_nil)))))))
structure Tp__law_pick (P : Program) (w : World) (K : PySem.W.Frag) (mg : Str → Option Value) (base : Heap) : Prop extends Top P K w mg where
  tt__law_pick : True
  k__law_draw : Kn P w K mg base 1 "_law_draw" g__law_draw
set_option maxHeartbeats 4000000 in
theorem ok__law_pick {f : Addr} {fd : FuncData} (T : Tp__law_pick P w K mg base) (Fn : Fun K "_law_pick" "_law_pick" s__law_pick f fd) : FnOk P w K mg base CX0 2 f fd ["_law_script", "_law_town", "_law_some"] (spD K ⟨mg, P, w⟩ g__law_pick) :=
  fnD Fn sc__law_pick fun cdv A outer s H E hr => (sb_cons (ss_ret (se_ix ix_all (so_sl 2) (so_e (se_call T.k__law_draw hr (by decide) (sa_cons (so_e (se_v 0)) (sa_cons (so_sl 1) (sa_cons (so_e (se_callB n_len (by rfl) T.b_len (by decide +kernel) (sa_cons (so_sl 2) sa_nil))) sa_nil))))))) sb_nil)
structure Tp__law_coders (P : Program) (w : World) (K : PySem.W.Frag) (mg : Str → Option Value) (base : Heap) : Prop extends Top P K w mg where
  tt__law_coders : True
set_option maxHeartbeats 4000000 in
theorem ok__law_coders {f : Addr} {fd : FuncData} (T : Tp__law_coders P w K mg base) (Fn : Fun K "_law_coders" "_law_coders" s__law_coders f fd) : FnOk P w K mg base CX0 1 f fd ["_law_k"] (spD K ⟨mg, P, w⟩ g__law_coders) :=
  fnD Fn sc__law_coders fun cdv A outer s H E hr => (sb_cons (ss_set 1 sc__law_coders.nd (sv_n (sn_list (sa_cons (so_e se_str) (sa_cons (so_e se_str) (sa_cons (so_e se_str) (sa_cons (so_e se_str) (sa_cons (so_e se_str) (sa_cons (so_e se_str) (sa_cons (so_e se_str) (sa_cons (so_e se_str) (sa_cons (so_e se_str) sa_nil)))))))))))) (sb_cons (ss_extend 1 (so_e (se_n (sn_list (sa_cons (so_e se_str) (sa_cons (so_e se_str) sa_nil)))))) (sb_cons (ss_ret (se_callB n_sorted (by rfl) T.b_sorted (by decide +kernel) (sa_cons (so_e (se_op o_add (so_sl 1) (so_e (se_slice (so_e (se_n (sn_list (sa_cons (so_e se_str) sa_nil)))) sp_none (sp_some (so_e (se_op o_sub (so_sl 0) (so_e se_int)))))))) sa_nil))) sb_nil)))
structure Tp__law_chain (P : Program) (w : World) (K : PySem.W.Frag) (mg : Str → Option Value) (base : Heap) : Prop extends Top P K w mg where
  tt__law_chain : True
  k__law_coders : Kn P w K mg base 1 "_law_coders" g__law_coders
  k__law_draw : Kn P w K mg base 1 "_law_draw" g__law_draw
  k__law_pick : Kn P w K mg base 2 "_law_pick" g__law_pick
set_option maxHeartbeats 4000000 in
theorem ok__law_chain {f : Addr} {fd : FuncData} (T : Tp__law_chain P w K mg base) (Fn : Fun K "_law_chain" "_law_chain" s__law_chain f fd) : FnOk P w K mg base CX0 3 f fd ["_law_script", "_law_town", "_law_k"] (spD K ⟨mg, P, w⟩ g__law_chain) :=
  fnD Fn sc__law_chain fun cdv A outer s H E hr => (sb_cons (ss_setLc 3 sc__law_chain.nd (own := [(("_law_turn" : Str), 4)]) (si_rng1 (so_e (se_op o_add (so_e se_int) (so_e (se_call T.k__law_draw hr (by decide) (sa_cons (so_e (se_v 0)) (sa_cons (so_sl 1) (sa_cons (so_e se_int) sa_nil))))))) T.b_range) (blkOk_by (N := n__law_chain) (sc := defScope s__law_chain) (own := [(("_law_turn" : Str), 4)]) (by decide +kernel)) (fun _ _ _ _ _ => (sg_name (sl := [4]) 4 sc__law_chain.nd)) (fun _ _ _ _ _ => sts_nil) (fun _ _ _ _ _ => (se_call T.k__law_pick hr (by decide) (sa_cons (so_e (se_v 0)) (sa_cons (so_sl 1) (sa_cons (so_e (se_call T.k__law_coders hr (by decide) (sa_cons (so_e (se_v 2)) sa_nil))) sa_nil)))))) (sb_cons (ss_ret (se_callTy n_tuple (by rfl) T.b_tuple (by decide +kernel) (sa_cons (so_sl 3) sa_nil))) sb_nil))
structure Tp__law_row (P : Program) (w : World) (K : PySem.W.Frag) (mg : Str → Option Value) (base : Heap) : Prop extends Top P K w mg where
  tt__law_row : True
  k__law_draw : Kn P w K mg base 1 "_law_draw" g__law_draw
set_option maxHeartbeats 4000000 in
theorem ok__law_row {f : Addr} {fd : FuncData} (T : Tp__law_row P w K mg base) (Fn : Fun K "_law_row" "_law_row" s__law_row f fd) : FnOk P w K mg base CX0 2 f fd ["_law_script", "_law_town", "_law_k", "_law_most"] (spD K ⟨mg, P, w⟩ g__law_row) :=
  fnD Fn sc__law_row fun cdv A outer s H E hr => (sb_cons (ss_par 4 5 sc__law_row.nd (sv_n (sn_list sa_nil)) (sv_e se_int)) (sb_cons (ss_for (si_rng1 (so_e (se_call T.k__law_draw hr (by decide) (sa_cons (so_e (se_v 0)) (sa_cons (so_sl 1) (sa_cons (so_e (se_op o_add (so_sl 3) (so_e se_int))) sa_nil))))) T.b_range) (sg_name (sl := [6]) 6 sc__law_row.nd) (sb_cons (ss_set 5 sc__law_row.nd (sv_e (se_if (st_w (sw_and (st_cmp (o_ne hr.units) (so_sl 4) (so_e (se_n (sn_list sa_nil)))) (sw_and1 (st_cmp (o_eq hr.units) (so_e (se_call T.k__law_draw hr (by decide) (sa_cons (so_e (se_v 0)) (sa_cons (so_sl 1) (sa_cons (so_e se_int) sa_nil))))) (so_e se_int))))) (se_v 5) (se_call T.k__law_draw hr (by decide) (sa_cons (so_e (se_v 0)) (sa_cons (so_sl 1) (sa_cons (so_e (se_v 2)) sa_nil))))))) (sb_cons (ss_append 4 (se_v 5)) sb_nil)) PassesOwn.never) (sb_cons (ss_ret (se_v 4)) sb_nil)))
structure Tp_is_integer (P : Program) (w : World) (K : PySem.W.Frag) (mg : Str → Option Value) (base : Heap) : Prop extends Top P K w mg where
  tt_is_integer : True
set_option maxHeartbeats 4000000 in
theorem ok_is_integer {f : Addr} {fd : FuncData} (T : Tp_is_integer P w K mg base) (Fn : Fun K "is_integer" "is_integer" s_is_integer f fd) : FnOk P w K mg base CX0 1 f fd ["value"] (spD K ⟨mg, P, w⟩ g_is_integer) :=
  fnD Fn sc_is_integer fun cdv A outer s H E hr => (sb_cons (ss_ret (se_and (se_isi .int (so_sl 0) T.b_isinstance T.b_int rfl) (se_one (se_not (se_isi .bool (so_sl 0) T.b_isinstance T.b_bool rfl))))) sb_nil)
structure Tp_check_size (P : Program) (w : World) (K : PySem.W.Frag) (mg : Str → Option Value) (base : Heap) : Prop extends Top P K w mg where
  tt_check_size : True
  k_is_integer : Kn P w K mg base 1 "is_integer" g_is_integer
set_option maxHeartbeats 4000000 in
theorem ok_check_size {f : Addr} {fd : FuncData} (T : Tp_check_size P w K mg base) (Fn : Fun K "check_size" "check_size" s_check_size f fd) : FnOk P w K mg base (L2N.CX P w) 2 f fd ["k"] (spX K ⟨mg, P, w⟩ g_check_size r_check_size) :=
  fnX Fn sc_check_size (fun cdv A outer s H E hr => (sb_cons (ss_if (st_w (sw_or (st_not (st_e (se_call T.k_is_integer hr (by decide) (sa_cons (so_e (se_v 0)) sa_nil)))) (sw_or1 (st_cmp o_nin (so_sl 0) (so_e (se_tup (sa_cons (so_e se_int) (sa_cons (so_e se_int) sa_nil)))))))) (sb_cons ss_never sb_nil) sb_nil) sb_nil)) (fun cdv A outer s H E hr tk => (xb_seq (xs_if (st_w (sw_or (st_not (st_e (se_call T.k_is_integer hr (by decide) (sa_cons (so_e (se_v 0)) sa_nil)))) (sw_or1 (st_cmp o_nin (so_sl 0) (so_e (se_tup (sa_cons (so_e se_int) (sa_cons (so_e se_int) sa_nil)))))))) (xb_seq (xs_raise (T.xf.kx _ (by decide)) tk se_str) ss_never xb_nil) xb_nil) ss_never xb_nil))
structure Tp__check_string (P : Program) (w : World) (K : PySem.W.Frag) (mg : Str → Option Value) (base : Heap) : Prop extends Top P K w mg where
  tt__check_string : True
set_option maxHeartbeats 4000000 in
theorem ok__check_string {f : Addr} {fd : FuncData} (T : Tp__check_string P w K mg base) (Fn : Fun K "_check_string" "_check_string" s__check_string f fd) : FnOk P w K mg base (L2N.CX P w) 1 f fd ["text"] (spX K ⟨mg, P, w⟩ g__check_string r__check_string) :=
  fnX Fn sc__check_string (fun cdv A outer s H E hr => (sb_cons (ss_if (st_not (st_e (se_isi .str (so_sl 0) T.b_isinstance T.b_str rfl))) (sb_cons ss_never sb_nil) sb_nil) sb_nil)) (fun cdv A outer s H E hr tk => (xb_seq (xs_if (st_not (st_e (se_isi .str (so_sl 0) T.b_isinstance T.b_str rfl))) (xb_seq (xs_raise (T.xf.kx _ (by decide)) tk se_str) ss_never xb_nil) xb_nil) ss_never xb_nil))
structure Tp_is_sign (P : Program) (w : World) (K : PySem.W.Frag) (mg : Str → Option Value) (base : Heap) : Prop extends Top P K w mg where
  tt_is_sign : True
  k_is_integer : Kn P w K mg base 1 "is_integer" g_is_integer
set_option maxHeartbeats 4000000 in
theorem ok_is_sign {f : Addr} {fd : FuncData} (T : Tp_is_sign P w K mg base) (Fn : Fun K "is_sign" "is_sign" s_is_sign f fd) : FnOk P w K mg base CX0 2 f fd ["k", "value"] (spD K ⟨mg, P, w⟩ g_is_sign) :=
  fnD Fn sc_is_sign fun cdv A outer s H E hr => (sb_cons (ss_ret (se_and (se_call T.k_is_integer hr (by decide) (sa_cons (so_e (se_v 1)) sa_nil)) (se_one (se_chain o_le o_lt (so_e se_int) (so_sl 1) (so_sl 0))))) sb_nil)
structure Tp__are_signs (P : Program) (w : World) (K : PySem.W.Frag) (mg : Str → Option Value) (base : Heap) : Prop extends Top P K w mg where
  tt__are_signs : True
  k_is_sign : Kn P w K mg base 2 "is_sign" g_is_sign
set_option maxHeartbeats 4000000 in
theorem ok__are_signs {f : Addr} {fd : FuncData} (T : Tp__are_signs P w K mg base) (Fn : Fun K "_are_signs" "_are_signs" s__are_signs f fd) : FnOk P w K mg base CX0 3 f fd ["k", "values"] (spD K ⟨mg, P, w⟩ g__are_signs) :=
  fnD Fn sc__are_signs fun cdv A outer s H E hr => (sb_cons (ss_ret (se_callB (n_all rfl) (by rfl) T.b_all (by decide +kernel) (sa_cons (so_e (se_n (sn_lc sc__are_signs.nd (own := [(("value" : Str), 2)]) (si_list (se_v 1)) (blkOk_by (N := n__are_signs) (sc := defScope s__are_signs) (own := [(("value" : Str), 2)]) (by decide +kernel)) (fun _ _ _ _ _ => (sg_name (sl := [2]) 2 sc__are_signs.nd)) (fun _ _ _ _ _ => sts_nil) (fun _ _ _ _ _ => (se_call T.k_is_sign hr (by decide) (sa_cons (so_e (se_v 0)) (sa_cons (so_e (se_v 2)) sa_nil))))))) sa_nil))) sb_nil)
structure Tp_is_list_of_signs (P : Program) (w : World) (K : PySem.W.Frag) (mg : Str → Option Value) (base : Heap) : Prop extends Top P K w mg where
  tt_is_list_of_signs : True
  k__are_signs : Kn P w K mg base 3 "_are_signs" g__are_signs
set_option maxHeartbeats 4000000 in
theorem ok_is_list_of_signs {f : Addr} {fd : FuncData} (T : Tp_is_list_of_signs P w K mg base) (Fn : Fun K "is_list_of_signs" "is_list_of_signs" s_is_list_of_signs f fd) : FnOk P w K mg base CX0 4 f fd ["k", "candidate", "longest"] (spD K ⟨mg, P, w⟩ g_is_list_of_signs) :=
  fnD Fn sc_is_list_of_signs fun cdv A outer s H E hr => (sb_cons (ss_ret (se_and (se_isi .list (so_sl 1) T.b_isinstance T.b_list rfl) (se_and (se_cmp o_le (so_e (se_callB n_len (by rfl) T.b_len (by decide +kernel) (sa_cons (so_sl 1) sa_nil))) (so_sl 2)) (se_one (se_call T.k__are_signs hr (by decide) (sa_cons (so_e (se_v 0)) (sa_cons (so_e (se_v 1)) sa_nil))))))) sb_nil)
structure Tp_parse_row (P : Program) (w : World) (K : PySem.W.Frag) (mg : Str → Option Value) (base : Heap) : Prop extends Top P K w mg where
  tt_parse_row : True
  k__check_string : KnX P w K mg base 1 "_check_string" g__check_string r__check_string
  k_check_size : KnX P w K mg base 2 "check_size" g_check_size r_check_size
  k_is_list_of_signs : Kn P w K mg base 4 "is_list_of_signs" g_is_list_of_signs
set_option maxHeartbeats 4000000 in
theorem ok_parse_row {f : Addr} {fd : FuncData} (T : Tp_parse_row P w K mg base) (Fn : Fun K "parse_row" "parse_row" s_parse_row f fd) : FnOk P w K mg base (L2N.CX P w) 5 f fd ["k", "text"] (spX K ⟨mg, P, w⟩ g_parse_row r_parse_row) :=
  fnX Fn sc_parse_row (fun cdv A outer s H E hr => (sb_cons (ss_expr (se_callX T.k_check_size hr (by decide) (sa_cons (so_e (se_v 0)) sa_nil))) (sb_cons (ss_expr (se_callX T.k__check_string hr (by decide) (sa_cons (so_e (se_v 1)) sa_nil))) (sb_cons (ss_setLc 2 sc_parse_row.nd (own := [(("figure" : Str), 3)]) (si_str (se_v 1)) (blkOk_by (N := n_parse_row) (sc := defScope s_parse_row) (own := [(("figure" : Str), 3)]) (by decide +kernel)) (fun _ _ _ _ _ => (sg_name (sl := [3]) 3 sc_parse_row.nd)) (fun _ _ _ _ _ => sts_nil) (fun _ _ _ _ _ => (se_find (so_e (se_g T.c_FIGURES)) (so_sl 3)))) (sb_cons (ss_if (st_not (st_e (se_call T.k_is_list_of_signs hr (by decide) (sa_cons (so_e (se_v 0)) (sa_cons (so_e (se_v 2)) (sa_cons (so_e (se_g T.c_LONGEST_ROW)) sa_nil)))))) (sb_cons ss_never sb_nil) sb_nil) (sb_cons (ss_ret (se_v 2)) sb_nil)))))) (fun cdv A outer s H E hr tk => (xb_seq (xs_expr (xe_call T.k_check_size tk hr (by decide) (sa_cons (so_e (se_v 0)) sa_nil))) (ss_expr (se_callX T.k_check_size hr (by decide) (sa_cons (so_e (se_v 0)) sa_nil))) (xb_seq (xs_expr (xe_call T.k__check_string tk hr (by decide) (sa_cons (so_e (se_v 1)) sa_nil))) (ss_expr (se_callX T.k__check_string hr (by decide) (sa_cons (so_e (se_v 1)) sa_nil))) (xb_seq xs_never (ss_setLc 2 sc_parse_row.nd (own := [(("figure" : Str), 3)]) (si_str (se_v 1)) (blkOk_by (N := n_parse_row) (sc := defScope s_parse_row) (own := [(("figure" : Str), 3)]) (by decide +kernel)) (fun _ _ _ _ _ => (sg_name (sl := [3]) 3 sc_parse_row.nd)) (fun _ _ _ _ _ => sts_nil) (fun _ _ _ _ _ => (se_find (so_e (se_g T.c_FIGURES)) (so_sl 3)))) (xb_seq (xs_if (st_not (st_e (se_call T.k_is_list_of_signs hr (by decide) (sa_cons (so_e (se_v 0)) (sa_cons (so_e (se_v 2)) (sa_cons (so_e (se_g T.c_LONGEST_ROW)) sa_nil)))))) (xb_seq (xs_raise (T.xf.kx _ (by decide)) tk se_str) ss_never xb_nil) xb_nil) ss_never xb_nil)))))
structure Tp_coder_names (P : Program) (w : World) (K : PySem.W.Frag) (mg : Str → Option Value) (base : Heap) : Prop extends Top P K w mg where
  tt_coder_names : True
set_option maxHeartbeats 4000000 in
theorem ok_coder_names {f : Addr} {fd : FuncData} (T : Tp_coder_names P w K mg base) (Fn : Fun K "coder_names" "coder_names" s_coder_names f fd) : FnOk P w K mg base CX0 1 f fd ["k"] (spD K ⟨mg, P, w⟩ g_coder_names) :=
  fnD Fn sc_coder_names fun cdv A outer s H E hr => (sb_cons (ss_ret (se_callB n_sorted (by rfl) T.b_sorted (by decide +kernel) (sa_cons (so_e (se_n (sn_list (sa_star (se_g T.c_PLAIN_NAMES) (sa_star (se_slice (so_e (se_g T.c_FLAG_NAMES)) sp_none (sp_some (so_sl 0))) sa_nil))))) sa_nil))) sb_nil)
structure Tp_is_tuple_of_coders (P : Program) (w : World) (K : PySem.W.Frag) (mg : Str → Option Value) (base : Heap) : Prop extends Top P K w mg where
  tt_is_tuple_of_coders : True
  k_coder_names : Kn P w K mg base 1 "coder_names" g_coder_names
set_option maxHeartbeats 4000000 in
theorem ok_is_tuple_of_coders {f : Addr} {fd : FuncData} (T : Tp_is_tuple_of_coders P w K mg base) (Fn : Fun K "is_tuple_of_coders" "is_tuple_of_coders" s_is_tuple_of_coders f fd) : FnOk P w K mg base CX0 2 f fd ["k", "candidate"] (spD K ⟨mg, P, w⟩ g_is_tuple_of_coders) :=
  fnD Fn sc_is_tuple_of_coders fun cdv A outer s H E hr => (sb_cons (ss_if (st_w (sw_or (st_not (st_e (se_isi .tuple (so_sl 1) T.b_isinstance T.b_tuple rfl))) (sw_or1 (st_cmp o_nin (so_e (se_callB n_len (by rfl) T.b_len (by decide +kernel) (sa_cons (so_sl 1) sa_nil))) (so_e (se_tup (sa_cons (so_e se_int) (sa_cons (so_e se_int) sa_nil)))))))) (sb_cons (ss_ret se_bl) sb_nil) sb_nil) (sb_cons (ss_set 2 sc_is_tuple_of_coders.nd (sv_e (se_call T.k_coder_names hr (by decide) (sa_cons (so_e (se_v 0)) sa_nil)))) (sb_cons (ss_ret (se_callB (n_all rfl) (by rfl) T.b_all (by decide +kernel) (sa_cons (so_e (se_n (sn_lc sc_is_tuple_of_coders.nd (own := [(("value" : Str), 3)]) (si_tup (se_v 1)) (blkOk_by (N := n_is_tuple_of_coders) (sc := defScope s_is_tuple_of_coders) (own := [(("value" : Str), 3)]) (by decide +kernel)) (fun _ _ _ _ _ => (sg_name (sl := [3]) 3 sc_is_tuple_of_coders.nd)) (fun _ _ _ _ _ => sts_nil) (fun _ _ _ _ _ => (se_and (se_isi .str (so_sl 3) T.b_isinstance T.b_str rfl) (se_one (se_cmp o_in (so_sl 3) (so_sl 2)))))))) sa_nil))) sb_nil)))
structure Tp_parse_chain (P : Program) (w : World) (K : PySem.W.Frag) (mg : Str → Option Value) (base : Heap) : Prop extends Top P K w mg where
  tt_parse_chain : True
  k__check_string : KnX P w K mg base 1 "_check_string" g__check_string r__check_string
  k_check_size : KnX P w K mg base 2 "check_size" g_check_size r_check_size
  k_is_tuple_of_coders : Kn P w K mg base 2 "is_tuple_of_coders" g_is_tuple_of_coders
set_option maxHeartbeats 4000000 in
theorem ok_parse_chain {f : Addr} {fd : FuncData} (T : Tp_parse_chain P w K mg base) (Fn : Fun K "parse_chain" "parse_chain" s_parse_chain f fd) : FnOk P w K mg base (L2N.CX P w) 3 f fd ["k", "text"] (spX K ⟨mg, P, w⟩ g_parse_chain r_parse_chain) :=
  fnX Fn sc_parse_chain (fun cdv A outer s H E hr => (sb_cons (ss_expr (se_callX T.k_check_size hr (by decide) (sa_cons (so_e (se_v 0)) sa_nil))) (sb_cons (ss_expr (se_callX T.k__check_string hr (by decide) (sa_cons (so_e (se_v 1)) sa_nil))) (sb_cons (ss_set 2 sc_parse_chain.nd (sv_e (se_callTy n_tuple (by rfl) T.b_tuple (by decide +kernel) (sa_cons (so_e (se_split (so_sl 1) (so_e se_str))) sa_nil)))) (sb_cons (ss_if (st_not (st_e (se_call T.k_is_tuple_of_coders hr (by decide) (sa_cons (so_e (se_v 0)) (sa_cons (so_e (se_v 2)) sa_nil))))) (sb_cons ss_never sb_nil) sb_nil) (sb_cons (ss_ret (se_v 2)) sb_nil)))))) (fun cdv A outer s H E hr tk => (xb_seq (xs_expr (xe_call T.k_check_size tk hr (by decide) (sa_cons (so_e (se_v 0)) sa_nil))) (ss_expr (se_callX T.k_check_size hr (by decide) (sa_cons (so_e (se_v 0)) sa_nil))) (xb_seq (xs_expr (xe_call T.k__check_string tk hr (by decide) (sa_cons (so_e (se_v 1)) sa_nil))) (ss_expr (se_callX T.k__check_string hr (by decide) (sa_cons (so_e (se_v 1)) sa_nil))) (xb_seq xs_never (ss_set 2 sc_parse_chain.nd (sv_e (se_callTy n_tuple (by rfl) T.b_tuple (by decide +kernel) (sa_cons (so_e (se_split (so_sl 1) (so_e se_str))) sa_nil)))) (xb_seq (xs_if (st_not (st_e (se_call T.k_is_tuple_of_coders hr (by decide) (sa_cons (so_e (se_v 0)) (sa_cons (so_e (se_v 2)) sa_nil))))) (xb_seq (xs_raise (T.xf.kx _ (by decide)) tk se_str) ss_never xb_nil) xb_nil) ss_never xb_nil)))))
structure Tp__law_read (P : Program) (w : World) (K : PySem.W.Frag) (mg : Str → Option Value) (base : Heap) : Prop extends Top P K w mg where
  tt__law_read : True
  k_parse_chain : KnX P w K mg base 3 "parse_chain" g_parse_chain r_parse_chain
  k_parse_row : KnX P w K mg base 5 "parse_row" g_parse_row r_parse_row
  fe : ∀ C d, f__law_read C = some d → C ∈ EN
set_option maxHeartbeats 4000000 in
theorem ok__law_read {f : Addr} {fd : FuncData} (T : Tp__law_read P w K mg base) (Fn : Fun K "_law_read" "_law_read" s__law_read f fd) : FnOk P w K mg base CX0 6 f fd ["_law_k", "_law_text", "_law_as_row"] (spD K ⟨mg, P, w⟩ g__law_read) :=
  fnD Fn sc__law_read fun cdv A outer s H E hr => (sb_cons (ss_tryX 3 T.xf sc__law_read.nd T.fe (fun pn xe => (sb_cons (ss_ret (se_if (st_e (se_v 2)) (se_callX T.k_parse_row hr (by decide) (sa_cons (so_e (se_v 0)) (sa_cons (so_e (se_v 1)) sa_nil))) (se_callX T.k_parse_chain hr (by decide) (sa_cons (so_e (se_v 0)) (sa_cons (so_e (se_v 1)) sa_nil))))) sb_nil)) (fun W pn xe tk => (xb_seq (xs_ret (xe_if (st_e (se_v 2)) (xe_call T.k_parse_row tk hr (by decide) (sa_cons (so_e (se_v 0)) (sa_cons (so_e (se_v 1)) sa_nil))) (xe_call T.k_parse_chain tk hr (by decide) (sa_cons (so_e (se_v 0)) (sa_cons (so_e (se_v 1)) sa_nil))))) ss_never xb_nil)) (fun a oe cls d pn hz h3 => (su_if (T := ("ParseError" : Str)) (A := .non) (B := (.int 0)) hz h3 T.xf T.fe (fun C dd h => by (unfold f__law_read at h); (repeat' (split at h)); all_goals (first | cases h | skip); all_goals (rename_i e; subst e; first | exact (if_neg (by decide)).symm | exact (if_pos rfl).symm)) se_non se_int T.b_isinstance))) sb_nil)
structure Tp_check_chain (P : Program) (w : World) (K : PySem.W.Frag) (mg : Str → Option Value) (base : Heap) : Prop extends Top P K w mg where
  tt_check_chain : True
  k_is_tuple_of_coders : Kn P w K mg base 2 "is_tuple_of_coders" g_is_tuple_of_coders
set_option maxHeartbeats 4000000 in
theorem ok_check_chain {f : Addr} {fd : FuncData} (T : Tp_check_chain P w K mg base) (Fn : Fun K "check_chain" "check_chain" s_check_chain f fd) : FnOk P w K mg base (L2N.CX P w) 3 f fd ["k", "chain"] (spX K ⟨mg, P, w⟩ g_check_chain r_check_chain) :=
  fnX Fn sc_check_chain (fun cdv A outer s H E hr => (sb_cons (ss_if (st_not (st_e (se_call T.k_is_tuple_of_coders hr (by decide) (sa_cons (so_e (se_v 0)) (sa_cons (so_e (se_v 1)) sa_nil))))) (sb_cons ss_never sb_nil) sb_nil) sb_nil)) (fun cdv A outer s H E hr tk => (xb_seq (xs_if (st_not (st_e (se_call T.k_is_tuple_of_coders hr (by decide) (sa_cons (so_e (se_v 0)) (sa_cons (so_e (se_v 1)) sa_nil))))) (xb_seq (xs_raise (T.xf.kx _ (by decide)) tk se_str) ss_never xb_nil) xb_nil) ss_never xb_nil))
structure Tp_format_chain (P : Program) (w : World) (K : PySem.W.Frag) (mg : Str → Option Value) (base : Heap) : Prop extends Top P K w mg where
  tt_format_chain : True
  k_check_chain : KnX P w K mg base 3 "check_chain" g_check_chain r_check_chain
  k_check_size : KnX P w K mg base 2 "check_size" g_check_size r_check_size
set_option maxHeartbeats 4000000 in
theorem ok_format_chain {f : Addr} {fd : FuncData} (T : Tp_format_chain P w K mg base) (Fn : Fun K "format_chain" "format_chain" s_format_chain f fd) : FnOk P w K mg base (L2N.CX P w) 4 f fd ["k", "chain"] (spX K ⟨mg, P, w⟩ g_format_chain r_format_chain) :=
  fnX Fn sc_format_chain (fun cdv A outer s H E hr => (sb_cons (ss_expr (se_callX T.k_check_size hr (by decide) (sa_cons (so_e (se_v 0)) sa_nil))) (sb_cons (ss_expr (se_callX T.k_check_chain hr (by decide) (sa_cons (so_e (se_v 0)) (sa_cons (so_e (se_v 1)) sa_nil)))) (sb_cons (ss_ret (se_join (so_e se_str) (so_sl 1))) sb_nil)))) (fun cdv A outer s H E hr tk => (xb_seq (xs_expr (xe_call T.k_check_size tk hr (by decide) (sa_cons (so_e (se_v 0)) sa_nil))) (ss_expr (se_callX T.k_check_size hr (by decide) (sa_cons (so_e (se_v 0)) sa_nil))) (xb_seq (xs_expr (xe_call T.k_check_chain tk hr (by decide) (sa_cons (so_e (se_v 0)) (sa_cons (so_e (se_v 1)) sa_nil)))) ss_never xb_nil)))
structure Tp_check_row (P : Program) (w : World) (K : PySem.W.Frag) (mg : Str → Option Value) (base : Heap) : Prop extends Top P K w mg where
  tt_check_row : True
  k_is_list_of_signs : Kn P w K mg base 4 "is_list_of_signs" g_is_list_of_signs
set_option maxHeartbeats 4000000 in
theorem ok_check_row {f : Addr} {fd : FuncData} (T : Tp_check_row P w K mg base) (Fn : FunD K "check_row" "check_row" (defArgs s_check_row) (defBody s_check_row) (defScope s_check_row) [.int 40] [] f fd) : FnOk P w K mg base (L2N.CX P w) 5 f fd ["k", "row", "longest"] (spX K ⟨mg, P, w⟩ g_check_row r_check_row) :=
  fnXD Fn sc_check_row (fun cdv A outer s H E hr => (sb_cons (ss_if (st_not (st_e (se_call T.k_is_list_of_signs hr (by decide) (sa_cons (so_e (se_v 0)) (sa_cons (so_e (se_v 1)) (sa_cons (so_e (se_v 2)) sa_nil)))))) (sb_cons ss_never sb_nil) sb_nil) sb_nil)) (fun cdv A outer s H E hr tk => (xb_seq (xs_if (st_not (st_e (se_call T.k_is_list_of_signs hr (by decide) (sa_cons (so_e (se_v 0)) (sa_cons (so_e (se_v 1)) (sa_cons (so_e (se_v 2)) sa_nil)))))) (xb_seq (xs_raise (T.xf.kx _ (by decide)) tk (se_fmt (so_sl 2))) ss_never xb_nil) xb_nil) ss_never xb_nil))
structure Tp_format_row (P : Program) (w : World) (K : PySem.W.Frag) (mg : Str → Option Value) (base : Heap) : Prop extends Top P K w mg where
  tt_format_row : True
  kd_check_row : KnXD P w K mg base 5 "check_row" g_check_row r_check_row [40]
  k_check_size : KnX P w K mg base 2 "check_size" g_check_size r_check_size
set_option maxHeartbeats 4000000 in
theorem ok_format_row {f : Addr} {fd : FuncData} (T : Tp_format_row P w K mg base) (Fn : Fun K "format_row" "format_row" s_format_row f fd) : FnOk P w K mg base (L2N.CX P w) 6 f fd ["k", "row"] (spX K ⟨mg, P, w⟩ g_format_row r_format_row) :=
  fnX Fn sc_format_row (fun cdv A outer s H E hr => (sb_cons (ss_expr (se_callX T.k_check_size hr (by decide) (sa_cons (so_e (se_v 0)) sa_nil))) (sb_cons (ss_expr (se_callXD T.kd_check_row hr (by decide) (sa_cons (so_e (se_v 0)) (sa_cons (so_e (se_v 1)) sa_nil)))) (sb_cons (ss_ret (se_join (so_e se_str) (so_e (se_n (sn_lc sc_format_row.nd (own := [(("sign" : Str), 2)]) (si_list (se_v 1)) (blkOk_by (N := n_format_row) (sc := defScope s_format_row) (own := [(("sign" : Str), 2)]) (by decide +kernel)) (fun _ _ _ _ _ => (sg_name (sl := [2]) 2 sc_format_row.nd)) (fun _ _ _ _ _ => sts_nil) (fun _ _ _ _ _ => (se_ix ix_strD (so_e (se_g T.c_FIGURES)) (so_sl 2)))))))) sb_nil)))) (fun cdv A outer s H E hr tk => (xb_seq (xs_expr (xe_call T.k_check_size tk hr (by decide) (sa_cons (so_e (se_v 0)) sa_nil))) (ss_expr (se_callX T.k_check_size hr (by decide) (sa_cons (so_e (se_v 0)) sa_nil))) (xb_seq (xs_expr (xe_callD T.kd_check_row tk hr (by decide) (fun _ _ _ _ _ h => h) (sa_cons (so_e (se_v 0)) (sa_cons (so_e (se_v 1)) sa_nil)))) ss_never xb_nil)))
structure Tp_is_chain (P : Program) (w : World) (K : PySem.W.Frag) (mg : Str → Option Value) (base : Heap) : Prop extends Top P K w mg where
  tt_is_chain : True
  k_check_size : KnX P w K mg base 2 "check_size" g_check_size r_check_size
  k_is_tuple_of_coders : Kn P w K mg base 2 "is_tuple_of_coders" g_is_tuple_of_coders
set_option maxHeartbeats 4000000 in
theorem ok_is_chain {f : Addr} {fd : FuncData} (T : Tp_is_chain P w K mg base) (Fn : Fun K "is_chain" "is_chain" s_is_chain f fd) : FnOk P w K mg base (L2N.CX P w) 3 f fd ["k", "candidate"] (spX K ⟨mg, P, w⟩ g_is_chain r_is_chain) :=
  fnX Fn sc_is_chain (fun cdv A outer s H E hr => (sb_cons (ss_expr (se_callX T.k_check_size hr (by decide) (sa_cons (so_e (se_v 0)) sa_nil))) (sb_cons (ss_ret (se_call T.k_is_tuple_of_coders hr (by decide) (sa_cons (so_e (se_v 0)) (sa_cons (so_e (se_v 1)) sa_nil)))) sb_nil))) (fun cdv A outer s H E hr tk => (xb_seq (xs_expr (xe_call T.k_check_size tk hr (by decide) (sa_cons (so_e (se_v 0)) sa_nil))) ss_never xb_nil))
structure Tp_law (P : Program) (w : World) (K : PySem.W.Frag) (mg : Str → Option Value) (base : Heap) : Prop extends Top P K w mg where
  tt_law : True
  k__law_chain : Kn P w K mg base 3 "_law_chain" g__law_chain
  k__law_draw : Kn P w K mg base 1 "_law_draw" g__law_draw
  k__law_pick : Kn P w K mg base 2 "_law_pick" g__law_pick
  k__law_read : Kn P w K mg base 6 "_law_read" g__law_read
  k__law_row : Kn P w K mg base 2 "_law_row" g__law_row
  k_format_chain : KnX P w K mg base 4 "format_chain" g_format_chain r_format_chain
  k_format_row : KnX P w K mg base 6 "format_row" g_format_row r_format_row
  k_is_chain : KnX P w K mg base 3 "is_chain" g_is_chain r_is_chain
  k_parse_chain : KnX P w K mg base 3 "parse_chain" g_parse_chain r_parse_chain
  k_parse_row : KnX P w K mg base 5 "parse_row" g_parse_row r_parse_row
set_option maxHeartbeats 4000000 in
theorem ok_law {f : Addr} {fd : FuncData} (T : Tp_law P w K mg base) (Fn : Fun K "law" "law" s_law f fd) : FnOk P w K mg base CX0 7 f fd ["_law_script"] (spD K ⟨mg, P, w⟩ g_law) :=
  fnD Fn sc_law fun cdv A outer s H E hr => (sb_cons (ss_set 1 sc_law.nd (sv_n (sn_list (sa_cons (so_e se_int) (sa_cons (so_e se_int) sa_nil))))) (sb_cons (ss_set 2 sc_law.nd (sv_e (se_op o_add (so_e se_int) (so_e (se_call T.k__law_draw hr (by decide) (sa_cons (so_e (se_v 0)) (sa_cons (so_sl 1) (sa_cons (so_e se_int) sa_nil)))))))) (sb_cons (ss_par 3 4 sc_law.nd (sv_e (se_call T.k__law_chain hr (by decide) (sa_cons (so_e (se_v 0)) (sa_cons (so_sl 1) (sa_cons (so_e (se_v 2)) sa_nil))))) (sv_e (se_call T.k__law_row hr (by decide) (sa_cons (so_e (se_v 0)) (sa_cons (so_sl 1) (sa_cons (so_e (se_v 2)) (sa_cons (so_e se_int) sa_nil))))))) (sb_cons (ss_par 5 6 sc_law.nd (sv_e (se_join (so_e se_str) (so_sl 3))) (sv_e (se_join (so_e se_str) (so_e (se_n (sn_lc sc_law.nd (own := [(("_law_sign" : Str), 7)]) (si_list (se_v 4)) (blkOk_by (N := n_law) (sc := defScope s_law) (own := [(("_law_sign" : Str), 7)]) (by decide +kernel)) (fun _ _ _ _ _ => (sg_name (sl := [7]) 7 sc_law.nd)) (fun _ _ _ _ _ => sts_nil) (fun _ _ _ _ _ => (se_callTy n_str (by rfl) T.b_str (by decide +kernel) (sa_cons (so_sl 7) sa_nil))))))))) (sb_cons (ss_if (st_w (sw_or (st_cmp (o_ne hr.units) (so_e (se_callX T.k_format_chain hr (by decide) (sa_cons (so_e (se_v 2)) (sa_cons (so_e (se_v 3)) sa_nil)))) (so_sl 5)) (sw_or1 (st_cmp (o_ne hr.units) (so_e (se_callX T.k_parse_chain hr (by decide) (sa_cons (so_e (se_v 2)) (sa_cons (so_e (se_v 5)) sa_nil)))) (so_sl 3))))) (sb_cons (ss_ret se_bl) sb_nil) sb_nil) (sb_cons (ss_if (st_w (sw_or (st_cmp (o_ne hr.units) (so_e (se_callX T.k_format_row hr (by decide) (sa_cons (so_e (se_v 2)) (sa_cons (so_e (se_v 4)) sa_nil)))) (so_sl 6)) (sw_or1 (st_cmp (o_ne hr.units) (so_e (se_callX T.k_parse_row hr (by decide) (sa_cons (so_e (se_v 2)) (sa_cons (so_e (se_v 6)) sa_nil)))) (so_sl 4))))) (sb_cons (ss_ret se_bl) sb_nil) sb_nil) (sb_cons (ss_for (si_rng1 (so_e se_int) T.b_range) (sg_name (sl := [8]) 8 sc_law.nd) (sb_cons (ss_par 9 7 sc_law.nd (sv_e (se_call T.k__law_draw hr (by decide) (sa_cons (so_e (se_v 0)) (sa_cons (so_sl 1) (sa_cons (so_e (se_op o_add (so_e (se_callB n_len (by rfl) T.b_len (by decide +kernel) (sa_cons (so_sl 5) sa_nil))) (so_e se_int))) sa_nil))))) (sv_e (se_call T.k__law_pick hr (by decide) (sa_cons (so_e (se_v 0)) (sa_cons (so_sl 1) (sa_cons (so_e (se_n (sn_list (sa_cons (so_e se_str) (sa_cons (so_e se_str) (sa_cons (so_e se_str) (sa_cons (so_e se_str) (sa_cons (so_e se_str) (sa_cons (so_e se_str) sa_nil))))))))) sa_nil)))))) (sb_cons (ss_set 10 sc_law.nd (sv_e (se_op o_add (so_e (se_op o_add (so_e (se_sliceS (so_sl 5) sp_none (sp_some (so_sl 9)))) (so_sl 7))) (so_e (se_sliceS (so_sl 5) (sp_some (so_e (se_op o_add (so_sl 9) (so_e (se_call T.k__law_draw hr (by decide) (sa_cons (so_e (se_v 0)) (sa_cons (so_sl 1) (sa_cons (so_e se_int) sa_nil)))))))) sp_none))))) (sb_cons (ss_set 11 sc_law.nd (sv_e (se_callTy n_tuple (by rfl) T.b_tuple (by decide +kernel) (sa_cons (so_e (se_split (so_sl 10) (so_e se_str))) sa_nil)))) (sb_cons (ss_if (st_cmp (o_ne hr.units) (so_e (se_call T.k__law_read hr (by decide) (sa_cons (so_e (se_v 2)) (sa_cons (so_e (se_v 10)) (sa_cons (so_e se_bl) sa_nil))))) (so_e (se_if (st_e (se_callX T.k_is_chain hr (by decide) (sa_cons (so_e (se_v 2)) (sa_cons (so_e (se_v 11)) sa_nil)))) (se_v 11) se_non))) (sb_cons (ss_ret se_bl) sb_nil) sb_nil) sb_nil)))) PassesOwn.never) (sb_cons (ss_set 9 sc_law.nd (sv_e (se_call T.k__law_draw hr (by decide) (sa_cons (so_e (se_v 0)) (sa_cons (so_sl 1) (sa_cons (so_e (se_op o_add (so_e (se_callB n_len (by rfl) T.b_len (by decide +kernel) (sa_cons (so_sl 6) sa_nil))) (so_e se_int))) sa_nil)))))) (sb_cons (ss_set 10 sc_law.nd (sv_e (se_op o_add (so_e (se_op o_add (so_e (se_sliceS (so_sl 6) sp_none (sp_some (so_sl 9)))) (so_e (se_call T.k__law_pick hr (by decide) (sa_cons (so_e (se_v 0)) (sa_cons (so_sl 1) (sa_cons (so_e (se_n (sn_list (sa_cons (so_e se_str) (sa_cons (so_e se_str) (sa_cons (so_e se_str) (sa_cons (so_e se_str) (sa_cons (so_e se_str) sa_nil)))))))) sa_nil))))))) (so_e (se_sliceS (so_sl 6) (sp_some (so_e (se_op o_add (so_sl 9) (so_e se_int)))) sp_none))))) (sb_cons (ss_set 12 sc_law.nd (sv_e (se_and (se_callB (n_all rfl) (by rfl) T.b_all (by decide +kernel) (sa_cons (so_e (se_n (sn_lc sc_law.nd (own := [(("_law_char" : Str), 13)]) (si_str (se_v 10)) (blkOk_by (N := n_law) (sc := defScope s_law) (own := [(("_law_char" : Str), 13)]) (by decide +kernel)) (fun _ _ _ _ _ => (sg_name (sl := [13]) 13 sc_law.nd)) (fun _ _ _ _ _ => sts_nil) (fun _ _ _ _ _ => (se_cmp o_inS (so_sl 13) (so_e (se_sliceS (so_e se_str) sp_none (sp_some (so_sl 2))))))))) sa_nil)) (se_one (se_cmp o_lt (so_e (se_callB n_len (by rfl) T.b_len (by decide +kernel) (sa_cons (so_sl 10) sa_nil))) (so_e se_int)))))) (sb_cons (ss_ret (se_cmp (o_eq hr.units) (so_e (se_call T.k__law_read hr (by decide) (sa_cons (so_e (se_v 2)) (sa_cons (so_e (se_v 10)) (sa_cons (so_e se_bl) sa_nil))))) (so_e (se_if (st_e (se_v 12)) (se_n (sn_lc sc_law.nd (own := [(("_law_char" : Str), 13)]) (si_str (se_v 10)) (blkOk_by (N := n_law) (sc := defScope s_law) (own := [(("_law_char" : Str), 13)]) (by decide +kernel)) (fun _ _ _ _ _ => (sg_name (sl := [13]) 13 sc_law.nd)) (fun _ _ _ _ _ => sts_nil) (fun _ _ _ _ _ => (se_callTy n_int (by rfl) T.b_int (by decide +kernel) (sa_cons (so_sl 13) sa_nil))))) se_non)))) sb_nil)))))))))))
end
end Z
namespace Z
open PySem PySem.Spec PyProof.Rows L2
def spLaw (K : PySem.W.Frag) : Sp := fun vs H Q _ => ∃ (a : Addr) (ns : List Int), vs = [.ref a] ∧ SqL K H a (ns.map V.int) ∧ ns.length ≤ 63 ∧ ∀ H', Q (.bl true) H'
theorem all_mk {l : PySem.W.OpenLaw} {w : World} {K : PySem.W.Frag} {h : Heap} {mg : Str → Option Value} {fa : Addr} (X : K.In h) (G : h.Ns mainGlobals mg) (hfa : mg "law" = some (.ref fa))
    {f0 : Addr} {od0 an0 : Option Addr} {sl0 : Array (Option Value)} {oc0 kV0 dc0 pm0 cd0 ct0 : Value}
    {f1 : Addr} {od1 an1 : Option Addr} {sl1 : Array (Option Value)} {oc1 kV1 dc1 pm1 cd1 ct1 : Value}
    {f2 : Addr} {od2 an2 : Option Addr} {sl2 : Array (Option Value)} {oc2 kV2 dc2 pm2 cd2 ct2 : Value}
    {f3 : Addr} {od3 an3 : Option Addr} {sl3 : Array (Option Value)} {oc3 kV3 dc3 pm3 cd3 ct3 : Value}
    {f4 : Addr} {od4 an4 : Option Addr} {sl4 : Array (Option Value)} {oc4 kV4 dc4 pm4 cd4 ct4 : Value}
    {f5 : Addr} {od5 an5 : Option Addr} {sl5 : Array (Option Value)} {oc5 kV5 dc5 pm5 cd5 ct5 : Value}
    {f6 : Addr} {od6 an6 : Option Addr} {sl6 : Array (Option Value)} {oc6 kV6 dc6 pm6 cd6 ct6 : Value}
    {f7 : Addr} {od7 an7 : Option Addr} {sl7 : Array (Option Value)} {oc7 kV7 dc7 pm7 cd7 ct7 : Value}
    {f8 : Addr} {od8 an8 : Option Addr} {sl8 : Array (Option Value)} {oc8 kV8 dc8 pm8 cd8 ct8 : Value}
    {f9 : Addr} {od9 an9 : Option Addr} {sl9 : Array (Option Value)} {oc9 kV9 dc9 pm9 cd9 ct9 : Value}
    {f10 : Addr} {od10 an10 : Option Addr} {sl10 : Array (Option Value)} {oc10 kV10 dc10 pm10 cd10 ct10 : Value}
    {f11 : Addr} {od11 an11 : Option Addr} {sl11 : Array (Option Value)} {oc11 kV11 dc11 pm11 cd11 ct11 : Value}
    {f12 : Addr} {od12 an12 : Option Addr} {sl12 : Array (Option Value)} {oc12 kV12 dc12 pm12 cd12 ct12 : Value}
    {f13 : Addr} {od13 an13 : Option Addr} {sl13 : Array (Option Value)} {oc13 kV13 dc13 pm13 cd13 ct13 : Value}
    {f14 : Addr} {od14 an14 : Option Addr} {sl14 : Array (Option Value)} {oc14 kV14 dc14 pm14 cd14 ct14 : Value}
    {f15 : Addr} {od15 an15 : Option Addr} {sl15 : Array (Option Value)} {oc15 kV15 dc15 pm15 cd15 ct15 : Value}
    {f16 : Addr} {od16 an16 : Option Addr} {sl16 : Array (Option Value)} {oc16 kV16 dc16 pm16 cd16 ct16 : Value}
    {f17 : Addr} {od17 an17 : Option Addr} {sl17 : Array (Option Value)} {oc17 kV17 dc17 pm17 cd17 ct17 : Value}
    {f18 : Addr} {od18 an18 : Option Addr} {sl18 : Array (Option Value)} {oc18 kV18 dc18 pm18 cd18 ct18 : Value}
    {T18 : Addr} {ocT18 : Value} {odT18 : Option Addr} {nT18 : Nat} {slT18 : Array (Option Value)} {tk18_0 : Tok}
    {f19 : Addr} {od19 an19 : Option Addr} {sl19 : Array (Option Value)} {oc19 kV19 dc19 pm19 cd19 ct19 : Value}
    {f20 : Addr} {od20 an20 : Option Addr} {sl20 : Array (Option Value)} {oc20 kV20 dc20 pm20 cd20 ct20 : Value}
    {f21 : Addr} {od21 an21 : Option Addr} {sl21 : Array (Option Value)} {oc21 kV21 dc21 pm21 cd21 ct21 : Value}
    {E_InvalidSize E_ParseError E_InvalidChain E_InvalidRow E_CoderError : Addr}
    {p_PLAIN_NAMES : Addr} {t0_PLAIN_NAMES t1_PLAIN_NAMES t2_PLAIN_NAMES t3_PLAIN_NAMES t4_PLAIN_NAMES t5_PLAIN_NAMES t6_PLAIN_NAMES t7_PLAIN_NAMES t8_PLAIN_NAMES : Tok} {n_PLAIN_NAMES : Nat} {sl_PLAIN_NAMES : Array (Option Value)}
    {p_FLAG_NAMES : Addr} {t0_FLAG_NAMES t1_FLAG_NAMES t2_FLAG_NAMES : Tok} {n_FLAG_NAMES : Nat} {sl_FLAG_NAMES : Array (Option Value)}
    {t_LONGEST_ROW : Tok}
    {t_FIGURES : Tok}
    (a0 : PySem.W.nsIn K mainGlobals "_law_draw" = some (some (.ref f0))) (l0 : K.lookup f0 = some ⟨oc0, od0, .func (PySem.W.fnOf "_law_draw" "_law_draw" (defArgs s__law_draw) (defBody s__law_draw) (defScope s__law_draw) .none kV0 dc0 pm0 an0 cd0 ct0), sl0⟩) (c0 : PySem.W.codeIn K cd0 "_law_draw" = true) (k0 : PySem.W.keepIn K (.ref f0) = true)
    (a1 : PySem.W.nsIn K mainGlobals "_law_pick" = some (some (.ref f1))) (l1 : K.lookup f1 = some ⟨oc1, od1, .func (PySem.W.fnOf "_law_pick" "_law_pick" (defArgs s__law_pick) (defBody s__law_pick) (defScope s__law_pick) .none kV1 dc1 pm1 an1 cd1 ct1), sl1⟩) (c1 : PySem.W.codeIn K cd1 "_law_pick" = true) (k1 : PySem.W.keepIn K (.ref f1) = true)
    (a2 : PySem.W.nsIn K mainGlobals "_law_coders" = some (some (.ref f2))) (l2 : K.lookup f2 = some ⟨oc2, od2, .func (PySem.W.fnOf "_law_coders" "_law_coders" (defArgs s__law_coders) (defBody s__law_coders) (defScope s__law_coders) .none kV2 dc2 pm2 an2 cd2 ct2), sl2⟩) (c2 : PySem.W.codeIn K cd2 "_law_coders" = true) (k2 : PySem.W.keepIn K (.ref f2) = true)
    (a3 : PySem.W.nsIn K mainGlobals "_law_chain" = some (some (.ref f3))) (l3 : K.lookup f3 = some ⟨oc3, od3, .func (PySem.W.fnOf "_law_chain" "_law_chain" (defArgs s__law_chain) (defBody s__law_chain) (defScope s__law_chain) .none kV3 dc3 pm3 an3 cd3 ct3), sl3⟩) (c3 : PySem.W.codeIn K cd3 "_law_chain" = true) (k3 : PySem.W.keepIn K (.ref f3) = true)
    (a4 : PySem.W.nsIn K mainGlobals "_law_row" = some (some (.ref f4))) (l4 : K.lookup f4 = some ⟨oc4, od4, .func (PySem.W.fnOf "_law_row" "_law_row" (defArgs s__law_row) (defBody s__law_row) (defScope s__law_row) .none kV4 dc4 pm4 an4 cd4 ct4), sl4⟩) (c4 : PySem.W.codeIn K cd4 "_law_row" = true) (k4 : PySem.W.keepIn K (.ref f4) = true)
    (a5 : PySem.W.nsIn K mainGlobals "is_integer" = some (some (.ref f5))) (l5 : K.lookup f5 = some ⟨oc5, od5, .func (PySem.W.fnOf "is_integer" "is_integer" (defArgs s_is_integer) (defBody s_is_integer) (defScope s_is_integer) .none kV5 dc5 pm5 an5 cd5 ct5), sl5⟩) (c5 : PySem.W.codeIn K cd5 "is_integer" = true) (k5 : PySem.W.keepIn K (.ref f5) = true)
    (a6 : PySem.W.nsIn K mainGlobals "check_size" = some (some (.ref f6))) (l6 : K.lookup f6 = some ⟨oc6, od6, .func (PySem.W.fnOf "check_size" "check_size" (defArgs s_check_size) (defBody s_check_size) (defScope s_check_size) .none kV6 dc6 pm6 an6 cd6 ct6), sl6⟩) (c6 : PySem.W.codeIn K cd6 "check_size" = true) (k6 : PySem.W.keepIn K (.ref f6) = true)
    (a7 : PySem.W.nsIn K mainGlobals "_check_string" = some (some (.ref f7))) (l7 : K.lookup f7 = some ⟨oc7, od7, .func (PySem.W.fnOf "_check_string" "_check_string" (defArgs s__check_string) (defBody s__check_string) (defScope s__check_string) .none kV7 dc7 pm7 an7 cd7 ct7), sl7⟩) (c7 : PySem.W.codeIn K cd7 "_check_string" = true) (k7 : PySem.W.keepIn K (.ref f7) = true)
    (a8 : PySem.W.nsIn K mainGlobals "is_sign" = some (some (.ref f8))) (l8 : K.lookup f8 = some ⟨oc8, od8, .func (PySem.W.fnOf "is_sign" "is_sign" (defArgs s_is_sign) (defBody s_is_sign) (defScope s_is_sign) .none kV8 dc8 pm8 an8 cd8 ct8), sl8⟩) (c8 : PySem.W.codeIn K cd8 "is_sign" = true) (k8 : PySem.W.keepIn K (.ref f8) = true)
    (a9 : PySem.W.nsIn K mainGlobals "_are_signs" = some (some (.ref f9))) (l9 : K.lookup f9 = some ⟨oc9, od9, .func (PySem.W.fnOf "_are_signs" "_are_signs" (defArgs s__are_signs) (defBody s__are_signs) (defScope s__are_signs) .none kV9 dc9 pm9 an9 cd9 ct9), sl9⟩) (c9 : PySem.W.codeIn K cd9 "_are_signs" = true) (k9 : PySem.W.keepIn K (.ref f9) = true)
    (a10 : PySem.W.nsIn K mainGlobals "is_list_of_signs" = some (some (.ref f10))) (l10 : K.lookup f10 = some ⟨oc10, od10, .func (PySem.W.fnOf "is_list_of_signs" "is_list_of_signs" (defArgs s_is_list_of_signs) (defBody s_is_list_of_signs) (defScope s_is_list_of_signs) .none kV10 dc10 pm10 an10 cd10 ct10), sl10⟩) (c10 : PySem.W.codeIn K cd10 "is_list_of_signs" = true) (k10 : PySem.W.keepIn K (.ref f10) = true)
    (a11 : PySem.W.nsIn K mainGlobals "parse_row" = some (some (.ref f11))) (l11 : K.lookup f11 = some ⟨oc11, od11, .func (PySem.W.fnOf "parse_row" "parse_row" (defArgs s_parse_row) (defBody s_parse_row) (defScope s_parse_row) .none kV11 dc11 pm11 an11 cd11 ct11), sl11⟩) (c11 : PySem.W.codeIn K cd11 "parse_row" = true) (k11 : PySem.W.keepIn K (.ref f11) = true)
    (a12 : PySem.W.nsIn K mainGlobals "coder_names" = some (some (.ref f12))) (l12 : K.lookup f12 = some ⟨oc12, od12, .func (PySem.W.fnOf "coder_names" "coder_names" (defArgs s_coder_names) (defBody s_coder_names) (defScope s_coder_names) .none kV12 dc12 pm12 an12 cd12 ct12), sl12⟩) (c12 : PySem.W.codeIn K cd12 "coder_names" = true) (k12 : PySem.W.keepIn K (.ref f12) = true)
    (a13 : PySem.W.nsIn K mainGlobals "is_tuple_of_coders" = some (some (.ref f13))) (l13 : K.lookup f13 = some ⟨oc13, od13, .func (PySem.W.fnOf "is_tuple_of_coders" "is_tuple_of_coders" (defArgs s_is_tuple_of_coders) (defBody s_is_tuple_of_coders) (defScope s_is_tuple_of_coders) .none kV13 dc13 pm13 an13 cd13 ct13), sl13⟩) (c13 : PySem.W.codeIn K cd13 "is_tuple_of_coders" = true) (k13 : PySem.W.keepIn K (.ref f13) = true)
    (a14 : PySem.W.nsIn K mainGlobals "parse_chain" = some (some (.ref f14))) (l14 : K.lookup f14 = some ⟨oc14, od14, .func (PySem.W.fnOf "parse_chain" "parse_chain" (defArgs s_parse_chain) (defBody s_parse_chain) (defScope s_parse_chain) .none kV14 dc14 pm14 an14 cd14 ct14), sl14⟩) (c14 : PySem.W.codeIn K cd14 "parse_chain" = true) (k14 : PySem.W.keepIn K (.ref f14) = true)
    (a15 : PySem.W.nsIn K mainGlobals "_law_read" = some (some (.ref f15))) (l15 : K.lookup f15 = some ⟨oc15, od15, .func (PySem.W.fnOf "_law_read" "_law_read" (defArgs s__law_read) (defBody s__law_read) (defScope s__law_read) .none kV15 dc15 pm15 an15 cd15 ct15), sl15⟩) (c15 : PySem.W.codeIn K cd15 "_law_read" = true) (k15 : PySem.W.keepIn K (.ref f15) = true)
    (a16 : PySem.W.nsIn K mainGlobals "check_chain" = some (some (.ref f16))) (l16 : K.lookup f16 = some ⟨oc16, od16, .func (PySem.W.fnOf "check_chain" "check_chain" (defArgs s_check_chain) (defBody s_check_chain) (defScope s_check_chain) .none kV16 dc16 pm16 an16 cd16 ct16), sl16⟩) (c16 : PySem.W.codeIn K cd16 "check_chain" = true) (k16 : PySem.W.keepIn K (.ref f16) = true)
    (a17 : PySem.W.nsIn K mainGlobals "format_chain" = some (some (.ref f17))) (l17 : K.lookup f17 = some ⟨oc17, od17, .func (PySem.W.fnOf "format_chain" "format_chain" (defArgs s_format_chain) (defBody s_format_chain) (defScope s_format_chain) .none kV17 dc17 pm17 an17 cd17 ct17), sl17⟩) (c17 : PySem.W.codeIn K cd17 "format_chain" = true) (k17 : PySem.W.keepIn K (.ref f17) = true)
    (a18 : PySem.W.nsIn K mainGlobals "check_row" = some (some (.ref f18))) (l18 : K.lookup f18 = some ⟨oc18, od18, .func (PySem.W.fnOf "check_row" "check_row" (defArgs s_check_row) (defBody s_check_row) (defScope s_check_row) (.ref T18) kV18 dc18 pm18 an18 cd18 ct18), sl18⟩) (c18 : PySem.W.codeIn K cd18 "check_row" = true) (k18 : PySem.W.keepIn K (.ref f18) = true)
    (lT18 : K.lookup T18 = some ⟨ocT18, odT18, .seq #[.int 40 tk18_0] nT18, slT18⟩)
    (a19 : PySem.W.nsIn K mainGlobals "format_row" = some (some (.ref f19))) (l19 : K.lookup f19 = some ⟨oc19, od19, .func (PySem.W.fnOf "format_row" "format_row" (defArgs s_format_row) (defBody s_format_row) (defScope s_format_row) .none kV19 dc19 pm19 an19 cd19 ct19), sl19⟩) (c19 : PySem.W.codeIn K cd19 "format_row" = true) (k19 : PySem.W.keepIn K (.ref f19) = true)
    (a20 : PySem.W.nsIn K mainGlobals "is_chain" = some (some (.ref f20))) (l20 : K.lookup f20 = some ⟨oc20, od20, .func (PySem.W.fnOf "is_chain" "is_chain" (defArgs s_is_chain) (defBody s_is_chain) (defScope s_is_chain) .none kV20 dc20 pm20 an20 cd20 ct20), sl20⟩) (c20 : PySem.W.codeIn K cd20 "is_chain" = true) (k20 : PySem.W.keepIn K (.ref f20) = true)
    (a21 : PySem.W.nsIn K mainGlobals "law" = some (some (.ref f21))) (l21 : K.lookup f21 = some ⟨oc21, od21, .func (PySem.W.fnOf "law" "law" (defArgs s_law) (defBody s_law) (defScope s_law) .none kV21 dc21 pm21 an21 cd21 ct21), sl21⟩) (c21 : PySem.W.codeIn K cd21 "law" = true) (k21 : PySem.W.keepIn K (.ref f21) = true)
    (z_all : PySem.W.nsIn K mainGlobals "all" = some none)
    (z_bool : PySem.W.nsIn K mainGlobals "bool" = some none)
    (z_int : PySem.W.nsIn K mainGlobals "int" = some none)
    (z_isinstance : PySem.W.nsIn K mainGlobals "isinstance" = some none)
    (z_len : PySem.W.nsIn K mainGlobals "len" = some none)
    (z_list : PySem.W.nsIn K mainGlobals "list" = some none)
    (z_range : PySem.W.nsIn K mainGlobals "range" = some none)
    (z_sorted : PySem.W.nsIn K mainGlobals "sorted" = some none)
    (z_str : PySem.W.nsIn K mainGlobals "str" = some none)
    (z_tuple : PySem.W.nsIn K mainGlobals "tuple" = some none)
    (e_InvalidSize : PySem.W.nsIn K mainGlobals "InvalidSize" = some (some (.ref E_InvalidSize)))
    (e_ParseError : PySem.W.nsIn K mainGlobals "ParseError" = some (some (.ref E_ParseError)))
    (e_InvalidChain : PySem.W.nsIn K mainGlobals "InvalidChain" = some (some (.ref E_InvalidChain)))
    (e_InvalidRow : PySem.W.nsIn K mainGlobals "InvalidRow" = some (some (.ref E_InvalidRow)))
    (e_CoderError : PySem.W.nsIn K mainGlobals "CoderError" = some (some (.ref E_CoderError)))
    (xfb : xfB K [(("InvalidSize" : Str), E_InvalidSize), (("ParseError" : Str), E_ParseError), (("InvalidChain" : Str), E_InvalidChain), (("InvalidRow" : Str), E_InvalidRow)] [(("ParseError" : Str), E_ParseError)] E_CoderError = true)
    (g_PLAIN_NAMES : PySem.W.nsIn K mainGlobals "PLAIN_NAMES" = some (some (.ref p_PLAIN_NAMES))) (h_PLAIN_NAMES : K.lookup p_PLAIN_NAMES = some ⟨.type "tuple", none, .seq #[.str "delta" t0_PLAIN_NAMES, .str "double" t1_PLAIN_NAMES, .str "drops" t2_PLAIN_NAMES, .str "front" t3_PLAIN_NAMES, .str "halves" t4_PLAIN_NAMES, .str "same" t5_PLAIN_NAMES, .str "sums" t6_PLAIN_NAMES, .str "twos" t7_PLAIN_NAMES, .str "unfront" t8_PLAIN_NAMES] n_PLAIN_NAMES, sl_PLAIN_NAMES⟩)
    (g_FLAG_NAMES : PySem.W.nsIn K mainGlobals "FLAG_NAMES" = some (some (.ref p_FLAG_NAMES))) (h_FLAG_NAMES : K.lookup p_FLAG_NAMES = some ⟨.type "tuple", none, .seq #[.str "flags0" t0_FLAG_NAMES, .str "flags1" t1_FLAG_NAMES, .str "flags2" t2_FLAG_NAMES] n_FLAG_NAMES, sl_FLAG_NAMES⟩)
    (g_LONGEST_ROW : PySem.W.nsIn K mainGlobals "LONGEST_ROW" = some (some (.int 40 t_LONGEST_ROW)))
    (g_FIGURES : PySem.W.nsIn K mainGlobals "FIGURES" = some (some (.str ("012" : Str) t_FIGURES))) :
    ∃ fd : FuncData, (∀ (s : Shared) (v : Value), BindsTo s fd ⟨[v], []⟩ [("_law_script", v)]) ∧ ∀ base : Heap, K.In base → base.Ns mainGlobals mg → FnOk l.prog w K mg base CX0 7 fa fd ["_law_script"] (spLaw K) := by
  have e := hfa.symm.trans (PySem.W.mg_of X G a21)
  cases e
  have xf : XF K ⟨mg, l.prog, w⟩ EN TN := XF.of (es := [(("InvalidSize" : Str), E_InvalidSize), (("ParseError" : Str), E_ParseError), (("InvalidChain" : Str), E_InvalidChain), (("InvalidRow" : Str), E_InvalidRow)]) (ts := [(("ParseError" : Str), E_ParseError)]) (c := E_CoderError) (fun p hp => by
    rcases List.mem_cons.mp hp with rfl | hp
    · exact PySem.W.mg_of X G e_InvalidSize
    rcases List.mem_cons.mp hp with rfl | hp
    · exact PySem.W.mg_of X G e_ParseError
    rcases List.mem_cons.mp hp with rfl | hp
    · exact PySem.W.mg_of X G e_InvalidChain
    rcases List.mem_cons.mp hp with rfl | hp
    · exact PySem.W.mg_of X G e_InvalidRow
    cases hp) (fun p hp => by
    rcases List.mem_cons.mp hp with rfl | hp
    · exact PySem.W.mg_of X G e_ParseError
    cases hp) (PySem.W.mg_of X G e_CoderError) xfb
  have top : Top l.prog K w mg := { b_all := PySem.W.mg_none_of X G z_all, b_bool := PySem.W.mg_none_of X G z_bool, b_int := PySem.W.mg_none_of X G z_int, b_isinstance := PySem.W.mg_none_of X G z_isinstance, b_len := PySem.W.mg_none_of X G z_len, b_list := PySem.W.mg_none_of X G z_list, b_range := PySem.W.mg_none_of X G z_range, b_sorted := PySem.W.mg_none_of X G z_sorted, b_str := PySem.W.mg_none_of X G z_str, b_tuple := PySem.W.mg_none_of X G z_tuple, xf := xf, c_PLAIN_NAMES := ⟨_, .ref p_PLAIN_NAMES, PySem.W.mg_of X G g_PLAIN_NAMES, rfl, fun F => by unfold c_PLAIN_NAMES; simp only [Rep]; exact ⟨p_PLAIN_NAMES, [.str "delta", .str "double", .str "drops", .str "front", .str "halves", .str "same", .str "sums", .str "twos", .str "unfront"], rfl, .inr ⟨_, _, n_PLAIN_NAMES, h_PLAIN_NAMES, rfl, rfl, rfl, (show (9 : Nat) ≤ sizeLine by decide), .cons ⟨_, rfl⟩ (.cons ⟨_, rfl⟩ (.cons ⟨_, rfl⟩ (.cons ⟨_, rfl⟩ (.cons ⟨_, rfl⟩ (.cons ⟨_, rfl⟩ (.cons ⟨_, rfl⟩ (.cons ⟨_, rfl⟩ (.cons ⟨_, rfl⟩ (.nil)))))))))⟩, .cons (by simp only [Rep]) (.cons (by simp only [Rep]) (.cons (by simp only [Rep]) (.cons (by simp only [Rep]) (.cons (by simp only [Rep]) (.cons (by simp only [Rep]) (.cons (by simp only [Rep]) (.cons (by simp only [Rep]) (.cons (by simp only [Rep]) (.nil)))))))))⟩⟩, c_FLAG_NAMES := ⟨_, .ref p_FLAG_NAMES, PySem.W.mg_of X G g_FLAG_NAMES, rfl, fun F => by unfold c_FLAG_NAMES; simp only [Rep]; exact ⟨p_FLAG_NAMES, [.str "flags0", .str "flags1", .str "flags2"], rfl, .inr ⟨_, _, n_FLAG_NAMES, h_FLAG_NAMES, rfl, rfl, rfl, (show (3 : Nat) ≤ sizeLine by decide), .cons ⟨_, rfl⟩ (.cons ⟨_, rfl⟩ (.cons ⟨_, rfl⟩ (.nil)))⟩, .cons (by simp only [Rep]) (.cons (by simp only [Rep]) (.cons (by simp only [Rep]) (.nil)))⟩⟩, c_LONGEST_ROW := ⟨_, .int 40, PySem.W.mg_of X G g_LONGEST_ROW, ⟨_, rfl⟩, fun F => by unfold c_LONGEST_ROW; simp only [Rep]⟩, c_FIGURES := ⟨_, .str ("012" : Str), PySem.W.mg_of X G g_FIGURES, ⟨_, rfl⟩, fun F => by unfold c_FIGURES; simp only [Rep]⟩ }
  refine ⟨PySem.W.fnOf "law" "law" (defArgs s_law) (defBody s_law) (defScope s_law) .none kV21 dc21 pm21 an21 cd21 ct21, fun s v => .of_eq rfl, fun base _ _ => ?_⟩
  have F__law_draw := fun_mk (st := s__law_draw) l0 c0 k0
  have K__law_draw : Kn l.prog w K mg base 1 "_law_draw" g__law_draw := ⟨f0, _, _, PySem.W.mg_of X G a0, k0, F__law_draw.binds (ps := ["_law_script", "_law_town", "_law_many"]) (fun _ _ _ _ _ _ us hl => match us, hl with | [_, _, _], _ => rfl), ok__law_draw { toTop := top, tt__law_draw := trivial } F__law_draw⟩
  have F__law_pick := fun_mk (st := s__law_pick) l1 c1 k1
  have K__law_pick : Kn l.prog w K mg base 2 "_law_pick" g__law_pick := ⟨f1, _, _, PySem.W.mg_of X G a1, k1, F__law_pick.binds (ps := ["_law_script", "_law_town", "_law_some"]) (fun _ _ _ _ _ _ us hl => match us, hl with | [_, _, _], _ => rfl), ok__law_pick { toTop := top, tt__law_pick := trivial, k__law_draw := K__law_draw } F__law_pick⟩
  have F__law_coders := fun_mk (st := s__law_coders) l2 c2 k2
  have K__law_coders : Kn l.prog w K mg base 1 "_law_coders" g__law_coders := ⟨f2, _, _, PySem.W.mg_of X G a2, k2, F__law_coders.binds (ps := ["_law_k"]) (fun _ _ _ _ _ _ us hl => match us, hl with | [_], _ => rfl), ok__law_coders { toTop := top, tt__law_coders := trivial } F__law_coders⟩
  have F__law_chain := fun_mk (st := s__law_chain) l3 c3 k3
  have K__law_chain : Kn l.prog w K mg base 3 "_law_chain" g__law_chain := ⟨f3, _, _, PySem.W.mg_of X G a3, k3, F__law_chain.binds (ps := ["_law_script", "_law_town", "_law_k"]) (fun _ _ _ _ _ _ us hl => match us, hl with | [_, _, _], _ => rfl), ok__law_chain { toTop := top, tt__law_chain := trivial, k__law_coders := K__law_coders, k__law_draw := K__law_draw, k__law_pick := K__law_pick } F__law_chain⟩
  have F__law_row := fun_mk (st := s__law_row) l4 c4 k4
  have K__law_row : Kn l.prog w K mg base 2 "_law_row" g__law_row := ⟨f4, _, _, PySem.W.mg_of X G a4, k4, F__law_row.binds (ps := ["_law_script", "_law_town", "_law_k", "_law_most"]) (fun _ _ _ _ _ _ us hl => match us, hl with | [_, _, _, _], _ => rfl), ok__law_row { toTop := top, tt__law_row := trivial, k__law_draw := K__law_draw } F__law_row⟩
  have F_is_integer := fun_mk (st := s_is_integer) l5 c5 k5
  have K_is_integer : Kn l.prog w K mg base 1 "is_integer" g_is_integer := ⟨f5, _, _, PySem.W.mg_of X G a5, k5, F_is_integer.binds (ps := ["value"]) (fun _ _ _ _ _ _ us hl => match us, hl with | [_], _ => rfl), ok_is_integer { toTop := top, tt_is_integer := trivial } F_is_integer⟩
  have F_check_size := fun_mk (st := s_check_size) l6 c6 k6
  have K_check_size : KnX l.prog w K mg base 2 "check_size" g_check_size r_check_size := ⟨f6, _, _, PySem.W.mg_of X G a6, k6, F_check_size.binds (ps := ["k"]) (fun _ _ _ _ _ _ us hl => match us, hl with | [_], _ => rfl), ok_check_size { toTop := top, tt_check_size := trivial, k_is_integer := K_is_integer } F_check_size⟩
  have F__check_string := fun_mk (st := s__check_string) l7 c7 k7
  have K__check_string : KnX l.prog w K mg base 1 "_check_string" g__check_string r__check_string := ⟨f7, _, _, PySem.W.mg_of X G a7, k7, F__check_string.binds (ps := ["text"]) (fun _ _ _ _ _ _ us hl => match us, hl with | [_], _ => rfl), ok__check_string { toTop := top, tt__check_string := trivial } F__check_string⟩
  have F_is_sign := fun_mk (st := s_is_sign) l8 c8 k8
  have K_is_sign : Kn l.prog w K mg base 2 "is_sign" g_is_sign := ⟨f8, _, _, PySem.W.mg_of X G a8, k8, F_is_sign.binds (ps := ["k", "value"]) (fun _ _ _ _ _ _ us hl => match us, hl with | [_, _], _ => rfl), ok_is_sign { toTop := top, tt_is_sign := trivial, k_is_integer := K_is_integer } F_is_sign⟩
  have F__are_signs := fun_mk (st := s__are_signs) l9 c9 k9
  have K__are_signs : Kn l.prog w K mg base 3 "_are_signs" g__are_signs := ⟨f9, _, _, PySem.W.mg_of X G a9, k9, F__are_signs.binds (ps := ["k", "values"]) (fun _ _ _ _ _ _ us hl => match us, hl with | [_, _], _ => rfl), ok__are_signs { toTop := top, tt__are_signs := trivial, k_is_sign := K_is_sign } F__are_signs⟩
  have F_is_list_of_signs := fun_mk (st := s_is_list_of_signs) l10 c10 k10
  have K_is_list_of_signs : Kn l.prog w K mg base 4 "is_list_of_signs" g_is_list_of_signs := ⟨f10, _, _, PySem.W.mg_of X G a10, k10, F_is_list_of_signs.binds (ps := ["k", "candidate", "longest"]) (fun _ _ _ _ _ _ us hl => match us, hl with | [_, _, _], _ => rfl), ok_is_list_of_signs { toTop := top, tt_is_list_of_signs := trivial, k__are_signs := K__are_signs } F_is_list_of_signs⟩
  have F_parse_row := fun_mk (st := s_parse_row) l11 c11 k11
  have K_parse_row : KnX l.prog w K mg base 5 "parse_row" g_parse_row r_parse_row := ⟨f11, _, _, PySem.W.mg_of X G a11, k11, F_parse_row.binds (ps := ["k", "text"]) (fun _ _ _ _ _ _ us hl => match us, hl with | [_, _], _ => rfl), ok_parse_row { toTop := top, tt_parse_row := trivial, k__check_string := K__check_string, k_check_size := K_check_size, k_is_list_of_signs := K_is_list_of_signs } F_parse_row⟩
  have F_coder_names := fun_mk (st := s_coder_names) l12 c12 k12
  have K_coder_names : Kn l.prog w K mg base 1 "coder_names" g_coder_names := ⟨f12, _, _, PySem.W.mg_of X G a12, k12, F_coder_names.binds (ps := ["k"]) (fun _ _ _ _ _ _ us hl => match us, hl with | [_], _ => rfl), ok_coder_names { toTop := top, tt_coder_names := trivial } F_coder_names⟩
  have F_is_tuple_of_coders := fun_mk (st := s_is_tuple_of_coders) l13 c13 k13
  have K_is_tuple_of_coders : Kn l.prog w K mg base 2 "is_tuple_of_coders" g_is_tuple_of_coders := ⟨f13, _, _, PySem.W.mg_of X G a13, k13, F_is_tuple_of_coders.binds (ps := ["k", "candidate"]) (fun _ _ _ _ _ _ us hl => match us, hl with | [_, _], _ => rfl), ok_is_tuple_of_coders { toTop := top, tt_is_tuple_of_coders := trivial, k_coder_names := K_coder_names } F_is_tuple_of_coders⟩
  have F_parse_chain := fun_mk (st := s_parse_chain) l14 c14 k14
  have K_parse_chain : KnX l.prog w K mg base 3 "parse_chain" g_parse_chain r_parse_chain := ⟨f14, _, _, PySem.W.mg_of X G a14, k14, F_parse_chain.binds (ps := ["k", "text"]) (fun _ _ _ _ _ _ us hl => match us, hl with | [_, _], _ => rfl), ok_parse_chain { toTop := top, tt_parse_chain := trivial, k__check_string := K__check_string, k_check_size := K_check_size, k_is_tuple_of_coders := K_is_tuple_of_coders } F_parse_chain⟩
  have F__law_read := fun_mk (st := s__law_read) l15 c15 k15
  have K__law_read : Kn l.prog w K mg base 6 "_law_read" g__law_read := ⟨f15, _, _, PySem.W.mg_of X G a15, k15, F__law_read.binds (ps := ["_law_k", "_law_text", "_law_as_row"]) (fun _ _ _ _ _ _ us hl => match us, hl with | [_, _, _], _ => rfl), ok__law_read { toTop := top, tt__law_read := trivial, fe := fe_ok, k_parse_chain := K_parse_chain, k_parse_row := K_parse_row } F__law_read⟩
  have F_check_chain := fun_mk (st := s_check_chain) l16 c16 k16
  have K_check_chain : KnX l.prog w K mg base 3 "check_chain" g_check_chain r_check_chain := ⟨f16, _, _, PySem.W.mg_of X G a16, k16, F_check_chain.binds (ps := ["k", "chain"]) (fun _ _ _ _ _ _ us hl => match us, hl with | [_, _], _ => rfl), ok_check_chain { toTop := top, tt_check_chain := trivial, k_is_tuple_of_coders := K_is_tuple_of_coders } F_check_chain⟩
  have F_format_chain := fun_mk (st := s_format_chain) l17 c17 k17
  have K_format_chain : KnX l.prog w K mg base 4 "format_chain" g_format_chain r_format_chain := ⟨f17, _, _, PySem.W.mg_of X G a17, k17, F_format_chain.binds (ps := ["k", "chain"]) (fun _ _ _ _ _ _ us hl => match us, hl with | [_, _], _ => rfl), ok_format_chain { toTop := top, tt_format_chain := trivial, k_check_chain := K_check_chain, k_check_size := K_check_size } F_format_chain⟩
  have F_check_row : FunD K "check_row" "check_row" (defArgs s_check_row) (defBody s_check_row) (defScope s_check_row) [.int 40] [] f18 _ := ⟨⟨oc18, od18, .ref T18, kV18, dc18, pm18, an18, cd18, ct18, sl18, rfl, l18, c18, .inr ⟨by simp, T18, _, [.int 40 tk18_0], nT18, rfl, lT18, rfl, .cons ⟨_, rfl⟩ (.nil)⟩, .inl rfl⟩, k18⟩
  have O_check_row := ok_check_row (base := base) { toTop := top, tt_check_row := trivial, k_is_list_of_signs := K_is_list_of_signs } F_check_row
  have Kd_check_row_2 : KnXD l.prog w K mg base 5 "check_row" g_check_row r_check_row [40] := by
    obtain ⟨ds, hv, hb⟩ := F_check_row.binds1 (ps := ["k", "row", "longest"]) 2 0 (by simp) rfl (fun _ _ _ _ _ _ _ us its h1 h2 => match us, its, h1, h2 with | [_, _], [_], _, _ => ⟨_, rfl, rfl⟩)
    exact ⟨f18, _, _, ds, PySem.W.mg_of X G a18, k18, hb, hv, O_check_row⟩
  have F_format_row := fun_mk (st := s_format_row) l19 c19 k19
  have K_format_row : KnX l.prog w K mg base 6 "format_row" g_format_row r_format_row := ⟨f19, _, _, PySem.W.mg_of X G a19, k19, F_format_row.binds (ps := ["k", "row"]) (fun _ _ _ _ _ _ us hl => match us, hl with | [_, _], _ => rfl), ok_format_row { toTop := top, tt_format_row := trivial, kd_check_row := Kd_check_row_2, k_check_size := K_check_size } F_format_row⟩
  have F_is_chain := fun_mk (st := s_is_chain) l20 c20 k20
  have K_is_chain : KnX l.prog w K mg base 3 "is_chain" g_is_chain r_is_chain := ⟨f20, _, _, PySem.W.mg_of X G a20, k20, F_is_chain.binds (ps := ["k", "candidate"]) (fun _ _ _ _ _ _ us hl => match us, hl with | [_, _], _ => rfl), ok_is_chain { toTop := top, tt_is_chain := trivial, k_check_size := K_check_size, k_is_tuple_of_coders := K_is_tuple_of_coders } F_is_chain⟩
  refine (ok_law { toTop := top, tt_law := trivial, k__law_chain := K__law_chain, k__law_draw := K__law_draw, k__law_pick := K__law_pick, k__law_read := K__law_read, k__law_row := K__law_row, k_format_chain := K_format_chain, k_format_row := K_format_row, k_is_chain := K_is_chain, k_parse_chain := K_parse_chain, k_parse_row := K_parse_row } (fun_mk (st := s_law) l21 c21 k21)).imp fun vs H Q E hq => ?_
  obtain ⟨a, ns, rfl, hS, hl, q⟩ := hq
  obtain ⟨c, hg⟩ := law_true ns hl
  refine ⟨H, [.d (.scr ns)], .bl true, c, Same.refl H, ?_, Nat.zero_le _, hg, fun v F' H' _ _ _ _ _ rp => ?_⟩
  · simp only [ArgsOk, Rep]
    exact ⟨_, [], rfl, ⟨a, rfl, hS⟩, rfl⟩
  · simp only [Rep] at rp
    subst rp
    exact q _
end Z
open PySem PySem.W PyProof.Rows
set_option maxHeartbeats 0 in
theorem PySem.Challenge.cw_rowcoders_k24_whole_texts_holds : PySem.Challenge.rw_rowcoders_k24_whole_texts.Holds := by
  w_on; o_law; k_head; (case hw => w_witness2)
  k_fill
  refine L2.walk_of (l := PySem.Challenge.rw_rowcoders_k24_whole_texts) (n := 63) (k := 7) (x := "_law_script") (CX := fun _ => L2.CX0) (sp := fun w => Z.spLaw _) rfl (by decide) rfl ⟨rfl, by decide, by decide⟩ (fun w h Y => PySem.W.kIn_of Y) ?F (fun _ _ a ns hl _ hS => ⟨a, ns, rfl, hS, hl, fun _ => rfl⟩) (fun _ _ _ _ _ h => h)
  case F =>
    intro w mg fa h KX G hmg
    refine' Z.all_mk KX G hmg ?a0 ?l0 ?c0 ?k0 ?a1 ?l1 ?c1 ?k1 ?a2 ?l2 ?c2 ?k2 ?a3 ?l3 ?c3 ?k3 ?a4 ?l4 ?c4 ?k4 ?a5 ?l5 ?c5 ?k5 ?a6 ?l6 ?c6 ?k6 ?a7 ?l7 ?c7 ?k7 ?a8 ?l8 ?c8 ?k8 ?a9 ?l9 ?c9 ?k9 ?a10 ?l10 ?c10 ?k10 ?a11 ?l11 ?c11 ?k11 ?a12 ?l12 ?c12 ?k12 ?a13 ?l13 ?c13 ?k13 ?a14 ?l14 ?c14 ?k14 ?a15 ?l15 ?c15 ?k15 ?a16 ?l16 ?c16 ?k16 ?a17 ?l17 ?c17 ?k17 ?a18 ?l18 ?c18 ?k18 ?lT18 ?a19 ?l19 ?c19 ?k19 ?a20 ?l20 ?c20 ?k20 ?a21 ?l21 ?c21 ?k21 ?z_all ?z_bool ?z_int ?z_isinstance ?z_len ?z_list ?z_range ?z_sorted ?z_str ?z_tuple ?e_InvalidSize ?e_ParseError ?e_InvalidChain ?e_InvalidRow ?e_CoderError ?xfb ?g_PLAIN_NAMES ?h_PLAIN_NAMES ?g_FLAG_NAMES ?h_FLAG_NAMES ?g_LONGEST_ROW ?g_FIGURES
    (case a0 => k_is)
    (case l0 => k_is)
    (case c0 => k_is)
    (case k0 => k_is)
    (case a1 => k_is)
    (case l1 => k_is)
    (case c1 => k_is)
    (case k1 => k_is)
    (case a2 => k_is)
    (case l2 => k_is)
    (case c2 => k_is)
    (case k2 => k_is)
    (case a3 => k_is)
    (case l3 => k_is)
    (case c3 => k_is)
    (case k3 => k_is)
    (case a4 => k_is)
    (case l4 => k_is)
    (case c4 => k_is)
    (case k4 => k_is)
    (case a5 => k_is)
    (case l5 => k_is)
    (case c5 => k_is)
    (case k5 => k_is)
    (case a6 => k_is)
    (case l6 => k_is)
    (case c6 => k_is)
    (case k6 => k_is)
    (case a7 => k_is)
    (case l7 => k_is)
    (case c7 => k_is)
    (case k7 => k_is)
    (case a8 => k_is)
    (case l8 => k_is)
    (case c8 => k_is)
    (case k8 => k_is)
    (case a9 => k_is)
    (case l9 => k_is)
    (case c9 => k_is)
    (case k9 => k_is)
    (case a10 => k_is)
    (case l10 => k_is)
    (case c10 => k_is)
    (case k10 => k_is)
    (case a11 => k_is)
    (case l11 => k_is)
    (case c11 => k_is)
    (case k11 => k_is)
    (case a12 => k_is)
    (case l12 => k_is)
    (case c12 => k_is)
    (case k12 => k_is)
    (case a13 => k_is)
    (case l13 => k_is)
    (case c13 => k_is)
    (case k13 => k_is)
    (case a14 => k_is)
    (case l14 => k_is)
    (case c14 => k_is)
    (case k14 => k_is)
    (case a15 => k_is)
    (case l15 => k_is)
    (case c15 => k_is)
    (case k15 => k_is)
    (case a16 => k_is)
    (case l16 => k_is)
    (case c16 => k_is)
    (case k16 => k_is)
    (case a17 => k_is)
    (case l17 => k_is)
    (case c17 => k_is)
    (case k17 => k_is)
    (case a18 => k_is)
    (case l18 => k_is)
    (case c18 => k_is)
    (case k18 => k_is)
    (case lT18 => k_is)
    (case a19 => k_is)
    (case l19 => k_is)
    (case c19 => k_is)
    (case k19 => k_is)
    (case a20 => k_is)
    (case l20 => k_is)
    (case c20 => k_is)
    (case k20 => k_is)
    (case a21 => k_is)
    (case l21 => k_is)
    (case c21 => k_is)
    (case k21 => k_is)
    (case z_all => k_is)
    (case z_bool => k_is)
    (case z_int => k_is)
    (case z_isinstance => k_is)
    (case z_len => k_is)
    (case z_list => k_is)
    (case z_range => k_is)
    (case z_sorted => k_is)
    (case z_str => k_is)
    (case z_tuple => k_is)
    (case e_InvalidSize => k_is)
    (case e_ParseError => k_is)
    (case e_InvalidChain => k_is)
    (case e_InvalidRow => k_is)
    (case e_CoderError => k_is)
    (case xfb => kernel_rfl)
    (case g_PLAIN_NAMES => k_is)
    (case h_PLAIN_NAMES => k_is)
    (case g_FLAG_NAMES => k_is)
    (case h_FLAG_NAMES => k_is)
    (case g_LONGEST_ROW => k_is)
    (case g_FIGURES => k_is)

