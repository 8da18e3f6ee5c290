import PyProof.Rows.All
import Wide.All
import OpenK.AllK
import Wide.FinOn
import HandS.ForMost
import HandS.Wide
import HandS.SortOrd
import HandS.DictComp
import HandS.More
import HandS.EndBits
import HandS.Walk
import HandS.TupLe
import HandS.NoneIn
import KE.KDictList
import KE.KDictSum
import HandS.SortInts
import HandS.Gcd
import HandS.IsInst
import HandS.ExcInit
import HandS.ExcField
import HandS.TryMany
import HandS.CallSlots
import HandS.WordsExc
import HandS.Defaults
import HandS.MakeKwOnly
import HandS.ExcOwn
import HandS.TupMul
import HandS.TupAny
import HandS.Deep
import HandS.Style
import PyProof.P3Eq
import PyProof.ReprLen
import HandS.ExcIs
import PySem.Challenge.RW_parcener_k02_rules_estates_and_wills
set_option Elab.async false
set_option maxRecDepth 100000
set_option maxHeartbeats 8000000
namespace G
open PySem L2 PyProof.Rows PySem.Spec SrtO
/-- a number of at most k bits -/
structure Bt (k : Nat) (x : Int) : Prop where
  lt : x.natAbs < 2 ^ k
theorem Bt.mono {k m : Nat} {x : Int} (h : Bt k x) (l : k ≤ m) : Bt m x := ⟨Nat.lt_of_lt_of_le h.lt (Nat.pow_le_pow_right (by decide) l)⟩
theorem Bt.mul {k m : Nat} {x y : Int} (h : Bt k x) (g : Bt m y) : Bt (k + m) (x * y) := ⟨wide_lt h.lt g.lt⟩
theorem Bt.neg {k : Nat} {x : Int} (h : Bt k x) : Bt k (-x) := ⟨by rw [Int.natAbs_neg]; exact h.lt⟩
theorem Bt.add {k : Nat} {x y : Int} (h : Bt k x) (g : Bt k y) : Bt (k + 1) (x + y) := ⟨by
  have a := h.lt
  have b := g.lt
  have c := Int.natAbs_add_le x y
  rw [Nat.pow_succ]
  generalize 2 ^ k = z at *
  omega⟩
theorem Bt.sub {k : Nat} {x y : Int} (h : Bt k x) (g : Bt k y) : Bt (k + 1) (x - y) := by
  rw [Int.sub_eq_add_neg]
  exact h.add g.neg
theorem Bt.le {k : Nat} {x y : Int} (h : Bt k y) (l : x.natAbs ≤ y.natAbs) : Bt k x := ⟨Nat.lt_of_le_of_lt l h.lt⟩
theorem Bt.log {k : Nat} {x : Int} (h : Bt k x) (hk : 0 < k) : x.natAbs.log2 < k := PySem.Flt.log2_lt_of hk h.lt
theorem Bt.ok {k m : Nat} {x y : Int} (h : Bt k x) (g : Bt m y) (hk : 0 < k) (hm : 0 < m) (l : k + m ≤ 100000000) : IntMulOk x y := by
  have bits : ∀ z : Int, Builtin.Int.intBits z ≤ z.natAbs.log2 + 1 := fun z => by
    unfold Builtin.Int.intBits
    split <;> omega
  have b1 := bits x
  have b2 := bits y
  have l1 := h.log hk
  have l2 := g.log hm
  have e : bitsLine = 134217728 := by decide
  unfold IntMulOk
  intro z
  have z2 := (Bool.and_eq_true _ _ ▸ z).2
  unfold Builtin.Int.intTooBig at z2
  have z3 := of_decide_eq_true z2
  rw [e] at z3
  omega
theorem Bt.of_bits {k : Nat} {x : Int} (h : Builtin.Int.intBits x ≤ k) : Bt k x := by
  unfold Builtin.Int.intBits at h
  split at h
  · next e =>
    have e' : x = 0 := by simpa using e
    subst e'
    exact ⟨Nat.two_pow_pos _⟩
  · exact ⟨Nat.lt_of_lt_of_le Nat.lt_log2_self (Nat.pow_le_pow_right (by decide) h)⟩
theorem Bt.small {x : Int} (h : -1073741824 < x) (g : x < 1073741824) : Bt 30 x := ⟨by show x.natAbs < 1073741824; omega⟩
theorem same_upd {H : Hp} {p : Addr} {o : HO} (h : H p = none) : Same H (upd H p o) := fun b x e => by
  rw [upd_ne (ne_of_none e h)]
  exact e
theorem sameT {K : PySem.W.Frag} {H H' : Hp} {a : Addr} {xs : List V} (e : Same H H') (h : SqT K H a xs) : SqT K H' a xs := by
  rcases h with (h | ⟨o, h⟩) | h
  · exact .inl (.inl (e _ _ h))
  · exact .inl (.inr ⟨o, e _ _ h⟩)
  · exact .inr h
theorem valV_nth {kvs : List (Key × V)} (nd : (kvs.map (·.1)).Nodup) {i : Nat} {k : Key} {v : V} (h : kvs[i]? = some (k, v)) : valV kvs k = some v := by
  induction kvs generalizing i with
  | nil => cases h
  | cons p r ih =>
    rw [List.map_cons, List.nodup_cons] at nd
    cases i with
    | zero =>
      have e : p = (k, v) := Option.some.inj h
      rw [e]
      exact valV_pos rfl
    | succ i =>
      have h' : r[i]? = some (k, v) := h
      have ne : ¬ p.1 = k := fun e => nd.1 (by
        rw [e]
        exact List.mem_map.mpr ⟨(k, v), List.mem_of_getElem? h', rfl⟩)
      rw [valV_neg ne]
      exact ih nd.2 h'
def dig (i : Int) : Str := toString i
def mk (a j : Int) : Str := ((("k" : Str) ++ dig a) ++ ("x" : Str)) ++ dig j
theorem len_app (a b : Str) : (a ++ b).length = a.length + b.length := by
  show (a.cps ++ b.cps).size = _
  rw [Array.size_append]
  rfl
theorem cps_app (a b : Str) : (a ++ b).cps.toList = a.cps.toList ++ b.cps.toList := by
  show (a.cps ++ b.cps).toList = _
  rw [Array.toList_append]
theorem dig_fin : ∀ i : _root_.Fin 50, (dig ((i.val : Nat) : Int)).length ≤ 2 := by decide +kernel
theorem dig_len {i : Int} (h0 : 0 ≤ i) (h : i < 50) : (dig i).length ≤ 2 := by
  have := dig_fin ⟨i.toNat, by omega⟩
  rw [show i = ((i.toNat : Nat) : Int) by omega]
  exact this
theorem end_fin : ∀ i j : _root_.Fin 20, ((dig ((i.val : Nat) : Int)).cps.toList.reverse ++ [120]).take 2 = ((dig ((j.val : Nat) : Int)).cps.toList.reverse ++ [120]).take 2 → i = j := by decide +kernel
theorem dig_pos : ∀ i : _root_.Fin 20, 1 ≤ (dig ((i.val : Nat) : Int)).cps.toList.length := by decide +kernel
theorem mk_end (a : Int) (j : _root_.Fin 20) : (mk a ((j.val : Nat) : Int)).cps.toList.reverse.take 2 = ((dig ((j.val : Nat) : Int)).cps.toList.reverse ++ [120]).take 2 := by
  unfold mk
  rw [cps_app, cps_app, List.reverse_append, List.reverse_append, ← List.append_assoc]
  rw [List.take_append_of_le_length]
  · rfl
  · have := dig_pos j
    rw [List.length_append, List.length_reverse]
    show 2 ≤ _ + 1
    omega
theorem mk_inj {a b i j : Int} (i0 : 0 ≤ i) (i1 : i < 20) (j0 : 0 ≤ j) (j1 : j < 20) (h : mk a i = mk b j) : i = j := by
  have e1 := mk_end a ⟨i.toNat, by omega⟩
  have e2 := mk_end b ⟨j.toNat, by omega⟩
  rw [show (((⟨i.toNat, by omega⟩ : _root_.Fin 20).val : Nat) : Int) = i from Int.toNat_of_nonneg i0] at e1
  rw [show (((⟨j.toNat, by omega⟩ : _root_.Fin 20).val : Nat) : Int) = j from Int.toNat_of_nonneg j0] at e2
  rw [h] at e1
  have e3 := end_fin ⟨i.toNat, by omega⟩ ⟨j.toNat, by omega⟩ (by
    show List.take 2 ((dig ((i.toNat : Nat) : Int)).cps.toList.reverse ++ [120]) = List.take 2 ((dig ((j.toNat : Nat) : Int)).cps.toList.reverse ++ [120])
    rw [Int.toNat_of_nonneg i0, Int.toNat_of_nonneg j0]
    exact e1.symm.trans e2)
  have e4 : i.toNat = j.toNat := congrArg _root_.Fin.val e3
  omega
theorem rising_pw : ∀ (l : List Str) (p : Str), risingS p l = true → (p :: l).Pairwise fun a b => ¬ b.cps.toList < a.cps.toList
  | [], p, _ => List.pairwise_singleton _ _
  | x :: r, p, h => by
    unfold risingS at h
    rw [Bool.and_eq_true, ltCps_eq] at h
    have h1 : ¬ x.cps.toList < p.cps.toList := by
      have := h.1
      simpa using this
    have ih := rising_pw r x h.2
    refine List.pairwise_cons.mpr ⟨fun y hy => ?_, ih⟩
    rcases List.mem_cons.mp hy with e | hy
    · rw [e]
      exact h1
    · have h2 := (List.pairwise_cons.mp ih).1 y hy
      exact List.not_lt.mpr (List.le_trans (List.not_lt.mp h1) (List.not_lt.mp h2))
theorem sortedS_pw {l : List Str} (h : sortedS l = true) : l.Pairwise fun a b => ¬ b.cps.toList < a.cps.toList := by
  cases l with
  | nil => exact .nil
  | cons x r => exact rising_pw r x h
theorem str_ext {a b : Str} (h : a.cps.toList = b.cps.toList) : a = b := by
  cases a
  cases b
  exact congrArg PySem.Str.mk (Array.toList_inj.mp h)
theorem sortedS_one {l m : List Str} (h : sortedS l = true) (g : sortedS m = true) (p : l.Perm m) : l = m :=
  p.eq_of_pairwise (fun a b _ _ h1 h2 => str_ext (List.le_antisymm (List.not_lt.mp h1) (List.not_lt.mp h2))) (sortedS_pw h) (sortedS_pw g)
theorem dig_ok_fin : ∀ i : _root_.Fin 50, PyData.strOk (dig ((i.val : Nat) : Int)) = true := by decide +kernel
theorem dig_ok {i : Int} (h0 : 0 ≤ i) (h : i < 50) : PyData.strOk (dig i) = true := by
  have := dig_ok_fin ⟨i.toNat, by omega⟩
  rw [show i = ((i.toNat : Nat) : Int) by omega]
  exact this
theorem ok_app {a b : Str} (h : PyData.strOk a = true) (g : PyData.strOk b = true) : PyData.strOk (a ++ b) = true := by
  show (a.cps ++ b.cps).all (· < 0x110000) = true
  rw [Array.all_append]
  exact Bool.and_eq_true_iff.mpr ⟨h, g⟩
theorem mk_ok {a i : Int} (a0 : 0 ≤ a) (a1 : a < 50) (i0 : 0 ≤ i) (i1 : i < 50) : PyData.strOk (mk a i) = true :=
  ok_app (ok_app (ok_app (by decide +kernel) (dig_ok a0 a1)) (by decide +kernel)) (dig_ok i0 i1)
theorem nat_num {xs : List Int} {i : Nat} (h : i < xs.length) : atI (xs.map V.int) ((i : Nat) : Int) = some (.int xs[i]) := atI_nat (by rw [List.getElem?_map, List.getElem?_eq_getElem h]; rfl)
theorem lg {x : Int} (h0 : 0 ≤ x) (h1 : x < 1000) : x.natAbs.log2 < 1920 := Nat.lt_trans ((Bt.small (x := x) (by omega) (by omega)).log (by decide)) (by decide)
def cell (ns : List Int) (k : Int) : Int := (ns[k.toNat]?).getD 0
def Nums (xs : List Int) : Prop := ∀ x ∈ xs, 0 ≤ x ∧ x < 1048576
theorem Nums.snoc {xs : List Int} {x : Int} (h : Nums xs) (a : 0 ≤ x) (b : x < 1048576) : Nums (xs ++ [x]) := fun y hy => by
  rcases List.mem_append.mp hy with z | z
  · exact h y z
  · rw [List.mem_singleton.mp z]
    exact ⟨a, b⟩
end G
namespace G
open PySem L2 PyProof.Rows PySem.Spec SrtO
/-! texts in order, any number of them -/
def leT (a b : Str) : Bool := !decide (b.cps.toList < a.cps.toList)
/-- the texts of a list, ascending -/
def srt (l : List Str) : List Str := l.mergeSort leT
theorem leT_iff {a b : Str} : leT a b = true ↔ ¬ b.cps.toList < a.cps.toList := by
  unfold leT
  simp
theorem leT_trans (a b c : Str) (h : leT a b = true) (g : leT b c = true) : leT a c = true :=
  leT_iff.mpr (List.not_lt.mpr (List.le_trans (List.not_lt.mp (leT_iff.mp h)) (List.not_lt.mp (leT_iff.mp g))))
theorem leT_total (a b : Str) : (leT a b || leT b a) = true := by
  by_cases h : b.cps.toList < a.cps.toList
  · rw [leT_iff.mpr (List.lt_asymm h), Bool.or_true]
  · rw [leT_iff.mpr h, Bool.true_or]
theorem leT_anti {a b : Str} (h : leT a b = true) (g : leT b a = true) : a = b :=
  str_ext (List.le_antisymm (List.not_lt.mp (leT_iff.mp h)) (List.not_lt.mp (leT_iff.mp g)))
theorem srt_perm (l : List Str) : (srt l).Perm l := List.mergeSort_perm l leT
theorem srt_pw (l : List Str) : (srt l).Pairwise fun a b => leT a b = true := List.pairwise_mergeSort leT_trans leT_total l
theorem srt_one {l m : List Str} (p : m.Perm l) (s : m.Pairwise fun a b => leT a b = true) : m = srt l :=
  (p.trans (srt_perm l).symm).eq_of_pairwise (fun _ _ _ _ h g => leT_anti h g) s (srt_pw l)
theorem srt_mem {l : List Str} {x : Str} : x ∈ srt l ↔ x ∈ l := (srt_perm l).mem_iff
theorem srt_len (l : List Str) : (srt l).length = l.length := (srt_perm l).length_eq
/-- the text of a value -/
def tx : Value → Str
  | .str x _ => x
  | _ => Str.empty
def ltTv (v u : Value) : Bool := decide ((tx v).cps.toList < (tx u).cps.toList)
theorem swoT : Swo ltTv := by
  refine ⟨fun x y h => ?_, fun x y z h1 h2 => ?_⟩
  · exact decide_eq_false (List.lt_asymm (of_decide_eq_true h))
  · have a : ¬ (tx y).cps.toList < (tx x).cps.toList := of_decide_eq_false h1
    have b : ¬ (tx z).cps.toList < (tx y).cps.toList := of_decide_eq_false h2
    exact decide_eq_false (List.not_lt.mpr (List.le_trans (List.not_lt.mp a) (List.not_lt.mp b)))
section
variable {prog : Program} {w : World} {A : Around} {s : Shared}
theorem cmpT {vs : List Value} (hT : ∀ v ∈ vs, ∃ x t, v = Value.str x t) : Cmp prog w A s oneType' (fun p => p.1 ∈ vs) (lt2 ltTv) := by
  intro p q hm hm'
  obtain ⟨x, t, e⟩ := hT _ hm
  obtain ⟨y, u, e'⟩ := hT _ hm'
  show wpAny (model prog w) A (keyLt' oneType' p.1 q.1) (fun r s' => s' = s ∧ r = ltTv p.1 q.1) (fun _ _ => False) s
  rw [e, e']
  exact PySem.W.kas_lt_str ⟨rfl, rfl⟩
theorem sortableT {a : Addr} {vs : List Value} {ss : List Str} (hT : StrsAre vs ss) (h2 : 2 ≤ vs.length) : SortableO prog w A s a vs ltTv := by
  intro h' _
  refine ⟨oneType', fun Q E hq => ?_, cmpT fun v hv => hT.all v hv⟩
  match vs, hT, h2 with
  | v1 :: v2 :: rest, hT, _ =>
    rw [keyKind_strs hT]
    exact wpAny_pure hq
  | [], _, h => exact absurd h (by decide)
  | [v], _, h => exact absurd h (by simp)
end
theorem tx_strs : ∀ {vs : List Value} {ss : List Str}, StrsAre vs ss → vs.map tx = ss
  | _, _, .nil => rfl
  | _, _, .cons x t r => congrArg (x :: ·) (tx_strs r)
theorem tx_vals : ∀ {vs : List Value}, (∀ v ∈ vs, ∃ x t, v = Value.str x t) → Vals ((vs.map tx).map V.str) vs
  | [], _ => .nil
  | v :: vs, h => by
    obtain ⟨x, t, rfl⟩ := h v List.mem_cons_self
    exact .cons ⟨t, rfl⟩ (tx_vals fun u hu => h u (List.mem_cons_of_mem _ hu))
theorem strs_vals : ∀ {zs : List Str} {vs : List Value}, Vals (zs.map V.str) vs → StrsAre vs zs
  | [], _, .nil => .nil
  | z :: zs, _, .cons ⟨t, e⟩ r => by
    subst e
    exact .cons z t (strs_vals r)
theorem srt_out {vs out : List Value} {zs : List Str} (hT : StrsAre vs zs) (hs : Srtd ltTv out) (hb : Stb ltTv out vs) : out.map tx = srt zs ∧ Vals ((srt zs).map V.str) out := by
  have e : out.map tx = srt zs := by
    refine srt_one ?_ ?_
    · rw [← tx_strs hT]
      exact hb.perm.map tx
    · refine List.pairwise_map.mpr (hs.imp fun {a b} h => ?_)
      exact leT_iff.mpr (of_decide_eq_false h)
  refine ⟨e, ?_⟩
  rw [← e]
  exact tx_vals fun v hv => hT.all v (hb.perm.mem_iff.mp hv)
/-- sorted(xs), xs a list of texts -/
def rSortTx (K : PySem.W.Frag) : List V → Hp → VK → Prop := fun vs H Q => ∃ (a : Addr) (zs : List Str), vs = [V.ref a] ∧ SqL K H a (zs.map V.str) ∧ ∀ p, H p = none → Q (.ref p) (upd H p (.lst ((srt zs).map V.str)))
section
variable {X : Cx}
theorem cr_sortTx : CallR X (.builtin "sorted") (rSortTx X.K) := by
  intro pins s σ H vs us Q I r h
  obtain ⟨a, zs, rfl, hs, go⟩ := h
  obtain ⟨its, rv, hl, hz⟩ := I.list hs
  obtain ⟨u, rfl, ru⟩ := vals1 r
  obtain rfl : u = Value.ref a := ru
  have hT := strs_vals rv
  refine sorted_ord swoT hl.isList (by rw [← rv.length]; exact hz) (fun h2 h₁ b _ _ => sortableT hT h2) fun out h1 h2 => ?_
  obtain ⟨e1, e2⟩ := srt_out hT h1 h2
  obtain ⟨ep, he⟩ := sortedAll_at s.heap its out.toArray
  refine ⟨.ref _, upd H (s.heap.objs.size + 1) (.lst ((srt zs).map V.str)), I.laid (t' := s.toks) (fun _ _ => sortedAll_old) (Nat.le_succ _) ⟨?_, out, ep, e2, he⟩, rfl, go _ (I.hok.fresh (Nat.le_succ _))⟩
  rw [List.length_map, srt_len]
  rw [List.length_map] at hz
  exact hz
/-- sorted(d), d a dict of texts -/
def rSortTxD : List V → Hp → VK → Prop := fun vs H Q => ∃ (a : Addr) (kvs : List (Key × V)) (ks : List Str), vs = [V.ref a] ∧ Rd H a (.dK kvs) ∧ kvs.map (·.1) = ks.map Sum.inr ∧ ∀ p, H p = none → Q (.ref p) (upd H p (.lst ((srt ks).map V.str)))
theorem cr_sortTxD (calm : X.calm = true) : CallR X (.builtin "sorted") rSortTxD := by
  intro pins s σ H xs us Q I r h
  obtain ⟨a, kvs, ks, rfl, hd, hks, go⟩ := h
  obtain ⟨u, rfl, ru⟩ := vals1 r
  obtain rfl : u = Value.ref a := ru
  obtain ⟨z, lo, vs, rel, dd⟩ := dk_rd I.hok hd
  obtain ⟨ep, hat⟩ := dd.dictAt
  have hkeys : vs.map (·.1) = ks.map Sum.inr := rel.keys.symm.trans hks
  have hl : vs.length = ks.length := by
    have e := congrArg List.length hkeys
    rwa [List.length_map, List.length_map] at e
  have hz : vs.length ≤ sizeLine := by
    rw [← (Paired.length rel)]
    exact z
  refine Calls.call_function_entry PyProof.Rows.kind_sorted PyProof.Rows.plain_sorted PyProof.Rows.entry_sorted (PyProof.Rows.args_sorted1 _) ?_
  unfold Builtin.«sorted»
  refine wpAny_bind (m := checkCount "sorted" 1 1 _) (wpAny_pure ?_)
  refine wpAny_bind (PySem.W.kdu_collect (A := X.A.in1) (PySem.W.kdl_dict (knd := mixKind X.prog X.w) (kvs := vs) (ep := ep) lo) (I.ok.hd calm) hat hz fun h' tk acc keep items => ?_)
  have hal : acc.toList.length = ks.length := by rw [Array.length_toList, items.1, hl]
  have hT : StrsAre acc.toList ks := strs_at hal fun j v e => by
    obtain ⟨k, x, g1, g2⟩ := items.2 j v (by rw [← Array.getElem?_toList]; exact e)
    have g3 : (vs.map (·.1))[j]? = some k := by rw [List.getElem?_map, g1] <;> rfl
    rw [hkeys, List.getElem?_map] at g3
    cases g4 : ks[j]? with
    | none =>
      rw [g4] at g3
      cases g3
    | some y =>
      rw [g4] at g3
      obtain rfl : Sum.inr y = k := Option.some.inj g3
      obtain ⟨t, ev⟩ := Value.isStrOf_shape (x := y) (v := v) g2
      exact ⟨y, t, rfl, ev⟩
  have I1 : Inv X pins σ H { s with heap := h', toks := tk } := I.kept keep
  refine wpAny_bind (wpAny_newList ?_ (by rw [hal, ← hl]; exact hz))
  have there : (h'.push (seqObj "list" acc.toList.toArray 0)).get? h'.objs.size = some (seqObj "list" acc.toList.toArray 0) := Heap.get?_push_size _ rfl
  show wpAny _ _ _ _ _ { s with heap := h'.push (seqObj "list" acc.toList.toArray 0), toks := tk }
  refine wpAny_bind (wpAny_holding (wpAny_call_entry PyProof.Rows.slot_list_sort ⟨_, there, rfl⟩ PyProof.Rows.entry_list_sort
    (list_sort_ord (s := { s with heap := h'.push (seqObj "list" acc.toList.toArray 0), toks := tk }) swoT there (by rw [hal, ← hl]; exact hz) (fun h2 => sortableT hT h2) fun out h1 h2 => ⟨_, rfl, ?_⟩) (PyProof.Rows.args_list_sort _)))
  obtain ⟨e1, e2⟩ := srt_out hT h1 h2
  obtain ⟨e', he'⟩ := PyProof.Rows.sortedHeap_at (vs := acc.toList) (out := out.toArray) there
  refine wpAny_pure ⟨_, rfl, .ref h'.objs.size, upd H h'.objs.size (.lst ((srt ks).map V.str)), I1.laid (t' := tk) (fun b u e => ?_) (Nat.le_refl _) ⟨?_, out, e', e2, he'⟩, rfl, go _ (I1.hok.fresh (Nat.le_refl _))⟩
  · have hb : b < h'.objs.size := Heap.lt_size e
    rw [PyProof.Rows.sortedHeap_old (Nat.ne_of_lt hb) (by rw [size_push']; exact Nat.lt_succ_of_lt hb)]
    exact Heap.get?_push_of_some _ e
  · rw [List.length_map, srt_len, ← hl]
    exact hz
end
end G
namespace G
open PySem L2 PyProof.Rows PySem.Spec
/-! list(d.values()), sum(d.values()) -/
theorem kv_snd {kvs : List (Key × V)} {us : List (Key × Value)} (r : KV kvs us) : Vals (kvs.map (·.2)) (us.map (·.2)) := by
  unfold KV at r
  induction r with
  | nil => exact .nil
  | cons one _ ih => exact .cons one.2 ih
theorem preSum_list (is : List Int) (f : Nat → Int) : ∀ n, n ≤ is.length → (∀ i, i < n → f i = is.getD i 0) → preSum f n = (is.take n).sum
  | 0, _, _ => rfl
  | n + 1, hn, hf => by
    have ih := preSum_list is f n (by omega) (fun i hi => hf i (by omega))
    show preSum f n + f n = _
    have hg : is[n]? = some is[n] := List.getElem?_eq_getElem (by omega)
    have ht : is.take (n + 1) = is.take n ++ [is[n]] := by
      rw [List.take_add_one, hg]
      rfl
    have hv : f n = is[n] := by
      rw [hf n (by omega), List.getD_eq_getElem?_getD, hg]
      rfl
    rw [ih, hv, ht, List.sum_append]
    simp
def tListVals (td : TE) : TE := fun σ H Q => td σ H fun x H1 => ∃ a kvs, x = V.ref a ∧ H1 a = some (.dK kvs) ∧ ∀ l, H1 l = none → Q (.ref l) (upd H1 l (.lst (kvs.map (·.2))))
def tSumVals (td : TE) : TE := fun σ H Q => td σ H fun x H1 => ∃ a kvs, ∃ is : List Int, x = V.ref a ∧ H1 a = some (.dK kvs) ∧ kvs.map (·.2) = is.map V.int ∧ Q (.int is.sum) H1
section
variable {X : Cx} {o : Expr} {p pos apos mpos : Pos} {td : TE}
theorem pe_listVals (calm : X.calm = true) (hg : Gl X "list") (hm : X.mg "list" = none) (hd : PE X o td) (hb : attributeBase o "values" X.env (eval o X.env) = eval o X.env := by rfl) (hline : (apos.endLine == mpos.line) = true := by rfl)
    (hst : starEach [Expr.Call (.Attribute o "values" apos) [] [] mpos] X.env = (false, eval (.Call (.Attribute o "values" apos) [] [] mpos) X.env) :: starEach [] X.env := by rfl) :
    PE X (.Call (.Name "list" p) [.Call (.Attribute o "values" apos) [] [] mpos] [] pos) (tListVals td) := by
  refine ⟨fun pins s σ H Q I h => ?_⟩
  refine wpAny_Call_Name_kw (ld_blt I hg hm (u := .type "list") (by first | rfl | decide +kernel) ?_ (by first | decide +kernel | decide) (by first | decide +kernel | decide))
  refine PyProof.Rows.callWith_type1 ?_ hst rfl
  rw [hst]
  show wpAny _ _ (spliced ((false, eval (.Call (.Attribute o "values" apos) [] [] mpos) X.env) :: backTo pos (starEach [] X.env))) _ _ s
  refine Calls.spliced_cons ?_
  refine wpAny_Call_method0_late hb hline (thn (hd.run pins s σ H _ I h) fun u s1 ⟨x, H1, I1, rx, d, kvs, ex, hd1, go⟩ => ?_)
  subst ex
  obtain rfl : u = Value.ref d := rx
  obtain ⟨hsz, hsys, us, kv, dof⟩ := dk_of I1.hok hd1
  obtain ⟨ep, dat⟩ := dof.dictAt
  obtain ⟨ob, es, ho, ex, hdat, hko, hpr, hnd⟩ := id dat
  refine ⟨"dict", "dict.values", F.plainAttrs_dict, F.slot_dict_values, F.type_dict_values, ⟨ob, ho, ex.1⟩, fun b e => by cases e; exact ⟨ob, ho, ex.2.1⟩, Calls.callWith_builtin rfl (PySem.evalArgs_none ?_)⟩
  refine call_meetsIn F.slot_dict_values ⟨ob, ho, ex.1⟩ F.entry_dict_values (F.args_dict_values_1 _) (meets_dict_values (mixKind X.prog X.w) d hsys) ⟨⟨us, dof⟩, ?_⟩
  refine Calls.spliced_nil ?_
  have lk : us.length = kvs.length := (Paired.length kv).symm
  refine PySem.W.kdl_call (PySem.W.kdl_values (knd := mixKind X.prog X.w) (r := s1.heap.objs.size) (d := d) (kvs := us) (ep := ep)) (I.ok.hd calm) ⟨⟨_, Heap.get?_push_size _ rfl, rfl, rfl⟩, dat.push _⟩ (by rw [lk]; exact hsz) fun h' tk acc c keep at' items => ?_
  have keep1 : ∀ b u, s1.heap.get? b = some u → h'.get? b = some u := fun b u e => keep b u (Heap.get?_push_of_some _ e)
  have size1 : (s1.heap.push { cls := .type "dict_values", data := .fields #[.ref d] }).objs.size = s1.heap.objs.size + 1 := Heap.size_push _ _
  have hacc : acc.toList = us.map (·.2) := PySem.W.kdl_vals_eq acc.toList (by rw [Array.length_toList]; exact items.1) fun j v e => items.2 j v (by rw [← Array.getElem?_toList]; exact e)
  have frs : H1 (s1.heap.objs.size + 1) = none := I1.hok.fresh (Nat.le_succ _)
  refine ⟨.ref (s1.heap.objs.size + 1), upd H1 (s1.heap.objs.size + 1) (.lst (kvs.map (·.2))), I1.laid keep1 (Nat.le_succ _) ⟨by rw [List.length_map]; exact hsz, acc.toList, c, by rw [hacc]; exact kv_snd kv, ?_⟩, by rw [size1]; rfl, go _ frs⟩
  rw [Array.toArray_toList, ← size1]
  exact at'
theorem pe_sumVals (calm : X.calm = true) (hg : Gl X "sum") (hm : X.mg "sum" = none) (hd : PE X o td) (hb : attributeBase o "values" X.env (eval o X.env) = eval o X.env := by rfl) (hline : (apos.endLine == mpos.line) = true := by rfl)
    (hst : starEach [Expr.Call (.Attribute o "values" apos) [] [] mpos] X.env = [(false, eval (Expr.Call (.Attribute o "values" apos) [] [] mpos) X.env)] := by rfl) :
    PE X (.Call (.Name "sum" p) [.Call (.Attribute o "values" apos) [] [] mpos] [] pos) (tSumVals td) := by
  refine ⟨fun pins s σ H Q I h => ?_⟩
  refine wpAny_Call_Name_kw (ld_blt I hg hm (u := .builtin "sum") (by first | rfl | decide +kernel) ?_ (by first | decide +kernel | decide) (by first | decide +kernel | decide))
  rw [hst]
  refine PySem.callWith_builtin1 (wpAny_Call_method0_late hb hline (thn (hd.run pins s σ H _ I h) fun u s1 ⟨x, H1, I1, rx, d, kvs, is, ex, hd1, hv, go⟩ => ?_))
  subst ex
  obtain rfl : u = Value.ref d := rx
  obtain ⟨hsz, hsys, us, kv, dof⟩ := dk_of I1.hok hd1
  obtain ⟨ep, dat⟩ := dof.dictAt
  obtain ⟨ob, es, ho, ex, hdat, hko, hpr, hnd⟩ := id dat
  refine ⟨"dict", "dict.values", F.plainAttrs_dict, F.slot_dict_values, F.type_dict_values, ⟨ob, ho, ex.1⟩, fun b e => by cases e; exact ⟨ob, ho, ex.2.1⟩, Calls.callWith_builtin rfl (PySem.evalArgs_none ?_)⟩
  refine call_meetsIn F.slot_dict_values ⟨ob, ho, ex.1⟩ F.entry_dict_values (F.args_dict_values_1 _) (meets_dict_values (mixKind X.prog X.w) d hsys) ⟨⟨us, dof⟩, ?_⟩
  have lk : us.length = kvs.length := (Paired.length kv).symm
  have li : kvs.length = is.length := by
    have e1 := congrArg List.length hv
    rwa [List.length_map, List.length_map] at e1
  have size1 : (s1.heap.push { cls := .type "dict_values", data := .fields #[.ref d] }).objs.size = s1.heap.objs.size + 1 := Heap.size_push _ _
  have S := PySem.W.kdl_values (prog := X.prog) (w := X.w) (knd := mixKind X.prog X.w) (r := s1.heap.objs.size) (d := d) (kvs := us) (ep := ep)
  have okV : (s1.heap.push { cls := .type "dict_values", data := .fields #[.ref d] }).IsValuesView s1.heap.objs.size d ∧ (s1.heap.push { cls := .type "dict_values", data := .fields #[.ref d] }).DictAt (mixKind X.prog X.w) d us ep := ⟨⟨_, Heap.get?_push_size _ rfl, rfl, rfl⟩, dat.push _⟩
  refine call_sum_walkAnyS ?_
  obtain ⟨oI, St, hit, W, st⟩ := S.iter X.A.in1 { s1 with heap := s1.heap.push { cls := .type "dict_values", data := .fields #[.ref d] } } (I.ok.hd calm) okV
  have there := (S.there _ okV).2
  refine hit _ _ ⟨_, _, _, _, us.length, _, _, fun i => is.getD i 0, rfl, W.toS, st, fun b hb => ?_, fun i v hkk => ?_, fun s' t' mv => ?_⟩
  · show b < ((s1.heap.push _).push oI).objs.size
    rw [Heap.size_push]
    rcases List.mem_cons.mp hb with e | hb
    · rw [e]
      exact Nat.lt_succ_self _
    · rw [List.mem_singleton.mp hb]
      exact Nat.lt_succ_of_lt there
  · obtain ⟨k, hk⟩ := hkk
    have hx : (us.map (·.2))[i]? = some v := by
      rw [List.getElem?_map, hk]
      rfl
    have rel := kv_snd kv
    rw [hv] at rel
    have hil : i < is.length := by
      have e2 := (List.getElem?_eq_some_iff.mp hk).1
      omega
    have hy : (is.map V.int)[i]? = some (V.int is[i]) := by
      rw [List.getElem?_map, List.getElem?_eq_getElem hil]
      rfl
    obtain ⟨u, eu, ru⟩ := rel.get hy
    rw [hx] at eu
    cases eu
    obtain ⟨t, et⟩ := ru
    refine ⟨t, ?_⟩
    show v = Value.int (is.getD i 0) t
    rw [et, List.getD_eq_getElem?_getD, List.getElem?_eq_getElem hil]
    rfl
  · have keep1 : ∀ b u, s1.heap.get? b = some u → s'.heap.get? b = some u := fun b u e => mv.heap b u (fun hI => by
      have e1 : b = (s1.heap.push { cls := .type "dict_values", data := .fields #[.ref d] }).objs.size := List.mem_singleton.mp hI
      have e2 : b < s1.heap.objs.size := Heap.lt_size e
      rw [size1] at e1
      exact absurd e2 (by rw [e1]; exact Nat.not_lt.mpr (Nat.le_succ _))) (Heap.get?_push_of_some _ (Heap.get?_push_of_some _ e))
    rw [Moved.eq_with mv]
    have es : preSum (fun i => is.getD i 0) us.length = is.sum := by
      rw [preSum_list is _ us.length (by omega) (fun _ _ => rfl), List.take_of_length_le (by omega)]
    refine ⟨.int is.sum, H1, I1.kept keep1, ⟨t', ?_⟩, go⟩
    rw [es]
end
end G
namespace G
open PySem L2 PyProof.Rows PySem.Spec SrtO
section
variable {prog : Program} {w : World} {A : Around} {E : Value → Shared → Prop} {s : Shared}
theorem collect_tup {l : Addr} {vs : List Value} {Q : List Value → Shared → Prop} (isT : IsTup s.heap l vs.toArray)
    (h : Q vs { s with heap := (s.heap.push (seqObj "list" #[] 0)).update s.heap.objs.size (Obj.mapSeq (· ++ vs.toArray)) }) (hfit : vs.length ≤ sizeLine) :
    wpAny (model prog w) A (collect (.ref l)) Q E s := by
  obtain ⟨o, got0, cls0, n, dat0⟩ := id isT
  unfold collect; refine wpAny_bind (wpAny_runValue (codeAny_builtin entry_proto_collect' ?_))
  show wpAny _ _ (do again (.builtin "list.__iadd__" ⟨[← newList [], .ref l], []⟩)) _ _ s
  refine wpAny_bind (wpAny_newList (wpAny_pure ⟨Code.quiet_builtin _ (by decide +kernel), codeAny_builtin entry_list_iadd' ?_⟩))
  show wpAny _ _ (Builtin.List.listExtendWith (.ref s.heap.objs.size) (.ref l) (.ref s.heap.objs.size)) _ _ { s with heap := s.heap.push (seqObj "list" #[] 0) }
  unfold Builtin.List.listExtendWith; have got1 : (s.heap.push (seqObj "list" #[] 0)).get? l = some o := Heap.get?_push_of_some _ got0; refine wpAny_bind (wpAny_typeOf (T := "tuple") ⟨o, got1, cls0⟩ ?_); have tyEq : (Value.type "tuple" == Value.type "tuple") = true := rfl; rw [if_pos (by simp)]; refine wpAny_bind (listItems_at got1 dat0 ?_); refine wpAny_bind (listItems_at (xs := #[]) (n := 0) (Heap.get?_push_size _ rfl) rfl ?_); rw [if_neg (by simp)]; refine wpAny_bind (listUpdate_at (xs := #[]) (n := 0) (Heap.get?_push_size _ rfl) rfl ?_ (Nat.zero_le _) (by show (#[] ++ vs.toArray).size ≤ sizeLine + 1; simp only [Array.size_append, List.size_toArray, List.length_nil]; omega)); refine wpAny_pure ?_
  show wpAny (model prog w) A (do
      let o ← load s.heap.objs.size
      match o.data with
      | .seq xs _ => pure xs.toList
      | _ => unsupported "internal:collect") Q E { s with heap := (s.heap.push (seqObj "list" #[] 0)).update s.heap.objs.size (Obj.mapSeq (· ++ vs.toArray)) }
  refine wpAny_bind (wpAny_load (get?_update_seq (Heap.get?_push_size _ rfl) _) ?_)
  show wpAny _ _ (pure ((#[] : Array Value) ++ vs.toArray).toList) Q E _
  rw [show ((#[] : Array Value) ++ vs.toArray).toList = vs by simp]; exact wpAny_pure h

theorem sorted_ordT {l : Addr} {vs : List Value} {less : Value → Value → Bool} {Q : Value → Shared → Prop} (O : Swo less) (isT : IsTup s.heap l vs.toArray) (fits : vs.length ≤ sizeLine)
    (ways : 2 ≤ vs.length → ∀ (h₁ : Heap) (a : Addr), h₁.get? a = some (seqObj "list" vs.toArray 0) → (∀ b o, s.heap.get? b = some o → b ≠ a ∧ h₁.get? b = some o) → SortableO prog w A.in1.in1 { s with heap := h₁ } a vs less)
    (h : ∀ out : List Value, Srtd less out → Stb less out vs → Q (.ref (s.heap.objs.size + 1)) { s with heap := sortedAll s.heap vs out.toArray }) :
    wpAny (model prog w) A (call (.builtin "sorted") [.ref l]) Q E s := by
  refine Calls.call_function_entry kind_sorted plain_sorted entry_sorted (args_sorted1 _) ?_; unfold Builtin.«sorted»; refine wpAny_bind (m := checkCount "sorted" 1 1 _) (wpAny_pure ?_); refine wpAny_bind (collect_tup isT ?_ fits); refine wpAny_bind (wpAny_newList ?_ fits); have hfit : ((s.heap.push (seqObj "list" #[] 0)).update s.heap.objs.size (Obj.mapSeq (· ++ vs.toArray))).objs.size = s.heap.objs.size + 1 := by
    rw [Heap.size_update, size_push']
  have gotL : (((s.heap.push (seqObj "list" #[] 0)).update s.heap.objs.size (Obj.mapSeq (· ++ vs.toArray))).push (seqObj "list" vs.toArray 0)).get? (s.heap.objs.size + 1) = some (seqObj "list" vs.toArray 0) := by
    rw [← hfit]; exact Heap.get?_push_size _ rfl
  have stays : ∀ b o, s.heap.get? b = some o → b ≠ s.heap.objs.size + 1 ∧ (((s.heap.push (seqObj "list" #[] 0)).update s.heap.objs.size (Obj.mapSeq (· ++ vs.toArray))).push (seqObj "list" vs.toArray 0)).get? b = some o := fun b o q => by
    have below : b < s.heap.objs.size := Heap.lt_size q
    refine ⟨Nat.ne_of_lt (Nat.lt_succ_of_lt below), Heap.get?_push_of_some _ ?_⟩
    rw [Heap.get?_update_ne _ _ _ _ (Nat.ne_of_lt below)]
    exact Heap.get?_push_of_some _ q
  show wpAny _ _ _ _ _ { s with heap := ((s.heap.push (seqObj "list" #[] 0)).update s.heap.objs.size (Obj.mapSeq (· ++ vs.toArray))).push (seqObj "list" vs.toArray 0) }
  rw [hfit]; refine wpAny_bind (wpAny_holding (wpAny_call_entry slot_list_sort ⟨_, gotL, rfl⟩ entry_list_sort (list_sort_ord O gotL fits (fun h2 => ways h2 _ _ gotL stays) fun out so hb => ⟨_, rfl, ?_⟩) (args_list_sort _))); exact wpAny_pure ⟨_, rfl, h out so hb⟩

end
/-! sorted of pairs of an int and a text -/
/-- by the text, then by the int -/
def ltSI (p q : Str × Int) : Bool := if p.1 = q.1 then decide (p.2 < q.2) else decide (p.1.cps.toList < q.1.cps.toList)
theorem ltSI_iff {p q : Str × Int} : ltSI p q = true ↔ p.1.cps.toList < q.1.cps.toList ∨ (p.1 = q.1 ∧ p.2 < q.2) := by
  unfold ltSI
  by_cases e : p.1 = q.1
  · rw [if_pos e, decide_eq_true_eq]
    exact ⟨fun h => .inr ⟨e, h⟩, fun h => h.elim (fun z => absurd z (by rw [e]; exact List.lt_irrefl _)) fun z => z.2⟩
  · rw [if_neg e, decide_eq_true_eq]
    exact ⟨fun h => .inl h, fun h => h.elim id fun z => absurd z.1 e⟩
theorem ltSI_no {p q : Str × Int} : ltSI p q = false ↔ ¬ (p.1.cps.toList < q.1.cps.toList ∨ (p.1 = q.1 ∧ p.2 < q.2)) := by
  rw [← ltSI_iff]
  cases ltSI p q <;> simp
theorem swoSI {α : Type} (k : α → Str × Int) : Swo fun x y => ltSI (k x) (k y) := by
  refine ⟨fun x y h => ?_, fun x y z h1 h2 => ?_⟩
  · refine ltSI_no.mpr fun g => ?_
    rcases ltSI_iff.mp h with a | ⟨a, b⟩
    · rcases g with c | ⟨c, d⟩
      · exact List.lt_asymm a c
      · rw [c] at a
        exact List.lt_irrefl _ a
    · rcases g with c | ⟨c, d⟩
      · rw [a] at c
        exact List.lt_irrefl _ c
      · omega
  · have a := ltSI_no.mp h1
    have b := ltSI_no.mp h2
    refine ltSI_no.mpr fun g => ?_
    have a1 : ¬ (k y).1.cps.toList < (k x).1.cps.toList := fun z => a (.inl z)
    have b1 : ¬ (k z).1.cps.toList < (k y).1.cps.toList := fun z => b (.inl z)
    have l1 := List.not_lt.mp a1
    have l2 := List.not_lt.mp b1
    rcases g with c | ⟨c, d⟩
    · exact absurd c (List.not_lt.mpr (List.le_trans l1 l2))
    · have l3 := List.le_trans l1 l2
      have e1 : (k y).1 = (k x).1 := by
        rw [c] at l2
        exact str_ext (List.le_antisymm l2 l1)
      have e2 : (k z).1 = (k y).1 := by rw [c, e1]
      have a2 : ¬ (k y).2 < (k x).2 := fun z => a (.inr ⟨e1, z⟩)
      have b2 : ¬ (k z).2 < (k y).2 := fun z => b (.inr ⟨e2, z⟩)
      omega
/-- the value is a tuple of an int and a text -/
def IsSI (h : Heap) (v : Value) (x : Str) (y : Int) : Prop := ∃ a o t u n, v = .ref a ∧ h.get? a = some o ∧ o.cls = .type "tuple" ∧ o.data = .seq #[.str x t, .int y u] n
theorem IsSI.keeps {h h' : Heap} {v : Value} {x : Str} {y : Int} (p : IsSI h v x y) (keep : ∀ b o, h.get? b = some o → o.cls = .type "tuple" → h'.get? b = some o) : IsSI h' v x y := by
  obtain ⟨a, o, t, u, n, e1, e2, e3, e4⟩ := p
  exact ⟨a, o, t, u, n, e1, keep _ _ e2 e3, e3, e4⟩
theorem firstsSI {h : Heap} : ∀ {vs : List Value}, (∀ v ∈ vs, ∃ x y, IsSI h v x y) → ∃ fs : List Value, PySem.W.KatTups h vs fs ∧ fs.length = vs.length ∧ ∀ f ∈ fs, ∃ x t, f = Value.str x t
  | [], _ => ⟨[], .nil, rfl, fun _ g => by cases g⟩
  | v :: vs, hp => by
    obtain ⟨fs, g1, g2, g3⟩ := firstsSI (vs := vs) fun u hu => hp u (List.mem_cons_of_mem _ hu)
    obtain ⟨x, y, a, o, t, u, n, rfl, ho, hc, hd⟩ := hp v List.mem_cons_self
    refine ⟨.str x t :: fs, .cons ho hc hd rfl g1, by rw [List.length_cons, List.length_cons, g2], fun f hf => ?_⟩
    rcases List.mem_cons.mp hf with e | hf
    · exact ⟨x, t, e⟩
    · exact g3 f hf
section
variable {prog : Program} {w : World} {A : Around} {E : Value → Shared → Prop} {s : Shared}
theorem cmpSI {vs : List Value} {k : Value → Str × Int} (hp : ∀ v ∈ vs, IsSI s.heap v (k v).1 (k v).2) : Cmp prog w A s (tuples' true) (fun p => p.1 ∈ vs) (lt2 fun v u => ltSI (k v) (k u)) := by
  intro p q hm hm'
  obtain ⟨a, o, t, u, n, e, ho, hc, hd⟩ := hp _ hm
  obtain ⟨a', o', t', u', n', e', ho', hc', hd'⟩ := hp _ hm'
  show wpAny (model prog w) A (keyLt' (tuples' true) p.1 q.1) (fun r s' => s' = s ∧ r = ltSI (k p.1) (k q.1)) (fun _ _ => False) s
  rw [show ltSI (k p.1) (k q.1) = (if (k p.1).1 = (k q.1).1 then decide ((k p.1).2 < (k q.1).2) else decide ((k p.1).1.cps.toList < (k q.1).1.cps.toList)) from rfl]
  generalize (k p.1).1 = x, (k p.1).2 = y, (k q.1).1 = x', (k q.1).2 = y' at *
  rw [e, e']
  refine PySem.W.kat_lt ho hd ho' hd' ?_
  show PySem.W.KatLex prog w A true (decide (2 < 2)) _ [(.str x t, .str x' t'), (.int y u, .int y' u')] 0 s
  refine PySem.W.kat_cons (SeqAt.EqAt.str_str x t x' t' prog w _ _ (PySem.W.kat_go (fun g => ?_) fun g => ?_))
  · have ex : x = x' := by simpa using g
    refine PySem.W.kat_yes (PySem.W.kat_cons (SeqAt.EqAt.int_int y u y' u' prog w _ _ (PySem.W.kat_go (fun g2 => ?_) fun g2 => ?_)))
    · have ey : y = y' := by simpa using g2
      refine PySem.W.kat_yes (PySem.W.kat_nil ⟨rfl, ?_⟩)
      rw [if_pos ex, ey]
      exact (decide_eq_false (Int.lt_irrefl _)).symm
    · exact PySem.W.kat_no (PySem.W.kat_one _ _ (PyProof.Rows.lt_int (Q := PySem.W.BoolBack _) ⟨rfl, (if_pos ex).symm⟩))
  · have ex : ¬ x = x' := by simpa using g
    exact PySem.W.kat_no (oneLt_str ⟨rfl, (if_neg ex).symm⟩)
theorem sortableSI {a : Addr} {vs : List Value} {k : Value → Str × Int} (h0 : 0 < vs.length) (hp : ∀ v ∈ vs, IsSI s.heap v (k v).1 (k v).2) (ha : ∀ o, s.heap.get? a = some o → o.cls ≠ .type "tuple") : SortableO prog w A s a vs fun v u => ltSI (k v) (k u) := by
  intro h' keep
  have hp' : ∀ v ∈ vs, IsSI h' v (k v).1 (k v).2 := fun v hm => (hp v hm).keeps fun b o e c => keep b o (fun z => ha o (z ▸ e) c) e
  obtain ⟨fs, h1, h2, h3⟩ := firstsSI fun v hm => ⟨_, _, hp' v hm⟩
  refine ⟨tuples' true, fun Q E hq => PySem.W.kat_kind (T := .type "str") h1 (by omega) (fun f hm => ?_) (by rfl) ?_, cmpSI hp'⟩
  · obtain ⟨x, t, rfl⟩ := h3 f hm
    exact PySem.W.Looks.now
  · rw [show (Value.type "str" != Value.type "tuple") = true by first | decide +kernel | rfl]
    exact hq
end
/-- sorted(xs), xs a tuple of pairs of a text and an int (k says which) -/
def rSortSI (K : PySem.W.Frag) : List V → Hp → VK → Prop := fun vs H Q => ∃ (a : Addr) (xs : List V) (k : V → Str × Int), vs = [V.ref a] ∧ SqT K H a xs ∧ (∀ x ∈ xs, ∃ t, x = V.ref t ∧ H t = some (.tup [.str (k x).1, .int (k x).2])) ∧
  ∀ ys p, Srtd (fun x y => ltSI (k x) (k y)) ys → ys.Perm xs → H p = none → Q (.ref p) (upd H p (.lst ys))
section
variable {X : Cx}
theorem cr_sortSI : CallR X (.builtin "sorted") (rSortSI X.K) := by
  intro pins s σ H vs us Q I r h
  obtain ⟨a, xs, k, rfl, hs, hx, go⟩ := h
  obtain ⟨its, rv, hl, hz⟩ := I.tuple hs
  obtain ⟨u, rfl, ru⟩ := vals1 r
  obtain rfl : u = Value.ref a := ru
  obtain ⟨e1, e2⟩ := refs_back rv fun x m => (hx x m).imp fun _ g => g.1
  have hp : ∀ v ∈ its, IsSI s.heap v (k (backV v)).1 (k (backV v)).2 := fun v hv => by
    obtain ⟨t, rfl⟩ := e2 v hv
    obtain ⟨t', e, ht⟩ := hx (V.ref t) (by rw [e1]; exact List.mem_map.mpr ⟨_, hv, rfl⟩)
    cases e
    obtain ⟨_, its2, r2, o, ho, hc, n, hd⟩ := I.hok _ _ ht
    obtain ⟨u1, u2, rfl, ⟨t1, rfl⟩, ⟨t2, rfl⟩⟩ := vals2 r2
    exact ⟨t, o, t1, t2, n, rfl, ho, hc, hd⟩
  refine sorted_ordT (swoSI fun u => k (backV u)) hl (by rw [← rv.length]; exact hz) (fun h2 h₁ b hb kk => ?_) fun out hso hst => ?_
  · refine sortableSI (s := { s with heap := h₁ }) (by omega) (fun v hm => (hp v hm).keeps fun c o e _ => (kk c o e).2) fun o e => ?_
    have e' : some o = some (seqObj "list" its.toArray 0) := e.symm.trans hb
    cases e'
    intro c
    exact absurd (Value.type.inj c) (by decide)
  · have h3 : ∀ u ∈ out, ∃ b, u = Value.ref b := fun u hu => e2 u (hst.perm.mem_iff.mp hu)
    obtain ⟨n, hn⟩ := sortedAll_at s.heap its out.toArray
    refine ⟨.ref (s.heap.objs.size + 1), upd H (s.heap.objs.size + 1) (.lst (out.map backV)), I.laid (t' := s.toks) (fun b o e => sortedAll_old e) (Nat.le_succ _) ⟨?_, out, n, vals_back h3, hn⟩, rfl, go _ _ (List.pairwise_map.mpr hso) ?_ (I.hok.fresh (Nat.le_succ _))⟩
    · rw [List.length_map, hst.perm.length_eq, ← rv.length]
      exact hz
    · rw [e1]
      exact hst.perm.map backV
end

end G
namespace G
open PySem L2 PyProof.Rows
section
variable {X : Cx}
theorem op_mulG : OpR X (binaryOp .Mult) (rI IntMulOk fun i j => .int (i * j)) := opI fun _ _ _ _ _ _ _ fits go => mul_int go fits
/-- a divisor of either sign -/
def DivG (_ j : Int) : Prop := j ≠ 0 ∧ j.natAbs.log2 < 9000
theorem op_divG : OpR X (binaryOp .FloorDiv) (rI DivG fun i j => .int (i.fdiv j)) := opI fun _ _ _ _ _ _ _ fits go => floordiv_int fits.1 go (.inl (PyProof.noPylong_of_log2 fits.2))
end
def fv (q : Rat) : List V := [.int q.num, .int (q.den : Int)]
/-! Rat: what the tuples hold -/
/-- the greatest common divisor, as an int -/
def gd (t b : Int) : Int := ((Nat.gcd t.natAbs b.natAbs : Nat) : Int)
/-- what `shared` is -/
def sh (t b : Int) : Int := if b < 0 then -(gd t b) else gd t b
theorem gd_pos {t b : Int} (h : b ≠ 0) : 0 < gd t b := by
  have := Nat.gcd_pos_of_pos_right t.natAbs (Int.natAbs_pos.mpr h)
  unfold gd
  omega
theorem gd_le {t b : Int} (h : b ≠ 0) : (gd t b).natAbs ≤ b.natAbs := by
  have g : Nat.gcd t.natAbs b.natAbs ≤ b.natAbs := Nat.le_of_dvd (Int.natAbs_pos.mpr h) (Nat.gcd_dvd_right _ _)
  unfold gd
  omega
theorem gd_sym (t b : Int) : ((b.gcd t : Nat) : Int) = gd t b := by
  show ((Nat.gcd b.natAbs t.natAbs : Nat) : Int) = _
  rw [Nat.gcd_comm]
  rfl
theorem sh_ne {t b : Int} (h : b ≠ 0) : sh t b ≠ 0 := by
  have := gd_pos (t := t) h
  unfold sh
  split <;> omega
theorem sh_abs {t b : Int} (h : b ≠ 0) : (sh t b).natAbs ≤ b.natAbs := by
  have g := gd_le (t := t) h
  unfold sh
  split <;> omega
theorem den_int {t b : Int} (h : b ≠ 0) : ((Rat.divInt t b).den : Int) = (b.natAbs : Int) / gd t b := by
  rw [Rat.den_divInt, if_neg h, Int.natCast_ediv, gd_sym]
theorem low_num {t b : Int} (h : b ≠ 0) : (if b < 0 then -t else t) / gd t b = (Rat.divInt t b).num := by
  rw [Rat.num_divInt, gd_sym]
  by_cases n : b < 0
  · rw [if_pos n, Int.sign_eq_neg_one_of_neg n, Int.neg_one_mul]
  · rw [if_neg n, Int.sign_eq_one_of_pos (by omega), Int.one_mul]
theorem sh_num {t b : Int} (h : b ≠ 0) : t.fdiv (sh t b) = (Rat.divInt t b).num := by
  rw [← low_num h]
  have g0 := gd_pos (t := t) h
  unfold sh
  by_cases n : b < 0
  · rw [if_pos n, if_pos n]
    have e := Int.neg_fdiv_neg (-t) (gd t b)
    rw [Int.neg_neg] at e
    rw [e, Int.fdiv_eq_ediv_of_nonneg _ (by omega)]
  · rw [if_neg n, if_neg n, Int.fdiv_eq_ediv_of_nonneg _ (by omega)]
theorem sh_den {t b : Int} (h : b ≠ 0) : b.fdiv (sh t b) = ((Rat.divInt t b).den : Int) := by
  rw [den_int h]
  have g0 := gd_pos (t := t) h
  unfold sh
  by_cases n : b < 0
  · rw [if_pos n]
    have e := Int.neg_fdiv_neg (-b) (gd t b)
    rw [Int.neg_neg] at e
    rw [e, Int.fdiv_eq_ediv_of_nonneg _ (by omega), show (b.natAbs : Int) = -b by omega]
  · rw [if_neg n, Int.fdiv_eq_ediv_of_nonneg _ (by omega), show (b.natAbs : Int) = b by omega]
theorem rat_self (q : Rat) : Rat.divInt q.num (q.den : Int) = q := Rat.num_divInt_den q
theorem den_ne (q : Rat) : (q.den : Int) ≠ 0 := by
  have := q.den_nz
  omega
theorem den_pos (q : Rat) : 0 < (q.den : Int) := by
  have := q.den_nz
  omega
theorem q_add (p q : Rat) : Rat.divInt (p.num * q.den + q.num * p.den) ((p.den : Int) * q.den) = p + q := by
  rw [← Rat.divInt_add_divInt _ _ (den_ne p) (den_ne q), rat_self, rat_self]
theorem q_sub (p q : Rat) : Rat.divInt (p.num * q.den - q.num * p.den) ((p.den : Int) * q.den) = p - q := by
  rw [← Rat.divInt_sub_divInt _ _ (den_ne p) (den_ne q), rat_self, rat_self]
theorem q_mul (p q : Rat) : Rat.divInt (p.num * q.num) ((p.den : Int) * q.den) = p * q := by
  rw [← Rat.divInt_mul_divInt, rat_self, rat_self]
theorem q_over (p q : Rat) : Rat.divInt (p.num * q.den) ((p.den : Int) * q.num) = p / q := by
  rw [← Rat.divInt_mul_divInt, rat_self, Rat.div_def, Rat.inv_def]
/-- the sizes of a fraction's two numbers -/
structure FSz (q : Rat) : Prop where
  n : ∃ k, 0 < k ∧ k ≤ 40000000 ∧ Bt k q.num
  d : Bt 4000 (q.den : Int)
theorem FSz.nd {p q : Rat} (h : FSz p) (g : FSz q) : IntMulOk p.num (q.den : Int) := by
  obtain ⟨k, k0, k1, b⟩ := h.n
  exact b.ok g.d k0 (by decide) (by omega)
theorem FSz.dn {p q : Rat} (h : FSz p) (g : FSz q) : IntMulOk (p.den : Int) q.num := by
  obtain ⟨k, k0, k1, b⟩ := g.n
  exact h.d.ok b (by decide) k0 (by omega)
theorem FSz.dd {p q : Rat} (h : FSz p) (g : FSz q) : IntMulOk (p.den : Int) (q.den : Int) := h.d.ok g.d (by decide) (by decide) (by decide)
theorem FSz.bd {p q : Rat} (h : FSz p) (g : FSz q) : Bt 8999 ((p.den : Int) * (q.den : Int)) := (h.d.mul g.d).mono (by decide)
theorem FSz.ne (p q : Rat) : (p.den : Int) * (q.den : Int) ≠ 0 := Int.ne_of_gt (Int.mul_pos (den_pos p) (den_pos q))
/-- what plus, minus, times, over promise -/
def spAr (K : PySem.W.Frag) (C : Rat → Rat → Prop) (g : Rat → Rat → Rat) : Sp := fun vs H Q _ => ∃ (a b : Addr) (p q : Rat), vs = [.ref a, .ref b] ∧ SqT K H a (fv p) ∧ SqT K H b (fv q) ∧ C p q ∧ ∀ x, H x = none → Q (.ref x) (upd H x (.tup (fv (g p q))))
def C2 (p q : Rat) : Prop := FSz p ∧ FSz q ∧ True
def C2m (p q : Rat) : Prop := FSz p ∧ FSz q ∧ IntMulOk p.num q.num
def C2o (p q : Rat) : Prop := FSz p ∧ FSz q ∧ q ≠ 0 ∧ Bt 4000 q.num
theorem ne_over {p q : Rat} (h : q ≠ 0 ∧ Bt 4000 q.num) : (p.den : Int) * q.num ≠ 0 := fun z => by
  rcases Int.mul_eq_zero.mp z with e | e
  · exact den_ne p e
  · exact h.1 (Rat.num_eq_zero.mp e)
theorem den_dvd {t B : Int} (hB : B ≠ 0) : (Rat.divInt t B).den ∣ B.natAbs := by
  rw [Rat.den_divInt, if_neg hB]
  exact Nat.div_dvd_of_dvd (Nat.gcd_dvd_left _ _)
theorem den_le {t B : Int} (hB : B ≠ 0) : (Rat.divInt t B).den ≤ B.natAbs := Nat.le_of_dvd (Int.natAbs_pos.mpr hB) (den_dvd hB)
theorem num_le {t B : Int} (hB : B ≠ 0) : (Rat.divInt t B).num.natAbs ≤ t.natAbs := by
  rw [← low_num hB]
  refine Nat.le_trans (Int.natAbs_ediv_le_natAbs _ _) ?_
  split <;> omega
theorem FSz.div {t B : Int} {k : Nat} (hB : B ≠ 0) (h : Bt k t) (k0 : 0 < k) (k1 : k ≤ 40000000) (g : B.natAbs < 2 ^ 64) : FSz (Rat.divInt t B) :=
  ⟨⟨k, k0, k1, h.le (num_le hB)⟩, Bt.mono (k := 64) ⟨by rw [Int.natAbs_natCast]; exact Nat.lt_of_le_of_lt (den_le hB) g⟩ (by decide)⟩
/-! Euclid's turns -/
theorem half_mod {x y : Nat} (h : y < x) (hy : 0 < y) : y * (x % y) * 2 ≤ x * y := by
  have a : x % y + y ≤ x := by
    have e := Nat.div_add_mod x y
    have d : 1 ≤ x / y := (Nat.one_le_div_iff hy).mpr (Nat.le_of_lt h)
    have := Nat.mul_le_mul_left y d
    omega
  have b : x % y < y := Nat.mod_lt _ hy
  have c : (x % y) * 2 ≤ x := by omega
  calc y * (x % y) * 2 = y * ((x % y) * 2) := Nat.mul_assoc _ _ _
    _ ≤ y * x := Nat.mul_le_mul_left y c
    _ = x * y := Nat.mul_comm _ _
/-- what holds ahead of the i-th turn -/
structure Eu (G : Nat) (i x y : Nat) : Prop where
  g : Nat.gcd x y = G
  b : y < 2 ^ 64
  s : i = 0 ∨ (y < x ∧ x * y * 2 ^ (i - 1) < 2 ^ 128)
theorem Eu.next {G i x y : Nat} (e : Eu G i x y) (hy : 0 < y) : Eu G (i + 1) y (x % y) := by
  have m : x % y < y := Nat.mod_lt _ hy
  refine ⟨?_, Nat.lt_trans m e.b, .inr ⟨m, ?_⟩⟩
  · rw [← e.g, Nat.gcd_comm x y, Nat.gcd_rec y x, Nat.gcd_comm]
  · rw [Nat.add_sub_cancel]
    have one : y * (x % y) < 2 ^ 128 := Nat.lt_of_lt_of_eq (Nat.mul_lt_mul'' e.b (Nat.lt_trans m e.b)) (by rw [← Nat.pow_add])
    rcases e.s with rfl | ⟨lt, sz⟩
    · rw [Nat.pow_zero, Nat.mul_one]
      exact one
    · cases i with
      | zero =>
        rw [Nat.pow_zero, Nat.mul_one]
        exact one
      | succ i =>
        rw [Nat.add_sub_cancel] at sz
        refine Nat.lt_of_le_of_lt ?_ sz
        rw [Nat.pow_succ, Nat.mul_comm (2 ^ i) 2, ← Nat.mul_assoc]
        exact Nat.mul_le_mul_right _ (half_mod lt hy)
theorem Eu.last {G x y : Nat} (e : Eu G 4000 x y) : y = 0 := by
  rcases e.s with z | ⟨lt, sz⟩
  · cases z
  · rcases Nat.eq_zero_or_pos y with h | h
    · exact h
    · have p : 1 ≤ x * y := Nat.mul_pos (by omega) h
      have q : 2 ^ 128 ≤ 2 ^ (4000 - 1) := Nat.pow_le_pow_right (by decide) (by decide)
      have r := Nat.le_trans q (Nat.le_trans (Nat.le_of_eq (Nat.one_mul _).symm) (Nat.mul_le_mul_right _ p))
      exact absurd sz (Nat.not_lt.mpr r)
def spFra : Sp := fun vs H Q _ => ∃ t b : Int, vs = [.int t, .int b] ∧ b ≠ 0 ∧ Bt 8999 b ∧ ∀ p, H p = none → Q (.ref p) (upd H p (.tup (fv (Rat.divInt t b))))
def spEuc : Sp := fun vs H Q _ => ∃ x y : Nat, vs = [.int (x : Int), .int (y : Int)] ∧ y < 2 ^ 64 ∧ Q (.int ((Nat.gcd x y : Nat) : Int)) H
end G
namespace K2
open PySem L2 PyProof.Rows G
def topS (i : Nat) : Stmt := PySem.Challenge.pw_parcener_k02_rules_estates_and_wills.main.body.getD i (.Pass ⟨0, 0, 0, 0⟩)
abbrev sRulI : Stmt := inClass (topS 3) 0
abbrev sWilI : Stmt := inClass (topS 4) 0
abbrev sEsxI : Stmt := inClass (topS 5) 0
abbrev sNam : Stmt := topS 11
abbrev sAmt : Stmt := topS 12
abbrev sFra : Stmt := topS 15
abbrev sMin : Stmt := topS 16
abbrev sTim : Stmt := topS 17
abbrev sThn : Stmt := topS 23
abbrev sThi : Stmt := topS 24
abbrev sDeb : Stmt := topS 25
abbrev sEstI : Stmt := inClass (topS 26) 0
abbrev sHas : Stmt := inClass (topS 26) 1
abbrev sWor : Stmt := inClass (topS 26) 2
abbrev sThs : Stmt := inClass (topS 26) 3
abbrev sDbs : Stmt := inClass (topS 26) 4
abbrev sAll : Stmt := inClass (topS 26) 5
abbrev sTks : Stmt := topS 27
abbrev sGiv : Stmt := topS 28
abbrev sLin : Stmt := topS 29
abbrev sTaw : Stmt := topS 30
abbrev sSta : Stmt := topS 31
abbrev sPdp : Stmt := topS 32
abbrev sPdd : Stmt := topS 33
abbrev sUpt : Stmt := topS 39
abbrev sPar : Stmt := topS 40
abbrev sPas : Stmt := topS 41
abbrev sBokI : Stmt := inClass (topS 42) 0
abbrev sSpp : Stmt := inClass (topS 42) 1
abbrev sOtp : Stmt := inClass (topS 42) 2
abbrev sCel : Stmt := topS 44
abbrev sNum : Stmt := topS 45
abbrev sFee : Stmt := topS 46
abbrev sTak : Stmt := topS 47
abbrev sLru : Stmt := topS 49
abbrev sLwi : Stmt := topS 50
abbrev sLes : Stmt := topS 51
abbrev sEuc : Stmt := topS 52
abbrev sLow : Stmt := topS 53
abbrev sLst : Stmt := topS 54
abbrev sLde : Stmt := topS 55
abbrev sRuw : Stmt := topS 56
abbrev sEsw : Stmt := topS 57
abbrev sWat : Stmt := topS 58
abbrev sBru : Stmt := topS 59
abbrev sBes : Stmt := topS 60
abbrev sBli : Stmt := topS 61
abbrev sLaw : Stmt := topS 62
/-! the mirror of names, amounts and facts -/
def signs : Str := "abcdefghijklmnopqrstuvwxyz0123456789"
def tsigns : Str := "abcdefghijklmnopqrstuvwxyz_"
def isNm (x : Str) : Bool := !decide (x = ("crown" : Str)) && (decide (1 ≤ x.length) && decide (x.length ≤ 12)) && x.cps.toList.all fun c => decide (c ∈ signs.cps.toList)
def nameV : V → Bool
  | .str x => isNm x
  | _ => false
def amtV : V → Bool
  | .int i => decide (0 ≤ i) && decide (i ≤ 1000000000)
  | _ => false
def isTn (x : Str) : Bool := (decide (1 ≤ x.length) && decide (x.length ≤ 12)) && x.cps.toList.all fun c => decide (c ∈ tsigns.cps.toList)
def tnV : V → Bool
  | .str x => isTn x
  | _ => false
def isStr : V → Bool
  | .str _ => true
  | _ => false
/-- a built-in's kind, of a plain value -/
def tyV : V → String
  | .non => "NoneType"
  | .bl _ => "bool"
  | .int _ => "int"
  | .str _ => "str"
  | _ => "?"
theorem ty_flat {K : PySem.W.Frag} {H : Hp} {v : V} (h : flatV v = true) : TyX K H v (.type (tyV v)) := by
  cases v with
  | non => exact .base .non
  | bl b => exact .base (.bl b)
  | int i => exact .base (.int i)
  | str x => exact .base (.str x)
  | byt b => cases h
  | flt b => cases h
  | ref a => cases h
  | ty n => cases h
theorem kit_str {K : PySem.W.Frag} {v : V} (h : flatV v = true) : PySem.W.kitOne K (.type (tyV v)) (.type "str") = some (isStr v) := by
  cases v with
  | non => exact kit_ty (show kitB "NoneType" "str" = some false by decide +kernel)
  | bl b => exact kit_ty (show kitB "bool" "str" = some false by decide +kernel)
  | int i => exact kit_ty (show kitB "int" "str" = some false by decide +kernel)
  | str x => exact kit_ty (show kitB "str" "str" = some true by decide +kernel)
  | byt b => cases h
  | flt b => cases h
  | ref a => cases h
  | ty n => cases h
def isIntV : V → Bool
  | .int _ => true
  | .bl _ => true
  | _ => false
theorem kit_int {K : PySem.W.Frag} {v : V} (h : flatV v = true) : PySem.W.kitOne K (.type (tyV v)) (.type "int") = some (isIntV v) := by
  cases v with
  | non => exact kit_ty (show kitB "NoneType" "int" = some false by decide +kernel)
  | bl b => exact kit_ty (show kitB "bool" "int" = some true by decide +kernel)
  | int i => exact kit_ty (show kitB "int" "int" = some true by decide +kernel)
  | str x => exact kit_ty (show kitB "str" "int" = some false by decide +kernel)
  | byt b => cases h
  | flt b => cases h
  | ref a => cases h
  | ty n => cases h
def isBlV : V → Bool
  | .bl _ => true
  | _ => false
theorem kit_bl {K : PySem.W.Frag} {v : V} (h : flatV v = true) : PySem.W.kitOne K (.type (tyV v)) (.type "bool") = some (isBlV v) := by
  cases v with
  | non => exact kit_ty (show kitB "NoneType" "bool" = some false by decide +kernel)
  | bl b => exact kit_ty (show kitB "bool" "bool" = some true by decide +kernel)
  | int i => exact kit_ty (show kitB "int" "bool" = some false by decide +kernel)
  | str x => exact kit_ty (show kitB "str" "bool" = some false by decide +kernel)
  | byt b => cases h
  | flt b => cases h
  | ref a => cases h
  | ty n => cases h
/-- a def of the top that stands: its promise kept at a level -/
structure Has (P : Program) (w : World) (K : PySem.W.Frag) (mg : Str → Option Value) (base : Heap) (CX : CXT) (x : Str) (ps : List Str) (k : Nat) (sp : Sp) : Prop where
  ok : ∃ (f : Addr) (fd : FuncData), mg x = some (.ref f) ∧ PySem.W.keepIn K (.ref f) = true ∧ Binds K fd ps [] ∧ FnOk P w K mg base CX k f fd ps sp
/-- the module's constants and built-ins that the family's text asks -/
structure Txt (mg : Str → Option Value) : Prop where
  signs : ∃ t, mg "NAME_SIGNS" = some (.str signs t)
  longest : ∃ t, mg "LONGEST_NAME" = some (.int 12 t)
  crown : ∃ t, mg "CROWN" = some (.str "crown" t)
  great : ∃ t, mg "GREATEST_AMOUNT" = some (.int 1000000000 t)
  tsigns : ∃ t, mg "THING_SIGNS" = some (.str tsigns t)
  lthing : ∃ t, mg "LONGEST_THING" = some (.int 12 t)
  lines : ∃ t, mg "MOST_LINES" = some (.int 60 t)
  takers : ∃ t, mg "MOST_TAKERS" = some (.int 5 t)
  mdays : ∃ t, mg "MOST_DAYS" = some (.int 1000 t)
  mrows : ∃ t, mg "MOST_ROWS" = some (.int 3 t)
  gpart : ∃ t, mg "GREATEST_PART" = some (.int 1000 t)
  isi : mg "isinstance" = none
  str : mg "str" = none
  int : mg "int" = none
  bool : mg "bool" = none
  tuple : mg "tuple" = none
  len : mg "len" = none
  all : mg "all" = none
  sorted : mg "sorted" = none
  list : mg "list" = none
  enum : mg "enumerate" = none
section
variable {P : Program} {w : World} {K : PySem.W.Frag} {mg : Str → Option Value} {base : Heap}
theorem scNam : FnScope ["value", "sign"] ["value"] (defScope sNam) := ⟨rfl, rfl, rfl, by decide +kernel, rfl, by decide +kernel, by decide +kernel⟩
/-- a plain value, its text short -/
structure OkV (v : V) : Prop where
  fl : flatV v = true
  sh : ∀ x, v = .str x → x.length ≤ 1000
/-- is_name, of a plain value -/
def spNam : Sp := fun vs H Q _ => ∃ v : V, vs = [v] ∧ OkV v ∧ ∀ H', Same H H' → Q (.bl (nameV v)) H'
theorem ok_name {f : Addr} {fd : FuncData} (F : Fun K "is_name" "is_name" sNam f fd) (T : Txt mg) : FnOk P w K mg base CX0 1 f fd ["value"] spNam := by
  obtain ⟨t1, m1⟩ := T.signs
  obtain ⟨t2, m2⟩ := T.longest
  obtain ⟨t3, m3⟩ := T.crown
  refine F.ok scNam (fun vs H Q E h => ?_) (fun cdv A outer s H vs Q E hr h => ?_)
  · obtain ⟨v, rfl, _⟩ := h
    rfl
  · obtain ⟨v, rfl, hv, go⟩ := h
    refine ⟨_, pss_cons (ps_if (PW.pt (pw_or (pt_not (pt_val (pe_callB call_isi (by rfl) T.isi (by decide +kernel) (pa_cons (pv 0) (pa_cons (pe_bltn (v := .ty "str") (u := .type "str") (by rfl) T.str (by decide +kernel) rfl) pa_nil))))) (pw_or1 (pt_cmpR op_eq (pv 0) (pe_glob (v := .str "crown") (by rfl) m3 ⟨_, rfl⟩) (nomark _))))) (pss_one (ps_ret pe_bl)) pss_nil)
      (pss_cons (ps_if (pt_not (pt_chain op_le op_le pe_int (pe_callB call_len_str (by rfl) T.len PySem.boot_len (pa_cons (pv 0) pa_nil)) (pe_glob (v := .int 12) (by rfl) m2 ⟨_, rfl⟩))) (pss_one (ps_ret pe_bl)) pss_nil)
      (pss_one (ps_ret (pe_callB (cr_all rfl) (by rfl) T.all (by decide +kernel) (pa_cons (pe_lc (own := [("sign", 1)]) (g := gName 1) (tt := tYes) rfl scNam.nd (pi_str (pv 0)) (blkOk_by (N := ["value", "sign"]) (sc := defScope sNam) (by decide +kernel))
        (fun _ _ _ _ _ => pg_name (i := 1) scNam.nd rfl (.inl rfl) (.inr rfl)) (fun _ _ _ _ _ => pts_nil) (fun _ _ _ _ _ => pe_cmpR op_in_sign (pv 1) (pe_glob (v := .str signs) (by rfl) m1 ⟨_, rfl⟩) rfl)) pa_nil))))), ?_⟩
    have tail (Y : Prop) (h1 : isStr v = false → Y) (h2 : ∀ x, v = .str x → Y) : Y := by
      cases v with
      | str x => exact h2 x rfl
      | non => exact h1 rfl
      | bl b => exact h1 rfl
      | int i => exact h1 rfl
      | byt b => exact h1 rfl
      | flt b => exact h1 rfl
      | ref b => exact h1 rfl
      | ty b => exact h1 rfl
    refine ⟨_, rfl, v, .ty "str", _, _, _, rfl, .ty _, ty_flat hv.fl, kit_str hv.fl, _, rfl, ?_⟩
    refine tail _ (fun e => ?_) (fun x e => ?_)
    · have en : nameV v = false := by
        cases v <;> first | rfl | cases e
      rw [en] at go
      rw [e]
      exact go H (Same.refl H)
    · subst e
      refine iteF ⟨_, rfl, rfl, _, rfl, ite2 (fun ec => ?_) (fun ec => ?_)⟩
      · have en : nameV (.str x) = false := by
          have e2 := V.str.inj (of_decide_eq_true ec)
          show isNm x = false
          unfold isNm
          rw [e2]
          rfl
        rw [en] at go
        exact go H (Same.refl H)
      · have ec' : ¬ x = ("crown" : Str) := fun z => ec (decide_eq_true (congrArg V.str z))
        have xl := hv.sh x rfl
        refine ⟨_, rfl, x, rfl, Nat.le_trans xl (by decide), ?_⟩
        have no (hb : ¬ (1 ≤ x.length ∧ x.length ≤ 12)) : Q (.bl false) H := by
          have en : nameV (.str x) = false := by
            show isNm x = false
            unfold isNm
            have : (decide (1 ≤ x.length) && decide (x.length ≤ 12)) = false := by
              rw [Bool.eq_false_iff]
              intro z
              rw [Bool.and_eq_true, decide_eq_true_eq, decide_eq_true_eq] at z
              exact hb z
            rw [this, Bool.and_false, Bool.false_and]
          rw [en] at go
          exact go H (Same.refl H)
        refine ⟨_, _, rfl, rfl, _, rfl, ite2 (fun a => ?_) (fun a => ?_)⟩
        · have a1 : (1 : Int) ≤ (x.length : Int) := of_decide_eq_true a
          refine ⟨_, _, rfl, rfl, _, rfl, ite2 (fun b => ?_) (fun b => ?_)⟩
          · refine no fun z => ?_
            have b1 : ¬ (x.length : Int) ≤ 12 := fun c => by
              rw [decide_eq_true c] at b
              cases b
            omega
          · have b1 : (x.length : Int) ≤ 12 := by
              by_cases c : (x.length : Int) ≤ 12
              · exact c
              · exact absurd (by rw [decide_eq_false c]; rfl) b
            refine ⟨_, rfl, x, rfl, fun D hD => lc_it walk_str (fun i Hy => (∀ b o, H b = some o → Hy b = some o) ∧ Hy D = some (.lst (((x.cps.toList.take i).map fun c => decide (c ∈ signs.cps.toList)).map V.bl))) ⟨fun b o hb => ?_, upd_same⟩ (fun _ _ _ _ => trivial) ?_ ?_⟩
            · rw [upd_ne (ne_of_none hb hD)]
              exact hb
            · rintro i y Hy H' hi ⟨k1, k2⟩ ⟨rfl, c, ec2, rfl⟩
              refine ⟨rfl, _, rfl, c, signs, rfl, rfl, _, k2, ?_, ?_, ?_⟩
              · rw [List.length_map, List.length_map, List.length_take]
                have : x.cps.toList.length = x.length := Array.length_toList
                exact small1000 (by omega)
              · intro b o hb
                rw [upd_ne (ne_of_none hb hD)]
                exact k1 b o hb
              · rw [upd_same, List.take_add_one, Array.getElem?_toList, ec2, List.map_append, List.map_append]
                rfl
            · rintro Hy ⟨k1, k2⟩
              rw [show x.cps.size = x.cps.toList.length from Array.length_toList.symm, List.take_length] at k2
              refine ⟨D, _, rfl, SqL.of k2, ?_⟩
              have en : nameV (.str x) = (x.cps.toList.map fun c => decide (c ∈ signs.cps.toList)).all id := by
                show isNm x = _
                unfold isNm
                rw [decide_eq_false ec', decide_eq_true (show 1 ≤ x.length by omega), decide_eq_true (show x.length ≤ 12 by omega), List.all_map]
                rfl
              rw [← en]
              exact go Hy k1
        · refine ⟨_, rfl, ?_⟩
          exact no fun z => a (decide_eq_true (show (1 : Int) ≤ (x.length : Int) by omega))
theorem scAmt : FnScope ["value"] ["value"] (defScope sAmt) := ⟨rfl, rfl, rfl, by decide +kernel, rfl, by decide +kernel, by decide +kernel⟩
def spAmt : Sp := fun vs H Q _ => ∃ v : V, vs = [v] ∧ flatV v = true ∧ Q (.bl (amtV v)) H
theorem ok_amount {f : Addr} {fd : FuncData} (F : Fun K "is_amount" "is_amount" sAmt f fd) (T : Txt mg) : FnOk P w K mg base CX0 1 f fd ["value"] spAmt := by
  obtain ⟨t1, m1⟩ := T.great
  refine F.ok scAmt (fun vs H Q E h => ?_) (fun cdv A outer s H vs Q E hr h => ?_)
  · obtain ⟨v, rfl, _⟩ := h
    rfl
  · obtain ⟨v, rfl, hv, go⟩ := h
    refine ⟨_, pss_cons (ps_if (PW.pt (pw_or (pt_not (pt_val (pe_callB call_isi (by rfl) T.isi (by decide +kernel) (pa_cons (pv 0) (pa_cons (pe_bltn (v := .ty "int") (u := .type "int") (by rfl) T.int (by decide +kernel) rfl) pa_nil))))) (pw_or1 (pt_val (pe_callB call_isi (by rfl) T.isi (by decide +kernel) (pa_cons (pv 0) (pa_cons (pe_bltn (v := .ty "bool") (u := .type "bool") (by rfl) T.bool (by decide +kernel) rfl) pa_nil))))))) (pss_one (ps_ret pe_bl)) pss_nil)
      (pss_one (ps_ret (pe_chain op_le op_le pe_int (pv 0) (pe_glob (v := .int 1000000000) (by rfl) m1 ⟨_, rfl⟩)))), ?_⟩
    refine ⟨_, rfl, v, .ty "int", _, _, _, rfl, .ty _, ty_flat hv, kit_int hv, _, rfl, ?_⟩
    cases v with
    | int i =>
      refine iteF ⟨_, rfl, _, .ty "bool", _, _, _, rfl, .ty _, ty_flat hv, kit_bl hv, _, rfl, iteF ?_⟩
      refine ⟨_, rfl, _, _, rfl, rfl, _, rfl, ite2 (fun a => ?_) (fun a => ?_)⟩
      · have a1 : (0 : Int) ≤ i := of_decide_eq_true a
        refine ⟨_, _, rfl, rfl, ?_⟩
        have en : amtV (.int i) = decide (i ≤ 1000000000) := by
          show (decide (0 ≤ i) && decide (i ≤ 1000000000)) = _
          rw [decide_eq_true a1]
          rfl
        rw [en] at go
        exact go
      · have a1 : ¬ (0 : Int) ≤ i := fun z => a (decide_eq_true z)
        have en : amtV (.int i) = false := by
          show (decide (0 ≤ i) && decide (i ≤ 1000000000)) = _
          rw [decide_eq_false a1]
          rfl
        rw [en] at go
        exact go
    | bl b => exact iteF ⟨_, rfl, _, .ty "bool", _, _, _, rfl, .ty _, ty_flat hv, kit_bl hv, _, rfl, iteT go⟩
    | non => exact go
    | str x => exact go
    | byt b => cases hv
    | flt b => cases hv
    | ref b => cases hv
    | ty b => cases hv
end
end K2
namespace K2
open PySem L2 PyProof.Rows G
theorem kit_tup {K : PySem.W.Frag} {v : V} (h : flatV v = true) : PySem.W.kitOne K (.type (tyV v)) (.type "tuple") = some false := by
  cases v with
  | non => exact kit_ty (show kitB "NoneType" "tuple" = some false by decide +kernel)
  | bl b => exact kit_ty (show kitB "bool" "tuple" = some false by decide +kernel)
  | int i => exact kit_ty (show kitB "int" "tuple" = some false by decide +kernel)
  | str x => exact kit_ty (show kitB "str" "tuple" = some false by decide +kernel)
  | byt b => cases h
  | flt b => cases h
  | ref a => cases h
  | ty n => cases h
/-- no tuple: a plain value or a list -/
def NoTup (H : Hp) (v : V) : Prop := flatV v = true ∨ ∃ a xs, v = .ref a ∧ H a = some (.lst xs)
theorem NoTup.kit {K : PySem.W.Frag} {H : Hp} {v : V} (h : NoTup H v) : ∃ t, TyX K H v t ∧ PySem.W.kitOne K t (.type "tuple") = some false := by
  rcases h with h | ⟨a, xs, rfl, h⟩
  · exact ⟨_, ty_flat h, kit_tup h⟩
  · exact ⟨_, .base (.lst h), kit_ty (show kitB "list" "tuple" = some false by decide +kernel)⟩
theorem NoTup.same {H H' : Hp} {v : V} (h : NoTup H v) (s : Same H H') : NoTup H' v := by
  rcases h with h | ⟨q, ys, e1, e2⟩
  · exact .inl h
  · exact .inr ⟨q, ys, e1, s _ _ e2⟩
/-- an item of any kind: a tuple of plain values that f takes, or none -/
def ItB (K : PySem.W.Frag) (f : List V → Bool) (H : Hp) (v : V) : Option (List V) → Prop
  | some ys => ∃ q, v = .ref q ∧ SqT K H q ys ∧ (∀ y ∈ ys, OkV y) ∧ f ys = true
  | none => (∃ q ys, v = .ref q ∧ SqT K H q ys ∧ (∀ y ∈ ys, OkV y) ∧ f ys = false) ∨ NoTup H v
theorem ty_sqT {K : PySem.W.Frag} {H : Hp} {a : Addr} {xs : List V} (h : SqT K H a xs) : TyX K H (.ref a) (.type "tuple") := by
  rcases h with (h | ⟨o, h⟩) | ⟨o, its, n, h, c, _⟩
  · exact .base (.tup h)
  · exact .fTuple h
  · exact .kTuple h c
theorem ItB.same {K : PySem.W.Frag} {f : List V → Bool} {H H' : Hp} {v : V} {o : Option (List V)} (h : ItB K f H v o) (s : Same H H') : ItB K f H' v o := by
  cases o with
  | some ys =>
    obtain ⟨q, e, h, r⟩ := h
    exact ⟨q, e, sameT s h, r⟩
  | none =>
    rcases h with ⟨q, ys, e, h, r⟩ | h
    · exact .inl ⟨q, ys, e, sameT s h, r⟩
    · exact .inr (h.same s)
/-- what a test of an item of any kind promises -/
def spIt (K : PySem.W.Frag) (f : List V → Bool) : Sp := fun vs H Q _ => ∃ (v : V) (o : Option (List V)), vs = [v] ∧ ItB K f H v o ∧ ∀ H', Same H H' → Q (.bl o.isSome) H'
def thingV : List V → Bool
  | [n, a] => tnV n && amtV a
  | _ => false
def debtV : List V → Bool
  | [n, r, a] => nameV n && (amtV r && amtV a)
  | _ => false
def uptV (v : V) (m : Int) : Bool := amtV v && (match v with | .int i => decide (i ≤ m) | _ => false)
def partV : List V → Bool
  | [a, b] => uptV b 1000 && (!decide (b = .int 0) && (match b with | .int j => uptV a j | _ => false))
  | _ => false
section
variable {P : Program} {w : World} {K : PySem.W.Frag} {mg : Str → Option Value} {base : Heap}
def spTn : Sp := fun vs H Q _ => ∃ v : V, vs = [v] ∧ OkV v ∧ ∀ H', Same H H' → Q (.bl (tnV v)) H'
abbrev nThn : List Str := ["value", "sign"]
theorem scThn : FnScope nThn ["value"] (defScope sThn) := ⟨rfl, rfl, rfl, by decide +kernel, rfl, by decide +kernel, by decide +kernel⟩
theorem ok_tname {f : Addr} {fd : FuncData} (F : Fun K "_is_thing_name" "_is_thing_name" sThn f fd) (T : Txt mg) : FnOk P w K mg base CX0 1 f fd ["value"] spTn := by
  obtain ⟨t1, mTs⟩ := T.tsigns
  obtain ⟨t2, mLt⟩ := T.lthing
  refine F.ok scThn (fun vs H Q E h => ?_) (fun cdv A outer s H vs Q E hr h => ?_)
  · obtain ⟨v, rfl, _⟩ := h
    rfl
  · obtain ⟨v, rfl, hv, go⟩ := h
    refine ⟨_, (pss_cons (ps_if (PW.pt (pw_or (pt_not (pt_val (pe_callB call_isi (by rfl) T.isi (by decide +kernel) (pa_cons (pv 0) (pa_cons (pe_bltn (v := .ty "str") (u := .type "str") (by rfl) T.str (by decide +kernel) rfl) pa_nil))))) (pw_or1 (pt_not (pt_chain op_le op_le pe_int (pe_callB call_len_str (by rfl) T.len PySem.boot_len (pa_cons (pv 0) pa_nil)) (pe_glob (v := .int 12) (by rfl) mLt ⟨_, rfl⟩)))))) (pss_one (ps_ret pe_bl)) pss_nil)
      (pss_one (ps_ret (pe_callB (cr_all rfl) (by rfl) T.all (by decide +kernel) (pa_cons (pe_lc (own := [("sign", 1)]) (g := gName 1) (tt := tYes) rfl scThn.nd (pi_str (pv 0)) (blkOk_by (N := nThn) (sc := defScope sThn) (by decide +kernel)) (fun _ _ _ _ _ => (pg_name (i := 1) scThn.nd rfl (.inl rfl) (.inr rfl))) (fun _ _ _ _ _ => pts_nil) (fun _ _ _ _ _ => (pe_cmpR op_in_sign (pv 1) (pe_glob (v := .str tsigns) (by rfl) mTs ⟨_, rfl⟩) (by rfl)))) pa_nil))))), ?_⟩
    have tail (Y : Prop) (h1 : isStr v = false → Y) (h2 : ∀ x, v = .str x → Y) : Y := by
      cases v with
      | str x => exact h2 x rfl
      | non => exact h1 rfl
      | bl b => exact h1 rfl
      | int i => exact h1 rfl
      | byt b => exact h1 rfl
      | flt b => exact h1 rfl
      | ref b => exact h1 rfl
      | ty b => exact h1 rfl
    refine ⟨_, rfl, v, .ty "str", _, _, _, rfl, .ty _, ty_flat hv.fl, kit_str hv.fl, _, rfl, ?_⟩
    refine tail _ (fun e => ?_) (fun x e => ?_)
    · have en : tnV v = false := by
        cases v <;> first | rfl | cases e
      rw [en] at go
      rw [e]
      exact go H (Same.refl H)
    · subst e
      have xl := hv.sh x rfl
      have no (hb : ¬ (1 ≤ x.length ∧ x.length ≤ 12)) : Q (.bl false) H := by
        have en : tnV (.str x) = false := by
          show isTn x = false
          unfold isTn
          have : (decide (1 ≤ x.length) && decide (x.length ≤ 12)) = false := by
            rw [Bool.eq_false_iff]
            intro z
            rw [Bool.and_eq_true, decide_eq_true_eq, decide_eq_true_eq] at z
            exact hb z
          rw [this, Bool.false_and]
        rw [en] at go
        exact go H (Same.refl H)
      refine iteF ⟨_, rfl, x, rfl, Nat.le_trans xl (by decide), _, _, rfl, rfl, _, rfl, ite2 (fun a => ?_) (fun a => ?_)⟩
      · have a1 : (1 : Int) ≤ (x.length : Int) := of_decide_eq_true a
        refine ⟨_, _, rfl, rfl, _, rfl, ite2 (fun b => ?_) (fun b => ?_)⟩
        · refine no fun z => ?_
          have b1 : ¬ (x.length : Int) ≤ 12 := fun c => by
            rw [decide_eq_true c] at b
            cases b
          omega
        · have b1 : (x.length : Int) ≤ 12 := by
            by_cases c : (x.length : Int) ≤ 12
            · exact c
            · exact absurd (by rw [decide_eq_false c]; rfl) b
          refine ⟨_, rfl, x, rfl, fun D hD => lc_it walk_str (fun i Hy => (∀ b o, H b = some o → Hy b = some o) ∧ Hy D = some (.lst (((x.cps.toList.take i).map fun c => decide (c ∈ tsigns.cps.toList)).map V.bl))) ⟨fun b o hb => ?_, upd_same⟩ (fun _ _ _ _ => trivial) ?_ ?_⟩
          · rw [upd_ne (ne_of_none hb hD)]
            exact hb
          · rintro i y Hy H' hi ⟨k1, k2⟩ ⟨rfl, c, ec2, rfl⟩
            refine ⟨rfl, _, rfl, c, tsigns, rfl, rfl, _, k2, ?_, ?_, ?_⟩
            · rw [List.length_map, List.length_map, List.length_take]
              have : x.cps.toList.length = x.length := Array.length_toList
              exact small1000 (by omega)
            · intro b o hb
              rw [upd_ne (ne_of_none hb hD)]
              exact k1 b o hb
            · rw [upd_same, List.take_add_one, Array.getElem?_toList, ec2, List.map_append, List.map_append]
              rfl
          · rintro Hy ⟨k1, k2⟩
            rw [show x.cps.size = x.cps.toList.length from Array.length_toList.symm, List.take_length] at k2
            refine ⟨D, _, rfl, SqL.of k2, ?_⟩
            have en : tnV (.str x) = (x.cps.toList.map fun c => decide (c ∈ tsigns.cps.toList)).all id := by
              show isTn x = _
              unfold isTn
              rw [decide_eq_true (show 1 ≤ x.length by omega), decide_eq_true (show x.length ≤ 12 by omega), List.all_map]
              rfl
            rw [← en]
            exact go Hy k1
      · refine ⟨_, rfl, ?_⟩
        exact no fun z => a (decide_eq_true (show (1 : Int) ≤ (x.length : Int) by omega))
theorem itb_cases {K : PySem.W.Frag} {f : List V → Bool} {H : Hp} {v : V} {o : Option (List V)} {Q : V → Hp → Prop} (h : ItB K f H v o) (go : ∀ H', Same H H' → Q (.bl o.isSome) H') :
    (∃ a xs, v = .ref a ∧ SqT K H a xs ∧ (∀ y ∈ xs, OkV y) ∧ ∀ H', Same H H' → Q (.bl (f xs)) H') ∨ (NoTup H v ∧ ∀ H', Same H H' → Q (.bl false) H') := by
  cases o with
  | some ys =>
    obtain ⟨q, e, h1, h2, h3⟩ := h
    exact .inl ⟨q, ys, e, h1, h2, fun H' s => by rw [h3]; exact go H' s⟩
  | none =>
    rcases h with ⟨q, ys, e, h1, h2, h3⟩ | nt
    · exact .inl ⟨q, ys, e, h1, h2, fun H' s => by rw [h3]; exact go H' s⟩
    · exact .inr ⟨nt, go⟩
theorem two_of {xs : List V} (h : xs.length = 2) : ∃ a b, xs = [a, b] := by
  match xs, h with
  | [a, b], _ => exact ⟨a, b, rfl⟩
theorem three_of {xs : List V} (h : xs.length = 3) : ∃ a b c, xs = [a, b, c] := by
  match xs, h with
  | [a, b, c], _ => exact ⟨a, b, c, rfl⟩
theorem thing_len {xs : List V} (h : xs.length ≠ 2) : thingV xs = false := by
  match xs, h with
  | [], _ => rfl
  | [_], _ => rfl
  | [_, _], h => exact absurd rfl h
  | _ :: _ :: _ :: _, _ => rfl
theorem part_len {xs : List V} (h : xs.length ≠ 2) : partV xs = false := by
  match xs, h with
  | [], _ => rfl
  | [_], _ => rfl
  | [_, _], h => exact absurd rfl h
  | _ :: _ :: _ :: _, _ => rfl
theorem debt_len {xs : List V} (h : xs.length ≠ 3) : debtV xs = false := by
  match xs, h with
  | [], _ => rfl
  | [_], _ => rfl
  | [_, _], _ => rfl
  | [_, _, _], h => exact absurd rfl h
  | _ :: _ :: _ :: _ :: _, _ => rfl
abbrev nThi : List Str := ["value"]
theorem scThi : FnScope nThi ["value"] (defScope sThi) := ⟨rfl, rfl, rfl, by decide +kernel, rfl, by decide +kernel, by decide +kernel⟩
theorem ok_thing {f : Addr} {fd : FuncData} (F : Fun K "_is_thing" "_is_thing" sThi f fd) (T : Txt mg) (TN : Has P w K mg base CX0 "_is_thing_name" ["value"] 1 spTn) (TA : Has P w K mg base CX0 "is_amount" ["value"] 1 spAmt) : FnOk P w K mg base CX0 2 f fd ["value"] (spIt K thingV) := by
  obtain ⟨fN, fdN, mN, kN, bN, GN⟩ := TN.ok
  obtain ⟨fA, fdA, mA, kA, bA, GA⟩ := TA.ok
  refine F.ok scThi (fun vs H Q E h => ?_) (fun cdv A outer s H vs Q E hr h => ?_)
  · obtain ⟨v, o, rfl, _⟩ := h
    rfl
  · obtain ⟨v, o, rfl, hi, go⟩ := h
    refine ⟨_, (pss_cons (ps_if (PW.pt (pw_or (pt_not (pt_val (pe_callB call_isi (by rfl) T.isi (by decide +kernel) (pa_cons (pv 0) (pa_cons (pe_bltn (v := .ty "tuple") (u := .type "tuple") (by rfl) T.tuple (by decide +kernel) rfl) pa_nil))))) (pw_or1 (pt_cmpR op_ne (pe_callB call_len_seq (by rfl) T.len PySem.boot_len (pa_cons (pv 0) pa_nil)) pe_int (nomark _))))) (pss_one (ps_ret pe_bl)) pss_nil)
      (pss_one (ps_ret (pe_and (pe_call GN (hr.mono (by decide)) (by rfl) mN kN bN .nil pass0 (pa_cons (pe_ix ix_tup (pv 0) pe_int (fun _ _ => rfl)) pa_nil)) (pe_one (pe_call GA (hr.mono (by decide)) (by rfl) mA kA bA .nil pass0 (pa_cons (pe_ix ix_tup (pv 0) pe_int (fun _ _ => rfl)) pa_nil))))))), ?_⟩
    rcases itb_cases hi go with ⟨a, xs, rfl, ha, hok, go⟩ | ⟨nt, go⟩
    · by_cases hl : xs.length = 2
      · obtain ⟨u0, u1, rfl⟩ := two_of hl
        refine ⟨_, rfl, _, .ty "tuple", _, _, true, rfl, .ty _, ty_sqT ha, kit_ty (show kitB "tuple" "tuple" = some true by decide +kernel), _, rfl, iteF ⟨_, rfl, a, _, rfl, .inr (ha), rfl, _, rfl, iteF ?_⟩⟩
        have k0 := hok u0 List.mem_cons_self
        have k1 := hok u1 (List.mem_cons_of_mem _ List.mem_cons_self)
        have en : thingV [u0, u1] = (tnV u0 && amtV u1) := rfl
        refine ⟨_, rfl, a, _, 0, u0, rfl, rfl, ha, atI_nat (j := 0) rfl, u0, rfl, k0, fun H1 s1 => ⟨_, rfl, ?_⟩⟩
        cases e : tnV u0 with
        | false =>
          rw [en, e] at go
          exact iteF (go H1 s1)
        | true =>
          rw [en, e] at go
          exact iteT ⟨_, rfl, a, _, 1, u1, rfl, rfl, (sameT s1 ha), atI_nat (j := 1) rfl, u1, rfl, k1.fl, go H1 s1⟩
      · refine ⟨_, rfl, _, .ty "tuple", _, _, true, rfl, .ty _, ty_sqT ha, kit_ty (show kitB "tuple" "tuple" = some true by decide +kernel), _, rfl, iteF ⟨_, rfl, a, xs, rfl, .inr (ha), rfl, _, rfl, ite2 (fun _ => ?_) (fun z => ?_)⟩⟩
        · rw [thing_len hl] at go
          exact go H (Same.refl H)
        · refine absurd ?_ z
          rw [decide_eq_false (fun e => hl (by have := V.int.inj e; omega))]
          rfl
    · obtain ⟨t, ty, kt⟩ := nt.kit (K := K)
      exact ⟨_, rfl, v, .ty "tuple", _, _, _, rfl, .ty _, ty, kt, _, rfl, iteT (go H (Same.refl H))⟩
abbrev nDeb : List Str := ["value"]
theorem scDeb : FnScope nDeb ["value"] (defScope sDeb) := ⟨rfl, rfl, rfl, by decide +kernel, rfl, by decide +kernel, by decide +kernel⟩
theorem ok_debt {f : Addr} {fd : FuncData} (F : Fun K "_is_debt" "_is_debt" sDeb f fd) (T : Txt mg) (TN : Has P w K mg base CX0 "is_name" ["value"] 1 spNam) (TA : Has P w K mg base CX0 "is_amount" ["value"] 1 spAmt) : FnOk P w K mg base CX0 2 f fd ["value"] (spIt K debtV) := by
  obtain ⟨fN, fdN, mN, kN, bN, GN⟩ := TN.ok
  obtain ⟨fA, fdA, mA, kA, bA, GA⟩ := TA.ok
  refine F.ok scDeb (fun vs H Q E h => ?_) (fun cdv A outer s H vs Q E hr h => ?_)
  · obtain ⟨v, o, rfl, _⟩ := h
    rfl
  · obtain ⟨v, o, rfl, hi, go⟩ := h
    refine ⟨_, (pss_cons (ps_if (PW.pt (pw_or (pt_not (pt_val (pe_callB call_isi (by rfl) T.isi (by decide +kernel) (pa_cons (pv 0) (pa_cons (pe_bltn (v := .ty "tuple") (u := .type "tuple") (by rfl) T.tuple (by decide +kernel) rfl) pa_nil))))) (pw_or1 (pt_cmpR op_ne (pe_callB call_len_seq (by rfl) T.len PySem.boot_len (pa_cons (pv 0) pa_nil)) pe_int (nomark _))))) (pss_one (ps_ret pe_bl)) pss_nil)
      (pss_one (ps_ret (pe_and (pe_call GN (hr.mono (by decide)) (by rfl) mN kN bN .nil pass0 (pa_cons (pe_ix ix_tup (pv 0) pe_int (fun _ _ => rfl)) pa_nil)) (pe_and (pe_call GA (hr.mono (by decide)) (by rfl) mA kA bA .nil pass0 (pa_cons (pe_ix ix_tup (pv 0) pe_int (fun _ _ => rfl)) pa_nil)) (pe_one (pe_call GA (hr.mono (by decide)) (by rfl) mA kA bA .nil pass0 (pa_cons (pe_ix ix_tup (pv 0) pe_int (fun _ _ => rfl)) pa_nil)))))))), ?_⟩
    rcases itb_cases hi go with ⟨a, xs, rfl, ha, hok, go⟩ | ⟨nt, go⟩
    · by_cases hl : xs.length = 3
      · obtain ⟨u0, u1, u2, rfl⟩ := three_of hl
        refine ⟨_, rfl, _, .ty "tuple", _, _, true, rfl, .ty _, ty_sqT ha, kit_ty (show kitB "tuple" "tuple" = some true by decide +kernel), _, rfl, iteF ⟨_, rfl, a, _, rfl, .inr (ha), rfl, _, rfl, iteF ?_⟩⟩
        have k0 := hok u0 List.mem_cons_self
        have k1 := hok u1 (List.mem_cons_of_mem _ List.mem_cons_self)
        have k2 := hok u2 (List.mem_cons_of_mem _ (List.mem_cons_of_mem _ List.mem_cons_self))
        have en : debtV [u0, u1, u2] = (nameV u0 && (amtV u1 && amtV u2)) := rfl
        refine ⟨_, rfl, a, _, 0, u0, rfl, rfl, ha, atI_nat (j := 0) rfl, u0, rfl, k0, fun H1 s1 => ⟨_, rfl, ?_⟩⟩
        cases e : nameV u0 with
        | false =>
          rw [en, e] at go
          exact iteF (go H1 s1)
        | true =>
          rw [en, e] at go
          refine iteT ⟨_, rfl, a, _, 1, u1, rfl, rfl, (sameT s1 ha), atI_nat (j := 1) rfl, u1, rfl, k1.fl, _, rfl, ?_⟩
          cases e2 : amtV u1 with
          | false =>
            rw [e2] at go
            exact iteF (go H1 s1)
          | true =>
            rw [e2] at go
            exact iteT ⟨_, rfl, a, _, 2, u2, rfl, rfl, (sameT s1 ha), atI_nat (j := 2) rfl, u2, rfl, k2.fl, go H1 s1⟩
      · refine ⟨_, rfl, _, .ty "tuple", _, _, true, rfl, .ty _, ty_sqT ha, kit_ty (show kitB "tuple" "tuple" = some true by decide +kernel), _, rfl, iteF ⟨_, rfl, a, xs, rfl, .inr (ha), rfl, _, rfl, ite2 (fun _ => ?_) (fun z => ?_)⟩⟩
        · rw [debt_len hl] at go
          exact go H (Same.refl H)
        · refine absurd ?_ z
          rw [decide_eq_false (fun e => hl (by have := V.int.inj e; omega))]
          rfl
    · obtain ⟨t, ty, kt⟩ := nt.kit (K := K)
      exact ⟨_, rfl, v, .ty "tuple", _, _, _, rfl, .ty _, ty, kt, _, rfl, iteT (go H (Same.refl H))⟩
def spUpt : Sp := fun vs H Q _ => ∃ (v : V) (m : Int), vs = [v, .int m] ∧ flatV v = true ∧ Q (.bl (uptV v m)) H
abbrev nUpt : List Str := ["value", "most"]
theorem scUpt : FnScope nUpt ["value", "most"] (defScope sUpt) := ⟨rfl, rfl, rfl, by decide +kernel, rfl, by decide +kernel, by decide +kernel⟩
theorem ok_upto {f : Addr} {fd : FuncData} (F : Fun K "_is_up_to" "_is_up_to" sUpt f fd) (TA : Has P w K mg base CX0 "is_amount" ["value"] 1 spAmt) : FnOk P w K mg base CX0 2 f fd ["value", "most"] spUpt := by
  obtain ⟨fA, fdA, mA, kA, bA, GA⟩ := TA.ok
  refine F.ok scUpt (fun vs H Q E h => ?_) (fun cdv A outer s H vs Q E hr h => ?_)
  · obtain ⟨v, m, rfl, _⟩ := h
    rfl
  · obtain ⟨v, m, rfl, hv, go⟩ := h
    refine ⟨_, (pss_one (ps_ret (pe_and (pe_call GA (hr.mono (by decide)) (by rfl) mA kA bA .nil pass0 (pa_cons (pv 0) pa_nil)) (pe_one (pe_cmpR op_le (pv 0) (pv 1) (nomark _)))))), ?_⟩
    refine ⟨_, rfl, v, rfl, hv, _, rfl, ?_⟩
    cases v with
    | int i =>
      have en : uptV (.int i) m = (amtV (.int i) && decide (i ≤ m)) := rfl
      cases e : amtV (.int i) with
      | false =>
        rw [en, e] at go
        exact iteF go
      | true =>
        rw [en, e] at go
        exact iteT ⟨_, rfl, _, rfl, _, _, rfl, rfl, go⟩
    | bl b => exact go
    | non => exact go
    | str x => exact go
    | byt b => cases hv
    | flt b => cases hv
    | ref b => cases hv
    | ty b => cases hv
abbrev nPar : List Str := ["value"]
theorem scPar : FnScope nPar ["value"] (defScope sPar) := ⟨rfl, rfl, rfl, by decide +kernel, rfl, by decide +kernel, by decide +kernel⟩
theorem ok_part {f : Addr} {fd : FuncData} (F : Fun K "_is_part" "_is_part" sPar f fd) (T : Txt mg) (TU : Has P w K mg base CX0 "_is_up_to" ["value", "most"] 2 spUpt) : FnOk P w K mg base CX0 3 f fd ["value"] (spIt K partV) := by
  obtain ⟨t1, mGp⟩ := T.gpart
  obtain ⟨fU, fdU, mU, kU, bU, GU⟩ := TU.ok
  refine F.ok scPar (fun vs H Q E h => ?_) (fun cdv A outer s H vs Q E hr h => ?_)
  · obtain ⟨v, o, rfl, _⟩ := h
    rfl
  · obtain ⟨v, o, rfl, hi, go⟩ := h
    refine ⟨_, (pss_cons (ps_if (PW.pt (pw_or (pt_not (pt_val (pe_callB call_isi (by rfl) T.isi (by decide +kernel) (pa_cons (pv 0) (pa_cons (pe_bltn (v := .ty "tuple") (u := .type "tuple") (by rfl) T.tuple (by decide +kernel) rfl) pa_nil))))) (pw_or1 (pt_cmpR op_ne (pe_callB call_len_seq (by rfl) T.len PySem.boot_len (pa_cons (pv 0) pa_nil)) pe_int (nomark _))))) (pss_one (ps_ret pe_bl)) pss_nil)
      (pss_cons (ps_if (PW.pt (pw_or (pt_not (pt_val (pe_call GU (hr.mono (by decide)) (by rfl) mU kU bU .nil pass0 (pa_cons (pe_ix ix_tup (pv 0) pe_int (fun _ _ => rfl)) (pa_cons (pe_glob (v := .int 1000) (by rfl) mGp ⟨_, rfl⟩) pa_nil))))) (pw_or1 (pt_cmpR op_eq (pe_ix ix_tup (pv 0) pe_int (fun _ _ => rfl)) pe_int (nomark _))))) (pss_one (ps_ret pe_bl)) pss_nil)
      (pss_one (ps_ret (pe_call GU (hr.mono (by decide)) (by rfl) mU kU bU .nil pass0 (pa_cons (pe_ix ix_tup (pv 0) pe_int (fun _ _ => rfl)) (pa_cons (pe_ix ix_tup (pv 0) pe_int (fun _ _ => rfl)) pa_nil))))))), ?_⟩
    rcases itb_cases hi go with ⟨a, xs, rfl, ha, hok, go⟩ | ⟨nt, go⟩
    · by_cases hl : xs.length = 2
      · obtain ⟨u0, u1, rfl⟩ := two_of hl
        refine ⟨_, rfl, _, .ty "tuple", _, _, true, rfl, .ty _, ty_sqT ha, kit_ty (show kitB "tuple" "tuple" = some true by decide +kernel), _, rfl, iteF ⟨_, rfl, a, _, rfl, .inr (ha), rfl, _, rfl, iteF ?_⟩⟩
        have k0 := hok u0 List.mem_cons_self
        have k1 := hok u1 (List.mem_cons_of_mem _ List.mem_cons_self)
        refine ⟨_, rfl, a, _, 1, u1, rfl, rfl, ha, atI_nat (j := 1) rfl, u1, 1000, rfl, k1.fl, _, rfl, ?_⟩
        cases e : uptV u1 1000 with
        | false =>
          have en : partV [u0, u1] = false := by
            show (uptV u1 1000 && _) = false
            rw [e]
            rfl
          rw [en] at go
          exact iteT (go H (Same.refl H))
        | true =>
          obtain ⟨j, rfl⟩ : ∃ j, u1 = .int j := by
            cases u1 <;> first | exact ⟨_, rfl⟩ | cases e
          have en : partV [u0, .int j] = (!decide (V.int j = .int 0) && uptV u0 j) := by
            show (uptV (.int j) 1000 && (!decide (V.int j = .int 0) && uptV u0 j)) = _
            rw [e]
            rfl
          refine iteF ⟨_, rfl, a, _, 1, .int j, rfl, rfl, ha, atI_nat (j := 1) rfl, rfl, _, rfl, ?_⟩
          cases e2 : decide (V.int j = .int 0) with
          | true =>
            rw [en, e2] at go
            exact iteT (go H (Same.refl H))
          | false =>
            rw [en, e2] at go
            exact iteF ⟨_, rfl, a, _, 0, u0, rfl, rfl, ha, atI_nat (j := 0) rfl, _, rfl, a, _, 1, .int j, rfl, rfl, ha, atI_nat (j := 1) rfl, u0, j, rfl, k0.fl, go H (Same.refl H)⟩
      · refine ⟨_, rfl, _, .ty "tuple", _, _, true, rfl, .ty _, ty_sqT ha, kit_ty (show kitB "tuple" "tuple" = some true by decide +kernel), _, rfl, iteF ⟨_, rfl, a, xs, rfl, .inr (ha), rfl, _, rfl, ite2 (fun _ => ?_) (fun z => ?_)⟩⟩
        · rw [part_len hl] at go
          exact go H (Same.refl H)
        · refine absurd ?_ z
          rw [decide_eq_false (fun e => hl (by have := V.int.inj e; omega))]
          rfl
    · obtain ⟨t, ty, kt⟩ := nt.kit (K := K)
      exact ⟨_, rfl, v, .ty "tuple", _, _, _, rfl, .ty _, ty, kt, _, rfl, iteT (go H (Same.refl H))⟩
/-- a tuple of items, or none -/
def LsIt (K : PySem.W.Frag) (f : List V → Bool) (H : Hp) (v : V) : Option (List (Option (List V))) → Prop
  | some os => ∃ q xs, v = .ref q ∧ SqT K H q xs ∧ os.length = xs.length ∧ xs.length ≤ 900 ∧ ∀ (i : Nat) (x : V) (o : Option (List V)), xs[i]? = some x → os[i]? = some o → ItB K f H x o
  | none => NoTup H v
theorem LsIt.same {K : PySem.W.Frag} {f : List V → Bool} {H H' : Hp} {v : V} {o : Option (List (Option (List V)))} (h : LsIt K f H v o) (s : Same H H') : LsIt K f H' v o := by
  cases o with
  | some os =>
    obtain ⟨q, xs, e, h1, h2, h3, h4⟩ := h
    exact ⟨q, xs, e, sameT s h1, h2, h3, fun i x o a b => (h4 i x o a b).same s⟩
  | none => exact NoTup.same h s
def partsB (o : Option (List (Option (List V)))) (m : Int) : Bool := match o with
  | none => false
  | some os => decide ((os.length : Int) = m) && os.all (·.isSome)
def spPas (K : PySem.W.Frag) : Sp := fun vs H Q _ => ∃ (v : V) (m : Int) (o : Option (List (Option (List V)))), vs = [v, .int m] ∧ LsIt K partV H v o ∧ ∀ H', Same H H' → Q (.bl (partsB o m)) H'
theorem all_map_isSome (os : List (Option (List V))) : (os.map (·.isSome)).all id = os.all (·.isSome) := by
  rw [List.all_map]
  rfl
abbrev nPas : List Str := ["value", "many", "pair"]
theorem scPas : FnScope nPas ["value", "many"] (defScope sPas) := ⟨rfl, rfl, rfl, by decide +kernel, rfl, by decide +kernel, by decide +kernel⟩
theorem ok_parts {f : Addr} {fd : FuncData} (F : Fun K "_are_parts" "_are_parts" sPas f fd) (T : Txt mg) (TR : Has P w K mg base CX0 "_is_part" ["value"] 3 (spIt K partV)) : FnOk P w K mg base CX0 4 f fd ["value", "many"] (spPas K) := by
  obtain ⟨fR, fdR, mR, kR, bR, GR⟩ := TR.ok
  refine F.ok scPas (fun vs H Q E h => ?_) (fun cdv A outer s H vs Q E hr h => ?_)
  · obtain ⟨v, m, o, rfl, _⟩ := h
    rfl
  · obtain ⟨v, m, o, rfl, hi, go⟩ := h
    refine ⟨_, (pss_cons (ps_if (PW.pt (pw_or (pt_not (pt_val (pe_callB call_isi (by rfl) T.isi (by decide +kernel) (pa_cons (pv 0) (pa_cons (pe_bltn (v := .ty "tuple") (u := .type "tuple") (by rfl) T.tuple (by decide +kernel) rfl) pa_nil))))) (pw_or1 (pt_cmpR op_ne (pe_callB call_len_seq (by rfl) T.len PySem.boot_len (pa_cons (pv 0) pa_nil)) (pv 1) (nomark _))))) (pss_one (ps_ret pe_bl)) pss_nil)
      (pss_one (ps_ret (pe_callB (cr_all rfl) (by rfl) T.all (by decide +kernel) (pa_cons (pe_lc (own := [("pair", 2)]) (g := gName 2) (tt := tYes) rfl scPas.nd (pi_tup (pv 0)) (blkOk_by (N := nPas) (sc := defScope sPas) (by decide +kernel)) (fun _ _ _ _ _ => (pg_name (i := 2) scPas.nd rfl (.inl rfl) (.inr rfl))) (fun _ _ _ _ _ => pts_nil) (fun _ _ _ _ _ => (pe_call GR (hr.mono (by decide)) (by rfl) mR kR bR .nil pass0 (pa_cons (pv 2) pa_nil)))) pa_nil))))), ?_⟩
    cases o with
    | none =>
      obtain ⟨t, ty, kt⟩ := NoTup.kit (K := K) hi
      exact ⟨_, rfl, v, .ty "tuple", _, _, _, rfl, .ty _, ty, kt, _, rfl, iteT (go H (Same.refl H))⟩
    | some os =>
      obtain ⟨a, xs, rfl, ha, ho, hz, hx⟩ := hi
      refine ⟨_, rfl, _, .ty "tuple", _, _, true, rfl, .ty _, ty_sqT ha, kit_ty (show kitB "tuple" "tuple" = some true by decide +kernel), _, rfl, iteF ⟨_, rfl, a, xs, rfl, .inr ha, _, rfl, rfl, _, rfl, ?_⟩⟩
      have en : partsB (some os) m = (decide ((os.length : Int) = m) && os.all (·.isSome)) := rfl
      rw [en] at go
      refine ite2 (fun z => ?_) (fun z => ?_)
      · have ne : ¬ (os.length : Int) = m := fun e => by
          rw [ho] at e
          rw [decide_eq_true (show V.int (xs.length : Int) = V.int m from congrArg V.int e)] at z
          cases z
        rw [decide_eq_false ne] at go
        exact go H (Same.refl H)
      · have eq : (os.length : Int) = m := by
          rw [ho]
          by_cases e : (xs.length : Int) = m
          · exact e
          · exact absurd (by rw [decide_eq_false (fun w => e (V.int.inj w))]; rfl) z
        rw [decide_eq_true eq, Bool.true_and] at go
        refine ⟨_, rfl, a, rfl, ⟨_, ha⟩, fun D hD => lc_it walk_tup (fun i Hy => Same H Hy ∧ Hy D = some (.lst (((os.take i).map (·.isSome)).map V.bl))) ⟨same_upd hD, upd_same⟩ (fun i Hy _ hy => sameT hy.1 ha) ?_ ?_⟩
        · rintro i y Hy H' hi ⟨k1, k2⟩ ⟨rfl, ey⟩
          have hio : i < os.length := by rw [ho]; exact hi
          have eo : os[i]? = some os[i] := List.getElem?_eq_getElem hio
          refine ⟨rfl, _, rfl, y, os[i], rfl, (hx i y _ ey eo).same k1, fun H3 s3 => ⟨_, s3 _ _ k2, ?_, ?_, ?_⟩⟩
          · rw [List.length_map, List.length_map, List.length_take]
            exact small1000 (by omega)
          · intro b o hb
            rw [upd_ne (ne_of_none hb hD)]
            exact s3 _ _ (k1 b o hb)
          · rw [upd_same, List.take_add_one, eo, List.map_append, List.map_append]
            rfl
        · rintro Hy ⟨k1, k2⟩
          rw [← ho, List.take_length] at k2
          refine ⟨D, _, rfl, SqL.of k2, ?_⟩
          rw [all_map_isSome]
          exact go Hy k1
end
end K2
namespace K2
open PySem L2 PyProof.Rows G
/-- a tuple of plain values, or none -/
def VsIt (K : PySem.W.Frag) (H : Hp) (v : V) : Option (List V) → Prop
  | some xs => ∃ q, v = .ref q ∧ SqT K H q xs ∧ (∀ x ∈ xs, OkV x) ∧ xs.length ≤ 900
  | none => NoTup H v
theorem VsIt.same {K : PySem.W.Frag} {H H' : Hp} {v : V} {o : Option (List V)} (h : VsIt K H v o) (s : Same H H') : VsIt K H' v o := by
  cases o with
  | some xs =>
    obtain ⟨q, e, h1, r⟩ := h
    exact ⟨q, e, sameT s h1, r⟩
  | none => exact NoTup.same h s
def tksB : Option (List V) → Bool
  | none => false
  | some xs => (decide (1 ≤ xs.length) && decide (xs.length ≤ 5)) && xs.all nameV
def posV : V → Bool
  | .int i => decide (0 < i)
  | _ => false
def givB (w : Str) (v : V) : Bool := if w = "thing" then tnV v else if w = "sum" then amtV v else decide (w = "rest") && (amtV v && posV v)
/-- a line of any kind -/
inductive LnV where
  | l1 (w : V) | l2 (w n : V) | l4 (w n x : V) (o : Option (List V)) | bad (k : Nat)
def lnB : LnV → Bool
  | .l1 w => isStr w && decide (w = .str "revoke")
  | .l2 w n => isStr w && (amtV n && decide (w = .str "revoke"))
  | .l4 w n x o => match w with
    | .str z => amtV n && (givB z x && tksB o)
    | _ => false
  | .bad _ => false
def LnAt (K : PySem.W.Frag) (H : Hp) (q : Addr) : LnV → Prop
  | .l1 w => SqT K H q [w] ∧ OkV w
  | .l2 w n => SqT K H q [w, n] ∧ OkV w ∧ OkV n
  | .l4 w n x o => ∃ t, SqT K H q [w, n, x, t] ∧ OkV w ∧ OkV n ∧ OkV x ∧ VsIt K H t o
  | .bad k => ∃ xs, SqT K H q xs ∧ xs.length = k ∧ k ≠ 1 ∧ k ≠ 2 ∧ k ≠ 4
theorem LnAt.same {K : PySem.W.Frag} {H H' : Hp} {q : Addr} {l : LnV} (h : LnAt K H q l) (s : Same H H') : LnAt K H' q l := by
  cases l with
  | l1 w => exact ⟨sameT s h.1, h.2⟩
  | l2 w n => exact ⟨sameT s h.1, h.2⟩
  | l4 w n x o =>
    obtain ⟨t, h1, h2, h3, h4, h5⟩ := h
    exact ⟨t, sameT s h1, h2, h3, h4, h5.same s⟩
  | bad k =>
    obtain ⟨xs, h1, h2⟩ := h
    exact ⟨xs, sameT s h1, h2⟩
def LnO (K : PySem.W.Frag) (H : Hp) (v : V) : Option LnV → Prop
  | some l => ∃ q, v = .ref q ∧ LnAt K H q l
  | none => NoTup H v
theorem LnO.same {K : PySem.W.Frag} {H H' : Hp} {v : V} {o : Option LnV} (h : LnO K H v o) (s : Same H H') : LnO K H' v o := by
  cases o with
  | some l =>
    obtain ⟨q, e, h⟩ := h
    exact ⟨q, e, h.same s⟩
  | none => exact NoTup.same h s
def lnOB : Option LnV → Bool
  | none => false
  | some l => lnB l
theorem in124 (n : Int) : inV (.int n) [.int 1, .int 2, .int 4] = decide (n = 1 ∨ n = 2 ∨ n = 4) := by
  show ((1 == n) || ((2 == n) || ((4 == n) || false))) = _
  rw [Bool.or_false, Bool.eq_iff_iff, Bool.or_eq_true, Bool.or_eq_true, decide_eq_true_eq, beq_iff_eq, beq_iff_eq, beq_iff_eq]
  constructor <;> rintro (h | h | h) <;> omega
section
variable {P : Program} {w : World} {K : PySem.W.Frag} {mg : Str → Option Value} {base : Heap}
def spTks (K : PySem.W.Frag) : Sp := fun vs H Q _ => ∃ (v : V) (o : Option (List V)), vs = [v] ∧ VsIt K H v o ∧ ∀ H', Same H H' → Q (.bl (tksB o)) H'
def spGiv : Sp := fun vs H Q _ => ∃ (z : Str) (v : V), vs = [.str z, v] ∧ OkV v ∧ ∀ H', Same H H' → Q (.bl (givB z v)) H'
def spLin (K : PySem.W.Frag) : Sp := fun vs H Q _ => ∃ (v : V) (o : Option LnV), vs = [v] ∧ LnO K H v o ∧ ∀ H', Same H H' → Q (.bl (lnOB o)) H'
abbrev nTks : List Str := ["value", "name"]
theorem scTks : FnScope nTks ["value"] (defScope sTks) := ⟨rfl, rfl, rfl, by decide +kernel, rfl, by decide +kernel, by decide +kernel⟩
theorem ok_takers {f : Addr} {fd : FuncData} (F : Fun K "_are_takers" "_are_takers" sTks f fd) (T : Txt mg) (TN : Has P w K mg base CX0 "is_name" ["value"] 1 spNam) : FnOk P w K mg base CX0 2 f fd ["value"] (spTks K) := by
  obtain ⟨t1, mMt⟩ := T.takers
  obtain ⟨fN, fdN, mN, kN, bN, GN⟩ := TN.ok
  refine F.ok scTks (fun vs H Q E h => ?_) (fun cdv A outer s H vs Q E hr h => ?_)
  · obtain ⟨v, o, rfl, _⟩ := h
    rfl
  · obtain ⟨v, o, rfl, hi, go⟩ := h
    refine ⟨_, (pss_cons (ps_if (PW.pt (pw_or (pt_not (pt_val (pe_callB call_isi (by rfl) T.isi (by decide +kernel) (pa_cons (pv 0) (pa_cons (pe_bltn (v := .ty "tuple") (u := .type "tuple") (by rfl) T.tuple (by decide +kernel) rfl) pa_nil))))) (pw_or1 (pt_not (pt_chain op_le op_le pe_int (pe_callB call_len_seq (by rfl) T.len PySem.boot_len (pa_cons (pv 0) pa_nil)) (pe_glob (v := .int 5) (by rfl) mMt ⟨_, rfl⟩)))))) (pss_one (ps_ret pe_bl)) pss_nil)
      (pss_one (ps_ret (pe_callB (cr_all rfl) (by rfl) T.all (by decide +kernel) (pa_cons (pe_lc (own := [("name", 1)]) (g := gName 1) (tt := tYes) rfl scTks.nd (pi_tup (pv 0)) (blkOk_by (N := nTks) (sc := defScope sTks) (by decide +kernel)) (fun _ _ _ _ _ => (pg_name (i := 1) scTks.nd rfl (.inl rfl) (.inr rfl))) (fun _ _ _ _ _ => pts_nil) (fun _ _ _ _ _ => (pe_call GN (hr.mono (by decide)) (by rfl) mN kN bN .nil pass0 (pa_cons (pv 1) pa_nil)))) pa_nil))))), ?_⟩
    cases o with
    | none =>
      obtain ⟨t, ty, kt⟩ := NoTup.kit (K := K) hi
      exact ⟨_, rfl, v, .ty "tuple", _, _, _, rfl, .ty _, ty, kt, _, rfl, iteT (go H (Same.refl H))⟩
    | some xs =>
      obtain ⟨a, rfl, ha, hok, hz⟩ := hi
      have en : tksB (some xs) = ((decide (1 ≤ xs.length) && decide (xs.length ≤ 5)) && xs.all nameV) := rfl
      have no (hb : ¬ (1 ≤ xs.length ∧ xs.length ≤ 5)) : Q (.bl false) H := by
        have : (decide (1 ≤ xs.length) && decide (xs.length ≤ 5)) = false := by
          rw [Bool.eq_false_iff]
          intro z
          rw [Bool.and_eq_true, decide_eq_true_eq, decide_eq_true_eq] at z
          exact hb z
        rw [en, this, Bool.false_and] at go
        exact go H (Same.refl H)
      refine ⟨_, rfl, _, .ty "tuple", _, _, true, rfl, .ty _, ty_sqT ha, kit_ty (show kitB "tuple" "tuple" = some true by decide +kernel), _, rfl, iteF ⟨_, rfl, a, xs, rfl, .inr ha, _, _, rfl, rfl, _, rfl, ite2 (fun a1 => ?_) (fun a1 => ?_)⟩⟩
      · have a1 : (1 : Int) ≤ (xs.length : Int) := of_decide_eq_true a1
        refine ⟨_, _, rfl, rfl, _, rfl, ite2 (fun b => ?_) (fun b => ?_)⟩
        · refine no fun z => ?_
          have b1 : ¬ (xs.length : Int) ≤ 5 := fun c => by
            rw [decide_eq_true c] at b
            cases b
          omega
        · have b1 : (xs.length : Int) ≤ 5 := by
            by_cases c : (xs.length : Int) ≤ 5
            · exact c
            · exact absurd (by rw [decide_eq_false c]; rfl) b
          rw [en, decide_eq_true (show 1 ≤ xs.length by omega), decide_eq_true (show xs.length ≤ 5 by omega), Bool.true_and, Bool.true_and] at go
          refine ⟨_, rfl, a, rfl, ⟨_, ha⟩, fun D hD => lc_it walk_tup (fun i Hy => Same H Hy ∧ Hy D = some (.lst (((xs.take i).map nameV).map V.bl))) ⟨same_upd hD, upd_same⟩ (fun i Hy _ hy => sameT hy.1 ha) ?_ ?_⟩
          · rintro i y Hy H' hi ⟨k1, k2⟩ ⟨rfl, ey⟩
            refine ⟨rfl, _, rfl, y, rfl, hok y (List.mem_of_getElem? ey), fun H3 s3 => ⟨_, s3 _ _ k2, ?_, ?_, ?_⟩⟩
            · rw [List.length_map, List.length_map, List.length_take]
              exact small1000 (by omega)
            · intro b o hb
              rw [upd_ne (ne_of_none hb hD)]
              exact s3 _ _ (k1 b o hb)
            · rw [upd_same, List.take_add_one, ey, List.map_append, List.map_append]
              rfl
          · rintro Hy ⟨k1, k2⟩
            rw [List.take_length] at k2
            refine ⟨D, _, rfl, SqL.of k2, ?_⟩
            rw [List.all_map]
            exact go Hy k1
      · refine ⟨_, rfl, ?_⟩
        exact no fun z => a1 (decide_eq_true (show (1 : Int) ≤ (xs.length : Int) by omega))
abbrev nGiv : List Str := ["word", "value"]
theorem scGiv : FnScope nGiv ["word", "value"] (defScope sGiv) := ⟨rfl, rfl, rfl, by decide +kernel, rfl, by decide +kernel, by decide +kernel⟩
theorem ok_given {f : Addr} {fd : FuncData} (F : Fun K "_is_given" "_is_given" sGiv f fd) (T : Txt mg) (TN : Has P w K mg base CX0 "_is_thing_name" ["value"] 1 spTn) (TA : Has P w K mg base CX0 "is_amount" ["value"] 1 spAmt) : FnOk P w K mg base CX0 2 f fd ["word", "value"] spGiv := by
  obtain ⟨fN, fdN, mN, kN, bN, GN⟩ := TN.ok
  obtain ⟨fA, fdA, mA, kA, bA, GA⟩ := TA.ok
  refine F.ok scGiv (fun vs H Q E h => ?_) (fun cdv A outer s H vs Q E hr h => ?_)
  · obtain ⟨z, v, rfl, _⟩ := h
    rfl
  · obtain ⟨z, v, rfl, hv, go⟩ := h
    refine ⟨_, (pss_cons (ps_if (pt_cmpR op_eq (pv 0) pe_str (nomark _)) (pss_one (ps_ret (pe_call GN (hr.mono (by decide)) (by rfl) mN kN bN .nil pass0 (pa_cons (pv 1) pa_nil)))) pss_nil)
      (pss_cons (ps_if (pt_cmpR op_eq (pv 0) pe_str (nomark _)) (pss_one (ps_ret (pe_call GA (hr.mono (by decide)) (by rfl) mA kA bA .nil pass0 (pa_cons (pv 1) pa_nil)))) pss_nil)
      (pss_one (ps_ret (pe_and (pe_cmpR op_eq (pv 0) pe_str (nomark _)) (pe_and (pe_call GA (hr.mono (by decide)) (by rfl) mA kA bA .nil pass0 (pa_cons (pv 1) pa_nil)) (pe_one (pe_cmpR op_gt (pv 1) pe_int (nomark _))))))))), ?_⟩
    refine ⟨_, rfl, rfl, _, rfl, ite2 (fun a => ?_) (fun a => ?_)⟩
    · have e : z = "thing" := V.str.inj (of_decide_eq_true a)
      have en : givB z v = tnV v := if_pos e
      rw [en] at go
      exact ⟨_, rfl, v, rfl, hv, go⟩
    · have e : ¬ z = "thing" := fun c => a (decide_eq_true (congrArg V.str c))
      refine ⟨_, rfl, rfl, _, rfl, ite2 (fun b => ?_) (fun b => ?_)⟩
      · have e2 : z = "sum" := V.str.inj (of_decide_eq_true b)
        have en : givB z v = amtV v := (if_neg e).trans (if_pos e2)
        rw [en] at go
        exact ⟨_, rfl, v, rfl, hv.fl, go H (Same.refl H)⟩
      · have e2 : ¬ z = "sum" := fun c => b (decide_eq_true (congrArg V.str c))
        have en : givB z v = (decide (z = "rest") && (amtV v && posV v)) := (if_neg e).trans (if_neg e2)
        rw [en] at go
        refine ⟨_, rfl, rfl, _, rfl, ?_⟩
        by_cases c : z = "rest"
        · rw [decide_eq_true (congrArg V.str c)]
          rw [decide_eq_true c, Bool.true_and] at go
          refine iteT ⟨_, rfl, v, rfl, hv.fl, _, rfl, ?_⟩
          cases ea : amtV v with
          | false =>
            rw [ea] at go
            exact iteF (go H (Same.refl H))
          | true =>
            rw [ea] at go
            obtain ⟨i, rfl⟩ : ∃ i, v = .int i := by
              cases v <;> first | exact ⟨_, rfl⟩ | cases ea
            exact iteT ⟨_, rfl, _, _, rfl, rfl, go H (Same.refl H)⟩
        · rw [decide_eq_false (fun w => c (V.str.inj w))]
          rw [decide_eq_false c] at go
          exact iteF (go H (Same.refl H))
abbrev nLin : List Str := ["value", "word"]
theorem scLin : FnScope nLin ["value"] (defScope sLin) := ⟨rfl, rfl, rfl, by decide +kernel, rfl, by decide +kernel, by decide +kernel⟩
theorem ok_line {f : Addr} {fd : FuncData} (F : Fun K "_is_line" "_is_line" sLin f fd) (T : Txt mg) (TA : Has P w K mg base CX0 "is_amount" ["value"] 1 spAmt) (TG : Has P w K mg base CX0 "_is_given" ["word", "value"] 2 spGiv) (TK : Has P w K mg base CX0 "_are_takers" ["value"] 2 (spTks K)) : FnOk P w K mg base CX0 3 f fd ["value"] (spLin K) := by
  obtain ⟨fA, fdA, mA, kA, bA, GA⟩ := TA.ok
  obtain ⟨fG, fdG, mG, kG, bG, GG⟩ := TG.ok
  obtain ⟨fK, fdK, mK, kK, bK, GK⟩ := TK.ok
  refine F.ok scLin (fun vs H Q E h => ?_) (fun cdv A outer s H vs Q E hr h => ?_)
  · obtain ⟨v, o, rfl, _⟩ := h
    rfl
  · obtain ⟨v, o, rfl, hi, go⟩ := h
    refine ⟨_, (pss_cons (ps_if (PW.pt (pw_or (pt_not (pt_val (pe_callB call_isi (by rfl) T.isi (by decide +kernel) (pa_cons (pv 0) (pa_cons (pe_bltn (v := .ty "tuple") (u := .type "tuple") (by rfl) T.tuple (by decide +kernel) rfl) pa_nil))))) (pw_or1 (pt_cmpR op_notIn_seq (pe_callB call_len_seq (by rfl) T.len PySem.boot_len (pa_cons (pv 0) pa_nil)) (pe_tup (pa_cons pe_int (pa_cons pe_int (pa_cons pe_int pa_nil)))) (by rfl))))) (pss_one (ps_ret pe_bl)) pss_nil)
      (pss_cons (ps_set (i := 1) scLin.nd rfl (.inl rfl) (pe_ix ix_tup (pv 0) pe_int (fun _ _ => rfl)))
      (pss_cons (ps_if (pt_not (pt_val (pe_callB call_isi (by rfl) T.isi (by decide +kernel) (pa_cons (pv 1) (pa_cons (pe_bltn (v := .ty "str") (u := .type "str") (by rfl) T.str (by decide +kernel) rfl) pa_nil))))) (pss_one (ps_ret pe_bl)) pss_nil)
      (pss_cons (ps_if (pt_cmpR op_eq (pe_callB call_len_seq (by rfl) T.len PySem.boot_len (pa_cons (pv 0) pa_nil)) pe_int (nomark _)) (pss_one (ps_ret (pe_cmpR op_eq (pv 1) pe_str (nomark _)))) pss_nil)
      (pss_cons (ps_if (pt_not (pt_val (pe_call GA (hr.mono (by decide)) (by rfl) mA kA bA .nil pass0 (pa_cons (pe_ix ix_tup (pv 0) pe_int (fun _ _ => rfl)) pa_nil)))) (pss_one (ps_ret pe_bl)) pss_nil)
      (pss_cons (ps_if (pt_cmpR op_eq (pe_callB call_len_seq (by rfl) T.len PySem.boot_len (pa_cons (pv 0) pa_nil)) pe_int (nomark _)) (pss_one (ps_ret (pe_cmpR op_eq (pv 1) pe_str (nomark _)))) pss_nil)
      (pss_one (ps_ret (pe_and (pe_call GG (hr.mono (by decide)) (by rfl) mG kG bG .nil pass0 (pa_cons (pv 1) (pa_cons (pe_ix ix_tup (pv 0) pe_int (fun _ _ => rfl)) pa_nil))) (pe_one (pe_call GK (hr.mono (by decide)) (by rfl) mK kK bK .nil pass0 (pa_cons (pe_ix ix_tup (pv 0) pe_int (fun _ _ => rfl)) pa_nil)))))))))))), ?_⟩
    cases o with
    | none =>
      obtain ⟨t, ty, kt⟩ := NoTup.kit (K := K) hi
      exact ⟨_, rfl, v, .ty "tuple", _, _, _, rfl, .ty _, ty, kt, _, rfl, iteT (go H (Same.refl H))⟩
    | some l =>
      obtain ⟨a, rfl, hl⟩ := hi
      have en : lnOB (some l) = lnB l := rfl
      rw [en] at go
      cases l with
      | bad k =>
        obtain ⟨xs, ha, hk, n1, n2, n4⟩ := hl
        refine ⟨_, rfl, _, .ty "tuple", _, _, true, rfl, .ty _, ty_sqT ha, kit_ty (show kitB "tuple" "tuple" = some true by decide +kernel), _, rfl, iteF ⟨_, rfl, a, _, rfl, .inr ha, (by show 3 ≤ sizeLine; decide), fun T2 nT => ⟨T2, _, rfl, .inr (SqT.of upd_same), rfl, rfl, _, rfl, ?_⟩⟩⟩
        rw [show (if true = true then !inV (V.int (xs.length : Int)) [V.int 1, V.int 2, V.int 4] else inV (V.int (xs.length : Int)) [V.int 1, V.int 2, V.int 4]) = !inV (V.int (xs.length : Int)) [V.int 1, V.int 2, V.int 4] from if_pos rfl, in124, decide_eq_false (by omega)]
        exact iteT (go _ (same_upd nT))
      | l1 u0 =>
        obtain ⟨ha, k0⟩ := hl
        have s2 : ∀ o T2, H T2 = none → Same H (upd H T2 o) := fun o T2 n2 => same_upd n2
        refine ⟨_, rfl, _, .ty "tuple", _, _, true, rfl, .ty _, ty_sqT ha, kit_ty (show kitB "tuple" "tuple" = some true by decide +kernel), _, rfl, iteF ⟨_, rfl, a, _, rfl, .inr ha, (by show 3 ≤ sizeLine; decide), fun T2 n2 => ⟨T2, _, rfl, .inr (SqT.of upd_same), rfl, rfl, _, rfl, ?_⟩⟩⟩
        have s2 := same_upd n2 (o := .tup [.int 1, .int 2, .int 4])
        have ha2 := sameT s2 ha
        refine iteF ⟨_, rfl, a, _, 0, u0, rfl, rfl, ha2, atI_nat (j := 0) rfl, _, rfl, u0, .ty "str", _, _, _, rfl, .ty _, ty_flat k0.fl, kit_str k0.fl, _, rfl, ?_⟩
        have en : lnB (.l1 u0) = (isStr u0 && decide (u0 = .str "revoke")) := rfl
        cases e : isStr u0 with
        | false =>
          rw [en, e] at go
          exact iteT (go _ s2)
        | true =>
          rw [en, e, Bool.true_and] at go
          obtain ⟨z, rfl⟩ : ∃ z, u0 = .str z := by
            cases u0 <;> first | exact ⟨_, rfl⟩ | cases e
          exact iteF ⟨_, rfl, a, _, rfl, .inr ha2, rfl, _, rfl, iteT ⟨_, rfl, rfl, go _ s2⟩⟩
      | l2 u0 u1 =>
        obtain ⟨ha, k0, k1⟩ := hl
        have s2 : ∀ o T2, H T2 = none → Same H (upd H T2 o) := fun o T2 n2 => same_upd n2
        refine ⟨_, rfl, _, .ty "tuple", _, _, true, rfl, .ty _, ty_sqT ha, kit_ty (show kitB "tuple" "tuple" = some true by decide +kernel), _, rfl, iteF ⟨_, rfl, a, _, rfl, .inr ha, (by show 3 ≤ sizeLine; decide), fun T2 n2 => ⟨T2, _, rfl, .inr (SqT.of upd_same), rfl, rfl, _, rfl, ?_⟩⟩⟩
        have s2 := same_upd n2 (o := .tup [.int 1, .int 2, .int 4])
        have ha2 := sameT s2 ha
        refine iteF ⟨_, rfl, a, _, 0, u0, rfl, rfl, ha2, atI_nat (j := 0) rfl, _, rfl, u0, .ty "str", _, _, _, rfl, .ty _, ty_flat k0.fl, kit_str k0.fl, _, rfl, ?_⟩
        have en : lnB (.l2 u0 u1) = (isStr u0 && (amtV u1 && decide (u0 = .str "revoke"))) := rfl
        cases e : isStr u0 with
        | false =>
          rw [en, e] at go
          exact iteT (go _ s2)
        | true =>
          rw [en, e, Bool.true_and] at go
          obtain ⟨z, rfl⟩ : ∃ z, u0 = .str z := by
            cases u0 <;> first | exact ⟨_, rfl⟩ | cases e
          refine iteF ⟨_, rfl, a, _, rfl, .inr ha2, rfl, _, rfl, iteF ⟨_, rfl, a, _, 1, u1, rfl, rfl, ha2, atI_nat (j := 1) rfl, u1, rfl, k1.fl, _, rfl, ?_⟩⟩
          cases e2 : amtV u1 with
          | false =>
            rw [e2] at go
            exact iteT (go _ s2)
          | true =>
            rw [e2, Bool.true_and] at go
            exact iteF ⟨_, rfl, a, _, rfl, .inr ha2, rfl, _, rfl, iteT ⟨_, rfl, rfl, go _ s2⟩⟩
      | l4 u0 u1 u2 o =>
        obtain ⟨t, ha, k0, k1, k2, kt⟩ := hl
        have s2 : ∀ o T2, H T2 = none → Same H (upd H T2 o) := fun o T2 n2 => same_upd n2
        refine ⟨_, rfl, _, .ty "tuple", _, _, true, rfl, .ty _, ty_sqT ha, kit_ty (show kitB "tuple" "tuple" = some true by decide +kernel), _, rfl, iteF ⟨_, rfl, a, _, rfl, .inr ha, (by show 3 ≤ sizeLine; decide), fun T2 n2 => ⟨T2, _, rfl, .inr (SqT.of upd_same), rfl, rfl, _, rfl, ?_⟩⟩⟩
        have s2 := same_upd n2 (o := .tup [.int 1, .int 2, .int 4])
        have ha2 := sameT s2 ha
        refine iteF ⟨_, rfl, a, _, 0, u0, rfl, rfl, ha2, atI_nat (j := 0) rfl, _, rfl, u0, .ty "str", _, _, _, rfl, .ty _, ty_flat k0.fl, kit_str k0.fl, _, rfl, ?_⟩
        cases e : isStr u0 with
        | false =>
          have en : lnB (.l4 u0 u1 u2 o) = false := by
            cases u0 <;> first | rfl | cases e
          rw [en] at go
          exact iteT (go _ s2)
        | true =>
          obtain ⟨z, rfl⟩ : ∃ z, u0 = .str z := by
            cases u0 <;> first | exact ⟨_, rfl⟩ | cases e
          have en : lnB (.l4 (.str z) u1 u2 o) = (amtV u1 && (givB z u2 && tksB o)) := rfl
          rw [en] at go
          refine iteF ⟨_, rfl, a, _, rfl, .inr ha2, rfl, _, rfl, iteF ⟨_, rfl, a, _, 1, u1, rfl, rfl, ha2, atI_nat (j := 1) rfl, u1, rfl, k1.fl, _, rfl, ?_⟩⟩
          cases e2 : amtV u1 with
          | false =>
            rw [e2] at go
            exact iteT (go _ s2)
          | true =>
            rw [e2, Bool.true_and] at go
            refine iteF ⟨_, rfl, a, _, rfl, .inr ha2, rfl, _, rfl, iteF ⟨_, rfl, _, rfl, a, _, 2, u2, rfl, rfl, ha2, atI_nat (j := 2) rfl, z, u2, rfl, k2, fun H3 s3 => ⟨_, rfl, ?_⟩⟩⟩
            cases e3 : givB z u2 with
            | false =>
              rw [e3] at go
              exact iteF (go _ (s2.trans s3))
            | true =>
              rw [e3, Bool.true_and] at go
              exact iteT ⟨_, rfl, a, _, 3, t, rfl, rfl, sameT s3 ha2, atI_nat (j := 3) rfl, t, o, rfl, kt.same (s2.trans s3), fun H4 s4 => go _ ((s2.trans s3).trans s4)⟩
def spTaw (K : PySem.W.Frag) : Sp := fun vs H Q _ => ∃ (a b : Addr) (xs ys : List V) (g : Int) (r : Bool), vs = [.ref a, .ref b] ∧ SqT K H a xs ∧ SqT K H b ys ∧ ys[1]? = some (.int g) ∧ ((xs.length = 1 ∧ r = true) ∨ (xs.length ≠ 1 ∧ ∃ n, xs[1]? = some (.int n) ∧ r = decide (n = g))) ∧ Q (.bl r) H
abbrev nTaw : List Str := ["line", "gift"]
theorem scTaw : FnScope nTaw ["line", "gift"] (defScope sTaw) := ⟨rfl, rfl, rfl, by decide +kernel, rfl, by decide +kernel, by decide +kernel⟩
theorem ok_away {f : Addr} {fd : FuncData} (F : Fun K "_takes_away" "_takes_away" sTaw f fd) (T : Txt mg) : FnOk P w K mg base CX0 1 f fd ["line", "gift"] (spTaw K) := by
  refine F.ok scTaw (fun vs H Q E h => ?_) (fun cdv A outer s H vs Q E hr h => ?_)
  · obtain ⟨a, b, xs, ys, g, r, rfl, _⟩ := h
    rfl
  · obtain ⟨a, b, xs, ys, g, r, rfl, ha, hb, hg, h, go⟩ := h
    refine ⟨_, (pss_one (ps_ret (pe_or (pe_cmpR op_eq (pe_callB call_len_seq (by rfl) T.len PySem.boot_len (pa_cons (pv 0) pa_nil)) pe_int (nomark _)) (pe_one (pe_cmpR op_eq (pe_ix ix_tup (pv 0) pe_int (fun _ _ => rfl)) (pe_ix ix_tup (pv 1) pe_int (fun _ _ => rfl)) (nomark _)))))), ?_⟩
    refine ⟨_, rfl, a, xs, rfl, .inr ha, rfl, _, rfl, ?_⟩
    rcases h with ⟨hl, rfl⟩ | ⟨hl, n, hn, rfl⟩
    · rw [decide_eq_true (show V.int (xs.length : Int) = .int 1 by rw [hl]; rfl)]
      exact iteT go
    · rw [decide_eq_false (fun e => hl (by have := V.int.inj e; omega))]
      refine iteF ⟨_, rfl, a, xs, 1, _, rfl, rfl, ha, atI_nat (j := 1) hn, _, rfl, b, ys, 1, _, rfl, rfl, hb, atI_nat (j := 1) hg, rfl, ?_⟩
      rw [show decide (V.int n = V.int g) = decide (n = g) from decide_eq_decide.mpr ⟨V.int.inj, congrArg V.int⟩]
      exact go
end
end K2
namespace K2
open PySem L2 PyProof.Rows G
/-- the __init__ of an own error that keeps one field -/
def spEI (K : PySem.W.Frag) (nm : Str) : Sp := fun vs H Q _ => ∃ (a C : Addr) (v : V), vs = [.ref a, v] ∧ OexC K C ∧ PySem.W.findIn K (.ref C) nm = some none ∧ H a = some (exo a C none) ∧ ∀ dx, H dx = none → dx ≠ a → Q .non (upd (upd H dx (exd dx [(nm, v)])) a (exo a C (some dx)))
/-- an own error of one field -/
structure XT (P : Program) (w : World) (K : PySem.W.Frag) (mg : Str → Option Value) (base : Heap) (x nm : Str) (C : Addr) : Prop where
  o : OexC K C
  g : mg x = some (.ref C)
  n : PySem.W.findIn K (.ref C) nm = some none
  i : ∃ (fI : Addr) (fd : FuncData), PySem.W.findIn K (.ref C) "__init__" = some (some (.ref fI)) ∧ PySem.W.typeIn K (.ref fI) = some (.type "function") ∧ Binds K fd ["self", nm] [] ∧ FnOk P w K mg base CX0 1 fI fd ["self", nm] (spEI K nm)
structure HasM (P : Program) (w : World) (K : PySem.W.Frag) (mg : Str → Option Value) (base : Heap) (CX : CXT) (C : Addr) (x : Str) (ps : List Str) (k : Nat) (sp : Sp) : Prop where
  ok : ∃ (f : Addr) (fd : FuncData), Meth K C x f ∧ Binds K fd ps [] ∧ FnOk P w K mg base CX k f fd ps sp
section
variable {P : Program} {w : World} {K : PySem.W.Frag} {mg : Str → Option Value} {base : Heap}
theorem scRulI : FnScope ["self", "why"] ["self", "why"] (defScope sRulI) := ⟨rfl, rfl, rfl, by decide +kernel, rfl, by decide +kernel, by decide +kernel⟩
theorem ok_RulI {f : Addr} {fd : FuncData} (F : Fun K "__init__" "BadRules.__init__" sRulI f fd) : FnOk P w K mg base CX0 1 f fd ["self", "why"] (spEI K "why") := by
  refine F.ok scRulI (fun vs H Q E h => ?_) (fun cdv A outer s H vs Q E hr h => ?_)
  · obtain ⟨a, C, v, rfl, _⟩ := h
    rfl
  · obtain ⟨a, C, v, rfl, o, n, ha, go⟩ := h
    refine ⟨_, pss_one (ps_ost (pv 0) (pv 1)), ?_⟩
    exact ⟨_, rfl, _, rfl, a, C, rfl, o, n, .inl ⟨ha, fun dx h ne => go dx h ne⟩⟩
theorem scWilI : FnScope ["self", "at"] ["self", "at"] (defScope sWilI) := ⟨rfl, rfl, rfl, by decide +kernel, rfl, by decide +kernel, by decide +kernel⟩
theorem ok_WilI {f : Addr} {fd : FuncData} (F : Fun K "__init__" "BadWill.__init__" sWilI f fd) : FnOk P w K mg base CX0 1 f fd ["self", "at"] (spEI K "at") := by
  refine F.ok scWilI (fun vs H Q E h => ?_) (fun cdv A outer s H vs Q E hr h => ?_)
  · obtain ⟨a, C, v, rfl, _⟩ := h
    rfl
  · obtain ⟨a, C, v, rfl, o, n, ha, go⟩ := h
    refine ⟨_, pss_one (ps_ost (pv 0) (pv 1)), ?_⟩
    exact ⟨_, rfl, _, rfl, a, C, rfl, o, n, .inl ⟨ha, fun dx h ne => go dx h ne⟩⟩
theorem scEsxI : FnScope ["self", "why"] ["self", "why"] (defScope sEsxI) := ⟨rfl, rfl, rfl, by decide +kernel, rfl, by decide +kernel, by decide +kernel⟩
theorem ok_EsxI {f : Addr} {fd : FuncData} (F : Fun K "__init__" "BadEstate.__init__" sEsxI f fd) : FnOk P w K mg base CX0 1 f fd ["self", "why"] (spEI K "why") := by
  refine F.ok scEsxI (fun vs H Q E h => ?_) (fun cdv A outer s H vs Q E hr h => ?_)
  · obtain ⟨a, C, v, rfl, _⟩ := h
    rfl
  · obtain ⟨a, C, v, rfl, o, n, ha, go⟩ := h
    refine ⟨_, pss_one (ps_ost (pv 0) (pv 1)), ?_⟩
    exact ⟨_, rfl, _, rfl, a, C, rfl, o, n, .inl ⟨ha, fun dx h ne => go dx h ne⟩⟩
/-- the making of such an error -/
theorem mk_read {C : Addr} {nm : Str} {v : V} {H1 : Hp} {Q : XK} (o : OexC K C) (n : PySem.W.findIn K (.ref C) nm = some none)
    (go : ∀ d H', H1 d = none → Same H1 H' → H' d = some (.xd [(nm, v)]) → Q (.ref C) (some d) H') :
    ([v] : List V).length ≤ 1000 ∧ ∀ a, H1 a = none → spEI K nm (.ref a :: ([v] ++ [])) (upd H1 a (exo a C none)) (fun v H2 => v = .non ∧ ∃ (d : Addr) (fs : List (Str × V)), H2 a = some (exo a C (some d)) ∧ H2 d = some (exd d fs) ∧ H1 d = none ∧ Q (.ref C) (some d) (upd (del H2 a) d (.xd fs))) (fun _ _ _ => False) := by
  refine ⟨(by show 1 ≤ 1000; omega), fun a ha => ⟨a, C, v, rfl, o, n, upd_same, fun dx hdx ne => ⟨rfl, dx, [(nm, v)], upd_same, ?_, ?_, ?_⟩⟩⟩
  · rw [upd_ne ne, upd_same]
  · rw [upd_ne ne] at hdx
    exact hdx
  · rw [upd_ne ne] at hdx
    refine go dx _ hdx (fun b u hb => ?_) upd_same
    have e1 : b ≠ dx := ne_of_none hb hdx
    have e2 : b ≠ a := ne_of_none hb ha
    rw [upd_ne e1, del_ne e2, upd_ne e2, upd_ne e1, upd_ne e2]
    exact hb
end
end K2
namespace K2
open PySem L2 PyProof.Rows G
/-- a line of a will -/
inductive Wl where
  | gift (w : Str) (n : Int) (x : V) (ts : List Str) | rev (n : Int) | all
def Wl.ln : Wl → LnV
  | .gift w n x ts => .l4 (.str w) (.int n) x (some (ts.map V.str))
  | .rev n => .l2 (.str "revoke") (.int n)
  | .all => .l1 (.str "revoke")
def Wl.num : Wl → Int
  | .gift _ n _ _ => n
  | .rev n => n
  | .all => 0
def isG : Wl → Bool
  | .gift .. => true
  | _ => false
def tak : Wl → Wl → Bool
  | .all, _ => true
  | l, g => decide (l.num = g.num)
def stp (acc : List (Addr × Wl)) (p : Addr × Wl) : List (Addr × Wl) := acc.filter (fun g => !tak p.2 g.2) ++ if isG p.2 then [p] else []
def stn (ps : List (Addr × Wl)) : List (Addr × Wl) := ps.foldl stp []
theorem stn_snoc (ps : List (Addr × Wl)) (p : Addr × Wl) : stn (ps ++ [p]) = stp (stn ps) p := by
  unfold stn
  rw [List.foldl_append]
  rfl
theorem stn_len (ps : List (Addr × Wl)) : (stn ps).length ≤ ps.length := by
  suffices h : ∀ (ps acc : List (Addr × Wl)), (ps.foldl stp acc).length ≤ acc.length + ps.length by
    have := h ps []
    rw [List.length_nil, Nat.zero_add] at this
    exact this
  intro ps
  induction ps with
  | nil => exact fun acc => Nat.le_refl _
  | cons p r ih =>
    intro acc
    have h1 := ih (stp acc p)
    have h2 : (stp acc p).length ≤ acc.length + 1 := by
      unfold stp
      rw [List.length_append]
      have := List.length_filter_le (fun g : Addr × Wl => !tak p.2 g.2) acc
      have : (if isG p.2 then [p] else []).length ≤ 1 := by split <;> simp
      omega
    show (r.foldl stp (stp acc p)).length ≤ _
    rw [List.length_cons]
    omega
theorem stn_mem {ps : List (Addr × Wl)} {g : Addr × Wl} (h : g ∈ stn ps) : g ∈ ps ∧ isG g.2 = true := by
  suffices k : ∀ (ps acc : List (Addr × Wl)), g ∈ ps.foldl stp acc → g ∈ acc ∨ (g ∈ ps ∧ isG g.2 = true) by
    rcases k ps [] h with z | z
    · cases z
    · exact z
  intro ps
  induction ps with
  | nil => exact fun acc h => .inl h
  | cons p r ih =>
    intro acc h
    rcases ih (stp acc p) h with z | z
    · unfold stp at z
      rcases List.mem_append.mp z with z | z
      · exact .inl (List.mem_filter.mp z).1
      · split at z
        · next c =>
          rw [List.mem_singleton.mp z]
          exact .inr ⟨List.mem_cons_self, c⟩
        · cases z
    · exact .inr ⟨List.mem_cons_of_mem _ z.1, z.2⟩
def WlIt (K : PySem.W.Frag) (H : Hp) (v : V) : Option Wl → Prop
  | some w => ∃ q, v = .ref q ∧ LnAt K H q w.ln ∧ lnB w.ln = true
  | none => ∃ o, LnO K H v o ∧ lnOB o = false
theorem WlIt.same {K : PySem.W.Frag} {H H' : Hp} {v : V} {o : Option Wl} (h : WlIt K H v o) (s : Same H H') : WlIt K H' v o := by
  cases o with
  | some w =>
    obtain ⟨q, e, h, g⟩ := h
    exact ⟨q, e, h.same s, g⟩
  | none =>
    obtain ⟨o, h, g⟩ := h
    exact ⟨o, h.same s, g⟩
/-- what is read of a line -/
theorem ln_seq {K : PySem.W.Frag} {H : Hp} {q : Addr} {l : Wl} (h : LnAt K H q l.ln) (g : lnB l.ln = true) : ∃ (xs : List V) (z : Str), SqT K H q xs ∧ xs[0]? = some (.str z) ∧ (decide (V.str z = .str "revoke") = !isG l) ∧ ((l = .all ∧ xs.length = 1) ∨ (l ≠ .all ∧ xs.length ≠ 1 ∧ xs[1]? = some (.int l.num))) := by
  cases l with
  | gift w n x ts =>
    obtain ⟨t, h1, _⟩ := h
    refine ⟨_, w, h1, rfl, ?_, .inr ⟨(fun e => by cases e), (by show (4 : Nat) ≠ 1; decide), rfl⟩⟩
    have g' : (amtV (.int n) && (givB w x && tksB (some (ts.map V.str)))) = true := g
    rw [Bool.and_eq_true, Bool.and_eq_true] at g'
    refine decide_eq_false fun e => ?_
    have := g'.2.1
    rw [V.str.inj e] at this
    have no : givB ("revoke" : Str) x = false := by
      unfold givB
      rw [if_neg (by decide +kernel), if_neg (by decide +kernel), decide_eq_false (by decide +kernel)]
      rfl
    rw [no] at this
    cases this
  | rev n => exact ⟨_, "revoke", h.1, rfl, decide_eq_true rfl, .inr ⟨(fun e => by cases e), (by show (2 : Nat) ≠ 1; decide), rfl⟩⟩
  | all => exact ⟨_, "revoke", h.1, rfl, decide_eq_true rfl, .inl ⟨rfl, rfl⟩⟩
theorem tak_num {l g : Wl} (h : l ≠ .all) : tak l g = decide (l.num = g.num) := by
  cases l with
  | all => exact absurd rfl h
  | gift w n x ts => rfl
  | rev n => rfl
def Goods (ps : List (Addr × Wl)) (xs : List V) (os : List (Option Wl)) : Prop := ∀ (j : Nat) (p : Addr × Wl), ps[j]? = some p → xs[j]? = some (.ref p.1) ∧ os[j]? = some (some p.2)
section
variable {P : Program} {w : World} {K : PySem.W.Frag} {mg : Str → Option Value} {base : Heap}
def spSta (K : PySem.W.Frag) (CW : Addr) : Sp := fun vs H Q E => ∃ (a : Addr) (xs : List V) (os : List (Option Wl)), vs = [.ref a] ∧ SqL K H a xs ∧ xs.length ≤ 900 ∧ os.length = xs.length ∧ (∀ (i : Nat) (x : V) (o : Option Wl), xs[i]? = some x → os[i]? = some o → WlIt K H x o) ∧
  (60 < xs.length → ∀ d H', Same H H' → H d = none → H' d = some (.xd [("at", .int 60)]) → E (.ref CW) (some d) H') ∧
  (∀ (i : Nat) (ps : List (Addr × Wl)), xs.length ≤ 60 → os[i]? = some none → ps.length = i → Goods ps xs os → ∀ d H', Same H H' → H d = none → H' d = some (.xd [("at", .int i)]) → E (.ref CW) (some d) H') ∧
  (∀ ps : List (Addr × Wl), xs.length ≤ 60 → ps.length = xs.length → Goods ps xs os → ∀ l H', Same H H' → H l = none → H' l = some (.lst ((stn ps).map fun p => .ref p.1)) → Q (.ref l) H')
abbrev nSta : List Str := ["will", "gifts", "at", "line", "gift"]
theorem scSta : FnScope nSta ["will"] (defScope sSta) := ⟨rfl, rfl, rfl, by decide +kernel, rfl, by decide +kernel, by decide +kernel⟩
theorem ok_standing {f : Addr} {fd : FuncData} (F : Fun K "standing" "standing" sSta f fd) (T : Txt mg) {CW : Addr} (XW : XT P w K mg base "BadWill" "at" CW) (TL : Has P w K mg base CX0 "_is_line" ["value"] 3 (spLin K)) (TA : Has P w K mg base CX0 "_takes_away" ["line", "gift"] 1 (spTaw K)) : FnOk P w K mg base (L2.CX P w) 4 f fd ["will"] (spSta K CW) := by
  obtain ⟨t1, mMl⟩ := T.lines
  obtain ⟨fL, fdL, mL, kL, bL, GL⟩ := TL.ok
  obtain ⟨fA, fdA, mA, kA, bA, GA⟩ := TA.ok
  obtain ⟨fW, fdW, iW, tW, bW, GW⟩ := XW.i
  refine F.okX scSta (fun vs H Q E h => ?_) (fun cdv A outer s H vs Q E hr h => ?_)
  · obtain ⟨a, xs, os, rfl, _⟩ := h
    rfl
  · obtain ⟨a, xs, os, rfl, ha, hz, ho, hI, g1, g2, g3⟩ := h
    refine ⟨_, (pss_cons (ps_if (pt_cmpR op_gt (pe_callB call_len_seq (by rfl) T.len PySem.boot_len (pa_cons (pv 0) pa_nil)) (pe_glob (v := .int 60) (by rfl) mMl ⟨_, rfl⟩) (nomark _)) (pss_one (ps_raise rfl (takes_of rfl rfl rfl rfl) (pmk_oex XW.o iW tW GW (hr.mono (by decide)) bW .nil pass0 (by rfl) XW.g (pa_cons (pe_glob (v := .int 60) (by rfl) mMl ⟨_, rfl⟩) pa_nil)))) pss_nil)
      (pss_cons (ps_set (i := 1) scSta.nd rfl (.inl rfl) (pe_lst pa_nil))
      (pss_cons (ps_for (passes_of rfl) rfl (pi_enum (by rfl) T.enum (pa_cons (pv 0) pa_nil)) (pg_tup (n := 2) rfl (pgs_cons (pg_name (i := 2) scSta.nd rfl (.inl rfl)) (pgs_cons (pg_name (i := 3) scSta.nd rfl (.inr rfl)) pgs_nil))) (pss_cons (ps_if (pt_not (pt_val (pe_call GL (hr.mono (by decide)) (by rfl) mL kL bL .nil pass0 (pa_cons (pv 3) pa_nil)))) (pss_one (ps_raise rfl (takes_of rfl rfl rfl rfl) (pmk_oex XW.o iW tW GW (hr.mono (by decide)) bW .nil pass0 (by rfl) XW.g (pa_cons (pv 2) pa_nil)))) pss_nil)
      (pss_cons (ps_setLc (i := 1) (own := [("gift", 4)]) (g := gName 4) rfl scSta.nd rfl rfl (sw_true rfl rfl rfl (by decide +kernel)) (pi_list (pv 1)) (blkOk_by (N := nSta) (sc := defScope sSta) (by decide +kernel)) (fun _ _ _ _ _ => (pg_name (i := 4) scSta.nd rfl (.inl rfl) (.inr rfl))) (fun _ _ _ _ _ => pts_one (pt_not (pt_val (pe_call GA (hr.mono (by decide)) (by rfl) mA kA bA .nil pass0 (pa_cons (pv 3) (pa_cons (pv 4) pa_nil)))))) (fun _ _ _ _ _ => (pv 4)))
      (pss_one (ps_if (pt_cmpR op_ne (pe_ix ix_tup (pv 3) pe_int (fun _ _ => rfl)) pe_str (nomark _)) (pss_one (ps_expr (pe_bm PySem.F.plainAttrs_list PySem.F.slot_list_append PySem.F.type_list_append mt_append (pv 1) (pa_cons (pv 3) pa_nil)))) pss_nil)))))
      (pss_one (ps_ret (pv 1)))))), ?_⟩
    refine ⟨_, rfl, a, xs, rfl, .inl ha, _, _, rfl, rfl, _, rfl, ite2 (fun c => ?_) (fun c => ?_)⟩
    · have c1 : 60 < xs.length := by
        have : (60 : Int) < (xs.length : Int) := of_decide_eq_true c
        omega
      exact mk_read XW.o XW.n fun d H' nd sm e => g1 c1 d H' sm nd e
    · have c1 : xs.length ≤ 60 := by
        have : ¬ (60 : Int) < (xs.length : Int) := fun z => c (decide_eq_true z)
        omega
      refine ⟨Nat.zero_le _, fun G0 nG0 => ?_⟩
      refine ⟨_, rfl, a, xs, rfl, (same_upd nG0).seq ha, for_it walk_enum (fun i σ Hy => ∃ (y2 y3 : Option V) (gA : Addr) (ps : List (Addr × Wl)), σ = [some (.ref a), some (.ref gA), y2, y3, none] ∧ ps.length = i ∧ Goods ps xs os ∧ Same H Hy ∧ H gA = none ∧ Hy gA = some (.lst ((stn ps).map fun p => .ref p.1)))
        ⟨none, none, G0, [], rfl, rfl, (fun j p h => by cases h), same_upd nG0, nG0, upd_same⟩ (fun i σ Hy _ ⟨_, _, _, _, _, _, _, k, _⟩ => k.seq ha) ?_ ?_⟩
      · rintro i v σ Hy H' hi ⟨y2, y3, gA, ps, rfl, lp, gd, sy, nG, eG⟩ ⟨T1, x1, lv, rfl, nT, rfl, e1, e2⟩
        obtain rfl : V.int (i : Int) = x1 := Option.some.inj e1
        obtain ⟨oo, eo⟩ : ∃ oo, os[i]? = some oo := ⟨_, List.getElem?_eq_getElem (by rw [ho]; exact hi)⟩
        have smT : Same Hy (upd Hy T1 (.tup [.int i, lv])) := same_upd nT
        have sy1 := sy.trans smT
        have it := (hI i lv oo e2 eo).same sy1
        refine ⟨T1, _, rfl, SqT.of upd_same, rfl, _, _, rfl, _, _, rfl, rfl, ?_⟩
        cases oo with
        | none =>
          obtain ⟨ln, h1, h2⟩ := it
          refine ⟨_, rfl, lv, ln, rfl, h1, fun H2 s2 => ⟨_, rfl, ?_⟩⟩
          rw [h2]
          exact iteT ⟨_, rfl, mk_read XW.o XW.n fun d H' nd sm e => g2 i ps c1 eo lp gd d H' ((sy1.trans s2).trans sm) ((sy1.trans s2).free nd) e⟩
        | some l =>
          obtain ⟨q, rfl, hq, hb⟩ := it
          refine ⟨_, rfl, .ref q, some l.ln, rfl, ⟨q, rfl, hq⟩, fun H2 s2 => ⟨_, rfl, ?_⟩⟩
          rw [show lnOB (some l.ln) = true from hb]
          have sy2 := sy1.trans s2
          have eG2 : H2 gA = some (.lst ((stn ps).map fun p => .ref p.1)) := s2 _ _ (smT _ _ eG)
          have gd2 : Goods (ps ++ [(q, l)]) xs os := fun j p h => by
            rcases Nat.lt_or_ge j ps.length with lt | ge
            · rw [List.getElem?_append_left lt] at h
              exact gd j p h
            · rw [List.getElem?_append_right ge] at h
              cases k : j - ps.length with
              | zero =>
                rw [k] at h
                obtain rfl := Option.some.inj h
                rw [show j = i by omega]
                exact ⟨e2, eo⟩
              | succ m => rw [k] at h; cases h
          obtain ⟨ls, z, hls, hl0, hrv, hl1⟩ := ln_seq (hq.same s2) hb
          refine iteF ⟨_, rfl, gA, rfl, ⟨_, SqL.of eG2⟩, fun D nD => lc_it walk_list (fun j Hz => Same H2 Hz ∧ Hz D = some (.lst ((((stn ps).take j).filter fun g => !tak l g.2).map fun p => .ref p.1))) ⟨same_upd nD, upd_same⟩ (fun j Hz _ h => SqL.of (h.1 _ _ eG2)) ?_ ?_⟩
          · rintro j gv Hz Hz' hj ⟨k1, k2⟩ ⟨rfl, eg⟩
            rw [List.getElem?_map] at eg
            obtain ⟨⟨gq, gl⟩, hg, rfl⟩ := Option.map_eq_some_iff.mp eg
            have gm := stn_mem (List.mem_of_getElem? hg)
            obtain ⟨jj, hjj⟩ := List.mem_iff_getElem?.mp gm.1
            obtain ⟨a1, a2⟩ := gd jj _ hjj
            obtain ⟨q', e', hq', hb'⟩ := hI jj _ _ a1 a2
            obtain rfl : gq = q' := V.ref.inj e'
            obtain ⟨gs, z', hgs, _, _, hg1⟩ := ln_seq (hq'.same (sy2.trans k1)) hb'
            have hgi : gs[1]? = some (.int gl.num) := by
              rcases hg1 with ⟨ea, _⟩ | ⟨_, _, h⟩
              · have := gm.2
                rw [show gl = .all from ea] at this
                cases this
              · exact h
            have step : ((stn ps).take (j + 1)).filter (fun g => !tak l g.2) = ((stn ps).take j).filter (fun g => !tak l g.2) ++ if (!tak l gl) = true then [(gq, gl)] else [] := by
              rw [List.take_add_one, hg, List.filter_append]
              congr 1
              show List.filter _ [(gq, gl)] = _
              rw [List.filter_cons, List.filter_nil]
            refine ⟨rfl, _, rfl, _, rfl, q, gq, ls, gs, gl.num, tak l gl, rfl, sameT k1 hls, hgs, hgi, ?_, _, rfl, ?_⟩
            · rcases hl1 with ⟨rfl, hone⟩ | ⟨hna, hn1, hnum⟩
              · exact .inl ⟨hone, rfl⟩
              · exact .inr ⟨hn1, l.num, hnum, tak_num hna⟩
            · cases eb : tak l gl with
              | true =>
                rw [eb, show (if (!true) = true then [(gq, gl)] else []) = ([] : List (Addr × Wl)) from if_neg (by decide), List.append_nil] at step
                refine iteF ⟨k1, ?_⟩
                rw [step]
                exact k2
              | false =>
                rw [eb, show (if (!false) = true then [(gq, gl)] else []) = [(gq, gl)] from if_pos rfl] at step
                refine iteT ⟨_, rfl, _, k2, ?_, fun b o hb => ?_, ?_⟩
                · rw [List.length_map]
                  have h1 := List.length_filter_le (fun g : Addr × Wl => !tak l g.2) ((stn ps).take j)
                  rw [List.length_take] at h1
                  have := stn_len ps
                  exact small1000 (by omega)
                · rw [upd_ne (ne_of_none hb nD)]
                  exact k1 b o hb
                · rw [upd_same, step, List.map_append]
                  rfl
          · rintro H3 ⟨k1, k2⟩
            rw [List.length_map, List.take_length] at k2
            refine ⟨_, rfl, q, ls, 0, .str z, rfl, rfl, sameT k1 hls, atI_nat (j := 0) hl0, rfl, _, rfl, ?_⟩
            rw [hrv]
            have stE : stn (ps ++ [(q, l)]) = (stn ps).filter (fun g => !tak l g.2) ++ if isG l then [(q, l)] else [] := stn_snoc _ _
            cases eg : isG l with
            | false =>
              rw [eg, show (if false = true then [(q, l)] else []) = ([] : List (Addr × Wl)) from if_neg (by decide), List.append_nil] at stE
              refine iteF ⟨_, _, D, ps ++ [(q, l)], rfl, by rw [List.length_append, lp]; rfl, gd2, sy2.trans k1, sy2.free nD, ?_⟩
              rw [stE]
              exact k2
            | true =>
              rw [eg, show (if true = true then [(q, l)] else []) = [(q, l)] from if_pos rfl] at stE
              refine iteT ⟨_, rfl, .inl ⟨rfl, _, SqL.of k2⟩, _, rfl, D, _, _, rfl, rfl, k2, ?_, _, _, D, ps ++ [(q, l)], rfl, by rw [List.length_append, lp]; rfl, gd2, fun b o hb => ?_, sy2.free nD, ?_⟩
              · rw [List.length_map]
                have h1 := List.length_filter_le (fun g : Addr × Wl => !tak l g.2) (stn ps)
                have := stn_len ps
                exact small1000 (by omega)
              · rw [upd_ne (ne_of_none (sy2 b o hb) nD)]
                exact (sy2.trans k1) b o hb
              · rw [upd_same, stE, List.map_append]
                rfl
      · rintro σ Hy ⟨y2, y3, gA, ps, rfl, lp, gd, sy, nG, eG⟩
        exact ⟨_, rfl, g3 ps c1 lp gd gA Hy sy nG eG⟩
end
end K2
namespace K2
open PySem L2 PyProof.Rows G
/-- all but the new object stays -/
def Kp (p : Addr) (H H' : Hp) : Prop := ∀ b o, H b = some o → b ≠ p → H' b = some o
theorem Kp.same {p : Addr} {H H1 H2 : Hp} (k : Kp p H H1) (s : Same H1 H2) : Kp p H H2 := fun b o h n => s b o (k b o h n)
theorem Kp.free {p a : Addr} {H H' : Hp} {o : HO} (k : Kp p H H') (hp : H' p = some o) (h : H' a = none) : H a = none := by
  cases e : H a with
  | none => rfl
  | some u =>
    by_cases ap : a = p
    · rw [ap, hp] at h
      cases h
    · rw [k a u e ap] at h
      cases h
theorem Kp.upd {p a : Addr} {H H' : Hp} {o : HO} (k : Kp p H H') (h : H a = none ∨ a = p) : Kp p H (upd H' a o) := fun b u hb n => by
  rcases h with h | h
  · rw [upd_ne (ne_of_none hb h)]
    exact k b u hb n
  · rw [upd_ne (fun e => n (e.trans h))]
    exact k b u hb n
theorem Kp.sq {K : PySem.W.Frag} {p a : Addr} {H H' : Hp} {xs : List V} {C dx : Addr} {fs : List (Str × V)} (k : Kp p H H') (hp : H p = some (.ins C dx fs)) (h : SqT K H a xs) : SqT K H' a xs := by
  rcases h with (h | ⟨o, h⟩) | h
  · exact .inl (.inl (k _ _ h (ne_of h hp (by intro e; cases e))))
  · exact .inl (.inr ⟨o, k _ _ h (ne_of h hp (by intro e; cases e))⟩)
  · exact .inr h
theorem Kp.nt {p : Addr} {H H' : Hp} {v : V} {C dx : Addr} {fs : List (Str × V)} (k : Kp p H H') (hp : H p = some (.ins C dx fs)) (h : NoTup H v) : NoTup H' v := by
  rcases h with h | ⟨a, xs, e, h⟩
  · exact .inl h
  · exact .inr ⟨a, xs, e, k _ _ h (ne_of h hp (by intro e; cases e))⟩
theorem Kp.it {K : PySem.W.Frag} {f : List V → Bool} {p : Addr} {H H' : Hp} {v : V} {o : Option (List V)} {C dx : Addr} {fs : List (Str × V)} (k : Kp p H H') (hp : H p = some (.ins C dx fs)) (h : ItB K f H v o) : ItB K f H' v o := by
  cases o with
  | some ys =>
    obtain ⟨q, e, h1, h2⟩ := h
    exact ⟨q, e, k.sq hp h1, h2⟩
  | none =>
    rcases h with ⟨q, ys, e, h1, h2⟩ | h
    · exact .inl ⟨q, ys, e, k.sq hp h1, h2⟩
    · exact .inr (k.nt hp h)
theorem putF_len (f : Str) (v : V) : ∀ fs : List (Str × V), (putF f v fs).length ≤ fs.length + 1
  | [] => Nat.le_refl _
  | kv :: r => by
    show (if kv.1 = f then (kv.1, v) :: r else kv :: putF f v r).length ≤ r.length + 1 + 1
    split
    · simp
    · have := putF_len f v r
      simp only [List.length_cons]
      omega
/-! the mirror of an estate -/
def wk (ws : List (Str × Int)) : List (Key × V) := ws.map fun p => (Sum.inr p.1, V.int p.2)
theorem wk_snoc (ws : List (Str × Int)) (n : Str) (i : Int) : wk (ws ++ [(n, i)]) = wk ws ++ [(Sum.inr n, V.int i)] := by
  unfold wk
  rw [List.map_append]
  rfl
theorem wk_val (ws : List (Str × Int)) (n : Str) : valV (wk ws) (Sum.inr n : Key) = ((ws.find? fun p => decide (p.1 = n)).map fun p => V.int p.2) := by
  induction ws with
  | nil => rfl
  | cons p r ih =>
    show valV ((Sum.inr p.1, V.int p.2) :: wk r) _ = _
    by_cases e : p.1 = n
    · rw [valV_pos (show (Sum.inr p.1 : Key) = Sum.inr n by rw [e]), List.find?_cons, decide_eq_true e]
      rfl
    · rw [valV_neg (fun z => e (Sum.inr.inj z)), ih, List.find?_cons, decide_eq_false e]
theorem wk_some (ws : List (Str × Int)) (n : Str) : (valV (wk ws) (Sum.inr n : Key)).isSome = decide (n ∈ ws.map (·.1)) := by
  rw [wk_val, Option.isSome_map, Bool.eq_iff_iff, List.find?_isSome, decide_eq_true_eq, List.mem_map]
  constructor
  · rintro ⟨p, h, e⟩
    exact ⟨p, h, of_decide_eq_true e⟩
  · rintro ⟨p, h, e⟩
    exact ⟨p, h, decide_eq_true e⟩
theorem wk_len (ws : List (Str × Int)) : (wk ws).length = ws.length := List.length_map _
def tc (p : Str × Int) : List V := [.str p.1, .int p.2]
def dc (p : Str × Int × Int) : List V := [.str p.1, .int p.2.1, .int p.2.2]
def thRun : List (Str × Int) → List (Option (Str × Int)) → Str ⊕ List (Str × Int)
  | acc, [] => .inr acc
  | _, none :: _ => .inl "things"
  | acc, some p :: r => if p.1 ∈ acc.map (·.1) then .inl "twice" else thRun (acc ++ [p]) r
def estOut (c : V) (os : List (Option (Str × Int))) (ds : List (Option (Str × Int × Int))) : Str ⊕ List (Str × Int) :=
  if amtV c = false then .inl "coins" else match thRun [] os with
    | .inl w => .inl w
    | .inr ws => if ds.all (·.isSome) then .inr ws else .inl "debts"
def efl (c : Int) (d l : Addr) : List (Str × V) := [("coins", .int c), ("_worths", .ref d), ("_debts", .ref l)]
structure EstAt (C : Addr) (H : Hp) (p : Addr) (c : Int) (ws : List (Str × Int)) (ys : List V) : Prop where
  ex : ∃ dx d l, H p = some (.ins C dx (efl c d l)) ∧ H d = some (.dK (wk ws)) ∧ H l = some (.lst ys)
theorem EstAt.same {C : Addr} {H H' : Hp} {p : Addr} {c : Int} {ws : List (Str × Int)} {ys : List V} (h : EstAt C H p c ws ys) (s : Same H H') : EstAt C H' p c ws ys := by
  obtain ⟨dx, d, l, h1, h2, h3⟩ := h
  exact ⟨dx, d, l, s _ _ h1, s _ _ h2, s _ _ h3⟩
structure ET (K : PySem.W.Frag) (C : Addr) : Prop where
  cl : Cls K C
  n1 : NoAttr K C "coins"
  n2 : NoAttr K C "_worths"
  n3 : NoAttr K C "_debts"
theorem putE2 (c : Int) (d : Addr) : putF ("_worths" : Str) (V.ref d) ([("coins", V.int c)] : List (Str × V)) = ([("coins", V.int c), ("_worths", V.ref d)] : List (Str × V)) := by kernel_rfl
theorem putE3 (c : Int) (d l : Addr) : putF ("_debts" : Str) (V.ref l) ([("coins", V.int c), ("_worths", V.ref d)] : List (Str × V)) = efl c d l := by kernel_rfl
theorem lkE2 (c : Int) (d : Addr) : ([("coins", V.int c), ("_worths", .ref d)] : List (Str × V)).lookup ("_worths" : Str) = some (.ref d) := by kernel_rfl
section
variable {P : Program} {w : World} {K : PySem.W.Frag} {mg : Str → Option Value} {base : Heap}
def spEstI (K : PySem.W.Frag) (C CE : Addr) : Sp := fun vs H Q E => ∃ (p a b dx : Addr) (c : V) (xs ys : List V) (os : List (Option (Str × Int))) (ds : List (Option (Str × Int × Int))), vs = [.ref p, c, .ref a, .ref b] ∧ flatV c = true ∧ H p = some (.ins C dx []) ∧ SqT K H a xs ∧ SqT K H b ys ∧
  os.length = xs.length ∧ ds.length = ys.length ∧ xs.length ≤ 900 ∧ ys.length ≤ 900 ∧ (∀ (i : Nat) (x : V) (o : Option (Str × Int)), xs[i]? = some x → os[i]? = some o → ItB K thingV H x (o.map tc)) ∧ (∀ (i : Nat) (x : V) (o : Option (Str × Int × Int)), ys[i]? = some x → ds[i]? = some o → ItB K debtV H x (o.map dc)) ∧
  (∀ why, estOut c os ds = .inl why → ∀ d H', Kp p H H' → H d = none → H' d = some (.xd [("why", .str why)]) → E (.ref CE) (some d) H') ∧
  (∀ (i : Int) (ws : List (Str × Int)), c = .int i → estOut c os ds = .inr ws → ∀ H', Kp p H H' → EstAt C H' p i ws ys → Q .non H')
abbrev nEstI : List Str := ["self", "coins", "things", "debts", "thing", "debt"]
theorem scEstI : FnScope nEstI ["self", "coins", "things", "debts"] (defScope sEstI) := ⟨rfl, rfl, rfl, by decide +kernel, rfl, by decide +kernel, by decide +kernel⟩
theorem ok_estI {f : Addr} {fd : FuncData} {dvs : List V} {kws : List (Str × V)} (F : FunD K "__init__" "Estate.__init__" (defArgs sEstI) (defBody sEstI) (defScope sEstI) dvs kws f fd) {C CE : Addr} (T : Txt mg) (D : ET K C) (XE : XT P w K mg base "BadEstate" "why" CE) (TA : Has P w K mg base CX0 "is_amount" ["value"] 1 spAmt) (TT : Has P w K mg base CX0 "_is_thing" ["value"] 2 (spIt K thingV)) (TD : Has P w K mg base CX0 "_is_debt" ["value"] 2 (spIt K debtV)) : FnOk P w K mg base (L2.CX P w) 4 f fd ["self", "coins", "things", "debts"] (spEstI K C CE) := by
  obtain ⟨fA, fdA, mA, kA, bA, GA⟩ := TA.ok
  obtain ⟨fT, fdT, mT, kT, bT, GT⟩ := TT.ok
  obtain ⟨fD, fdD, mD, kD, bD, GD⟩ := TD.ok
  obtain ⟨fE, fdE, iE, tE, bE, GE⟩ := XE.i
  refine FunD.ok F scEstI (fun vs H Q E h => ?_) (fun cdv A outer s H vs Q E hr h => ?_)
  · obtain ⟨p, a, b, dx, c, xs, ys, os, ds, rfl, _⟩ := h
    rfl
  · obtain ⟨p, a, b, dx, c, xs, ys, os, ds, rfl, hc, hp, ha, hb, ho, hd, zx, zy, hx, hy, g1, g2⟩ := h
    have hu := hu_of hr
    refine ⟨_, (pss_cons (ps_if (pt_not (pt_val (pe_call GA (hr.mono (by decide)) (by rfl) mA kA bA .nil pass0 (pa_cons (pv 1) pa_nil)))) (pss_one (ps_raise rfl (takes_of rfl rfl rfl rfl) (pmk_oex XE.o iE tE GE (hr.mono (by decide)) bE .nil pass0 (by rfl) XE.g (pa_cons pe_str pa_nil)))) pss_nil)
      (pss_cons (ps_fld (pv 0) (pv 1) rfl)
      (pss_cons (ps_fld (pv 0) pe_dnewK rfl)
      (pss_cons (ps_for (passes_of rfl) rfl (pi_tup (pv 2)) (pg_name (i := 4) scEstI.nd rfl (.inl rfl)) (pss_cons (ps_if (pt_not (pt_val (pe_call GT (hr.mono (by decide)) (by rfl) mT kT bT .nil pass0 (pa_cons (pv 4) pa_nil)))) (pss_one (ps_raise rfl (takes_of rfl rfl rfl rfl) (pmk_oex XE.o iE tE GE (hr.mono (by decide)) bE .nil pass0 (by rfl) XE.g (pa_cons pe_str pa_nil)))) pss_nil)
      (pss_cons (ps_if (pt_cmp (pc_din hu (pe_ix ix_tup (pv 4) pe_int (fun _ _ => rfl)) (pe_fld (pv 0) rfl))) (pss_one (ps_raise rfl (takes_of rfl rfl rfl rfl) (pmk_oex XE.o iE tE GE (hr.mono (by decide)) bE .nil pass0 (by rfl) XE.g (pa_cons pe_str pa_nil)))) pss_nil)
      (pss_one (ps_dput hu (pe_fld (pv 0) rfl) (pe_ix ix_tup (pv 4) pe_int (fun _ _ => rfl)) (pe_ix ix_tup (pv 4) pe_int (fun _ _ => rfl)) rfl)))))
      (pss_cons (ps_for (passes_of rfl) rfl (pi_tup (pv 3)) (pg_name (i := 5) scEstI.nd rfl (.inl rfl)) (pss_one (ps_if (pt_not (pt_val (pe_call GD (hr.mono (by decide)) (by rfl) mD kD bD .nil pass0 (pa_cons (pv 5) pa_nil)))) (pss_one (ps_raise rfl (takes_of rfl rfl rfl rfl) (pmk_oex XE.o iE tE GE (hr.mono (by decide)) bE .nil pass0 (by rfl) XE.g (pa_cons pe_str pa_nil)))) pss_nil)))
      (pss_one (ps_fld (pv 0) (pe_callTy call_list_of (by rfl) T.list (by decide +kernel) (pa_cons (pv 3) pa_nil)) rfl))))))), ?_⟩
    refine ⟨_, rfl, c, rfl, hc, _, rfl, ?_⟩
    cases ec : amtV c with
    | false =>
      have eo : estOut c os ds = .inl "coins" := if_pos ec
      exact iteT (mk_read XE.o XE.n fun d H' nd sm e => g1 _ eo d H' (fun b o hb _ => sm b o hb) nd e)
    | true =>
      obtain ⟨ci, rfl⟩ : ∃ i, c = .int i := by
        cases c <;> first | exact ⟨_, rfl⟩ | cases ec
      have eo : estOut (.int ci) os ds = match thRun [] os with
          | .inl w => .inl w
          | .inr ws => if ds.all (·.isSome) then .inr ws else .inl "debts" := if_neg (by rw [ec]; decide)
      refine iteF ⟨_, rfl, _, rfl, p, C, dx, _, rfl, hp, D.cl, D.n1, by decide, ?_⟩
      intro d nd1
      have Hd : H d = none := by
        cases e : H d with
        | none => rfl
        | some u =>
          by_cases dp : d = p
          · rw [dp, upd_same] at nd1
            cases nd1
          · rw [upd_ne dp, e] at nd1
            cases nd1
      have dp : d ≠ p := fun e => by rw [e, hp] at Hd; cases Hd
      refine ⟨_, rfl, p, C, dx, _, rfl, (by rw [upd_ne (Ne.symm dp), upd_same]), D.cl, D.n2, Nat.lt_of_le_of_lt (show _ ≤ 1 from Nat.le_trans (putF_len _ _ _) (Nat.succ_le_succ (Nat.le_of_eq List.length_nil))) (by decide), ?_⟩
      generalize eH1 : upd (upd (upd H p _) d _) p _ = H1
      have k1 : Kp p H H1 := by
        rw [← eH1]
        exact Kp.upd (Kp.upd (Kp.upd (fun b o h _ => h) (.inr rfl)) (.inl Hd)) (.inr rfl)
      have p1 : H1 p = some (.ins C dx [("coins", .int ci), ("_worths", .ref d)]) := by
        rw [← eH1, upd_same]
        exact congrArg some (congrArg (HO.ins C dx) (putE2 ci d))
      have d1 : H1 d = some (.dK (wk [])) := by
        rw [← eH1, upd_ne dp, upd_same]
        rfl
      clear eH1
      refine ⟨_, rfl, a, rfl, ⟨_, k1.sq hp ha⟩, for_it walk_tup (fun i σ Hy => ∃ (y4 : Option V) (acc : List (Str × Int)), σ = [some (.ref p), some (.int ci), some (.ref a), some (.ref b), y4, none] ∧ Kp p H Hy ∧ Hy p = some (.ins C dx [("coins", .int ci), ("_worths", .ref d)]) ∧ Hy d = some (.dK (wk acc)) ∧ acc.length ≤ i ∧ thRun [] os = thRun acc (os.drop i))
        ⟨none, [], rfl, k1, p1, d1, Nat.le_refl _, rfl⟩ (fun i σ Hy _ ⟨_, _, _, k, _⟩ => k.sq hp ha) ?_ ?_⟩
      · rintro i v σ Hy H' hi ⟨y4, acc, rfl, k, pp, dd, la, er⟩ ⟨rfl, ev⟩
        obtain ⟨o, eio⟩ : ∃ o, os[i]? = some o := ⟨_, List.getElem?_eq_getElem (by rw [ho]; exact hi)⟩
        have dsp : os.drop i = o :: os.drop (i + 1) := List.drop_eq_getElem?_toList_append ▸ by rw [eio]; rfl
        rw [dsp] at er
        have it := k.it hp (hx i v o ev eio)
        refine ⟨_, rfl, v, o.map tc, rfl, it, fun H2 s2 => ⟨_, rfl, ?_⟩⟩
        have k2 := k.same s2
        have bad (why : Str) (e : thRun [] os = .inl why) {H3 : Hp} (s3 : Same H2 H3) : ∀ d H', H3 d = none → Same H3 H' → H' d = some (.xd [("why", .str why)]) → E (.ref CE) (some d) H' := fun d H' nd sm e' => g1 why (by rw [eo, e]) d H' ((k2.same s3).same sm) ((k2.same s3).free (s3 _ _ (s2 _ _ pp)) nd) e'
        cases o with
        | none => exact iteT (mk_read XE.o XE.n (bad _ er (Same.refl _)))
        | some pr =>
          obtain ⟨q, rfl, hq, hok, ht⟩ := it
          have er' : thRun [] os = if pr.1 ∈ acc.map (·.1) then .inl "twice" else thRun (acc ++ [pr]) (os.drop (i + 1)) := er
          have hq2 := sameT s2 hq
          refine iteF ⟨_, rfl, q, _, 0, .str pr.1, rfl, rfl, hq2, atI_nat (j := 0) rfl, _, rfl, p, C, dx, _, _, rfl, s2 _ _ pp, D.cl, D.n2, lkE2 ci d, d, _, rfl, DGet.k (k := Sum.inr pr.1) (s2 _ _ dd), _, rfl, ?_⟩
          rw [wk_some]
          by_cases m : pr.1 ∈ acc.map (·.1)
          · rw [decide_eq_true m]
            rw [if_pos m] at er'
            exact iteT (mk_read XE.o XE.n (bad _ er' (Same.refl _)))
          · rw [decide_eq_false m]
            rw [if_neg m] at er'
            have nov : valV (wk acc) (Sum.inr pr.1 : Key) = none := by
              have := wk_some acc pr.1
              rw [decide_eq_false m] at this
              exact Option.not_isSome_iff_eq_none.mp (by rw [this]; decide)
            refine iteF ⟨_, rfl, q, _, 1, .int pr.2, rfl, rfl, hq2, atI_nat (j := 1) rfl, _, rfl, p, C, dx, _, _, rfl, s2 _ _ pp, D.cl, D.n2, lkE2 ci d, _, rfl, q, _, 0, .str pr.1, rfl, rfl, hq2, atI_nat (j := 0) rfl, d, _, rfl, DPut.k (k := Sum.inr pr.1) (s2 _ _ dd) (by rw [wk_len]; exact small1000 (by omega)), ?_⟩
            refine ⟨_, acc ++ [pr], rfl, k2.upd (.inl Hd), ?_, ?_, ?_, er'⟩
            · rw [upd_ne (Ne.symm dp)]
              exact s2 _ _ pp
            · rw [upd_same, putK_new _ nov, wk_snoc]
            · rw [List.length_append]
              exact Nat.succ_le_succ la
      · rintro σ Hy ⟨y4, acc, rfl, k, pp, dd, la, er⟩
        rw [← ho, List.drop_length] at er
        have er' : thRun [] os = .inr acc := er
        rw [er'] at eo
        have eo' : estOut (.int ci) os ds = if ds.all (·.isSome) then .inr acc else .inl "debts" := eo
        refine ⟨_, rfl, b, rfl, ⟨_, k.sq hp hb⟩, for_it walk_tup (fun i σ Hz => ∃ (y5 : Option V), σ = [some (.ref p), some (.int ci), some (.ref a), some (.ref b), y4, y5] ∧ Same Hy Hz ∧ ∀ o ∈ ds.take i, o.isSome = true)
          ⟨none, rfl, Same.refl _, fun o h => by cases h⟩ (fun i σ Hz _ ⟨_, _, s, _⟩ => (k.same s).sq hp hb) ?_ ?_⟩
        · rintro i v σ Hz H' hi ⟨y5, rfl, sz, al⟩ ⟨rfl, ev⟩
          obtain ⟨o, eio⟩ : ∃ o, ds[i]? = some o := ⟨_, List.getElem?_eq_getElem (by rw [hd]; exact hi)⟩
          refine ⟨_, rfl, v, o.map dc, rfl, (k.same sz).it hp (hy i v o ev eio), fun H2 s2 => ⟨_, rfl, ?_⟩⟩
          have k2 := k.same (sz.trans s2)
          cases o with
          | none =>
            have na : ds.all (·.isSome) = false := by
              rw [Bool.eq_false_iff]
              intro z
              have := List.all_eq_true.mp z _ (List.mem_of_getElem? eio)
              cases this
            rw [na] at eo'
            exact iteT (mk_read XE.o XE.n fun d H' nd sm e => g1 _ eo' d H' (k2.same sm) (k2.free ((sz.trans s2) _ _ pp) nd) e)
          | some pr =>
            refine iteF ⟨_, rfl, sz.trans s2, fun o' h' => ?_⟩
            rw [List.take_add_one, eio] at h'
            rcases List.mem_append.mp h' with h' | h'
            · exact al o' h'
            · rw [List.mem_singleton.mp h']
              rfl
        · rintro σ Hz ⟨y5, rfl, sz, al⟩
          rw [← hd, List.take_length] at al
          rw [if_pos (List.all_eq_true.mpr al)] at eo'
          have k2 := k.same sz
          refine ⟨_, rfl, b, _, rfl, .inr (k2.sq hp hb), fun l nl => ⟨_, rfl, p, C, dx, _, rfl, (same_upd nl) _ _ (sz _ _ pp), D.cl, D.n3, (by show (2 : Nat) < 1000; decide), ?_⟩⟩
          have pl : l ≠ p := fun e => by rw [e, sz _ _ pp] at nl; cases nl
          have dl : d ≠ l := fun e => by rw [← e, sz _ _ dd] at nl; cases nl
          refine g2 ci acc rfl eo' _ (Kp.upd (k2.same (same_upd nl)) (.inr rfl)) ⟨dx, d, l, ?_, ?_, ?_⟩
          · rw [upd_same]
            exact congrArg some (congrArg (HO.ins C dx) (putE3 ci d l))
          · rw [upd_ne dp, upd_ne dl]
            exact sz _ _ dd
          · rw [upd_ne pl, upd_same]
end
end K2
namespace K2
open PySem L2 PyProof.Rows PySem.Spec G
section
variable {P : Program} {w : World} {K : PySem.W.Frag} {mg : Str → Option Value} {base : Heap}
theorem scFra : FnScope ["top", "bottom", "shared"] ["top", "bottom"] (defScope sFra) := ⟨rfl, rfl, rfl, by decide +kernel, rfl, by decide +kernel, by decide +kernel⟩
theorem ok_fra {f : Addr} {fd : FuncData} (F : Fun K "fraction" "fraction" sFra f fd) (mgGcd : mg "gcd" = some (.builtin "math.gcd")) : FnOk P w K mg base CX0 1 f fd ["top", "bottom"] spFra := by
  refine F.ok scFra (fun vs H Q E h => ?_) (fun cdv A outer s H vs Q E hr h => ?_)
  · obtain ⟨t, b, rfl, _⟩ := h
    rfl
  · obtain ⟨t, b, rfl, hb, hl, go⟩ := h
    refine ⟨_, pss_cons (ps_set (i := 2) scFra.nd rfl (.inl rfl) (pe_callBfun cr_gcd (by rfl) mgGcd (pa_cons (pv 0) (pa_cons (pv 1) pa_nil))))
      (pss_cons (ps_if (pt_cmpR op_lt (pv 1) pe_int (nomark _)) (pss_one (ps_set (i := 2) scFra.nd rfl (.inl rfl) (pe_un un_neg (pv 2)))) pss_nil)
      (pss_one (ps_ret (pe_tup (pa_cons (pe_op op_divG (pv 0) (pv 2)) (pa_cons (pe_op op_divG (pv 1) (pv 2)) pa_nil)))))), ?_⟩
    have hd : ∀ c, c = sh t b → ∀ x, DivG x c := fun c e x => by
      rw [e]
      exact ⟨sh_ne hb, Nat.lt_trans ((hl.le (sh_abs hb)).log (by decide)) (by decide)⟩
    have fin : ∀ c, c = sh t b → ∀ p, H p = none → Q (.ref p) (upd H p (.tup [.int (t.fdiv c), .int (b.fdiv c)])) := fun c e p hp => by
      rw [e, sh_num hb, sh_den hb]
      exact go p hp
    refine ⟨_, rfl, _, rfl, t, b, rfl, _, rfl, _, _, rfl, rfl, _, rfl, ite2 (fun e => ?_) (fun e => ?_)⟩
    · have e' : b < 0 := of_decide_eq_true e
      have es : -((Nat.gcd t.natAbs b.natAbs : Nat) : Int) = sh t b := by
        unfold sh
        rw [if_pos e']
        rfl
      exact ⟨_, rfl, _, rfl, _, rfl, _, rfl, _, _, rfl, rfl, hd _ es _, _, rfl, _, rfl, _, _, rfl, rfl, hd _ es _, (by show 2 ≤ sizeLine; decide), fun p hp => fin _ es p hp⟩
    · have e' : ¬ b < 0 := fun z => e (decide_eq_true z)
      have es : ((Nat.gcd t.natAbs b.natAbs : Nat) : Int) = sh t b := by
        unfold sh
        rw [if_neg e']
        rfl
      exact ⟨_, rfl, _, rfl, _, _, rfl, rfl, hd _ es _, _, rfl, _, rfl, _, _, rfl, rfl, hd _ es _, (by show 2 ≤ sizeLine; decide), fun p hp => fin _ es p hp⟩
/-- what the calls of fraction want of the top -/
structure TFra (P : Program) (w : World) (K : PySem.W.Frag) (mg : Str → Option Value) (base : Heap) : Prop where
  ok : ∃ (f : Addr) (fd : FuncData), mg "fraction" = some (.ref f) ∧ PySem.W.keepIn K (.ref f) = true ∧ Binds K fd ["top", "bottom"] [] ∧ FnOk P w K mg base CX0 1 f fd ["top", "bottom"] spFra
theorem scMin : FnScope ["one", "two"] ["one", "two"] (defScope sMin) := ⟨rfl, rfl, rfl, by decide +kernel, rfl, by decide +kernel, by decide +kernel⟩
theorem ok_minus {f : Addr} {fd : FuncData} (F : Fun K "minus" "minus" sMin f fd) (T : TFra P w K mg base) : FnOk P w K mg base CX0 2 f fd ["one", "two"] (spAr K C2 (fun p q => p - q)) := by
  obtain ⟨fF, fdF, mF, kF, bF, GF⟩ := T.ok
  refine F.ok scMin (fun vs H Q E h => ?_) (fun cdv A outer s H vs Q E hr h => ?_)
  · obtain ⟨a, b, p, q, rfl, _⟩ := h
    rfl
  · obtain ⟨a, b, p, q, rfl, ha, hb, ⟨hp, hq, hm⟩, go⟩ := h
    refine ⟨_, pss_one (ps_ret (pe_call GF hr (by rfl) mF kF bF .nil pass0 (pa_cons (pe_op op_sub (pe_op op_mulG (pe_ix ix_tup (pv 0) pe_int (fun _ _ => rfl)) (pe_ix ix_tup (pv 1) pe_int (fun _ _ => rfl))) (pe_op op_mulG (pe_ix ix_tup (pv 1) pe_int (fun _ _ => rfl)) (pe_ix ix_tup (pv 0) pe_int (fun _ _ => rfl)))) (pa_cons (pe_op op_mulG (pe_ix ix_tup (pv 0) pe_int (fun _ _ => rfl)) (pe_ix ix_tup (pv 1) pe_int (fun _ _ => rfl))) pa_nil)))), ?_⟩
    refine ⟨_, rfl, a, _, 0, _, rfl, rfl, ha, atI_nat (j := 0) rfl, _, rfl, b, _, 1, _, rfl, rfl, hb, atI_nat (j := 1) rfl, _, _, rfl, rfl, (hp.nd hq), _, rfl, b, _, 0, _, rfl, rfl, hb, atI_nat (j := 0) rfl, _, rfl, a, _, 1, _, rfl, rfl, ha, atI_nat (j := 1) rfl, _, _, rfl, rfl, (hq.nd hp), _, _, rfl, rfl, _, rfl, a, _, 1, _, rfl, rfl, ha, atI_nat (j := 1) rfl, _, rfl, b, _, 1, _, rfl, rfl, hb, atI_nat (j := 1) rfl, _, _, rfl, rfl, (hp.dd hq), _, _, rfl, FSz.ne p q, hp.bd hq, fun x hx => ?_⟩
    have z : Q (.ref x) (upd H x (.tup (fv (p - q)))) := go x hx
    rw [← q_sub p q] at z
    exact z
theorem scTim : FnScope ["one", "two"] ["one", "two"] (defScope sTim) := ⟨rfl, rfl, rfl, by decide +kernel, rfl, by decide +kernel, by decide +kernel⟩
theorem ok_times {f : Addr} {fd : FuncData} (F : Fun K "times" "times" sTim f fd) (T : TFra P w K mg base) : FnOk P w K mg base CX0 2 f fd ["one", "two"] (spAr K C2m (fun p q => p * q)) := by
  obtain ⟨fF, fdF, mF, kF, bF, GF⟩ := T.ok
  refine F.ok scTim (fun vs H Q E h => ?_) (fun cdv A outer s H vs Q E hr h => ?_)
  · obtain ⟨a, b, p, q, rfl, _⟩ := h
    rfl
  · obtain ⟨a, b, p, q, rfl, ha, hb, ⟨hp, hq, hm⟩, go⟩ := h
    refine ⟨_, pss_one (ps_ret (pe_call GF hr (by rfl) mF kF bF .nil pass0 (pa_cons (pe_op op_mulG (pe_ix ix_tup (pv 0) pe_int (fun _ _ => rfl)) (pe_ix ix_tup (pv 1) pe_int (fun _ _ => rfl))) (pa_cons (pe_op op_mulG (pe_ix ix_tup (pv 0) pe_int (fun _ _ => rfl)) (pe_ix ix_tup (pv 1) pe_int (fun _ _ => rfl))) pa_nil)))), ?_⟩
    refine ⟨_, rfl, a, _, 0, _, rfl, rfl, ha, atI_nat (j := 0) rfl, _, rfl, b, _, 0, _, rfl, rfl, hb, atI_nat (j := 0) rfl, _, _, rfl, rfl, hm, _, rfl, a, _, 1, _, rfl, rfl, ha, atI_nat (j := 1) rfl, _, rfl, b, _, 1, _, rfl, rfl, hb, atI_nat (j := 1) rfl, _, _, rfl, rfl, (hp.dd hq), _, _, rfl, FSz.ne p q, hp.bd hq, fun x hx => ?_⟩
    have z : Q (.ref x) (upd H x (.tup (fv (p * q)))) := go x hx
    rw [← q_mul p q] at z
    exact z
theorem scEuc : FnScope ["one", "two", "k"] ["one", "two"] (defScope sEuc) := ⟨rfl, rfl, rfl, by decide +kernel, rfl, by decide +kernel, by decide +kernel⟩
theorem ok_euclid {f : Addr} {fd : FuncData} (F : Fun K "_law_common" "_law_common" sEuc f fd) (mgInt : mg "int" = none) (mgRange : mg "range" = none) : FnOk P w K mg base CX0 1 f fd ["one", "two"] spEuc := by
  refine F.ok scEuc (fun vs H Q E h => ?_) (fun cdv A outer s H vs Q E hr h => ?_)
  · obtain ⟨x, y, rfl, _⟩ := h
    rfl
  · obtain ⟨x0, y0, rfl, hb, go⟩ := h
    refine ⟨_, pss_cons (ps_for PassesOwn.never rfl (pi_range1 rfl mgRange (pa_cons pe_int pa_nil)) (pg_name (i := 2) scEuc.nd rfl (.inl rfl))
        (pss_cons (ps_if (pt_cmpR op_eq (pv 1) pe_int (nomark _)) (pss_one (ps_ret (pv 0))) pss_nil)
        (pss_one (ps_par (i := 0) (j := 1) (by rfl) scEuc.nd rfl rfl (by decide) rfl rfl (pa_cons (pv 1) (pa_cons (pe_op op_mod (pe_callTy call_int1 (by rfl) mgInt (by decide +kernel) (pa_cons (pv 0) pa_nil)) (pv 1)) pa_nil)) (by rfl)))))
      (pss_one (ps_ret (pv 0))), ?_⟩
    refine ⟨4000, rfl, by decide, by decide, ?_⟩
    refine for_range (lo := 0) (n := 4000) (fun i σ Hx => ∃ (x y : Nat) (z : Option V), σ = [some (.int (x : Int)), some (.int (y : Int)), z] ∧ Hx = H ∧ Eu (Nat.gcd x0 y0) i x y)
      ⟨x0, y0, none, rfl, rfl, rfl, hb, .inl rfl⟩ ?_ ?_
    · rintro i σ Hx hi ⟨x, y, z, rfl, rfl, e⟩
      refine ⟨_, rfl, rfl, _, rfl, ite2 (fun h0 => ?_) (fun h0 => ?_)⟩
      · have y0' : y = 0 := by
          have := V.int.inj (of_decide_eq_true h0)
          omega
        subst y0'
        have g := e.g
        rw [Nat.gcd_zero_right] at g
        rw [← g] at go
        exact ⟨_, rfl, go⟩
      · have yp : 0 < y := Nat.pos_of_ne_zero fun z => h0 (decide_eq_true (by rw [z]; rfl))
        refine ⟨_, rfl, _, rfl, .inl ⟨_, rfl, _, rfl, _, _, rfl, rfl, by show (0 : Int) < (y : Int); omega, _, _, rfl, y, x % y, some (.int (0 + (i : Int))), ?_, rfl, e.next yp⟩⟩
        rw [Int.natCast_emod]
        rfl
    · rintro σ Hx ⟨x, y, z, rfl, rfl, e⟩
      have y0' := e.last
      subst y0'
      have g := e.g
      rw [Nat.gcd_zero_right] at g
      rw [← g] at go
      exact ⟨_, rfl, go⟩
def spLow : Sp := fun vs H Q _ => ∃ t b : Int, vs = [.int t, .int b] ∧ 0 < b ∧ b.natAbs < 2 ^ 64 ∧ ∀ p, H p = none → Q (.ref p) (upd H p (.tup (fv (Rat.divInt t b))))
abbrev nLow : List Str := ["top", "bottom", "common"]
theorem scLow : FnScope nLow ["top", "bottom"] (defScope sLow) := ⟨rfl, rfl, rfl, by decide +kernel, rfl, by decide +kernel, by decide +kernel⟩
theorem ok_low {f : Addr} {fd : FuncData} (F : Fun K "_law_fraction" "_law_fraction" sLow f fd) (TE : Has P w K mg base CX0 "_law_common" ["one", "two"] 1 spEuc) (mgAbs : mg "abs" = none) : FnOk P w K mg base CX0 2 f fd ["top", "bottom"] spLow := by
  obtain ⟨fE, fdE, mE, kE, bE, GE⟩ := TE.ok
  refine F.ok scLow (fun vs H Q E h => ?_) (fun cdv A outer s H vs Q E hr h => ?_)
  · obtain ⟨t, b, rfl, _⟩ := h
    rfl
  · obtain ⟨t, b, rfl, hb0, h64, go⟩ := h
    refine ⟨_, (pss_cons (ps_set (i := 2) scLow.nd rfl (.inl rfl) (pe_call GE (hr.mono (by decide)) (by rfl) mE kE bE .nil pass0 (pa_cons (pe_callB call_abs (by rfl) mgAbs (by decide +kernel) (pa_cons (pv 0) pa_nil)) (pa_cons (pv 1) pa_nil))))
      (pss_one (ps_ret (pe_tup (pa_cons (pe_op op_fdivW (pv 0) (pv 2)) (pa_cons (pe_op op_fdivW (pv 1) (pv 2)) pa_nil)))))), ?_⟩
    have hb : b ≠ 0 := by omega
    have g0 := gd_pos (t := t) hb
    have gl := gd_le (t := t) hb
    have e' : ¬ b < 0 := by omega
    have fin : ∀ t' b' g : Int, t' = (if b < 0 then -t else t) → b' = (b.natAbs : Int) → g = gd t b → ∀ p, H p = none → Q (.ref p) (upd H p (.tup [.int (t' / g), .int (b' / g)])) := fun t' b' g e1 e2 e3 p hp => by
      rw [e1, e2, e3, low_num hb, ← den_int hb]
      exact go p hp
    have cd : ∀ x g : Int, g = gd t b → CDivW x g := fun x g e => by
      rw [e]
      exact wide_div (b := 64) g0 (Nat.lt_of_le_of_lt gl h64) (by decide) (by decide)
    have eabs : (if t < 0 then -t else t) = ((t.natAbs : Nat) : Int) := by split <;> omega
    have eb : b = ((b.natAbs : Nat) : Int) := by omega
    have et : t = (if b < 0 then -t else t) := by rw [if_neg e']
    refine ⟨_, rfl, _, rfl, _, rfl, t.natAbs, b.natAbs, ?_, h64, ?_⟩
    · rw [← eabs, ← eb]
      rfl
    · exact ⟨_, rfl, _, rfl, _, _, rfl, rfl, cd _ _ rfl, _, rfl, _, rfl, _, _, rfl, rfl, cd _ _ rfl, (by show 2 ≤ sizeLine; decide), fun p hp => fin _ _ _ et eb rfl p hp⟩
end
end K2
namespace K2
open PySem L2 PyProof.Rows G
/-- new tuples stand one by one -/
def TupsAt (H : Hp) (qs : List Addr) (cs : List (List V)) : Prop := qs.length = cs.length ∧ ∀ (i : Nat) (q : Addr) (c : List V), qs[i]? = some q → cs[i]? = some c → H q = some (.tup c)
theorem TupsAt.nil {H : Hp} : TupsAt H [] [] := ⟨rfl, fun i q c h => by cases h⟩
theorem TupsAt.same {H H' : Hp} {qs : List Addr} {cs : List (List V)} (h : TupsAt H qs cs) (s : Same H H') : TupsAt H' qs cs := ⟨h.1, fun i q c a b => s _ _ (h.2 i q c a b)⟩
theorem TupsAt.but {H H' : Hp} {a : Addr} {xs : List V} {qs : List Addr} {cs : List (List V)} (h : TupsAt H qs cs) (ha : H a = some (.lst xs)) (s : ∀ b o, H b = some o → b ≠ a → H' b = some o) : TupsAt H' qs cs :=
  ⟨h.1, fun i q c x y => s _ _ (h.2 i q c x y) (ne_of (h.2 i q c x y) ha (by intro z; cases z))⟩
theorem TupsAt.snoc {H : Hp} {qs : List Addr} {cs : List (List V)} {q : Addr} {c : List V} (h : TupsAt H qs cs) (g : H q = some (.tup c)) : TupsAt H (qs ++ [q]) (cs ++ [c]) := by
  refine ⟨by rw [List.length_append, List.length_append, h.1]; rfl, fun i p d x y => ?_⟩
  rcases Nat.lt_or_ge i qs.length with lt | ge
  · rw [List.getElem?_append_left lt] at x
    rw [List.getElem?_append_left (by have := h.1; omega)] at y
    exact h.2 i p d x y
  · rw [List.getElem?_append_right ge] at x
    rw [List.getElem?_append_right (by have := h.1; omega), ← h.1] at y
    cases k : i - qs.length with
    | zero =>
      rw [k] at x y
      obtain rfl := Option.some.inj x
      obtain rfl := Option.some.inj y
      exact g
    | succ m => rw [k] at x; cases x
/-- what a thing is worth -/
def wOf (ws : List (Str × Int)) (n : Str) : Int := ((ws.find? fun p => decide (p.1 = n)).map (·.2)).getD 0
theorem wk_get {ws : List (Str × Int)} {n : Str} (h : n ∈ ws.map (·.1)) : valV (wk ws) (Sum.inr n : Key) = some (.int (wOf ws n)) := by
  have a := wk_some ws n
  rw [decide_eq_true h, wk_val] at a
  rw [wk_val]
  unfold wOf
  cases e : ws.find? fun p => decide (p.1 = n) with
  | none => rw [e] at a; cases a
  | some p => rfl
theorem wk_keys (ws : List (Str × Int)) : (wk ws).map (·.1) = (ws.map (·.1)).map Sum.inr := by
  unfold wk
  rw [List.map_map, List.map_map]
  rfl
theorem wk_vals (ws : List (Str × Int)) : (wk ws).map (·.2) = (ws.map (·.2)).map V.int := by
  unfold wk
  rw [List.map_map, List.map_map]
  rfl
theorem lkE (c : Int) (d l : Addr) : (efl c d l).lookup ("_worths" : Str) = some (.ref d) := by kernel_rfl
theorem lkD (c : Int) (d l : Addr) : (efl c d l).lookup ("_debts" : Str) = some (.ref l) := by kernel_rfl
theorem lkC (c : Int) (d l : Addr) : (efl c d l).lookup ("coins" : Str) = some (.int c) := by kernel_rfl
section
variable {P : Program} {w : World} {K : PySem.W.Frag} {mg : Str → Option Value} {base : Heap}
def spHas (C : Addr) : Sp := fun vs H Q _ => ∃ (p : Addr) (c : Int) (ws : List (Str × Int)) (ys : List V) (n : Str), vs = [.ref p, .str n] ∧ EstAt C H p c ws ys ∧ Q (.bl (decide (n ∈ ws.map (·.1)))) H
def spWor (C : Addr) : Sp := fun vs H Q _ => ∃ (p : Addr) (c : Int) (ws : List (Str × Int)) (ys : List V) (n : Str), vs = [.ref p, .str n] ∧ EstAt C H p c ws ys ∧ n ∈ ws.map (·.1) ∧ Q (.int (wOf ws n)) H
def spThs (C : Addr) : Sp := fun vs H Q _ => ∃ (p : Addr) (c : Int) (ws : List (Str × Int)) (ys : List V), vs = [.ref p] ∧ EstAt C H p c ws ys ∧ ws.length ≤ 900 ∧ ∀ l H' qs, Same H H' → H l = none → H' l = some (.lst (qs.map V.ref)) → TupsAt H' qs ((srt (ws.map (·.1))).map fun n => tc (n, wOf ws n)) → Q (.ref l) H'
def spDbs (C : Addr) : Sp := fun vs H Q _ => ∃ (p : Addr) (c : Int) (ws : List (Str × Int)) (ys : List V), vs = [.ref p] ∧ EstAt C H p c ws ys ∧ ∀ l, H l = none → Q (.ref l) (upd H l (.lst ys))
def spAll (C : Addr) : Sp := fun vs H Q _ => ∃ (p : Addr) (c : Int) (ws : List (Str × Int)) (ys : List V), vs = [.ref p] ∧ EstAt C H p c ws ys ∧ Q (.int (c + (ws.map (·.2)).sum)) H
abbrev nHas : List Str := ["self", "thing"]
theorem scHas : FnScope nHas ["self", "thing"] (defScope sHas) := ⟨rfl, rfl, rfl, by decide +kernel, rfl, by decide +kernel, by decide +kernel⟩
theorem ok_has {f : Addr} {fd : FuncData} (F : Fun K "has" "Estate.has" sHas f fd) {C : Addr} (D : ET K C) : FnOk P w K mg base CX0 1 f fd ["self", "thing"] (spHas C) := by
  refine F.ok scHas (fun vs H Q E h => ?_) (fun cdv A outer s H vs Q E hr h => ?_)
  · obtain ⟨p, c, ws, ys, n, rfl, _⟩ := h
    rfl
  · obtain ⟨p, c, ws, ys, n, rfl, hE, go⟩ := h
    have hu := hu_of hr
    obtain ⟨dx, d, l, hp, hd, hl⟩ := hE.ex
    refine ⟨_, (pss_one (ps_ret (pe_cmp (pc_din hu (pv 1) (pe_fld (pv 0) rfl)) rfl))), ?_⟩
    refine ⟨_, rfl, _, rfl, p, C, dx, _, _, rfl, hp, D.cl, D.n2, lkE c d l, d, _, rfl, DGet.k (k := Sum.inr n) hd, ?_⟩
    rw [wk_some]
    exact go
abbrev nWor : List Str := ["self", "thing"]
theorem scWor : FnScope nWor ["self", "thing"] (defScope sWor) := ⟨rfl, rfl, rfl, by decide +kernel, rfl, by decide +kernel, by decide +kernel⟩
theorem ok_worth {f : Addr} {fd : FuncData} (F : Fun K "worth" "Estate.worth" sWor f fd) {C : Addr} (D : ET K C) : FnOk P w K mg base CX0 1 f fd ["self", "thing"] (spWor C) := by
  refine F.ok scWor (fun vs H Q E h => ?_) (fun cdv A outer s H vs Q E hr h => ?_)
  · obtain ⟨p, c, ws, ys, n, rfl, _⟩ := h
    rfl
  · obtain ⟨p, c, ws, ys, n, rfl, hE, hn, go⟩ := h
    have hu := hu_of hr
    obtain ⟨dx, d, l, hp, hd, hl⟩ := hE.ex
    refine ⟨_, (pss_one (ps_ret (pe_dget hu (pe_fld (pv 0) rfl) (pv 1) (fun _ _ => rfl)))), ?_⟩
    exact ⟨_, rfl, p, C, dx, _, _, rfl, hp, D.cl, D.n2, lkE c d l, _, rfl, d, _, rfl, (by have := DGet.k (k := (Sum.inr n : Key)) hd; rw [wk_get hn] at this; exact this), go⟩
abbrev nDbs : List Str := ["self"]
theorem scDbs : FnScope nDbs ["self"] (defScope sDbs) := ⟨rfl, rfl, rfl, by decide +kernel, rfl, by decide +kernel, by decide +kernel⟩
theorem ok_debts {f : Addr} {fd : FuncData} (F : Fun K "debts" "Estate.debts" sDbs f fd) {C : Addr} (D : ET K C) (T : Txt mg) : FnOk P w K mg base CX0 1 f fd ["self"] (spDbs C) := by
  refine F.ok scDbs (fun vs H Q E h => ?_) (fun cdv A outer s H vs Q E hr h => ?_)
  · obtain ⟨p, c, ws, ys, rfl, _⟩ := h
    rfl
  · obtain ⟨p, c, ws, ys, rfl, hE, go⟩ := h
    have hu := hu_of hr
    obtain ⟨dx, d, l, hp, hd, hl⟩ := hE.ex
    refine ⟨_, (pss_one (ps_ret (pe_callTy call_list_of (by rfl) T.list (by decide +kernel) (pa_cons (pe_fld (pv 0) rfl) pa_nil)))), ?_⟩
    exact ⟨_, rfl, p, C, dx, _, _, rfl, hp, D.cl, D.n3, lkD c d l, l, _, rfl, .inl (SqL.of hl), go⟩
abbrev nAll : List Str := ["self"]
theorem scAll : FnScope nAll ["self"] (defScope sAll) := ⟨rfl, rfl, rfl, by decide +kernel, rfl, by decide +kernel, by decide +kernel⟩
theorem ok_all {f : Addr} {fd : FuncData} (F : Fun K "all_worth" "Estate.all_worth" sAll f fd) {C : Addr} (D : ET K C) (mgSum : mg "sum" = none) : FnOk P w K mg base CX0 1 f fd ["self"] (spAll C) := by
  refine F.ok scAll (fun vs H Q E h => ?_) (fun cdv A outer s H vs Q E hr h => ?_)
  · obtain ⟨p, c, ws, ys, rfl, _⟩ := h
    rfl
  · obtain ⟨p, c, ws, ys, rfl, hE, go⟩ := h
    have hu := hu_of hr
    obtain ⟨dx, d, l, hp, hd, hl⟩ := hE.ex
    refine ⟨_, (pss_one (ps_ret (pe_op op_add (pe_fld (pv 0) rfl) (pe_sumVals rfl (by rfl) mgSum (pe_fld (pv 0) rfl))))), ?_⟩
    exact ⟨_, rfl, p, C, dx, _, _, rfl, hp, D.cl, D.n1, lkC c d l, _, rfl, p, C, dx, _, _, rfl, hp, D.cl, D.n2, lkE c d l, d, _, ws.map (·.2), rfl, hd, wk_vals ws, _, _, rfl, rfl, go⟩
abbrev nThs : List Str := ["self", "thing"]
theorem scThs : FnScope nThs ["self"] (defScope sThs) := ⟨rfl, rfl, rfl, by decide +kernel, rfl, by decide +kernel, by decide +kernel⟩
theorem ok_things {f : Addr} {fd : FuncData} (F : Fun K "things" "Estate.things" sThs f fd) {C : Addr} (D : ET K C) (T : Txt mg) : FnOk P w K mg base CX0 1 f fd ["self"] (spThs C) := by
  refine F.ok scThs (fun vs H Q E h => ?_) (fun cdv A outer s H vs Q E hr h => ?_)
  · obtain ⟨p, c, ws, ys, rfl, _⟩ := h
    rfl
  · obtain ⟨p, c, ws, ys, rfl, hE, hz, go⟩ := h
    have hu := hu_of hr
    obtain ⟨dx, d, l, hp, hd, hl⟩ := hE.ex
    refine ⟨_, (pss_one (ps_ret (pe_lc (own := [("thing", 1)]) (g := gName 1) (tt := tYes) rfl scThs.nd (pi_list (pe_callB (cr_sortTxD rfl) (by rfl) T.sorted (by decide +kernel) (pa_cons (pe_fld (pv 0) rfl) pa_nil))) (blkOk_by (N := nThs) (sc := defScope sThs) (by decide +kernel)) (fun _ _ _ _ _ => (pg_name (i := 1) scThs.nd rfl (.inl rfl) (.inr rfl))) (fun _ _ _ _ _ => pts_nil) (fun _ _ _ _ _ => (pe_tup (pa_cons (pv 1) (pa_cons (pe_dget hu (show PE _ _ (tFld K _ _) from pe_fld (pv 0) rfl) (pv 1) (fun _ _ => rfl)) pa_nil))))))), ?_⟩
    refine ⟨_, rfl, p, C, dx, _, _, rfl, hp, D.cl, D.n2, lkE c d l, d, wk ws, ws.map (·.1), rfl, .inl hd, wk_keys ws, fun sl nsl => ⟨sl, rfl, ⟨_, SqL.of upd_same⟩, fun Dn hD => ?_⟩⟩
    have s0 := same_upd nsl (o := .lst ((srt (ws.map (·.1))).map V.str))
    have slD : sl ≠ Dn := ne_of_none (H := upd H sl (.lst ((srt (ws.map (·.1))).map V.str))) upd_same hD
    have len0 : (srt (ws.map (·.1))).length = ws.length := by rw [srt_len, List.length_map]
    refine lc_it (walk_list (xs := (srt (ws.map (·.1))).map V.str)) (fun i Hy => Same H Hy ∧ Hy sl = some (.lst ((srt (ws.map (·.1))).map V.str)) ∧ ∃ qs : List Addr, Hy Dn = some (.lst (qs.map V.ref)) ∧ TupsAt Hy qs (((srt (ws.map (·.1))).take i).map fun n => tc (n, wOf ws n))) ⟨s0.trans (same_upd hD), (by rw [upd_ne (ne_of_none upd_same hD), upd_same]), [], upd_same, .nil⟩ (fun i Hy _ hy => SqL.of hy.2.1) ?_ ?_
    · rintro i v Hy H' hi ⟨k1, ks, qs, k2, k3⟩ ⟨rfl, ev⟩
      rw [List.getElem?_map] at ev
      obtain ⟨n, en, rfl⟩ := Option.map_eq_some_iff.mp ev
      have hn : n ∈ ws.map (·.1) := srt_mem.mp (List.mem_of_getElem? en)
      refine ⟨rfl, _, rfl, _, rfl, p, C, dx, _, _, rfl, k1 _ _ hp, D.cl, D.n2, lkE c d l, _, rfl, d, _, rfl, (by have := DGet.k (k := (Sum.inr n : Key)) (k1 _ _ hd); rw [wk_get hn] at this; exact this), (by show 2 ≤ sizeLine; decide), fun T1 nT => ⟨_, (same_upd nT) _ _ k2, ?_, ?_, ?_, qs ++ [T1], ?_, ?_⟩⟩
      · rw [List.length_map, k3.1, List.length_map, List.length_take]
        exact small1000 (by omega)
      · intro b o hb
        rw [upd_ne (ne_of_none hb (s0.free hD))]
        exact (same_upd nT) _ _ (k1 b o hb)
      · rw [upd_ne slD]
        exact (same_upd nT) _ _ ks
      · rw [upd_same, List.map_append]
        rfl
      · rw [List.take_add_one, en, List.map_append]
        refine TupsAt.but (a := Dn) (xs := qs.map V.ref) (H := upd H' T1 (.tup (tc (n, wOf ws n)))) ?_ ((same_upd nT) _ _ k2) (fun b o hb ne => by rw [upd_ne ne]; exact hb)
        exact (k3.same (same_upd nT)).snoc upd_same
    · rintro Hy ⟨k1, ks, qs, k2, k3⟩
      rw [List.length_map, List.take_length] at k3
      exact go Dn Hy qs k1 (s0.free hD) k2 k3
end
end K2
namespace K2
open PySem L2 PyProof.Rows G
theorem putK_len (kvs : List (Key × V)) (k : Key) (v : V) : (putK kvs k v).length ≤ kvs.length + 1 := by
  unfold putK
  split
  · rw [List.length_map]
    omega
  · rw [List.length_append]
    exact Nat.le_refl _
/-! debts by their ranks -/
abbrev Db := Str × Int × Int
def dueOf (ds : List Db) (r : Int) : Int := ((ds.filter fun d => decide (d.2.1 = r)).map (·.2.2)).sum
theorem due_snoc (ds : List Db) (d : Db) (r : Int) : dueOf (ds ++ [d]) r = dueOf ds r + if d.2.1 = r then d.2.2 else 0 := by
  unfold dueOf
  rw [List.filter_append, List.map_append, List.sum_append]
  congr 1
  by_cases e : d.2.1 = r
  · rw [if_pos e, List.filter_cons, decide_eq_true e]
    simp
  · rw [if_neg e, List.filter_cons, decide_eq_false e]
    simp
def lft (du : Int → Int) : Int → List Int → Int
  | l, [] => l
  | l, r :: rs => lft du (l - min l (du r)) rs
theorem lft_snoc (du : Int → Int) : ∀ (l : Int) (rs : List Int) (r : Int), lft du l (rs ++ [r]) = lft du l rs - min (lft du l rs) (du r)
  | _, [], _ => rfl
  | l, s :: rs, r => lft_snoc du (l - min l (du s)) rs r
def pt (du : Int → Int) (l : Int) (r : Int) : Rat := if 0 < du r then Rat.divInt (min l (du r)) (du r) else 1
/-- the ranks, ascending -/
structure Rks (ds : List Db) (rs : List Int) : Prop where
  pw : rs.Pairwise (· < ·)
  mem : ∀ r, r ∈ rs ↔ ∃ d ∈ ds, d.2.1 = r
theorem Rks.one {ds : List Db} {rs ss : List Int} (R : Rks ds rs) (p : ss.Pairwise (· ≤ ·)) (nd : ss.Nodup) (m : ∀ r, r ∈ ss ↔ ∃ d ∈ ds, d.2.1 = r) : ss = rs := by
  have p2 : rs.Pairwise (· ≤ ·) := R.pw.imp Int.le_of_lt
  have nd2 : rs.Nodup := R.pw.imp Int.ne_of_lt
  refine ((List.perm_ext_iff_of_nodup nd nd2).mpr fun r => (m r).trans (R.mem r).symm).eq_of_pairwise (fun a b _ _ h1 h2 => Int.le_antisymm h1 h2) p p2
theorem Rks.ix {ds : List Db} {rs : List Int} (R : Rks ds rs) {i j : Nat} {r : Int} (a : rs[i]? = some r) (b : rs[j]? = some r) : i = j := by
  rcases Nat.lt_trichotomy i j with l | l | l
  · have := List.pairwise_iff_getElem.mp R.pw i j (List.getElem?_eq_some_iff.mp a).1 (List.getElem?_eq_some_iff.mp b).1 l
    rw [(List.getElem?_eq_some_iff.mp a).2, (List.getElem?_eq_some_iff.mp b).2] at this
    omega
  · exact l
  · have := List.pairwise_iff_getElem.mp R.pw j i (List.getElem?_eq_some_iff.mp b).1 (List.getElem?_eq_some_iff.mp a).1 l
    rw [(List.getElem?_eq_some_iff.mp a).2, (List.getElem?_eq_some_iff.mp b).2] at this
    omega
/-- the dict of dues while debts are read -/
structure Dus (H : Hp) (d : Addr) (ds : List Db) (n : Nat) : Prop where
  ex : ∃ (kvs : List (Key × V)) (ks : List Int), H d = some (.dK kvs) ∧ kvs.map (·.1) = ks.map Sum.inl ∧ ks.Nodup ∧ (∀ r, r ∈ ks ↔ ∃ p ∈ ds, p.2.1 = r) ∧ (∀ r, valV kvs (Sum.inl r : Key) = if (∃ p ∈ ds, p.2.1 = r) then some (.int (dueOf ds r)) else none) ∧ kvs.length ≤ n
theorem due_none {ds : List Db} {r : Int} (h : ¬ ∃ p ∈ ds, p.2.1 = r) : dueOf ds r = 0 := by
  unfold dueOf
  rw [List.filter_eq_nil_iff.mpr fun p hp => by
    rw [decide_eq_true_eq]
    exact fun e => h ⟨p, hp, e⟩]
  rfl
theorem ex_snoc {ds : List Db} {d : Db} {r : Int} : (∃ p ∈ ds ++ [d], p.2.1 = r) ↔ (∃ p ∈ ds, p.2.1 = r) ∨ d.2.1 = r := by
  constructor
  · rintro ⟨p, hp, e⟩
    rcases List.mem_append.mp hp with h | h
    · exact .inl ⟨p, h, e⟩
    · rw [List.mem_singleton.mp h] at e
      exact .inr e
  · rintro (⟨p, hp, e⟩ | e)
    · exact ⟨p, List.mem_append_left _ hp, e⟩
    · exact ⟨d, List.mem_append_right _ (List.mem_singleton.mpr rfl), e⟩
theorem Dus.put {H : Hp} {a : Addr} {ds : List Db} {n : Nat} (D : Dus H a ds n) (d : Db) {kvs : List (Key × V)} (hk : H a = some (.dK kvs)) : Dus (upd H a (.dK (putK kvs (Sum.inl d.2.1 : Key) (.int (dueOf ds d.2.1 + d.2.2))))) a (ds ++ [d]) (n + 1) := by
  obtain ⟨kvs', ks, h1, h2, h3, h4, h5, h6⟩ := D.ex
  rw [hk] at h1
  obtain rfl := HO.dK.inj (Option.some.inj h1)
  have val (r : Int) : valV (putK kvs (Sum.inl d.2.1 : Key) (.int (dueOf ds d.2.1 + d.2.2))) (Sum.inl r : Key) = if (∃ p ∈ ds ++ [d], p.2.1 = r) then some (.int (dueOf (ds ++ [d]) r)) else none := by
    rw [valV_put]
    by_cases e : r = d.2.1
    · rw [if_pos (by rw [e]), if_pos (ex_snoc.mpr (.inr e.symm)), due_snoc, if_pos e.symm, e]
    · have dn : (if d.2.1 = r then d.2.2 else 0) = 0 := if_neg fun z => e z.symm
      rw [if_neg (fun z => e (Sum.inl.inj z)), h5 r, due_snoc, dn, Int.add_zero]
      have : (∃ p ∈ ds ++ [d], p.2.1 = r) ↔ ∃ p ∈ ds, p.2.1 = r := ex_snoc.trans ⟨fun h => h.elim id fun z => absurd z.symm e, .inl⟩
      by_cases c : ∃ p ∈ ds, p.2.1 = r
      · rw [if_pos c, if_pos (this.mpr c)]
      · rw [if_neg c, if_neg (fun z => c (this.mp z))]
  by_cases m : d.2.1 ∈ ks
  · refine ⟨_, ks, upd_same, ?_, h3, fun r => (h4 r).trans (Iff.symm (ex_snoc.trans ⟨fun h => h.elim id fun e => e ▸ (h4 _).mp m, .inl⟩)), val, Nat.le_trans ?_ (Nat.le_succ_of_le h6)⟩
    · unfold putK
      rw [valV_any, h5, if_pos ((h4 _).mp m)]
      show (if true = true then _ else _ : List (Key × V)).map _ = _
      rw [if_pos rfl, List.map_map, ← h2]
      refine List.map_congr_left fun p hp => ?_
      show (if p.1 = _ then (p.1, _) else p).1 = p.1
      split <;> rfl
    · unfold putK
      rw [valV_any, h5, if_pos ((h4 _).mp m)]
      show (if true = true then _ else _ : List (Key × V)).length ≤ _
      rw [if_pos rfl, List.length_map]
      exact Nat.le_refl _
  · have nv : valV kvs (Sum.inl d.2.1 : Key) = none := by rw [h5, if_neg (fun z => m ((h4 _).mpr z))]
    refine ⟨_, ks ++ [d.2.1], upd_same, ?_, ?_, fun r => ?_, val, ?_⟩
    · rw [putK_new _ nv, List.map_append, List.map_append, h2]
      rfl
    · refine List.nodup_append.mpr ⟨h3, List.pairwise_singleton _ _, fun a ha b hb e => m ?_⟩
      rw [← List.mem_singleton.mp hb, ← e]
      exact ha
    · rw [List.mem_append, List.mem_singleton, h4, ex_snoc]
      exact or_congr Iff.rfl ⟨fun h => h.symm, fun h => h.symm⟩
    · rw [putK_new _ nv, List.length_append]
      exact Nat.succ_le_succ h6
/-- the dict of parts -/
def PtsAt (K : PySem.W.Frag) (H : Hp) (d : Addr) (du : Int → Int) (l : Int) (rs : List Int) : Prop := ∃ kvs : List (Key × V), H d = some (.dK kvs) ∧ kvs.length ≤ rs.length ∧ ∀ (i : Nat) (r : Int), rs[i]? = some r → ∃ t, valV kvs (Sum.inl r : Key) = some (.ref t) ∧ SqT K H t (fv (pt du (lft du l (rs.take i)) r))
/-- sizes -/
structure DSz (ds : List Db) : Prop where
  ln : ds.length ≤ 60
  am : ∀ d ∈ ds, 0 ≤ d.2.2 ∧ d.2.2 ≤ 1000000000
theorem due_sz : ∀ (ds : List Db), (∀ d ∈ ds, 0 ≤ d.2.2 ∧ d.2.2 ≤ 1000000000) → ∀ r, 0 ≤ dueOf ds r ∧ dueOf ds r ≤ 1000000000 * (ds.length : Int)
  | [], _, r => ⟨Int.le_refl _, by show (0 : Int) ≤ 1000000000 * 0; omega⟩
  | d :: ds, h, r => by
    obtain ⟨a, b⟩ := due_sz ds (fun e he => h e (List.mem_cons_of_mem _ he)) r
    obtain ⟨c, e⟩ := h d List.mem_cons_self
    have : dueOf (d :: ds) r = (if d.2.1 = r then d.2.2 else 0) + dueOf ds r := by
      unfold dueOf
      by_cases q : d.2.1 = r
      · rw [if_pos q, List.filter_cons, decide_eq_true q]
        simp
      · rw [if_neg q, List.filter_cons, decide_eq_false q]
        simp
    rw [this, List.length_cons]
    split <;> omega
theorem lft_sz (du : Int → Int) (h : ∀ r, 0 ≤ du r) : ∀ (l : Int) (rs : List Int), 0 ≤ l → 0 ≤ lft du l rs ∧ lft du l rs ≤ l
  | l, [], h0 => ⟨h0, Int.le_refl _⟩
  | l, r :: rs, h0 => by
    have hr := h r
    obtain ⟨a, b⟩ := lft_sz du h (l - min l (du r)) rs (by omega)
    exact ⟨a, by show lft du (l - min l (du r)) rs ≤ l; omega⟩
theorem pt_sz {du : Int → Int} {l r : Int} (h0 : 0 ≤ l) (h1 : du r < 2 ^ 60) : FSz (pt du l r) ∧ Bt 64 (pt du l r).num := by
  unfold pt
  split
  · next c =>
    have b : Bt 64 (min l (du r)) := ⟨by show (min l (du r)).natAbs < 2 ^ 64; omega⟩
    exact ⟨FSz.div (k := 64) (by omega) b (by decide) (by decide) (by omega), b.le (num_le (by omega))⟩
  · exact ⟨⟨⟨1, by decide, by decide, ⟨by decide⟩⟩, ⟨by decide +kernel⟩⟩, ⟨by decide⟩⟩
section
variable {P : Program} {w : World} {K : PySem.W.Frag} {mg : Str → Option Value} {base : Heap}
theorem int_sz {i : Int} (h0 : 0 ≤ i) (h1 : i ≤ 1000000000) : FSz (i : Rat) ∧ Bt 64 ((i : Rat)).num := by
  have e : ((i : Rat)).num = i := Rat.num_intCast i
  have d : ((i : Rat)).den = 1 := Rat.den_intCast i
  exact ⟨⟨⟨64, by decide, by decide, ⟨by rw [e]; omega⟩⟩, ⟨by rw [d]; decide +kernel⟩⟩, ⟨by rw [e]; omega⟩⟩
theorem fv_int (i : Int) : fv (i : Rat) = [.int i, .int 1] := by
  unfold fv
  rw [Rat.num_intCast, Rat.den_intCast]
  rfl
def spPdp (K : PySem.W.Frag) : Sp := fun vs H Q _ => ∃ (d : Addr) (l : Int) (ds : List Db) (rs : List Int), vs = [.ref d, .int l] ∧ Dus H d ds 60 ∧ DSz ds ∧ Rks ds rs ∧ 0 ≤ l ∧ ∀ t p H', Same H H' → H t = none → H p = none → H' t = some (.tup [.ref p, .int (lft (dueOf ds) l rs)]) → PtsAt K H' p (dueOf ds) l rs → Q (.ref t) H'
/-- a debt's line, paid -/
def PdAt (K : PySem.W.Frag) (H : Hp) (du : Int → Int) (l : Int) (rs : List Int) (d : Db) (q : Addr) : Prop := ∃ (f : Addr) (i : Nat), H q = some (.tup [.str d.1, .ref f]) ∧ rs[i]? = some d.2.1 ∧ SqT K H f (fv ((d.2.2 : Rat) * pt du (lft du l (rs.take i)) d.2.1))
theorem PdAt.same {H H' : Hp} {du : Int → Int} {l : Int} {rs : List Int} {d : Db} {q : Addr} (h : PdAt K H du l rs d q) (s : Same H H') : PdAt K H' du l rs d q := by
  obtain ⟨f, i, a, b, c⟩ := h
  exact ⟨f, i, s _ _ a, b, sameT s c⟩
def spPdd (K : PySem.W.Frag) (C : Addr) : Sp := fun vs H Q _ => ∃ (p : Addr) (c : Int) (ws : List (Str × Int)) (qs : List Addr) (ds : List Db) (rs : List Int), vs = [.ref p] ∧ EstAt C H p c ws (qs.map V.ref) ∧ TupsAt H qs (ds.map dc) ∧ DSz ds ∧ Rks ds rs ∧ 0 ≤ c + (ws.map (·.2)).sum ∧
  ∀ t l H' (us : List Addr), Same H H' → H t = none → H' t = some (.tup [.ref l, .int (lft (dueOf ds) (c + (ws.map (·.2)).sum) rs)]) → H' l = some (.lst (us.map V.ref)) → us.length = ds.length → (∀ (i : Nat) (d : Db) (u : Addr), ds[i]? = some d → us[i]? = some u → PdAt K H' (dueOf ds) (c + (ws.map (·.2)).sum) rs d u) → Q (.ref t) H'
abbrev nPdp : List Str := ["dues", "left", "parts", "rank", "paid"]
theorem scPdp : FnScope nPdp ["dues", "left"] (defScope sPdp) := ⟨rfl, rfl, rfl, by decide +kernel, rfl, by decide +kernel, by decide +kernel⟩
theorem ok_paidparts {f : Addr} {fd : FuncData} (F : Fun K "_paid_parts" "_paid_parts" sPdp f fd) (TF : TFra P w K mg base) {aO : Addr} (mO : mg "ONE" = some (.ref aO)) (hO : ∀ H, SqT K H aO (fv 1)) (mgSort : mg "sorted" = none) (mgMin : mg "min" = none) : FnOk P w K mg base CX0 2 f fd ["dues", "left"] (spPdp K) := by
  obtain ⟨fF, fdF, mF, kF, bF, GF⟩ := TF.ok
  refine F.ok scPdp (fun vs H Q E h => ?_) (fun cdv A outer s H vs Q E hr h => ?_)
  · obtain ⟨d, l, ds, rs, rfl, _⟩ := h
    rfl
  · obtain ⟨d, l, ds, rs, rfl, hD, hz, R, l0, go⟩ := h
    have hu := hu_of hr
    refine ⟨_, (pss_cons (ps_set (i := 2) scPdp.nd rfl (.inl rfl) pe_dnewK)
      (pss_cons (ps_for PassesOwn.never rfl (pi_list (pe_callB (call_sortedDI rfl) (by rfl) mgSort (by decide +kernel) (pa_cons (pv 0) pa_nil))) (pg_name (i := 3) scPdp.nd rfl (.inl rfl)) (pss_cons (ps_set (i := 4) scPdp.nd rfl (.inl rfl) (pe_callB (call_min2 rfl) (by rfl) mgMin (by decide +kernel) (pa_cons (pv 1) (pa_cons (pe_dget hu (pv 0) (pv 3) (fun _ _ => rfl)) pa_nil))))
      (pss_cons (ps_dput hu (pv 2) (pv 3) (pe_ifExp (pt_cmpR op_gt (pe_dget hu (pv 0) (pv 3) (fun _ _ => rfl)) pe_int (nomark _)) (pe_call GF (hr.mono (by decide)) (by rfl) mF kF bF .nil pass0 (pa_cons (pv 4) (pa_cons (pe_dget hu (pv 0) (pv 3) (fun _ _ => rfl)) pa_nil))) (pe_glob (v := .ref aO) (by rfl) mO rfl)) rfl)
      (pss_one (ps_set (i := 1) scPdp.nd rfl (.inl rfl) (pe_op op_sub (pv 1) (pv 4)))))))
      (pss_one (ps_ret (pe_tup (pa_cons (pv 2) (pa_cons (pv 1) pa_nil))))))), ?_⟩
    obtain ⟨kvs, ks, h1, h2, h3, h4, h5, h6⟩ := hD.ex
    have lks : ks.length ≤ 60 := by
      have := congrArg List.length h2
      rw [List.length_map, List.length_map] at this
      omega
    have dsz := due_sz ds hz.am
    have dz (r : Int) : 0 ≤ dueOf ds r ∧ dueOf ds r < 2 ^ 60 := by
      have := dsz r
      have := hz.ln
      omega
    intro p np
    have s0 := same_upd np (o := .dK [])
    refine ⟨_, rfl, d, kvs, ks, rfl, .inl (s0 _ _ h1), h2, by omega, fun ys yl hp hw ny => ⟨yl, rfl, ⟨_, SqL.of upd_same⟩, ?_⟩⟩
    obtain rfl : ys = rs := R.one hw (hp.nodup_iff.mpr h3) fun r => (hp.mem_iff).trans (h4 r)
    have s1 := s0.trans (same_upd ny (o := .lst (ys.map V.int)))
    have pyl : p ≠ yl := ne_of_none (H := upd H p (.dK [])) upd_same ny
    refine for_it (walk_list (xs := ys.map V.int)) (fun i σ Hy => ∃ (y3 y4 : Option V), σ = [some (.ref d), some (.int (lft (dueOf ds) l (ys.take i))), some (.ref p), y3, y4] ∧ Same H Hy ∧ Hy yl = some (.lst (ys.map V.int)) ∧ PtsAt K Hy p (dueOf ds) l (ys.take i))
      ⟨none, none, rfl, s1, upd_same, [], by rw [upd_ne pyl, upd_same], Nat.zero_le _, fun i r h => by cases h⟩ (fun i σ Hy _ ⟨_, _, _, _, h, _⟩ => SqL.of h) ?_ ?_
    · rintro i v σ Hy H' hi ⟨y3, y4, rfl, sy, ey, kv2, p1, p2, p3⟩ ⟨rfl, ev⟩
      rw [List.getElem?_map] at ev
      obtain ⟨r, er, rfl⟩ := Option.map_eq_some_iff.mp ev
      have inr : ∃ q ∈ ds, q.2.1 = r := (R.mem r).mp (List.mem_of_getElem? er)
      have g5 : valV kvs (Sum.inl r : Key) = some (.int (dueOf ds r)) := by rw [h5, if_pos inr]
      have dg : ∀ {Hz : Hp}, Same H Hz → DGet Hz d (.int r) (some (.int (dueOf ds r))) := fun s => by
        have := DGet.k (k := (Sum.inl r : Key)) (s _ _ h1)
        rw [g5] at this
        exact this
      have lz := lft_sz (dueOf ds) (fun r => (dz r).1) l (ys.take i) l0
      have step : ys.take (i + 1) = ys.take i ++ [r] := by rw [List.take_add_one, er]; rfl
      have emin : (if dueOf ds r < lft (dueOf ds) l (ys.take i) then dueOf ds r else lft (dueOf ds) l (ys.take i)) = min (lft (dueOf ds) l (ys.take i)) (dueOf ds r) := by
        split <;> omega
      refine ⟨_, rfl, _, rfl, _, rfl, d, _, rfl, dg sy, _, _, rfl, ?_⟩
      rw [emin]
      have fin {Hz : Hp} {t : Addr} (sz : Same H' Hz) (ht : SqT K Hz t (fv (pt (dueOf ds) (lft (dueOf ds) l (ys.take i)) r))) : ∃ (y3 y4 : Option V), ([some (.ref d), some (.int (lft (dueOf ds) l (ys.take i) - min (lft (dueOf ds) l (ys.take i)) (dueOf ds r))), some (.ref p), some (.int r), some (.int (min (lft (dueOf ds) l (ys.take i)) (dueOf ds r)))] : List (Option V)) = [some (.ref d), some (.int (lft (dueOf ds) l (ys.take (i + 1)))), some (.ref p), y3, y4] ∧ Same H (upd Hz p (.dK (putK kv2 (Sum.inl r : Key) (.ref t)))) ∧ (upd Hz p (.dK (putK kv2 (Sum.inl r : Key) (.ref t)))) yl = some (.lst (ys.map V.int)) ∧ PtsAt K (upd Hz p (.dK (putK kv2 (Sum.inl r : Key) (.ref t)))) p (dueOf ds) l (ys.take (i + 1)) := by
        have pz := sz _ _ p1
        have keepT {q : Addr} {xs : List V} (h : SqT K Hz q xs) : SqT K (upd Hz p (.dK (putK kv2 (Sum.inl r : Key) (.ref t)))) q xs := by
          rcases h with (h | ⟨o, h⟩) | h
          · exact .inl (.inl (by rw [upd_ne (ne_of h pz (by intro z; cases z))]; exact h))
          · exact .inl (.inr ⟨o, by rw [upd_ne (ne_of h pz (by intro z; cases z))]; exact h⟩)
          · exact .inr h
        refine ⟨_, _, by rw [step, lft_snoc], fun b o hb => ?_, ?_, putK kv2 (Sum.inl r : Key) (.ref t), upd_same, ?_, fun j x hx => ?_⟩
        · rw [upd_ne (ne_of_none hb np)]
          exact (sy.trans sz) _ _ hb
        · rw [upd_ne (Ne.symm pyl)]
          exact sz _ _ ey
        · rw [step, List.length_append]
          refine Nat.le_trans ?_ (Nat.succ_le_succ p2)
          have := putK_len kv2 (Sum.inl r : Key) (.ref t)
          exact this
        · rw [step] at hx
          rcases Nat.lt_or_ge j (ys.take i).length with lt | ge
          · rw [List.getElem?_append_left lt] at hx
            obtain ⟨t', e1, e2⟩ := p3 j x hx
            have xr : x ≠ r := fun z => by
              rw [List.getElem?_take] at hx
              split at hx
              · next c =>
                rw [z] at hx
                have := R.ix hx er
                omega
              · cases hx
            refine ⟨t', ?_, ?_⟩
            · rw [valV_put, if_neg (fun z => xr (Sum.inl.inj z))]
              exact e1
            · have tk : (ys.take (i + 1)).take j = (ys.take i).take j := by
                rw [List.take_take, List.take_take]
                rw [List.length_take] at lt
                congr 1
                omega
              rw [tk]
              exact keepT (sameT sz e2)
          · rw [List.getElem?_append_right ge] at hx
            have li : (ys.take i).length = i := by
              rw [List.length_take]
              have := (List.getElem?_eq_some_iff.mp er).1
              omega
            cases k : j - (ys.take i).length with
            | zero =>
              rw [k] at hx
              obtain rfl : r = x := Option.some.inj hx
              have ji : j = i := by omega
              subst ji
              refine ⟨t, ?_, ?_⟩
              · rw [valV_put, if_pos rfl]
              · rw [List.take_take, show min j (j + 1) = j by omega]
                exact keepT ht
            | succ m => rw [k] at hx; cases hx
      have pk2 : kv2.length < sizeLine := small1000 (by
        have := R.mem
        rw [List.length_take] at p2
        have e9 := congrArg List.length h2
        rw [List.length_map, List.length_map] at e9
        have := hp.length_eq
        omega)
      refine ⟨_, rfl, _, rfl, d, _, rfl, dg sy, _, _, rfl, rfl, _, rfl, ite2 (fun c => ?_) (fun c => ?_)⟩
      · have c' : 0 < dueOf ds r := of_decide_eq_true c
        have ept : pt (dueOf ds) (lft (dueOf ds) l (ys.take i)) r = Rat.divInt (min (lft (dueOf ds) l (ys.take i)) (dueOf ds r)) (dueOf ds r) := if_pos c'
        refine ⟨_, rfl, _, rfl, _, rfl, d, _, rfl, dg sy, _, _, rfl, by omega, ⟨Nat.lt_of_lt_of_le (show _ < 2 ^ 64 by have := dz r; omega) (Nat.pow_le_pow_right (by decide) (by decide))⟩, fun t nt => ⟨_, rfl, _, rfl, p, _, rfl, DPut.k (k := (Sum.inl r : Key)) ((same_upd nt) _ _ p1) pk2, ?_⟩⟩
        exact ⟨_, rfl, _, rfl, _, _, rfl, rfl, fin (same_upd nt) (by rw [ept]; exact SqT.of upd_same)⟩
      · have c' : ¬ 0 < dueOf ds r := fun z => c (decide_eq_true z)
        have ept : pt (dueOf ds) (lft (dueOf ds) l (ys.take i)) r = 1 := if_neg c'
        exact ⟨_, rfl, _, rfl, p, _, rfl, DPut.k (k := (Sum.inl r : Key)) p1 pk2, _, rfl, _, rfl, _, _, rfl, rfl, fin (Same.refl _) (by rw [ept]; exact hO _)⟩
    · rintro σ Hy ⟨y3, y4, rfl, sy, ey, hP⟩
      rw [List.length_map, List.take_length] at *
      refine ⟨_, rfl, _, rfl, (by show 2 ≤ sizeLine; decide), fun t nt => ?_⟩
      refine go t p _ (sy.trans (same_upd nt)) (sy.free nt) np upd_same ?_
      obtain ⟨kv2, p1, p2, p3⟩ := hP
      exact ⟨kv2, (same_upd nt) _ _ p1, p2, fun i r h => by
        obtain ⟨t', e1, e2⟩ := p3 i r h
        exact ⟨t', e1, sameT (same_upd nt) e2⟩⟩
end
end K2
namespace K2
open PySem L2 PyProof.Rows G
theorem noE1 (c : Int) (d l : Addr) : (efl c d l).lookup ("debts" : Str) = none := by kernel_rfl
theorem noE2 (c : Int) (d l : Addr) : (efl c d l).lookup ("all_worth" : Str) = none := by kernel_rfl
theorem Dus.mono {H : Hp} {a : Addr} {ds : List Db} {n m : Nat} (D : Dus H a ds n) (h : n ≤ m) : Dus H a ds m := by
  obtain ⟨kvs, ks, h1, h2, h3, h4, h5, h6⟩ := D.ex
  exact ⟨kvs, ks, h1, h2, h3, h4, h5, Nat.le_trans h6 h⟩
theorem Dus.same {H H' : Hp} {a : Addr} {ds : List Db} {n : Nat} (D : Dus H a ds n) (s : Same H H') : Dus H' a ds n := by
  obtain ⟨kvs, ks, h1, h2⟩ := D.ex
  exact ⟨kvs, ks, s _ _ h1, h2⟩
theorem PtsAt.same {K : PySem.W.Frag} {H H' : Hp} {p : Addr} {du : Int → Int} {l : Int} {rs : List Int} (h : PtsAt K H p du l rs) (s : Same H H') : PtsAt K H' p du l rs := by
  obtain ⟨kv2, p1, p2, p3⟩ := h
  exact ⟨kv2, s _ _ p1, p2, fun i r h => by
    obtain ⟨t', e1, e2⟩ := p3 i r h
    exact ⟨t', e1, sameT s e2⟩⟩
section
variable {P : Program} {w : World} {K : PySem.W.Frag} {mg : Str → Option Value} {base : Heap}
abbrev nPdd : List Str := ["estate", "dues", "debt", "parts", "left", "paid", "name", "rank", "amount"]
theorem scPdd : FnScope nPdd ["estate"] (defScope sPdd) := ⟨rfl, rfl, rfl, by decide +kernel, rfl, by decide +kernel, by decide +kernel⟩
theorem ok_paid {f : Addr} {fd : FuncData} (F : Fun K "paid_debts" "paid_debts" sPdd f fd) {C : Addr} (D : ET K C) (TDb : HasM P w K mg base CX0 C "debts" ["self"] 1 (spDbs C)) (TAw : HasM P w K mg base CX0 C "all_worth" ["self"] 1 (spAll C)) (TP : Has P w K mg base CX0 "_paid_parts" ["dues", "left"] 2 (spPdp K)) (TT : Has P w K mg base CX0 "times" ["one", "two"] 2 (spAr K C2m fun p q => p * q)) : FnOk P w K mg base CX0 4 f fd ["estate"] (spPdd K C) := by
  obtain ⟨fDb, fdDb, meDb, bDb, GDb⟩ := TDb.ok
  obtain ⟨fAw, fdAw, meAw, bAw, GAw⟩ := TAw.ok
  obtain ⟨fP, fdP, mP, kP, bP, GP⟩ := TP.ok
  obtain ⟨fT, fdT, mT, kT, bT, GT⟩ := TT.ok
  refine F.ok scPdd (fun vs H Q E h => ?_) (fun cdv A outer s H vs Q E hr h => ?_)
  · obtain ⟨p, c, ws, qs, ds, rs, rfl, _⟩ := h
    rfl
  · obtain ⟨p, c, ws, qs, ds, rs, rfl, hE, hT, hz, R, l0, go⟩ := h
    have hu := hu_of hr
    refine ⟨_, (pss_cons (ps_set (i := 1) scPdd.nd rfl (.inl rfl) pe_dnewK)
      (pss_cons (ps_for PassesOwn.never rfl (pi_list (pe_meth0 (pv 0) D.cl meDb GDb (hr.mono (by decide)) bDb .nil pass0)) (pg_name (i := 2) scPdd.nd rfl (.inl rfl)) (pss_one (ps_dput hu (pv 1) (pe_ix ix_tup (pv 2) pe_int (fun _ _ => rfl)) (pe_op op_add (pe_dget2 hu (pv 1) (pe_ix ix_tup (pv 2) pe_int (fun _ _ => rfl)) pe_int ⟨rfl, rfl, rfl, rfl⟩) (pe_ix ix_tup (pv 2) pe_int (fun _ _ => rfl))) rfl)))
      (pss_cons (ps_asg (pe_call GP (hr.mono (by decide)) (by rfl) mP kP bP .nil pass0 (pa_cons (pv 1) (pa_cons (pe_meth0 (pv 0) D.cl meAw GAw (hr.mono (by decide)) bAw .nil pass0) pa_nil))) (pg_tup (n := 2) rfl (pgs_cons (pg_name (i := 3) scPdd.nd rfl (.inr rfl)) (pgs_cons (pg_name (i := 4) scPdd.nd rfl (.inl rfl)) pgs_nil))))
      (pss_cons (ps_setLc (i := 5) (own := [("name", 6), ("rank", 7), ("amount", 8)]) (g := (gTup K 3 (gCons (gName 6) (gCons (gName 7) (gCons (gName 8) gNil))))) (tt := tYes) rfl scPdd.nd rfl rfl (sw_true rfl rfl rfl (by decide +kernel)) (pi_list (pe_meth0 (pv 0) D.cl meDb GDb (hr.mono (by decide)) bDb .nil pass0)) (blkOk_by (N := nPdd) (sc := defScope sPdd) (by decide +kernel)) (fun _ _ _ _ _ => (pg_tup (n := 3) rfl (pgs_cons (pg_name (i := 6) scPdd.nd rfl (.inl rfl) (.inr rfl)) (pgs_cons (pg_name (i := 7) scPdd.nd rfl (.inl rfl) (.inr rfl)) (pgs_cons (pg_name (i := 8) scPdd.nd rfl (.inl rfl) (.inr rfl)) pgs_nil))))) (fun _ _ _ _ _ => pts_nil) (fun _ _ _ _ _ => (pe_tup (pa_cons (pv 6) (pa_cons (pe_call GT (hr.mono (by decide)) (by rfl) mT kT bT .nil pass0 (pa_cons (pe_tup (pa_cons (pv 8) (pa_cons pe_int pa_nil))) (pa_cons (pe_dget hu (pv 3) (pv 7) (fun _ _ => rfl)) pa_nil))) pa_nil)))))
      (pss_one (ps_ret (pe_tup (pa_cons (pv 5) (pa_cons (pv 4) pa_nil))))))))), ?_⟩
    obtain ⟨dx, wd, wl, hp, hwd, hwl⟩ := id hE.ex
    have lq : qs.length = ds.length := by
      have := hT.1
      rw [List.length_map] at this
      exact this
    have tup {i : Nat} {d : Db} {q : Addr} {Hz : Hp} (s : Same H Hz) (h1 : qs[i]? = some q) (h2 : ds[i]? = some d) : Hz q = some (.tup (dc d)) := s _ _ (hT.2 i q (dc d) h1 (by rw [List.getElem?_map, h2]; rfl))
    have geti {i : Nat} {v : V} (h : (qs.map V.ref)[i]? = some v) : ∃ q d, qs[i]? = some q ∧ ds[i]? = some d ∧ v = .ref q := by
      rw [List.getElem?_map] at h
      obtain ⟨q, hq, rfl⟩ := Option.map_eq_some_iff.mp h
      exact ⟨q, ds[i]'(by have := (List.getElem?_eq_some_iff.mp hq).1; omega), hq, List.getElem?_eq_getElem _, rfl⟩
    intro d nd
    have s0 := same_upd nd (o := .dK [])
    refine ⟨_, rfl, p, dx, _, rfl, s0 _ _ hp, noE1 _ _ _, p, c, ws, _, rfl, hE.same s0, fun l1 nl1 => ?_⟩
    have s1 := s0.trans (same_upd nl1 (o := .lst (qs.map V.ref)))
    have dl1 : d ≠ l1 := ne_of_none (H := upd H d (.dK [])) upd_same nl1
    refine ⟨l1, rfl, ⟨_, SqL.of upd_same⟩, for_it (walk_list (xs := qs.map V.ref)) (fun i σ Hy => ∃ (y2 : Option V), σ = [some (.ref p), some (.ref d), y2, none, none, none, none, none, none] ∧ Same H Hy ∧ Hy l1 = some (.lst (qs.map V.ref)) ∧ Dus Hy d (ds.take i) i)
      ⟨none, rfl, s1, upd_same, [], [], by rw [upd_ne dl1, upd_same], rfl, List.nodup_nil, fun r => by simp, fun r => by simp [valV], Nat.zero_le _⟩ (fun i σ Hy _ ⟨_, _, _, h, _⟩ => SqL.of h) ?_ ?_⟩
    · rintro i v σ Hy H' hi ⟨y2, rfl, sy, ey, hD⟩ ⟨rfl, ev⟩
      obtain ⟨q, db, hq, hd, rfl⟩ := geti ev
      have ht := tup sy hq hd
      obtain ⟨kvs, ks, h1, h2, h3, h4, h5, h6⟩ := id hD.ex
      have eo : (valV kvs (Sum.inl db.2.1 : Key)).getD (.int 0) = .int (dueOf (ds.take i) db.2.1) := by
        rw [h5]
        by_cases c : ∃ p ∈ ds.take i, p.2.1 = db.2.1
        · rw [if_pos c]
          rfl
        · rw [if_neg c, due_none c]
          rfl
      refine ⟨_, rfl, d, rfl, .inl ⟨_, .inl h1⟩, _, rfl, q, _, 1, .int db.2.1, rfl, rfl, SqT.of ht, atI_nat (j := 1) rfl, _, DGet.k (k := (Sum.inl db.2.1 : Key)) h1, _, rfl, q, _, 2, .int db.2.2, rfl, rfl, SqT.of ht, atI_nat (j := 2) rfl, dueOf (ds.take i) db.2.1, db.2.2, eo, rfl, _, rfl, _, rfl, q, _, 1, .int db.2.1, rfl, rfl, SqT.of ht, atI_nat (j := 1) rfl, d, _, rfl, DPut.k (k := (Sum.inl db.2.1 : Key)) h1 (small1000 (by have := hz.ln; rw [List.length_map] at hi; omega)), ?_⟩
      refine ⟨_, rfl, fun b o hb => ?_, ?_, ?_⟩
      · rw [upd_ne (ne_of_none hb nd)]
        exact sy _ _ hb
      · rw [upd_ne (Ne.symm dl1)]
        exact ey
      · rw [List.take_add_one, hd]
        exact hD.put db h1
    · rintro σ Hy ⟨y2, rfl, sy, ey, hD⟩
      rw [List.length_map, lq, List.take_length] at hD
      refine ⟨_, rfl, _, rfl, p, dx, _, rfl, sy _ _ hp, noE2 _ _ _, p, c, ws, _, rfl, hE.same sy, d, c + (ws.map (·.2)).sum, ds, rs, rfl, hD.mono hz.ln, hz, R, l0, fun t pp H2 s2 nt npp et hP => ?_⟩
      refine ⟨t, _, rfl, SqT.of et, rfl, _, _, rfl, _, _, rfl, rfl, ?_⟩
      have t2 := sy.trans s2
      refine ⟨_, rfl, p, dx, _, rfl, t2 _ _ hp, noE1 _ _ _, p, c, ws, _, rfl, hE.same t2, fun l2 nl2 => ⟨l2, rfl, ⟨_, SqL.of upd_same⟩, fun Dn nD => ?_⟩⟩
      have s3 := t2.trans (same_upd nl2 (o := .lst (qs.map V.ref)))
      have hP3 := hP.same (same_upd nl2 (o := .lst (qs.map V.ref)))
      have l2D : l2 ≠ Dn := ne_of_none (H := upd H2 l2 (.lst (qs.map V.ref))) upd_same nD
      have e3 : (upd H2 l2 (.lst (qs.map V.ref))) l2 = some (.lst (qs.map V.ref)) := upd_same
      generalize upd H2 l2 (.lst (qs.map V.ref)) = H3 at s3 hP3 nD e3 ⊢
      have dsz := due_sz ds hz.am
      have dz (r : Int) : 0 ≤ dueOf ds r ∧ dueOf ds r < 2 ^ 60 := by
        have := dsz r
        have := hz.ln
        omega
      refine lc_it (walk_list (xs := qs.map V.ref)) (fun i Hz => Same H3 Hz ∧ ∃ us : List Addr, Hz Dn = some (.lst (us.map V.ref)) ∧ us.length = i ∧ ∀ (j : Nat) (d : Db) (u : Addr), ds[j]? = some d → us[j]? = some u → PdAt K Hz (dueOf ds) (c + (ws.map (·.2)).sum) rs d u)
        ⟨same_upd nD, [], upd_same, rfl, fun j d u _ h => by cases h⟩ (fun i Hz _ h => SqL.of (h.1 _ _ e3)) ?_ ?_
      · rintro i v Hz H' hi ⟨k1, us, k2, k3, k4⟩ ⟨rfl, ev⟩
        obtain ⟨q, db, hq, hd, rfl⟩ := geti ev
        have ht := tup (s3.trans k1) hq hd
        obtain ⟨ri, hri⟩ := List.mem_iff_getElem?.mp ((R.mem db.2.1).mpr ⟨db, List.mem_of_getElem? hd, rfl⟩)
        obtain ⟨kv2, p1, p2, p3⟩ := hP3.same k1
        obtain ⟨tf, f1, f2⟩ := p3 ri db.2.1 hri
        have am := hz.am db (List.mem_of_getElem? hd)
        have i1 := int_sz am.1 am.2
        have lz := lft_sz (dueOf ds) (fun r => (dz r).1) (c + (ws.map (·.2)).sum) (rs.take ri) l0
        have i2 := pt_sz (du := dueOf ds) (r := db.2.1) lz.1 (dz db.2.1).2
        refine ⟨q, _, rfl, SqT.of ht, rfl, _, _, rfl, _, _, rfl, _, _, rfl, rfl, rfl, _, rfl, _, rfl, (by show 2 ≤ sizeLine; decide), fun t1 nt1 => ⟨_, rfl, _, rfl, pp, _, rfl, ?_, t1, tf, (db.2.2 : Rat), _, rfl, ?_, sameT (same_upd nt1) f2, ⟨i1.1, i2.1, i1.2.ok i2.2 (by decide) (by decide) (by decide)⟩, fun x nx => ⟨(by show 2 ≤ sizeLine; decide), fun T1 nT => ⟨us.map V.ref, ?_, ?_, ?_, us ++ [T1], ?_, ?_, ?_⟩⟩⟩⟩
        · have := DGet.k (k := (Sum.inl db.2.1 : Key)) ((same_upd nt1 (o := .tup [.int db.2.2, .int 1])) _ _ p1)
          rw [f1] at this
          exact this
        · rw [fv_int]
          exact SqT.of upd_same
        · exact (((same_upd nt1).trans (same_upd nx)).trans (same_upd nT)) _ _ k2
        · rw [List.length_map, k3]
          exact small1000 (by have := hz.ln; rw [List.length_map] at hi; omega)
        · intro b o hb
          rw [upd_ne (ne_of_none hb nD)]
          exact (((same_upd nt1).trans (same_upd nx)).trans (same_upd nT)) _ _ (k1 b o hb)
        · rw [upd_same, List.map_append]
          rfl
        · rw [List.length_append, k3]
          rfl
        · have s5 := ((same_upd nt1 (o := .tup [.int db.2.2, .int 1])).trans (same_upd nx (o := .tup (fv ((db.2.2 : Rat) * pt (dueOf ds) (lft (dueOf ds) (c + (ws.map (·.2)).sum) (rs.take ri)) db.2.1))))).trans (same_upd nT (o := .tup [.str db.1, .ref x]))
          have DT : T1 ≠ Dn := fun e => by
            rw [e] at nT
            have := ((same_upd nt1 (o := .tup [.int db.2.2, .int 1])).trans (same_upd nx (o := .tup (fv ((db.2.2 : Rat) * pt (dueOf ds) (lft (dueOf ds) (c + (ws.map (·.2)).sum) (rs.take ri)) db.2.1))))) _ _ k2
            rw [this] at nT
            cases nT
          have lift {d : Db} {u : Addr} {Hw : Hp} {xs : List V} (hw : Hw Dn = some (.lst xs)) {o : HO} (h : PdAt K Hw (dueOf ds) (c + (ws.map (·.2)).sum) rs d u) : PdAt K (upd Hw Dn o) (dueOf ds) (c + (ws.map (·.2)).sum) rs d u := by
            obtain ⟨f, i, a, b, cc⟩ := h
            refine ⟨f, i, by rw [upd_ne (ne_of a hw (by intro z; cases z))]; exact a, b, ?_⟩
            rcases cc with (h | ⟨o', h⟩) | h
            · exact .inl (.inl (by rw [upd_ne (ne_of h hw (by intro z; cases z))]; exact h))
            · exact .inl (.inr ⟨o', by rw [upd_ne (ne_of h hw (by intro z; cases z))]; exact h⟩)
            · exact .inr h
          intro j d u h1 h2
          refine lift (s5 _ _ k2) ?_
          rcases Nat.lt_or_ge j us.length with lt | ge
          · rw [List.getElem?_append_left lt] at h2
            exact (k4 j d u h1 h2).same s5
          · rw [List.getElem?_append_right ge] at h2
            cases k : j - us.length with
            | zero =>
              rw [k] at h2
              obtain rfl : T1 = u := Option.some.inj h2
              have ji : j = i := by omega
              subst ji
              rw [hd] at h1
              obtain rfl := Option.some.inj h1
              refine ⟨x, ri, upd_same, hri, ?_⟩
              exact sameT (same_upd nT) (SqT.of upd_same)
            | succ m => rw [k] at h2; cases h2
      · rintro Hz ⟨k1, us, k2, k3, k4⟩
        refine ⟨_, rfl, _, rfl, (by show 2 ≤ sizeLine; decide), fun tt ntt => ?_⟩
        refine go tt Dn _ us ((s3.trans k1).trans (same_upd ntt)) ((s3.trans k1).free ntt) upd_same ((same_upd ntt) _ _ k2) ?_ fun j d u h1 h2 => (k4 j d u h1 h2).same (same_upd ntt)
        rw [k3, List.length_map, lq]
end
end K2
namespace K2
open PySem L2 PyProof.Rows G
def modeB (v : V) : Bool := decide (v = .str "stocks") || decide (v = .str "heads")
def rulOut (days mode rows : V) (o : Option (List (Option (List V)))) : Option Str :=
  if uptV days 1000 = false then some "days" else if modeB mode = false then some "mode" else if uptV rows 3 = false then some "rows" else
    match rows with
    | .int r => if partsB o (r + 1) = false then some "spouse" else none
    | _ => none
def rfl5 (d : Int) (m : Str) (r : Int) (s p : V) : List (Str × V) := [("days", .int d), ("mode", .str m), ("rows", .int r), ("steps_in", s), ("_spouse", p)]
structure BT (K : PySem.W.Frag) (C : Addr) : Prop where
  cl : Cls K C
  n1 : NoAttr K C "days"
  n2 : NoAttr K C "mode"
  n3 : NoAttr K C "rows"
  n4 : NoAttr K C "steps_in"
  n5 : NoAttr K C "_spouse"
theorem put5 (d : Int) (m : Str) (r : Int) (s p : V) : putF "_spouse" p (putF "steps_in" s (putF "rows" (.int r) (putF "mode" (.str m) (putF "days" (.int d) [])))) = rfl5 d m r s p := by kernel_rfl
theorem lk5 (d : Int) (m : Str) (r : Int) (s p : V) : (rfl5 d m r s p).lookup ("_spouse" : Str) = some p := by kernel_rfl
theorem lkd (d : Int) (m : Str) (r : Int) (s p : V) : (rfl5 d m r s p).lookup ("days" : Str) = some (.int d) := by kernel_rfl
theorem lkm (d : Int) (m : Str) (r : Int) (s p : V) : (rfl5 d m r s p).lookup ("mode" : Str) = some (.str m) := by kernel_rfl
theorem lkr (d : Int) (m : Str) (r : Int) (s p : V) : (rfl5 d m r s p).lookup ("rows" : Str) = some (.int r) := by kernel_rfl
theorem lks (d : Int) (m : Str) (r : Int) (s p : V) : (rfl5 d m r s p).lookup ("steps_in" : Str) = some s := by kernel_rfl
theorem noSp (d : Int) (m : Str) (r : Int) (s p : V) : (rfl5 d m r s p).lookup ("spouse_part" : Str) = none := by kernel_rfl
theorem in2s (w a b : Str) : inV (.str w) [.str a, .str b] = (decide (V.str w = .str a) || decide (V.str w = .str b)) := by
  show ((a == w) || ((b == w) || false)) = _
  rw [Bool.or_false, Bool.eq_iff_iff, Bool.or_eq_true, Bool.or_eq_true, decide_eq_true_eq, decide_eq_true_eq, beq_iff_eq, beq_iff_eq]
  exact ⟨fun h => h.imp (fun z => congrArg V.str z.symm) fun z => congrArg V.str z.symm, fun h => h.imp (fun z => (V.str.inj z).symm) fun z => (V.str.inj z).symm⟩
/-- pairs of ints in a tuple -/
def PrsAt (K : PySem.W.Frag) (H : Hp) (a : Addr) (ps : List (Int × Int)) : Prop := ∃ qs : List Addr, SqT K H a (qs.map V.ref) ∧ qs.length = ps.length ∧ ∀ (i : Nat) (q : Addr) (p : Int × Int), qs[i]? = some q → ps[i]? = some p → SqT K H q [.int p.1, .int p.2]
theorem PrsAt.same {K : PySem.W.Frag} {H H' : Hp} {a : Addr} {ps : List (Int × Int)} (h : PrsAt K H a ps) (s : Same H H') : PrsAt K H' a ps := by
  obtain ⟨qs, h1, h2, h3⟩ := h
  exact ⟨qs, sameT s h1, h2, fun i q p a b => sameT s (h3 i q p a b)⟩
section
variable {P : Program} {w : World} {K : PySem.W.Frag} {mg : Str → Option Value} {base : Heap}
def spBokI (K : PySem.W.Frag) (C CR : Addr) : Sp := fun vs H Q E => ∃ (p dx : Addr) (days mode sv rows steps : V) (o : Option (List (Option (List V)))), vs = [.ref p, days, mode, sv, rows, steps] ∧ flatV days = true ∧ OkV mode ∧ flatV rows = true ∧ LsIt K partV H sv o ∧ H p = some (.ins C dx []) ∧
  (∀ why, rulOut days mode rows o = some why → ∀ d H', Same H H' → H d = none → H' d = some (.xd [("why", .str why)]) → E (.ref CR) (some d) H') ∧
  (∀ (i : Int) (z : Str) (r : Int), days = .int i → mode = .str z → rows = .int r → rulOut days mode rows o = none → ∀ H', Kp p H H' → H' p = some (.ins C dx (rfl5 i z r steps sv)) → Q .non H')
def spSpp (K : PySem.W.Frag) (C : Addr) : Sp := fun vs H Q _ => ∃ (p dx a : Addr) (d : Int) (m : Str) (r : Int) (s : V) (ps : List (Int × Int)) (i : Nat) (x y : Int), vs = [.ref p, .int (i : Int)] ∧ H p = some (.ins C dx (rfl5 d m r s (.ref a))) ∧ PrsAt K H a ps ∧ ps[i]? = some (x, y) ∧ 0 < y ∧ y ≤ 1000 ∧ 0 ≤ x ∧ x ≤ 1000 ∧ ∀ t, H t = none → Q (.ref t) (upd H t (.tup (fv (Rat.divInt x y))))
def spOtp (K : PySem.W.Frag) (C : Addr) : Sp := fun vs H Q _ => ∃ (p dx a : Addr) (d : Int) (m : Str) (r : Int) (s : V) (ps : List (Int × Int)) (i : Nat) (x y : Int), vs = [.ref p, .int (i : Int)] ∧ H p = some (.ins C dx (rfl5 d m r s (.ref a))) ∧ PrsAt K H a ps ∧ ps[i]? = some (x, y) ∧ 0 < y ∧ y ≤ 1000 ∧ 0 ≤ x ∧ x ≤ 1000 ∧ ∀ t H', Same H H' → H t = none → H' t = some (.tup (fv (1 - Rat.divInt x y))) → Q (.ref t) H'
abbrev nBokI : List Str := ["self", "days", "mode", "spouse", "rows", "steps_in"]
theorem scBokI : FnScope nBokI ["self", "days", "mode", "spouse", "rows", "steps_in"] (defScope sBokI) := ⟨rfl, rfl, rfl, by decide +kernel, rfl, by decide +kernel, by decide +kernel⟩
theorem ok_rulI {f : Addr} {fd : FuncData} {dvs : List V} {kws : List (Str × V)} (F : FunD K "__init__" "Rules.__init__" (defArgs sBokI) (defBody sBokI) (defScope sBokI) dvs kws f fd) {C CR : Addr} (T : Txt mg) (D : BT K C) (XR : XT P w K mg base "BadRules" "why" CR) {aM : Addr} (mMo : mg "MODES" = some (.ref aM)) (hM : ∀ H, SqT K H aM [.str "stocks", .str "heads"]) (TU : Has P w K mg base CX0 "_is_up_to" ["value", "most"] 2 spUpt) (TR : Has P w K mg base CX0 "_are_parts" ["value", "many"] 4 (spPas K)) : FnOk P w K mg base (L2.CX P w) 5 f fd ["self", "days", "mode", "spouse", "rows", "steps_in"] (spBokI K C CR) := by
  obtain ⟨t1, mMd⟩ := T.mdays
  obtain ⟨t2, mMr⟩ := T.mrows
  obtain ⟨fU, fdU, mU, kU, bU, GU⟩ := TU.ok
  obtain ⟨fR, fdR, mR, kR, bR, GR⟩ := TR.ok
  obtain ⟨fE, fdE, iE, tE, bE, GE⟩ := XR.i
  refine FunD.ok F scBokI (fun vs H Q E h => ?_) (fun cdv A outer s H vs Q E hr h => ?_)
  · obtain ⟨p, dx, days, mode, sv, rows, steps, o, rfl, _⟩ := h
    rfl
  · obtain ⟨p, dx, days, mode, sv, rows, steps, o, rfl, hd, hm, hw, hl, hp, g1, g2⟩ := h
    refine ⟨_, (pss_cons (ps_if (pt_not (pt_val (pe_call GU (hr.mono (by decide)) (by rfl) mU kU bU .nil pass0 (pa_cons (pv 1) (pa_cons (pe_glob (v := .int 1000) (by rfl) mMd ⟨_, rfl⟩) pa_nil))))) (pss_one (ps_raise rfl (takes_of rfl rfl rfl rfl) (pmk_oex XR.o iE tE GE (hr.mono (by decide)) bE .nil pass0 (by rfl) XR.g (pa_cons pe_str pa_nil)))) pss_nil)
      (pss_cons (ps_if (PW.pt (pw_or (pt_not (pt_val (pe_callB call_isi (by rfl) T.isi (by decide +kernel) (pa_cons (pv 2) (pa_cons (pe_bltn (v := .ty "str") (u := .type "str") (by rfl) T.str (by decide +kernel) rfl) pa_nil))))) (pw_or1 (pt_cmpR op_notIn_seq (pv 2) (pe_glob (v := .ref aM) (by rfl) mMo rfl) (by rfl))))) (pss_one (ps_raise rfl (takes_of rfl rfl rfl rfl) (pmk_oex XR.o iE tE GE (hr.mono (by decide)) bE .nil pass0 (by rfl) XR.g (pa_cons pe_str pa_nil)))) pss_nil)
      (pss_cons (ps_if (pt_not (pt_val (pe_call GU (hr.mono (by decide)) (by rfl) mU kU bU .nil pass0 (pa_cons (pv 4) (pa_cons (pe_glob (v := .int 3) (by rfl) mMr ⟨_, rfl⟩) pa_nil))))) (pss_one (ps_raise rfl (takes_of rfl rfl rfl rfl) (pmk_oex XR.o iE tE GE (hr.mono (by decide)) bE .nil pass0 (by rfl) XR.g (pa_cons pe_str pa_nil)))) pss_nil)
      (pss_cons (ps_if (pt_not (pt_val (pe_call GR (hr.mono (by decide)) (by rfl) mR kR bR .nil pass0 (pa_cons (pv 3) (pa_cons (pe_op op_add (pv 4) pe_int) pa_nil))))) (pss_one (ps_raise rfl (takes_of rfl rfl rfl rfl) (pmk_oex XR.o iE tE GE (hr.mono (by decide)) bE .nil pass0 (by rfl) XR.g (pa_cons pe_str pa_nil)))) pss_nil)
      (pss_cons (ps_fld (pv 0) (pv 1) rfl)
      (pss_cons (ps_fld (pv 0) (pv 2) rfl)
      (pss_cons (ps_fld (pv 0) (pv 4) rfl)
      (pss_cons (ps_fld (pv 0) (pv 5) rfl)
      (pss_one (ps_fld (pv 0) (pv 3) rfl)))))))))), ?_⟩
    have bad {H1 : Hp} (s : Same H H1) (why : Str) (e : rulOut days mode rows o = some why) : ∀ d H', H1 d = none → Same H1 H' → H' d = some (.xd [("why", .str why)]) → E (.ref CR) (some d) H' := fun d H' nd sm e' => g1 why e d H' (s.trans sm) (s.free nd) e'
    refine ⟨_, rfl, days, 1000, rfl, hd, _, rfl, ?_⟩
    cases e1 : uptV days 1000 with
    | false => exact iteT (mk_read XR.o XR.n (bad (Same.refl _) _ (if_pos e1)))
    | true =>
      have o1 : rulOut days mode rows o = _ := if_neg (by rw [e1]; decide)
      refine iteF ⟨_, rfl, mode, .ty "str", _, _, _, rfl, .ty _, ty_flat hm.fl, kit_str hm.fl, _, rfl, ?_⟩
      cases e2 : isStr mode with
      | false =>
        have m2 : modeB mode = false := by
          cases mode <;> first | rfl | cases e2
        exact iteT (mk_read XR.o XR.n (bad (Same.refl _) _ (o1.trans (if_pos m2))))
      | true =>
        obtain ⟨z, rfl⟩ : ∃ z, mode = .str z := by
          cases mode <;> first | exact ⟨_, rfl⟩ | cases e2
        refine iteF ⟨_, rfl, aM, _, rfl, .inr (hM _), rfl, rfl, _, rfl, ?_⟩
        rw [show (if true = true then !inV (V.str z) [V.str "stocks", V.str "heads"] else inV (V.str z) [V.str "stocks", V.str "heads"]) = !inV (V.str z) [V.str "stocks", V.str "heads"] from if_pos rfl, in2s]
        have em : (decide (V.str z = .str "stocks") || decide (V.str z = .str "heads")) = modeB (.str z) := rfl
        rw [em]
        cases e3 : modeB (.str z) with
        | false => exact iteT (mk_read XR.o XR.n (bad (Same.refl _) _ (o1.trans (if_pos e3))))
        | true =>
          have o2 := o1.trans (if_neg (by rw [e3]; decide))
          refine iteF ⟨_, rfl, rows, 3, rfl, hw, _, rfl, ?_⟩
          cases e4 : uptV rows 3 with
          | false => exact iteT (mk_read XR.o XR.n (bad (Same.refl _) _ (o2.trans (if_pos e4))))
          | true =>
            have o3 := o2.trans (if_neg (by rw [e4]; decide))
            obtain ⟨r, rfl⟩ : ∃ r, rows = .int r := by
              cases rows <;> first | exact ⟨_, rfl⟩ | cases e4
            obtain ⟨i, rfl⟩ : ∃ i, days = .int i := by
              cases days <;> first | exact ⟨_, rfl⟩ | cases e1
            refine iteF ⟨_, rfl, _, rfl, _, _, rfl, rfl, sv, r + 1, o, rfl, hl, fun H1 hS => ⟨_, rfl, ?_⟩⟩
            have o3' : rulOut (.int i) (.str z) (.int r) o = if partsB o (r + 1) = false then some ("spouse" : Str) else none := o3
            cases e5 : partsB o (r + 1) with
            | false =>
              rw [if_pos e5] at o3'
              exact iteT (mk_read XR.o XR.n (bad hS _ o3'))
            | true =>
              rw [if_neg (by rw [e5]; decide)] at o3'
              refine iteF ⟨_, rfl, _, rfl, p, C, dx, _, rfl, hS _ _ hp, D.cl, D.n1, (by decide), _, rfl, _, rfl, p, C, dx, _, rfl, upd_same, D.cl, D.n2, (Nat.lt_of_le_of_lt (show _ ≤ 1 from Nat.le_trans (putF_len _ _ _) (Nat.succ_le_succ (Nat.le_of_eq List.length_nil))) (by decide)), _, rfl, _, rfl, p, C, dx, _, rfl, upd_same, D.cl, D.n3, (Nat.lt_of_le_of_lt (show _ ≤ 2 from Nat.le_trans (putF_len _ _ _) (Nat.succ_le_succ (Nat.le_trans (putF_len _ _ _) (Nat.succ_le_succ (Nat.le_of_eq List.length_nil))))) (by decide)), _, rfl, _, rfl, p, C, dx, _, rfl, upd_same, D.cl, D.n4, (Nat.lt_of_le_of_lt (show _ ≤ 3 from Nat.le_trans (putF_len _ _ _) (Nat.succ_le_succ (Nat.le_trans (putF_len _ _ _) (Nat.succ_le_succ (Nat.le_trans (putF_len _ _ _) (Nat.succ_le_succ (Nat.le_of_eq List.length_nil))))))) (by decide)), _, rfl, _, rfl, p, C, dx, _, rfl, upd_same, D.cl, D.n5, (Nat.lt_of_le_of_lt (show _ ≤ 4 from Nat.le_trans (putF_len _ _ _) (Nat.succ_le_succ (Nat.le_trans (putF_len _ _ _) (Nat.succ_le_succ (Nat.le_trans (putF_len _ _ _) (Nat.succ_le_succ (Nat.le_trans (putF_len _ _ _) (Nat.succ_le_succ (Nat.le_of_eq List.length_nil))))))))) (by decide)), ?_⟩
              refine g2 i z r rfl rfl rfl o3' _ (Kp.upd (Kp.upd (Kp.upd (Kp.upd (Kp.upd (fun b o h _ => hS b o h) (.inr rfl)) (.inr rfl)) (.inr rfl)) (.inr rfl)) (.inr rfl)) ?_
              rw [upd_same]
              exact congrArg some (congrArg (HO.ins C dx) (put5 i z r steps sv))
abbrev nSpp : List Str := ["self", "row", "first", "second"]
theorem scSpp : FnScope nSpp ["self", "row"] (defScope sSpp) := ⟨rfl, rfl, rfl, by decide +kernel, rfl, by decide +kernel, by decide +kernel⟩
theorem ok_spp {f : Addr} {fd : FuncData} (F : Fun K "spouse_part" "Rules.spouse_part" sSpp f fd) {C : Addr} (D : BT K C) (TF : TFra P w K mg base) : FnOk P w K mg base CX0 2 f fd ["self", "row"] (spSpp K C) := by
  obtain ⟨fF, fdF, mF, kF, bF, GF⟩ := TF.ok
  refine F.ok scSpp (fun vs H Q E h => ?_) (fun cdv A outer s H vs Q E hr h => ?_)
  · obtain ⟨p, dx, a, d, m, r, s, ps, i, x, y, rfl, _⟩ := h
    rfl
  · obtain ⟨p, dx, a, d, m, r, s, ps, i, x, y, rfl, hp, ⟨qs, h1, h2, h3⟩, hi, y0, y1, x0, x1, go⟩ := h
    refine ⟨_, (pss_cons (ps_asg (pe_ix ix_tup (pe_fld (pv 0) rfl) (pv 1) (fun _ _ => rfl)) (pg_tup (n := 2) rfl (pgs_cons (pg_name (i := 2) scSpp.nd rfl (.inl rfl)) (pgs_cons (pg_name (i := 3) scSpp.nd rfl (.inl rfl)) pgs_nil))))
      (pss_one (ps_ret (pe_call GF (hr.mono (by decide)) (by rfl) mF kF bF .nil pass0 (pa_cons (pv 2) (pa_cons (pv 3) pa_nil)))))), ?_⟩
    obtain ⟨q, hq⟩ : ∃ q, qs[i]? = some q := ⟨_, List.getElem?_eq_getElem (by have := (List.getElem?_eq_some_iff.mp hi).1; omega)⟩
    have hT := h3 i q _ hq hi
    exact ⟨_, rfl, p, C, dx, _, _, rfl, hp, D.cl, D.n5, lk5 d m r s (.ref a), _, rfl, a, _, (i : Int), .ref q, rfl, rfl, h1, atI_nat (by rw [List.getElem?_map, hq]; rfl), q, _, rfl, hT, rfl, _, _, rfl, _, _, rfl, rfl, _, rfl, _, rfl, x, y, rfl, by omega, ⟨Nat.lt_of_lt_of_le (show _ < 2 ^ 64 by omega) (Nat.pow_le_pow_right (by decide) (by decide))⟩, go⟩
abbrev nOtp : List Str := ["self", "row"]
theorem scOtp : FnScope nOtp ["self", "row"] (defScope sOtp) := ⟨rfl, rfl, rfl, by decide +kernel, rfl, by decide +kernel, by decide +kernel⟩
theorem ok_otp {f : Addr} {fd : FuncData} (F : Fun K "others_part" "Rules.others_part" sOtp f fd) {C : Addr} (D : BT K C) (TS : HasM P w K mg base CX0 C "spouse_part" ["self", "row"] 2 (spSpp K C)) (TM : Has P w K mg base CX0 "minus" ["one", "two"] 2 (spAr K C2 fun p q => p - q)) {aO : Addr} (mO : mg "ONE" = some (.ref aO)) (hO : ∀ H, SqT K H aO (fv 1)) : FnOk P w K mg base CX0 3 f fd ["self", "row"] (spOtp K C) := by
  obtain ⟨fS, fdS, meS, bS, GS⟩ := TS.ok
  obtain ⟨fM, fdM, mM, kM, bM, GM⟩ := TM.ok
  refine F.ok scOtp (fun vs H Q E h => ?_) (fun cdv A outer s H vs Q E hr h => ?_)
  · obtain ⟨p, dx, a, d, m, r, s, ps, i, x, y, rfl, _⟩ := h
    rfl
  · obtain ⟨p, dx, a, d, m, r, s, ps, i, x, y, rfl, hp, hP, hi, y0, y1, x0, x1, go⟩ := h
    refine ⟨_, (pss_one (ps_ret (pe_call GM (hr.mono (by decide)) (by rfl) mM kM bM .nil pass0 (pa_cons (pe_glob (v := .ref aO) (by rfl) mO rfl) (pa_cons (pe_meth (pv 0) D.cl meS GS (hr.mono (by decide)) bS .nil pass0 (pa_cons (pv 1) pa_nil)) pa_nil))))), ?_⟩
    have sz : FSz (Rat.divInt x y) := FSz.div (k := 64) (by omega) ⟨by omega⟩ (by decide) (by decide) (by omega)
    have s1 : FSz (1 : Rat) := ⟨⟨1, by decide, by decide, ⟨by decide⟩⟩, ⟨by decide +kernel⟩⟩
    exact ⟨_, rfl, p, dx, _, rfl, hp, noSp d m r s (.ref a), _, rfl, p, dx, a, d, m, r, s, ps, i, x, y, rfl, hp, hP, hi, y0, y1, x0, x1, fun t nt => ⟨aO, t, 1, _, rfl, hO _, SqT.of upd_same, ⟨s1, sz, trivial⟩, fun t2 nt2 => go t2 _ ((same_upd nt).trans (same_upd nt2)) ((same_upd nt).free nt2) upd_same⟩⟩
end
end K2
namespace K2
open PySem L2 PyProof.Rows PySem.Spec G
def But (a : Addr) (H H' : Hp) : Prop := ∀ b o, H b = some o → b ≠ a → H' b = some o
theorem But.of {a : Addr} {H H' : Hp} (s : Same H H') : But a H H' := fun b o h _ => s b o h
section
variable {P : Program} {w : World} {K : PySem.W.Frag} {mg : Str → Option Value} {base : Heap}
/-! _law_cell -/
theorem scCel : FnScope ["script", "k"] ["script", "k"] (defScope sCel) := ⟨rfl, rfl, rfl, by decide +kernel, rfl, by decide +kernel, by decide +kernel⟩
def spCel (K : PySem.W.Frag) : Sp := fun vs H Q _ => ∃ (a : Addr) (ns : List Int) (k : Int), vs = [.ref a, .int k] ∧ SqL K H a (ns.map V.int) ∧ 0 ≤ k ∧ Q (.int (cell ns k)) H
theorem ok_cell {f : Addr} {fd : FuncData} (F : Fun K "_law_cell" "_law_cell" sCel f fd) (mgLen : mg "len" = none) (mgInt : mg "int" = none) : FnOk P w K mg base CX0 1 f fd ["script", "k"] (spCel K) := by
  refine F.ok scCel (fun vs H Q E h => ?_) (fun cdv A outer s H vs Q E hr h => ?_)
  · obtain ⟨a, ns, k, rfl, _⟩ := h
    rfl
  · obtain ⟨a, ns, k, rfl, hS, hk, go⟩ := h
    refine ⟨_, pss_cons (ps_if (pt_cmpR op_lt (pv 1) (pe_callB call_len_seq (by rfl) mgLen PySem.boot_len (pa_cons (pv 0) pa_nil)) (nomark _))
      (pss_one (ps_ret (pe_callTy call_int1 (by rfl) mgInt (by decide +kernel) (pa_cons (pe_ix ix_list (pv 0) (pv 1) (fun _ _ => rfl)) pa_nil)))) pss_nil) (pss_one (ps_ret pe_int)), ?_⟩
    obtain ⟨j, rfl⟩ : ∃ j : Nat, k = (j : Int) := ⟨k.toNat, by omega⟩
    refine ⟨_, rfl, _, rfl, a, ns.map V.int, rfl, .inl hS, _, _, rfl, rfl, _, rfl, ite2 (fun e => ?_) (fun e => ?_)⟩
    · have e1 : (j : Int) < ((ns.map V.int).length : Int) := of_decide_eq_true e
      rw [List.length_map] at e1
      have hj : j < ns.length := by omega
      refine ⟨_, rfl, _, rfl, a, _, _, .int ns[j], rfl, rfl, hS, atI_nat (by rw [List.getElem?_map, List.getElem?_eq_getElem hj]; rfl), .inl ⟨_, rfl, ?_⟩⟩
      unfold cell at go
      rw [Int.toNat_natCast, List.getElem?_eq_getElem hj] at go
      exact go
    · have e1 : ¬ (j : Int) < ((ns.map V.int).length : Int) := fun z => e (decide_eq_true z)
      rw [List.length_map] at e1
      unfold cell at go
      rw [Int.toNat_natCast, List.getElem?_eq_none_iff.mpr (by omega)] at go
      exact go
/-! _law_numbers -/
theorem scNum : FnScope ["cell", "many", "found", "rest", "k"] ["cell", "many"] (defScope sNum) := ⟨rfl, rfl, rfl, by decide +kernel, rfl, by decide +kernel, by decide +kernel⟩
def spNum : Sp := fun vs H Q _ => ∃ (c : Int) (m : Nat), vs = [.int c, .int (m : Int)] ∧ m ≤ 1000 ∧ ∀ p H' (xs : List Int), Same H H' → H p = none → H' p = some (.lst (xs.map V.int)) → xs.length = m → Nums xs → Q (.ref p) H'
theorem ok_numbers {f : Addr} {fd : FuncData} (F : Fun K "_law_numbers" "_law_numbers" sNum f fd) (mgAbs : mg "abs" = none) (mgInt : mg "int" = none) (mgRange : mg "range" = none) : FnOk P w K mg base CX0 1 f fd ["cell", "many"] spNum := by
  refine F.ok scNum (fun vs H Q E h => ?_) (fun cdv A outer s H vs Q E hr h => ?_)
  · obtain ⟨c, m, rfl, _⟩ := h
    rfl
  · obtain ⟨c, m, rfl, hm, go⟩ := h
    refine ⟨_, pss_cons (ps_set (i := 2) scNum.nd rfl (.inl rfl) (pe_lst pa_nil))
      (pss_cons (ps_set (i := 3) scNum.nd rfl (.inl rfl) (pe_callB call_abs (by rfl) mgAbs (by decide +kernel) (pa_cons (pv 0) pa_nil)))
      (pss_cons (ps_if (pt_cmpR op_ge (pv 3) pe_int (nomark _))
        (pss_cons (ps_for PassesOwn.never rfl (pi_range1 rfl mgRange (pa_cons (pv 1) pa_nil)) (pg_name (i := 4) scNum.nd rfl (.inl rfl))
          (pss_cons (ps_expr (pe_bm PySem.F.plainAttrs_list PySem.F.slot_list_append PySem.F.type_list_append mt_append (pv 2) (pa_cons (pe_op op_mod (pe_callTy call_int1 (by rfl) mgInt (by decide +kernel) (pa_cons (pv 3) pa_nil)) pe_int) pa_nil)))
          (pss_one (ps_set (i := 3) scNum.nd rfl (.inl rfl) (pe_op op_fdiv (pv 3) pe_int)))))
        (pss_one (ps_ret (pv 2)))) pss_nil)
      (pss_cons (ps_for PassesOwn.never rfl (pi_range1 rfl mgRange (pa_cons (pv 1) pa_nil)) (pg_name (i := 4) scNum.nd rfl (.inl rfl))
        (pss_cons (ps_set (i := 3) scNum.nd rfl (.inl rfl) (pe_op op_mod (pe_callTy call_int1 (by rfl) mgInt (by decide +kernel) (pa_cons (pe_op op_add (pe_op op_add (pe_op op_mul (pv 3) pe_int) (pe_op op_mul (pv 4) pe_int)) pe_int) pa_nil)) pe_int))
        (pss_one (ps_expr (pe_bm PySem.F.plainAttrs_list PySem.F.slot_list_append PySem.F.type_list_append mt_append (pv 2) (pa_cons (pe_op op_mod (pe_op op_mod (pe_callTy call_int1 (by rfl) mgInt (by decide +kernel) (pa_cons (pe_op op_mul (pv 3) pe_int) pa_nil)) pe_int) pe_int) pa_nil))))))
      (pss_one (ps_ret (pv 2)))))), ?_⟩
    refine ⟨Nat.zero_le _, fun p np => ⟨_, rfl, _, rfl, ?_⟩⟩
    generalize ea : (if c < 0 then -c else c) = r0
    have r00 : 0 ≤ r0 := by
      rw [← ea]
      split <;> omega
    have keep (Hx : Hp) (xs : List V) : (∀ b o, H b = some o → b ≠ p → Hx b = some o) → ∀ b o, H b = some o → b ≠ p → upd Hx p (.lst xs) b = some o := fun h b o hb hbp => by
      rw [upd_ne hbp]
      exact h b o hb hbp
    refine ⟨_, rfl, _, _, rfl, rfl, _, rfl, ite2 (fun e => ?_) (fun e => ?_)⟩
    · refine ⟨_, rfl, (m : Int), rfl, by omega, by omega, ?_⟩
      rw [Int.toNat_natCast]
      refine for_range (lo := 0) (n := m) (fun i σ Hx => ∃ (xs : List Int) (r : Int) (y : Option V), σ = [some (.int c), some (.int (m : Int)), some (.ref p), some (.int r), y] ∧ (∀ b o, H b = some o → b ≠ p → Hx b = some o) ∧ Hx p = some (.lst (xs.map V.int)) ∧ xs.length = i ∧ Nums xs)
        ⟨[], r0, none, rfl, fun b o hb hbp => by rw [upd_ne hbp]; exact hb, upd_same, rfl, fun x hx => by cases hx⟩ ?_ ?_
      · rintro i σ Hx hi ⟨xs, r, y, rfl, kp, hp, hl, hn⟩
        refine ⟨.ref p, rfl, .inl ⟨rfl, _, SqL.of hp⟩, _, rfl, .inl ⟨_, rfl, _, _, rfl, rfl, (by show (0 : Int) < 1048576; decide), p, _, _, rfl, rfl, hp, by rw [List.length_map]; exact small1000 (by omega), ?_⟩⟩
        refine ⟨_, rfl, _, _, rfl, rfl, ⟨by decide, by decide⟩, xs ++ [r % 1048576], r / 1048576, some (.int (0 + (i : Int))), rfl, keep _ _ kp, ?_, by rw [List.length_append, hl]; rfl, hn.snoc (Int.emod_nonneg _ (by decide)) (Int.emod_lt_of_pos _ (by decide))⟩
        rw [upd_same, List.map_append]
        rfl
      · rintro σ Hx ⟨xs, r, y, rfl, kp, hp, hl, hn⟩
        exact ⟨_, rfl, go p Hx xs (fun b o hb => kp b o hb (ne_of_none hb np)) np hp hl hn⟩
    · have e1 : r0 < 1000000000000000000 := Int.not_le.mp fun z => e (decide_eq_true z)
      refine ⟨_, rfl, (m : Int), rfl, by omega, by omega, ?_⟩
      rw [Int.toNat_natCast]
      refine for_range (lo := 0) (n := m) (fun i σ Hx => ∃ (xs : List Int) (r : Int) (y : Option V), σ = [some (.int c), some (.int (m : Int)), some (.ref p), some (.int r), y] ∧ (∀ b o, H b = some o → b ≠ p → Hx b = some o) ∧ Hx p = some (.lst (xs.map V.int)) ∧ xs.length = i ∧ Nums xs ∧ 0 ≤ r ∧ r < 1000000000000000000)
        ⟨[], r0, none, rfl, fun b o hb hbp => by rw [upd_ne hbp]; exact hb, upd_same, rfl, (fun x hx => by cases hx), r00, e1⟩ ?_ ?_
      · rintro i σ Hx hi ⟨xs, r, y, rfl, kp, hp, hl, hn, b0, b1⟩
        refine ⟨_, rfl, _, _, rfl, rfl, .inl ⟨by omega, by omega⟩, _, rfl, _, _, rfl, rfl, .inl ⟨by omega, by omega⟩, _, _, rfl, rfl, _, _, rfl, rfl, .inl ⟨_, rfl, _, _, rfl, rfl, (by show (0 : Int) < 2147483647; decide), ?_⟩⟩
        have c0 := Int.emod_nonneg (r * 48271 + (0 + (i : Int)) * 7919 + 11) (b := 2147483647) (by decide)
        have c1 := Int.emod_lt_of_pos (r * 48271 + (0 + (i : Int)) * 7919 + 11) (b := 2147483647) (by decide)
        refine ⟨.ref p, rfl, .inl ⟨rfl, _, SqL.of hp⟩, _, rfl, _, _, rfl, rfl, .inl ⟨Int.lt_of_lt_of_le (by decide) c0, Int.lt_trans c1 (by decide)⟩, .inl ⟨_, rfl, _, _, rfl, rfl, (by show (0 : Int) < 2147483629; decide), _, _, rfl, rfl, (by show (0 : Int) < 1048576; decide), p, _, _, rfl, rfl, hp, by rw [List.length_map]; exact small1000 (by omega), ?_⟩⟩
        refine ⟨xs ++ [(r * 48271 + (0 + (i : Int)) * 7919 + 11) % 2147483647 * 69621 % 2147483629 % 1048576], (r * 48271 + (0 + (i : Int)) * 7919 + 11) % 2147483647, some (.int (0 + (i : Int))), rfl, keep _ _ kp, ?_, by rw [List.length_append, hl]; rfl, hn.snoc (Int.emod_nonneg _ (by decide)) (Int.emod_lt_of_pos _ (by decide)), c0, by omega⟩
        rw [upd_same, List.map_append]
        rfl
      · rintro σ Hx ⟨xs, r, y, rfl, kp, hp, hl, hn, b0, b1⟩
        exact ⟨_, rfl, go p Hx xs (fun b o hb => kp b o hb (ne_of_none hb np)) np hp hl hn⟩
/-! _law_feed, _law_take -/
/-- a feed: its dict, its list of numbers -/
structure Feed (H : Hp) (d l : Addr) (at' : Nat) (xs : List Int) : Prop where
  hd : H d = some (.dK [(Sum.inr "at", .int (at' : Int)), (Sum.inr "numbers", .ref l)])
  hl : H l = some (.lst (xs.map V.int))
  ne : 0 < xs.length
  sm : xs.length ≤ 1000
  nu : Nums xs
theorem scFee : FnScope ["cell", "many"] ["cell", "many"] (defScope sFee) := ⟨rfl, rfl, rfl, by decide +kernel, rfl, by decide +kernel, by decide +kernel⟩
def spFee : Sp := fun vs H Q _ => ∃ (c : Int) (m : Nat), vs = [.int c, .int (m : Int)] ∧ 0 < m ∧ m ≤ 1000 ∧ ∀ d l H' (xs : List Int), Same H H' → H d = none → H l = none → Feed H' d l 0 xs → Q (.ref d) H'
theorem ok_feed {f fN : Addr} {fd fdN : FuncData} (F : Fun K "_law_feed" "_law_feed" sFee f fd) (GN : FnOk P w K mg base CX0 1 fN fdN ["cell", "many"] spNum) (mN : mg "_law_numbers" = some (.ref fN)) (kN : PySem.W.keepIn K (.ref fN) = true) (bN : Binds K fdN ["cell", "many"] []) : FnOk P w K mg base CX0 2 f fd ["cell", "many"] spFee := by
  refine F.ok scFee (fun vs H Q E h => ?_) (fun cdv A outer s H vs Q E hr h => ?_)
  · obtain ⟨c, m, rfl, _⟩ := h
    rfl
  · obtain ⟨c, m, rfl, h0, hm, go⟩ := h
    refine ⟨_, pss_one (ps_ret (pe_disp (pps_cons pe_str pe_int (pps_cons pe_str (pe_call GN hr (by rfl) mN kN bN .nil pass0 (pa_cons (pv 0) (pa_cons (pv 1) pa_nil))) pps_nil)) rfl rfl (by simp) (by decide))), ?_⟩
    intro d nd
    refine ⟨_, rfl, _, rfl, c, m, rfl, hm, fun l H' xs sm nl el ln nu => ?_⟩
    have nl' : H l = none := (same_upd nd).free nl
    refine ⟨sm _ _ upd_same, [(Sum.inr "at", .int 0), (Sum.inr "numbers", .ref l)], rfl, (by simp), ?_⟩
    have e : mergeK [] ([(Sum.inr "at", V.int 0), (Sum.inr "numbers", V.ref l)] : List (Key × V)) = ([(Sum.inr "at", V.int ((0 : Nat) : Int)), (Sum.inr "numbers", V.ref l)] : List (Key × V)) := by kernel_rfl
    rw [e]
    have ld : l ≠ d := fun z => by
      rw [z, upd_same] at nl
      cases nl
    refine go d l _ xs (fun b o hb => ?_) nd nl' ⟨upd_same, by rw [upd_ne ld]; exact el, by omega, by omega, nu⟩
    rw [upd_ne (ne_of_none hb nd)]
    exact sm _ _ (by rw [upd_ne (ne_of_none hb nd)]; exact hb)
theorem scTak : FnScope ["feed", "limit", "numbers", "at"] ["feed", "limit"] (defScope sTak) := ⟨rfl, rfl, rfl, by decide +kernel, rfl, by decide +kernel, by decide +kernel⟩
/-- some number below the limit; the feed goes on -/
def spTak : Sp := fun vs H Q _ => ∃ (d l : Addr) (a : Nat) (xs : List Int) (m : Int), vs = [.ref d, .int m] ∧ Feed H d l a xs ∧ a < 100000 ∧ 0 < m ∧ ∀ r H', 0 ≤ r → r < m → But d H H' → Feed H' d l (a + 1) xs → Q (.int r) H'
theorem take_put (a : Int) (l : Addr) : putK ([(Sum.inr "at", V.int a), (Sum.inr "numbers", V.ref l)] : List (Key × V)) (Sum.inr "at" : Key) (V.int (a + 1)) = ([(Sum.inr "at", V.int (a + 1)), (Sum.inr "numbers", V.ref l)] : List (Key × V)) := by kernel_rfl
theorem ok_take {f : Addr} {fd : FuncData} (F : Fun K "_law_take" "_law_take" sTak f fd) (mgInt : mg "int" = none) (mgLen : mg "len" = none) : FnOk P w K mg base CX0 1 f fd ["feed", "limit"] spTak := by
  refine F.ok scTak (fun vs H Q E h => ?_) (fun cdv A outer s H vs Q E hr h => ?_)
  · obtain ⟨d, l, a, xs, m, rfl, _⟩ := h
    rfl
  · obtain ⟨d, l, a, xs, m, rfl, fe, ha, hm, go⟩ := h
    have hu := hu_of hr
    refine ⟨_, pss_cons (ps_set (i := 2) scTak.nd rfl (.inl rfl) (pe_dget hu (pv 0) pe_str (fun _ _ => rfl)))
      (pss_cons (ps_set (i := 3) scTak.nd rfl (.inl rfl) (pe_dget hu (pv 0) pe_str (fun _ _ => rfl)))
      (pss_cons (ps_dput hu (pv 0) pe_str (pe_op op_add (pv 3) pe_int) rfl)
      (pss_one (ps_ret (pe_op op_mod (pe_callTy call_int1 (by rfl) mgInt (by decide +kernel) (pa_cons (pe_op op_fdivW (pe_ix ix_list (pv 2) (pe_op op_mod (pv 3) (pe_callB call_len_seq (by rfl) mgLen PySem.boot_len (pa_cons (pv 2) pa_nil))) (fun _ _ => rfl)) (pe_op op_add pe_int (pe_op op_mul (pe_op op_fdivW (pv 3) (pe_callB call_len_seq (by rfl) mgLen PySem.boot_len (pa_cons (pv 2) pa_nil))) pe_int))) pa_nil)) (pv 1)))))), ?_⟩
    have g1 : DGet H d (.str "numbers") (some (.ref l)) := .inl ⟨_, Sum.inr "numbers", .inl fe.hd, rfl, by kernel_rfl⟩
    have g2 : DGet H d (.str "at") (some (.int (a : Int))) := .inl ⟨_, Sum.inr "at", .inl fe.hd, rfl, by kernel_rfl⟩
    refine ⟨_, rfl, d, _, rfl, g1, _, rfl, d, _, rfl, g2, _, rfl, _, _, rfl, rfl, _, rfl, d, _, rfl, DPut.k (k := Sum.inr "at") fe.hd (small1000 (by simp)), ?_⟩
    rw [take_put]
    have ld : l ≠ d := ne_of fe.hl fe.hd (by intro z; cases z)
    have F2 : Feed (upd H d (.dK [(Sum.inr "at", .int ((a : Int) + 1)), (Sum.inr "numbers", .ref l)])) d l (a + 1) xs := ⟨upd_same, by rw [upd_ne ld]; exact fe.hl, fe.ne, fe.sm, fe.nu⟩
    have p0 : (0 : Int) < (xs.length : Int) := by have := fe.ne; omega
    have r0 := Int.emod_nonneg (a : Int) (b := (xs.length : Int)) (by omega)
    have r1 := Int.emod_lt_of_pos (a : Int) p0
    have hj : ((a : Int) % (xs.length : Int)).toNat < xs.length := by omega
    have q0 : 0 ≤ (a : Int) / (xs.length : Int) := Int.ediv_nonneg (by omega) (by omega)
    have q1 : (a : Int) / (xs.length : Int) ≤ (a : Int) := Int.ediv_le_self _ (by omega)
    have at0 : atI (xs.map V.int) ((a : Int) % (xs.length : Int)) = some (.int xs[((a : Int) % (xs.length : Int)).toNat]) := by
      have := nat_num (xs := xs) hj
      rwa [Int.toNat_of_nonneg r0] at this
    have nx := fe.nu _ (List.getElem_mem hj)
    refine ⟨_, rfl, _, rfl, _, rfl, l, _, rfl, .inl (SqL.of F2.hl), _, _, rfl, rfl, by rw [List.length_map]; exact p0, ?_⟩
    rw [List.length_map]
    have cdv : CDivW (a : Int) (xs.length : Int) := wide_div (b := 64) p0 (by have := fe.sm; rw [Int.natAbs_natCast]; exact Nat.lt_of_le_of_lt this (by decide)) (by decide) (by decide)
    refine ⟨l, _, _, _, rfl, rfl, SqL.of F2.hl, at0, _, rfl, _, rfl, l, _, rfl, .inl (SqL.of F2.hl), _, _, rfl, rfl, by rw [List.length_map]; exact cdv, ?_⟩
    rw [List.length_map]
    refine ⟨_, _, rfl, rfl, .inl ⟨by omega, by omega⟩, _, _, rfl, rfl, _, _, rfl, rfl, ?_, .inl ⟨_, rfl, _, rfl, _, _, rfl, rfl, hm, ?_⟩⟩
    · exact wide_div (b := 64) (by omega) (by omega) (by decide) (by decide)
    · exact go _ _ (Int.emod_nonneg _ (by omega)) (Int.emod_lt_of_pos _ hm) (fun b o hb ne => by rw [upd_ne ne]; exact hb) F2
end
end K2
namespace K2
open PySem L2 PyProof.Rows PySem.Spec G
/-! what stands while numbers are taken -/
structure Fd (H Hy : Hp) (d l : Addr) (a : Nat) (xs : List Int) : Prop where
  b : But d H Hy
  f : Feed Hy d l a xs
section
variable {H Hy H' : Hp} {d l : Addr} {a : Nat} {xs : List Int}
theorem Fd.go (x : Fd H Hy d l a xs) (s : Same Hy H') : Fd H H' d l a xs := ⟨fun b o h n => s b o (x.b b o h n), s _ _ x.f.hd, s _ _ x.f.hl, x.f.ne, x.f.sm, x.f.nu⟩
theorem Fd.take (x : Fd H Hy d l a xs) (b : But d Hy H') (f : Feed H' d l (a + 1) xs) : Fd H H' d l (a + 1) xs := ⟨fun c o h n => b c o (x.b c o h n) n, f⟩
theorem Fd.free (x : Fd H Hy d l a xs) {p : Addr} (h : Hy p = none) : H p = none := by
  cases e : H p with
  | none => rfl
  | some o =>
    by_cases pd : p = d
    · rw [pd, x.f.hd] at h
      cases h
    · rw [x.b p o e pd] at h
      cases h
theorem Fd.nd (x : Fd H Hy d l a xs) {p : Addr} (h : Hy p = none) : p ≠ d := fun e => by rw [e, x.f.hd] at h; cases h
theorem Fd.put (x : Fd H Hy d l a xs) {p : Addr} {zs : List V} {o : HO} (hp : H p = none) (hz : Hy p = some (.lst zs)) (pl : p ≠ l) : Fd H (upd Hy p o) d l a xs := by
  have pd : d ≠ p := ne_of x.f.hd hz (by intro z; cases z)
  refine ⟨fun b u h n => ?_, ?_, ?_, x.f.ne, x.f.sm, x.f.nu⟩
  · rw [upd_ne (ne_of_none h hp)]
    exact x.b b u h n
  · rw [upd_ne pd]
    exact x.f.hd
  · rw [upd_ne (Ne.symm pl)]
    exact x.f.hl
theorem Feed.keep (f : Feed Hy d l a xs) (b : But d Hy H') {q : Addr} {c : List V} (h : Hy q = some (.tup c)) : H' q = some (.tup c) := b _ _ h (ne_of h f.hd (by intro z; cases z))
theorem Feed.keepL (f : Feed Hy d l a xs) (b : But d Hy H') {q : Addr} {c : List V} (h : Hy q = some (.lst c)) : H' q = some (.lst c) := b _ _ h (ne_of h f.hd (by intro z; cases z))
theorem Feed.tups (f : Feed Hy d l a xs) (b : But d Hy H') {qs : List Addr} {cs : List (List V)} (h : TupsAt Hy qs cs) : TupsAt H' qs cs := ⟨h.1, fun i q c x y => f.keep b (h.2 i q c x y)⟩
end
theorem TupsAt.pick {H : Hp} {qs : List Addr} {cs : List (List V)} (h : TupsAt H qs cs) {r : Int} (h0 : 0 ≤ r) (h1 : r < (cs.length : Int)) : ∃ (j : Nat) (q : Addr) (c : List V), cs[j]? = some c ∧ atI (qs.map V.ref) r = some (.ref q) ∧ H q = some (.tup c) := by
  obtain ⟨j, rfl⟩ : ∃ j : Nat, r = (j : Int) := ⟨r.toNat, by omega⟩
  have hj : j < cs.length := by omega
  have hq : j < qs.length := by rw [h.1]; exact hj
  exact ⟨j, qs[j], cs[j], List.getElem?_eq_getElem hj, atI_nat (by rw [List.getElem?_map, List.getElem?_eq_getElem hq]; rfl), h.2 j _ _ (List.getElem?_eq_getElem hq) (List.getElem?_eq_getElem hj)⟩
def pc (p : Int × Int) : List V := [.int p.1, .int p.2]
def six : List (Int × Int) := [(1, 2), (1, 1), (0, 1), (1, 3), (2, 4), (7, 10)]
/-- drawn rules -/
structure RulD (days : Int) (md : Str) (ps : List (Int × Int)) (rows : Int) : Prop where
  d0 : 0 ≤ days
  d1 : days ≤ 3
  m : md = "stocks" ∨ md = "heads"
  r : (ps.length : Int) = rows + 1
  r0 : 0 ≤ rows
  r1 : rows ≤ 3
  p : ∀ q ∈ ps, q ∈ six
theorem pick_int {ns : List Int} {r : Int} (h0 : 0 ≤ r) (h1 : r < (ns.length : Int)) : ∃ n ∈ ns, atI (ns.map V.int) r = some (.int n) := by
  obtain ⟨j, rfl⟩ : ∃ j : Nat, r = (j : Int) := ⟨r.toNat, by omega⟩
  have hj : j < ns.length := by omega
  exact ⟨ns[j], List.getElem_mem hj, atI_nat (by rw [List.getElem?_map, List.getElem?_eq_getElem hj]; rfl)⟩
theorem pick_str {ns : List Str} {r : Int} (h0 : 0 ≤ r) (h1 : r < (ns.length : Int)) : ∃ n ∈ ns, atI (ns.map V.str) r = some (.str n) := by
  obtain ⟨j, rfl⟩ : ∃ j : Nat, r = (j : Int) := ⟨r.toNat, by omega⟩
  have hj : j < ns.length := by omega
  exact ⟨ns[j], List.getElem_mem hj, atI_nat (by rw [List.getElem?_map, List.getElem?_eq_getElem hj]; rfl)⟩
section
variable {P : Program} {w : World} {K : PySem.W.Frag} {mg : Str → Option Value} {base : Heap}
def spLru : Sp := fun vs H Q _ => ∃ (d l : Addr) (a : Nat) (xs : List Int), vs = [.ref d] ∧ Feed H d l a xs ∧ a < 90000 ∧ ∀ (p t : Addr) (H' : Hp) (days : Int) (md : Str) (ps : List (Int × Int)) (rows : Int) (st : Bool) (a' : Nat) (qs : List Addr), Fd H H' d l a' xs → a' ≤ a + 20 → H p = none → H t = none → H' p = some (.lst [.int days, .str md, .ref t, .int rows, .bl st]) → H' t = some (.tup (qs.map V.ref)) → TupsAt H' qs (ps.map pc) → RulD days md ps rows → Q (.ref p) H'
abbrev nLru : List Str := ["feed", "rows", "parts", "k", "mode"]
theorem scLru : FnScope nLru ["feed"] (defScope sLru) := ⟨rfl, rfl, rfl, by decide +kernel, rfl, by decide +kernel, by decide +kernel⟩
theorem ok_lru {f : Addr} {fd : FuncData} (F : Fun K "_law_rules" "_law_rules" sLru f fd) (mgR : mg "range" = none) (mgT : mg "tuple" = none) (TT : Has P w K mg base CX0 "_law_take" ["feed", "limit"] 1 spTak) : FnOk P w K mg base CX0 2 f fd ["feed"] spLru := by
  obtain ⟨fT, fdT, mT, kT, bT, GT⟩ := TT.ok
  refine F.ok scLru (fun vs H Q E h => ?_) (fun cdv A outer s H vs Q E hr h => ?_)
  · obtain ⟨d, l, a, xs, rfl, _⟩ := h
    rfl
  · obtain ⟨d, l, a, xs, rfl, f0, ha, go⟩ := h
    refine ⟨_, (pss_cons (ps_set (i := 1) scLru.nd rfl (.inl rfl) (pe_call GT (hr.mono (by decide)) (by rfl) mT kT bT .nil pass0 (pa_cons (pv 0) (pa_cons pe_int pa_nil))))
      (pss_cons (ps_set (i := 2) scLru.nd rfl (.inl rfl) (pe_lst pa_nil))
      (pss_cons (ps_for PassesOwn.never rfl (pi_range1 rfl mgR (pa_cons (pe_op op_add (pv 1) pe_int) pa_nil)) (pg_name (i := 3) scLru.nd rfl (.inl rfl)) (pss_one (ps_expr (pe_bm PySem.F.plainAttrs_list PySem.F.slot_list_append PySem.F.type_list_append mt_append (pv 2) (pa_cons (pe_ix ix_list (pe_lst (pa_cons (pe_tup (pa_cons pe_int (pa_cons pe_int pa_nil))) (pa_cons (pe_tup (pa_cons pe_int (pa_cons pe_int pa_nil))) (pa_cons (pe_tup (pa_cons pe_int (pa_cons pe_int pa_nil))) (pa_cons (pe_tup (pa_cons pe_int (pa_cons pe_int pa_nil))) (pa_cons (pe_tup (pa_cons pe_int (pa_cons pe_int pa_nil))) (pa_cons (pe_tup (pa_cons pe_int (pa_cons pe_int pa_nil))) pa_nil))))))) (pe_call GT (hr.mono (by decide)) (by rfl) mT kT bT .nil pass0 (pa_cons (pv 0) (pa_cons pe_int pa_nil))) (fun _ _ => rfl)) pa_nil)))))
      (pss_cons (ps_set (i := 4) scLru.nd rfl (.inl rfl) (pe_ix ix_list (pe_lst (pa_cons pe_str (pa_cons pe_str pa_nil))) (pe_call GT (hr.mono (by decide)) (by rfl) mT kT bT .nil pass0 (pa_cons (pv 0) (pa_cons pe_int pa_nil))) (fun _ _ => rfl)))
      (pss_one (ps_ret (pe_lst (pa_cons (pe_ix ix_list (pe_lst (pa_cons pe_int (pa_cons pe_int (pa_cons pe_int (pa_cons pe_int pa_nil))))) (pe_call GT (hr.mono (by decide)) (by rfl) mT kT bT .nil pass0 (pa_cons (pv 0) (pa_cons pe_int pa_nil))) (fun _ _ => rfl)) (pa_cons (pv 4) (pa_cons (pe_callTy call_tuple_of (by rfl) mgT (by decide +kernel) (pa_cons (pv 2) pa_nil)) (pa_cons (pv 1) (pa_cons (pe_cmpR op_gt (pe_call GT (hr.mono (by decide)) (by rfl) mT kT bT .nil pass0 (pa_cons (pv 0) (pa_cons pe_int pa_nil))) pe_int (nomark _)) pa_nil)))))))))))), ?_⟩
    refine ⟨_, rfl, d, l, a, xs, 4, rfl, f0, by omega, by decide, fun r H1 r0 r1 b1 f1 => ?_⟩
    have X1 : Fd H H1 d l (a + 1) xs := ⟨b1, f1⟩
    obtain ⟨rn, er⟩ : ∃ rn : Nat, r = (rn : Int) := ⟨r.toNat, by omega⟩
    subst er
    refine ⟨Nat.zero_le _, fun pl npl => ?_⟩
    have X2 := X1.go (same_upd npl (o := .lst []))
    have plN := X1.free npl
    have pll : pl ≠ l := fun e => by rw [e, f1.hl] at npl; cases npl
    refine ⟨_, rfl, _, _, rfl, rfl, _, rfl, by show -(2 ^ 62 : Int) ≤ (rn : Int) + 1; omega, by show (rn : Int) + 1 < 2 ^ 62; omega, ?_⟩
    rw [show ((rn : Int) + 1).toNat = rn + 1 by omega]
    refine for_range (lo := 0) (n := rn + 1) (fun i σ Hy => ∃ (y3 : Option V) (qs : List Addr) (ps : List (Int × Int)), σ = [some (.ref d), some (.int (rn : Int)), some (.ref pl), y3, none] ∧ Fd H Hy d l (a + 1 + i) xs ∧ Hy pl = some (.lst (qs.map V.ref)) ∧ TupsAt Hy qs (ps.map pc) ∧ ps.length = i ∧ ∀ q ∈ ps, q ∈ six)
      ⟨none, [], [], rfl, X2, upd_same, .nil, rfl, fun q h => by cases h⟩ ?_ ?_
    · rintro i σ Hy hi ⟨y3, qs, ps, rfl, X, ep, hT, hl, h6⟩
      refine ⟨_, rfl, .inl ⟨rfl, _, SqL.of ep⟩, ⟨(by show 2 ≤ sizeLine; decide), fun t1 nt1 => ⟨(by show 2 ≤ sizeLine; decide), fun t2 nt2 => ⟨(by show 2 ≤ sizeLine; decide), fun t3 nt3 => ⟨(by show 2 ≤ sizeLine; decide), fun t4 nt4 => ⟨(by show 2 ≤ sizeLine; decide), fun t5 nt5 => ⟨(by show 2 ≤ sizeLine; decide), fun t6 nt6 => ⟨(by show 6 ≤ sizeLine; decide), fun L nL => ?_⟩⟩⟩⟩⟩⟩⟩⟩
      have sA := ((((((same_upd nt1 (o := .tup (pc (1, 2)))).trans (same_upd nt2 (o := .tup (pc (1, 1))))).trans (same_upd nt3 (o := .tup (pc (0, 1))))).trans (same_upd nt4 (o := .tup (pc (1, 3))))).trans (same_upd nt5 (o := .tup (pc (2, 4))))).trans (same_upd nt6 (o := .tup (pc (7, 10))))).trans (same_upd nL (o := .lst ([t1, t2, t3, t4, t5, t6].map V.ref)))
      have T6 : TupsAt _ [t1, t2, t3, t4, t5, t6] (six.map pc) := TupsAt.same (TupsAt.snoc (TupsAt.same (TupsAt.snoc (TupsAt.same (TupsAt.snoc (TupsAt.same (TupsAt.snoc (TupsAt.same (TupsAt.snoc (TupsAt.same (TupsAt.snoc TupsAt.nil upd_same) (same_upd nt2)) upd_same) (same_upd nt3)) upd_same) (same_upd nt4)) upd_same) (same_upd nt5)) upd_same) (same_upd nt6)) upd_same) (same_upd nL (o := .lst ([t1, t2, t3, t4, t5, t6].map V.ref)))
      have XA := X.go sA
      refine ⟨_, rfl, d, l, _, xs, 6, rfl, XA.f, by omega, by decide, fun r2 H2 q0 q1 b2 f2 => ?_⟩
      have T6' := XA.f.tups b2 T6
      obtain ⟨j, tq, c, hc, hat, htq⟩ := T6'.pick q0 (by show r2 < 6; exact q1)
      rw [List.getElem?_map] at hc
      obtain ⟨pp, hpp, rfl⟩ := Option.map_eq_some_iff.mp hc
      have ep2 : H2 pl = some (.lst (qs.map V.ref)) := XA.f.keepL b2 (sA _ _ ep)
      refine ⟨L, _, _, _, rfl, rfl, SqL.of (XA.f.keepL b2 upd_same), hat, pl, _, _, rfl, rfl, ep2, ?_, ?_⟩
      · rw [List.length_map, hT.1, List.length_map]
        exact small1000 (by omega)
      · refine ⟨_, qs ++ [tq], ps ++ [pp], rfl, ?_, ?_, ?_, ?_, ?_⟩
        · have := (XA.take b2 f2).put (o := .lst (qs.map V.ref ++ [.ref tq])) plN ep2 pll
          rw [show a + 1 + (i + 1) = a + 1 + i + 1 by omega]
          exact this
        · rw [upd_same, List.map_append]
          rfl
        · rw [List.map_append]
          refine TupsAt.but (a := pl) (xs := qs.map V.ref) (H := H2) ?_ ep2 (fun b o hb ne => by rw [upd_ne ne]; exact hb)
          exact (XA.f.tups b2 (hT.same sA)).snoc htq
        · rw [List.length_append, hl]
          rfl
        · intro q hq
          rcases List.mem_append.mp hq with m | m
          · exact h6 q m
          · rw [List.mem_singleton.mp m]
            exact List.mem_of_getElem? hpp
    · rintro σ Hy ⟨y3, qs, ps, rfl, X, ep, hT, hl, h6⟩
      refine ⟨(by show 2 ≤ sizeLine; decide), fun M nM => ⟨_, rfl, d, l, _, xs, 2, rfl, (X.go (same_upd nM)).f, by omega, by decide, fun r2 H2 q0 q1 b2 f2 => ?_⟩⟩
      have XM := X.go (same_upd nM (o := .lst ([("stocks" : Str), "heads"].map V.str)))
      obtain ⟨md, hm, hat⟩ := pick_str (ns := ["stocks", "heads"]) q0 (by show r2 < 2; exact q1)
      refine ⟨M, _, _, _, rfl, rfl, SqL.of (XM.f.keepL b2 upd_same), hat, ?_⟩
      have X2 := XM.take b2 f2
      refine ⟨(by show 4 ≤ sizeLine; decide), fun N nN => ⟨_, rfl, d, l, _, xs, 4, rfl, (X2.go (same_upd nN)).f, by omega, by decide, fun r3 H3 z0 z1 b3 f3 => ?_⟩⟩
      have XN := X2.go (same_upd nN (o := .lst ([(0 : Int), 1, 2, 3].map V.int)))
      obtain ⟨dy, hdy, hat3⟩ := pick_int (ns := [0, 1, 2, 3]) z0 (by show r3 < 4; exact z1)
      have X3 := XN.take b3 f3
      have ep3 : H3 pl = some (.lst (qs.map V.ref)) := XN.f.keepL b3 ((same_upd nN) _ _ (XM.f.keepL b2 ((same_upd nM) _ _ ep)))
      have hT3 : TupsAt H3 qs (ps.map pc) := XN.f.tups b3 ((XM.f.tups b2 (hT.same (same_upd nM))).same (same_upd nN))
      refine ⟨N, _, _, _, rfl, rfl, SqL.of (XN.f.keepL b3 upd_same), hat3, _, rfl, _, rfl, pl, _, rfl, .inl ⟨SqL.of ep3, fun t nt => ?_⟩⟩
      have X4 := X3.go (same_upd nt (o := .tup (qs.map V.ref)))
      refine ⟨_, rfl, _, rfl, d, l, _, xs, 3, rfl, X4.f, by omega, by decide, fun r5 H5 w0 w1 b5 f5 => ⟨_, _, rfl, rfl, (by show 5 ≤ sizeLine; decide), fun p np => ?_⟩⟩
      have X5 := X4.take b5 f5
      have X6 := X5.go (same_upd np (o := .lst [.int dy, .str md, .ref t, .int (rn : Int), .bl (decide (0 < r5))]))
      refine go p t _ dy md ps (rn : Int) (decide (0 < r5)) _ qs X6 (by omega) (X5.free np) (X3.free nt) upd_same ((same_upd np) _ _ (X4.f.keep b5 upd_same)) ((X4.f.tups b5 (hT3.same (same_upd nt))).same (same_upd np)) ⟨?_, ?_, ?_, ?_, by omega, by omega, h6⟩
      · simp only [List.mem_cons, List.not_mem_nil, or_false] at hdy
        omega
      · simp only [List.mem_cons, List.not_mem_nil, or_false] at hdy
        omega
      · simpa using hm
      · rw [hl]
        push_cast
        rfl
end
end K2
namespace K2
open PySem L2 PyProof.Rows PySem.Spec G
def three : List Str := ["ring", "house", "cow"]
def cnames : List Str := ["c0", "c1", "p1", "p4", "q1"]
def cranks : List Int := [0, 1, 2, 9, 10, 1000000000]
/-- a drawn estate -/
structure EstD (coins : Int) (ws : List (Str × Int)) (ds : List Db) : Prop where
  c0 : 0 ≤ coins
  c1 : coins ≤ 1000000000
  n : (ws.map (·.1)).Sublist three
  w : ∀ p ∈ ws, 0 ≤ p.2 ∧ p.2 ≤ 1000000000
  l : ds.length ≤ 3
  dn : ∀ p ∈ ds, p.1 ∈ cnames
  dr : ∀ p ∈ ds, p.2.1 ∈ cranks
  da : ∀ p ∈ ds, 0 ≤ p.2.2 ∧ p.2.2 ≤ 1000000000
section
variable {P : Program} {w : World} {K : PySem.W.Frag} {mg : Str → Option Value} {base : Heap}
def spLes : Sp := fun vs H Q _ => ∃ (d l : Addr) (a : Nat) (xs : List Int), vs = [.ref d] ∧ Feed H d l a xs ∧ a < 90000 ∧ ∀ (p t u : Addr) (H' : Hp) (coins : Int) (ws : List (Str × Int)) (ds : List Db) (qs us : List Addr) (a' : Nat), Fd H H' d l a' xs → a' ≤ a + 60 → H p = none → H t = none → H u = none → H' p = some (.lst [.int coins, .ref t, .ref u]) → H' t = some (.tup (qs.map V.ref)) → TupsAt H' qs (ws.map tc) → H' u = some (.tup (us.map V.ref)) → TupsAt H' us (ds.map dc) → EstD coins ws ds → Q (.ref p) H'
abbrev nLes : List Str := ["feed", "things", "thing", "debts", "k", "name", "rank", "coins"]
theorem scLes : FnScope nLes ["feed"] (defScope sLes) := ⟨rfl, rfl, rfl, by decide +kernel, rfl, by decide +kernel, by decide +kernel⟩
theorem ok_les {f : Addr} {fd : FuncData} (F : Fun K "_law_estate" "_law_estate" sLes f fd) (mgR : mg "range" = none) (mgT : mg "tuple" = none) (TT : Has P w K mg base CX0 "_law_take" ["feed", "limit"] 1 spTak) : FnOk P w K mg base CX0 2 f fd ["feed"] spLes := by
  obtain ⟨fT, fdT, mT, kT, bT, GT⟩ := TT.ok
  refine F.ok scLes (fun vs H Q E h => ?_) (fun cdv A outer s H vs Q E hr h => ?_)
  · obtain ⟨d, l, a, xs, rfl, _⟩ := h
    rfl
  · obtain ⟨d, l, a, xs, rfl, f0, ha, go⟩ := h
    refine ⟨_, (pss_cons (ps_set (i := 1) scLes.nd rfl (.inl rfl) (pe_lst pa_nil))
      (pss_cons (ps_for PassesOwn.never rfl (pi_list (pe_lst (pa_cons pe_str (pa_cons pe_str (pa_cons pe_str pa_nil))))) (pg_name (i := 2) scLes.nd rfl (.inl rfl)) (pss_one (ps_if (pt_cmpR op_gt (pe_call GT (hr.mono (by decide)) (by rfl) mT kT bT .nil pass0 (pa_cons (pv 0) (pa_cons pe_int pa_nil))) pe_int (nomark _)) (pss_one (ps_expr (pe_bm PySem.F.plainAttrs_list PySem.F.slot_list_append PySem.F.type_list_append mt_append (pv 1) (pa_cons (pe_tup (pa_cons (pv 2) (pa_cons (pe_ix ix_list (pe_lst (pa_cons pe_int (pa_cons pe_int (pa_cons pe_int (pa_cons pe_int (pa_cons (pe_call GT (hr.mono (by decide)) (by rfl) mT kT bT .nil pass0 (pa_cons (pv 0) (pa_cons pe_int pa_nil))) pa_nil)))))) (pe_call GT (hr.mono (by decide)) (by rfl) mT kT bT .nil pass0 (pa_cons (pv 0) (pa_cons pe_int pa_nil))) (fun _ _ => rfl)) pa_nil))) pa_nil)))) pss_nil)))
      (pss_cons (ps_set (i := 3) scLes.nd rfl (.inl rfl) (pe_lst pa_nil))
      (pss_cons (ps_for PassesOwn.never rfl (pi_range1 rfl mgR (pa_cons (pe_call GT (hr.mono (by decide)) (by rfl) mT kT bT .nil pass0 (pa_cons (pv 0) (pa_cons pe_int pa_nil))) pa_nil)) (pg_name (i := 4) scLes.nd rfl (.inl rfl)) (pss_cons (ps_set (i := 5) scLes.nd rfl (.inl rfl) (pe_ix ix_list (pe_lst (pa_cons pe_str (pa_cons pe_str (pa_cons pe_str (pa_cons pe_str (pa_cons pe_str pa_nil)))))) (pe_call GT (hr.mono (by decide)) (by rfl) mT kT bT .nil pass0 (pa_cons (pv 0) (pa_cons pe_int pa_nil))) (fun _ _ => rfl)))
      (pss_cons (ps_set (i := 6) scLes.nd rfl (.inl rfl) (pe_ix ix_list (pe_lst (pa_cons pe_int (pa_cons pe_int (pa_cons pe_int (pa_cons pe_int (pa_cons pe_int (pa_cons pe_int pa_nil))))))) (pe_call GT (hr.mono (by decide)) (by rfl) mT kT bT .nil pass0 (pa_cons (pv 0) (pa_cons pe_int pa_nil))) (fun _ _ => rfl)))
      (pss_one (ps_expr (pe_bm PySem.F.plainAttrs_list PySem.F.slot_list_append PySem.F.type_list_append mt_append (pv 3) (pa_cons (pe_tup (pa_cons (pv 5) (pa_cons (pv 6) (pa_cons (pe_ix ix_list (pe_lst (pa_cons (pe_call GT (hr.mono (by decide)) (by rfl) mT kT bT .nil pass0 (pa_cons (pv 0) (pa_cons pe_int pa_nil))) (pa_cons pe_int pa_nil))) (pe_op op_fdiv (pe_call GT (hr.mono (by decide)) (by rfl) mT kT bT .nil pass0 (pa_cons (pv 0) (pa_cons pe_int pa_nil))) pe_int) (fun _ _ => rfl)) pa_nil)))) pa_nil)))))))
      (pss_cons (ps_set (i := 7) scLes.nd rfl (.inl rfl) (pe_ix ix_list (pe_lst (pa_cons pe_int (pa_cons pe_int (pa_cons pe_int (pa_cons pe_int (pa_cons (pe_call GT (hr.mono (by decide)) (by rfl) mT kT bT .nil pass0 (pa_cons (pv 0) (pa_cons pe_int pa_nil))) pa_nil)))))) (pe_call GT (hr.mono (by decide)) (by rfl) mT kT bT .nil pass0 (pa_cons (pv 0) (pa_cons pe_int pa_nil))) (fun _ _ => rfl)))
      (pss_one (ps_ret (pe_lst (pa_cons (pv 7) (pa_cons (pe_callTy call_tuple_of (by rfl) mgT (by decide +kernel) (pa_cons (pv 1) pa_nil)) (pa_cons (pe_callTy call_tuple_of (by rfl) mgT (by decide +kernel) (pa_cons (pv 3) pa_nil)) pa_nil))))))))))), ?_⟩
    have X0 : Fd H H d l a xs := ⟨fun b o h _ => h, f0⟩
    refine ⟨Nat.zero_le _, fun tl ntl => ?_⟩
    have tll : tl ≠ l := fun e => by rw [e, f0.hl] at ntl; cases ntl
    have X1 := X0.go (same_upd ntl (o := .lst []))
    refine ⟨(by show 3 ≤ sizeLine; decide), fun nl nnl => ?_⟩
    have X2 := X1.go (same_upd nnl (o := .lst (three.map V.str)))
    have nlN := X1.free nnl
    have tnl : tl ≠ nl := ne_of_none (H := upd H tl (.lst [])) upd_same nnl
    refine ⟨nl, rfl, ⟨_, SqL.of upd_same⟩, for_it (walk_list (xs := three.map V.str)) (fun i σ Hy => ∃ (y2 : Option V) (a' : Nat) (qs : List Addr) (ws : List (Str × Int)), σ = [some (.ref d), some (.ref tl), y2, none, none, none, none, none] ∧ Fd H Hy d l a' xs ∧ a' ≤ a + 3 * i ∧ Hy nl = some (.lst (three.map V.str)) ∧ Hy tl = some (.lst (qs.map V.ref)) ∧ TupsAt Hy qs (ws.map tc) ∧ (ws.map (·.1)).Sublist (three.take i) ∧ ∀ p ∈ ws, 0 ≤ p.2 ∧ p.2 ≤ 1000000000)
      ⟨none, a, [], [], rfl, X2, by omega, upd_same, by rw [upd_ne tnl, upd_same]; rfl, .nil, List.Sublist.slnil, fun p h => by cases h⟩ (fun i σ Hy _ ⟨_, _, _, _, _, _, _, h, _⟩ => SqL.of h) ?_ ?_⟩
    · rintro i v σ Hy H' hi ⟨y2, a', qs, ws, rfl, X, la, en, ep, hT, sb, hw⟩ ⟨rfl, ev⟩
      have hi3 : i < 3 := hi
      rw [List.getElem?_map] at ev
      obtain ⟨n, hn, rfl⟩ := Option.map_eq_some_iff.mp ev
      have stp : three.take (i + 1) = three.take i ++ [n] := by rw [List.take_add_one, hn]; rfl
      have hw3 : ws.length ≤ 3 := by
        have := sb.length_le
        rw [List.length_map, List.length_take] at this
        omega
      refine ⟨_, rfl, d, l, a', xs, 3, rfl, X.f, by omega, by decide, fun r H1 r0 r1 b1 f1 => ⟨_, _, rfl, rfl, _, rfl, ite2 (fun c => ?_) (fun c => ?_)⟩⟩
      · have X1 := X.take b1 f1
        have ep1 := X.f.keepL b1 ep
        refine ⟨_, rfl, .inl ⟨rfl, _, SqL.of ep1⟩, _, rfl, _, rfl, d, l, _, xs, 1000, rfl, f1, by omega, by decide, fun r2 H2 q0 q1 b2 f2 => ⟨(by show 5 ≤ sizeLine; decide), fun L nL => ?_⟩⟩
        have X2 := X1.take b2 f2
        have X3 := X2.go (same_upd nL (o := .lst ([(0 : Int), 7, 1000000000, 333, r2].map V.int)))
        refine ⟨_, rfl, d, l, _, xs, 5, rfl, X3.f, by omega, by decide, fun r3 H3 z0 z1 b3 f3 => ?_⟩
        obtain ⟨wv, hwv, hat⟩ := pick_int (ns := [0, 7, 1000000000, 333, r2]) z0 (by show r3 < 5; exact z1)
        have X4 := X3.take b3 f3
        have bw : 0 ≤ wv ∧ wv ≤ 1000000000 := by
          simp only [List.mem_cons, List.not_mem_nil, or_false] at hwv
          omega
        refine ⟨L, _, _, _, rfl, rfl, SqL.of (X3.f.keepL b3 upd_same), hat, (by show 2 ≤ sizeLine; decide), fun T1 nT => ?_⟩
        have X5 := X4.go (same_upd nT (o := .tup (tc (n, wv))))
        have e5 {q : Addr} {zs : List V} (h : H' q = some (.lst zs)) : (upd H3 T1 (.tup (tc (n, wv)))) q = some (.lst zs) := (same_upd nT) _ _ (X3.f.keepL b3 ((same_upd nL) _ _ (X1.f.keepL b2 (X.f.keepL b1 h))))
        have t5 : TupsAt (upd H3 T1 (.tup (tc (n, wv)))) qs (ws.map tc) := (X3.f.tups b3 ((X1.f.tups b2 (X.f.tups b1 hT)).same (same_upd nL))).same (same_upd nT)
        refine ⟨tl, _, _, rfl, rfl, e5 ep, ?_, ?_⟩
        · rw [List.length_map, hT.1, List.length_map]
          exact small1000 (by omega)
        · refine ⟨_, _, qs ++ [T1], ws ++ [(n, wv)], rfl, X5.put ntl (e5 ep) tll, by omega, ?_, ?_, ?_, ?_, ?_⟩
          · rw [upd_ne (Ne.symm tnl)]
            exact e5 en
          · rw [upd_same, List.map_append]
            rfl
          · rw [List.map_append]
            refine TupsAt.but (a := tl) (xs := qs.map V.ref) (H := upd H3 T1 (.tup (tc (n, wv)))) ?_ (e5 ep) (fun b o hb ne => by rw [upd_ne ne]; exact hb)
            exact t5.snoc upd_same
          · rw [stp, List.map_append]
            exact List.Sublist.append sb (List.Sublist.refl _)
          · intro p hp
            rcases List.mem_append.mp hp with m | m
            · exact hw p m
            · rw [List.mem_singleton.mp m]
              exact bw
      · refine ⟨_, _, qs, ws, rfl, X.take b1 f1, by omega, X.f.keepL b1 en, X.f.keepL b1 ep, X.f.tups b1 hT, ?_, hw⟩
        rw [stp]
        exact sb.trans (List.sublist_append_left _ _)
    · rintro σ Hy ⟨y2, a', qs, ws, rfl, X, la, en, ep, hT, sb, hw⟩
      have la' : a' ≤ a + 9 := la
      have sb3 : (ws.map (·.1)).Sublist three := sb
      have hw3 : ws.length ≤ 3 := by
        have := sb3.length_le
        rw [List.length_map] at this
        exact this
      refine ⟨Nat.zero_le _, fun dl ndl => ?_⟩
      have dlN := X.free ndl
      have dll : dl ≠ l := fun e => by rw [e, X.f.hl] at ndl; cases ndl
      have tdl : tl ≠ dl := ne_of_none ep ndl
      have X1 := X.go (same_upd ndl (o := .lst []))
      refine ⟨_, rfl, d, l, a', xs, 4, rfl, X1.f, by omega, by decide, fun r H1 r0 r1 b1 f1 => ?_⟩
      have X2 := X1.take b1 f1
      refine ⟨_, rfl, by show -(2 ^ 62 : Int) ≤ r; omega, by show r < 2 ^ 62; omega, ?_⟩
      obtain ⟨m, em⟩ : ∃ m : Nat, r = (m : Int) := ⟨r.toNat, by omega⟩
      subst em
      rw [Int.toNat_natCast]
      refine for_range (lo := 0) (n := m) (fun i σ Hz => ∃ (y4 y5 y6 : Option V) (b' : Nat) (us : List Addr) (ds : List Db), σ = [some (.ref d), some (.ref tl), y2, some (.ref dl), y4, y5, y6, none] ∧ Fd H Hz d l b' xs ∧ b' ≤ a + 10 + 4 * i ∧ Hz tl = some (.lst (qs.map V.ref)) ∧ TupsAt Hz qs (ws.map tc) ∧ Hz dl = some (.lst (us.map V.ref)) ∧ TupsAt Hz us (ds.map dc) ∧ ds.length = i ∧ (∀ p ∈ ds, p.1 ∈ cnames) ∧ (∀ p ∈ ds, p.2.1 ∈ cranks) ∧ ∀ p ∈ ds, 0 ≤ p.2.2 ∧ p.2.2 ≤ 1000000000)
        ⟨none, none, none, _, [], [], rfl, X2, by omega, X1.f.keepL b1 ((same_upd ndl) _ _ ep), X1.f.tups b1 (hT.same (same_upd ndl)), X1.f.keepL b1 upd_same, .nil, rfl, (fun p h => by cases h), (fun p h => by cases h), fun p h => by cases h⟩ ?_ ?_
      · rintro i σ Hz hi ⟨y4, y5, y6, b', us, ds, rfl, X, lb, et, hT, ed, hD, hl, k1, k2, k3⟩
        refine ⟨(by show 5 ≤ sizeLine; decide), fun L nL => ⟨_, rfl, d, l, _, xs, 5, rfl, (X.go (same_upd nL (o := .lst (cnames.map V.str)))).f, by omega, by decide, fun r2 H2 q0 q1 b2 f2 => ?_⟩⟩
        have Y1 := X.go (same_upd nL (o := .lst (cnames.map V.str)))
        obtain ⟨n, hn, hat⟩ := pick_str (ns := cnames) q0 (by show r2 < 5; exact q1)
        have Y2 := Y1.take b2 f2
        refine ⟨L, _, _, _, rfl, rfl, SqL.of (Y1.f.keepL b2 upd_same), hat, ?_⟩
        refine ⟨(by show 6 ≤ sizeLine; decide), fun L3 nL3 => ⟨_, rfl, d, l, _, xs, 6, rfl, (Y2.go (same_upd nL3 (o := .lst (cranks.map V.int)))).f, by omega, by decide, fun r3 H3 z0 z1 b3 f3 => ?_⟩⟩
        have Y3 := Y2.go (same_upd nL3 (o := .lst (cranks.map V.int)))
        obtain ⟨rk, hrk, hat3⟩ := pick_int (ns := cranks) z0 (by show r3 < 6; exact z1)
        have Y4 := Y3.take b3 f3
        refine ⟨L3, _, _, _, rfl, rfl, SqL.of (Y3.f.keepL b3 upd_same), hat3, ?_⟩
        have ed3 : H3 dl = some (.lst (us.map V.ref)) := Y3.f.keepL b3 ((same_upd nL3) _ _ (Y1.f.keepL b2 ((same_upd nL) _ _ ed)))
        refine ⟨_, rfl, .inl ⟨rfl, _, SqL.of ed3⟩, _, rfl, _, rfl, _, rfl, d, l, _, xs, 500, rfl, f3, by omega, by decide, fun r4 H4 w0 w1 b4 f4 => ⟨(by show 2 ≤ sizeLine; decide), fun L5 nL5 => ?_⟩⟩
        have Y5 := Y4.take b4 f4
        have Y6 := Y5.go (same_upd nL5 (o := .lst ([r4, 1000000000].map V.int)))
        refine ⟨_, rfl, d, l, _, xs, 8, rfl, Y6.f, by omega, by decide, fun r6 H6 x0 x1 b6 f6 => ⟨_, _, rfl, rfl, ⟨by decide, by decide⟩, ?_⟩⟩
        obtain ⟨am, ham, hat6⟩ := pick_int (ns := [r4, 1000000000]) (r := r6 / 7) (by omega) (by show r6 / 7 < 2; omega)
        have Y7 := Y6.take b6 f6
        have bw : 0 ≤ am ∧ am ≤ 1000000000 := by
          simp only [List.mem_cons, List.not_mem_nil, or_false] at ham
          omega
        refine ⟨L5, _, _, _, rfl, rfl, SqL.of (Y6.f.keepL b6 upd_same), hat6, (by show 3 ≤ sizeLine; decide), fun T1 nT => ?_⟩
        have e7 {q : Addr} {zs : List V} (h : Hz q = some (.lst zs)) : (upd H6 T1 (.tup (dc (n, rk, am)))) q = some (.lst zs) := (same_upd nT) _ _ (Y6.f.keepL b6 ((same_upd nL5) _ _ (Y4.f.keepL b4 (Y3.f.keepL b3 ((same_upd nL3) _ _ (Y1.f.keepL b2 ((same_upd nL) _ _ h)))))))
        have t7 {zs : List Addr} {cs : List (List V)} (h : TupsAt Hz zs cs) : TupsAt (upd H6 T1 (.tup (dc (n, rk, am)))) zs cs := (Y6.f.tups b6 ((Y4.f.tups b4 (Y3.f.tups b3 ((Y1.f.tups b2 (h.same (same_upd nL))).same (same_upd nL3)))).same (same_upd nL5))).same (same_upd nT)
        have Y8 := Y7.go (same_upd nT (o := .tup (dc (n, rk, am))))
        refine ⟨dl, _, _, rfl, rfl, e7 ed, ?_, ?_⟩
        · rw [List.length_map, hD.1, List.length_map]
          exact small1000 (by omega)
        · have bt {zs : List Addr} {cs : List (List V)} {o : HO} (h : TupsAt (upd H6 T1 (.tup (dc (n, rk, am)))) zs cs) : TupsAt (upd (upd H6 T1 (.tup (dc (n, rk, am)))) dl o) zs cs := TupsAt.but (a := dl) (xs := us.map V.ref) h (e7 ed) (fun b o hb ne => by rw [upd_ne ne]; exact hb)
          refine ⟨_, _, _, _, us ++ [T1], ds ++ [(n, rk, am)], rfl, Y8.put dlN (e7 ed) dll, by omega, ?_, bt (t7 hT), ?_, ?_, ?_, ?_, ?_, ?_⟩
          · rw [upd_ne tdl]
            exact e7 et
          · rw [upd_same, List.map_append]
            rfl
          · rw [List.map_append]
            exact bt ((t7 hD).snoc upd_same)
          · rw [List.length_append, hl]
            rfl
          · intro p hp
            rcases List.mem_append.mp hp with m | m
            · exact k1 p m
            · rw [List.mem_singleton.mp m]
              exact hn
          · intro p hp
            rcases List.mem_append.mp hp with m | m
            · exact k2 p m
            · rw [List.mem_singleton.mp m]
              exact hrk
          · intro p hp
            rcases List.mem_append.mp hp with m | m
            · exact k3 p m
            · rw [List.mem_singleton.mp m]
              exact bw
      · rintro σ Hz ⟨y4, y5, y6, b', us, ds, rfl, X, lb, et, hT, ed, hD, hl, k1, k2, k3⟩
        refine ⟨_, rfl, d, l, _, xs, 100000, rfl, X.f, by omega, by decide, fun r2 H2 q0 q1 b2 f2 => ⟨(by show 5 ≤ sizeLine; decide), fun L nL => ?_⟩⟩
        have Y1 := X.take b2 f2
        have Y2 := Y1.go (same_upd nL (o := .lst ([(0 : Int), 1, 100, 1000000000, r2].map V.int)))
        refine ⟨_, rfl, d, l, _, xs, 5, rfl, Y2.f, by omega, by decide, fun r3 H3 z0 z1 b3 f3 => ?_⟩
        obtain ⟨cv, hcv, hat⟩ := pick_int (ns := [0, 1, 100, 1000000000, r2]) z0 (by show r3 < 5; exact z1)
        have Y3 := Y2.take b3 f3
        have bw : 0 ≤ cv ∧ cv ≤ 1000000000 := by
          simp only [List.mem_cons, List.not_mem_nil, or_false] at hcv
          omega
        have e3 {q : Addr} {zs : List V} (h : Hz q = some (.lst zs)) : H3 q = some (.lst zs) := Y2.f.keepL b3 ((same_upd nL) _ _ (X.f.keepL b2 h))
        have t3 {zs : List Addr} {cs : List (List V)} (h : TupsAt Hz zs cs) : TupsAt H3 zs cs := Y2.f.tups b3 ((X.f.tups b2 h).same (same_upd nL))
        refine ⟨L, _, _, _, rfl, rfl, SqL.of (Y2.f.keepL b3 upd_same), hat, _, rfl, _, rfl, tl, _, rfl, .inl ⟨SqL.of (e3 et), fun t nt => ?_⟩⟩
        have Y4 := Y3.go (same_upd nt (o := .tup (qs.map V.ref)))
        refine ⟨_, rfl, dl, _, rfl, .inl ⟨SqL.of ((same_upd nt) _ _ (e3 ed)), fun u nu => ⟨(by show 3 ≤ sizeLine; decide), fun p np => ?_⟩⟩⟩
        have Y5 := Y4.go (same_upd nu (o := .tup (us.map V.ref)))
        have s5 := same_upd nu (o := .tup (us.map V.ref))
        have s6 := same_upd np (o := .lst [.int cv, .ref t, .ref u])
        exact go p t u _ cv ws ds qs us _ (Y5.go s6) (by omega) (Y5.free np) (Y3.free nt) (Y4.free nu) upd_same ((s5.trans s6) _ _ upd_same) ((t3 hT).same (((same_upd nt).trans s5).trans s6)) (s6 _ _ upd_same) ((t3 hD).same (((same_upd nt).trans s5).trans s6)) ⟨bw.1, bw.2, sb3, hw, by omega, k1, k2, k3⟩
end
end K2
namespace K2
open PySem L2 PyProof.Rows PySem.Spec G
def fourT : List Str := ["ring", "house", "cow", "ship"]
theorem four_tn : ∀ z ∈ fourT, isTn z = true := by decide +kernel
/-- a drawn line -/
def WlD : Wl → Prop
  | .gift w n x ts => (0 ≤ n ∧ n < 6) ∧ (ts ≠ [] ∧ ts.length ≤ 5 ∧ ∀ t ∈ ts, isNm t = true) ∧ ((w = "thing" ∧ ∃ z ∈ fourT, x = .str z) ∨ (w = "sum" ∧ ∃ i, x = .int i ∧ 0 ≤ i ∧ i < 300) ∨ (w = "rest" ∧ ∃ i, x = .int i ∧ 1 ≤ i ∧ i ≤ 5))
  | .rev n => 0 ≤ n ∧ n < 6
  | .all => True
theorem amt_ok {n : Int} (h : 0 ≤ n ∧ n ≤ 1000000000) : amtV (.int n) = true := by
  show (decide (0 ≤ n) && decide (n ≤ 1000000000)) = true
  rw [decide_eq_true h.1, decide_eq_true h.2]
  rfl
theorem tks_ok {ts : List Str} (h : ts ≠ [] ∧ ts.length ≤ 5 ∧ ∀ t ∈ ts, isNm t = true) : tksB (some (ts.map V.str)) = true := by
  show ((decide (1 ≤ (ts.map V.str).length) && decide ((ts.map V.str).length ≤ 5)) && (ts.map V.str).all nameV) = true
  rw [List.length_map, decide_eq_true (show 1 ≤ ts.length from List.length_pos_iff.mpr h.1), decide_eq_true h.2.1, List.all_map]
  exact List.all_eq_true.mpr h.2.2
theorem WlD.ok {w : Wl} (h : WlD w) : lnB w.ln = true := by
  cases w with
  | gift w n x ts =>
    obtain ⟨hn, ht, hx⟩ := h
    show (amtV (.int n) && (givB w x && tksB (some (ts.map V.str)))) = true
    rw [amt_ok (by omega), tks_ok ht, Bool.and_true, Bool.true_and]
    rcases hx with ⟨rfl, z, hz, rfl⟩ | ⟨rfl, i, rfl, i0, i1⟩ | ⟨rfl, i, rfl, i0, i1⟩
    · exact (if_pos rfl).trans (four_tn z hz)
    · exact (if_neg (by decide +kernel)).trans ((if_pos rfl).trans (amt_ok (by omega)))
    · refine (if_neg (by decide +kernel)).trans ((if_neg (by decide +kernel)).trans ?_)
      rw [amt_ok (by omega)]
      show (true && (true && decide (0 < i))) = true
      rw [decide_eq_true (by omega)]
      rfl
  | rev n =>
    show (isStr (.str "revoke") && (amtV (.int n) && decide (V.str ("revoke" : Str) = .str "revoke"))) = true
    rw [amt_ok (by have := h.1; have := h.2; omega), decide_eq_true rfl]
    rfl
  | all => exact (show (true && decide (V.str ("revoke" : Str) = .str "revoke")) = true by rw [decide_eq_true rfl]; rfl)
theorem wl_move {K : PySem.W.Frag} {H H' : Hp} {q : Addr} {w : Wl} (mv : ∀ q xs, SqT K H q xs → SqT K H' q xs) (h : LnAt K H q w.ln) : LnAt K H' q w.ln := by
  cases w with
  | gift w n x ts =>
    obtain ⟨t, h1, h2, h3, h4, q', e, h5, h6⟩ := h
    exact ⟨t, mv _ _ h1, h2, h3, h4, q', e, mv _ _ h5, h6⟩
  | rev n => exact ⟨mv _ _ h.1, h.2⟩
  | all => exact ⟨mv _ _ h.1, h.2⟩
theorem sq_upd {K : PySem.W.Frag} {H : Hp} {p q : Addr} {o : HO} {zs xs : List V} (hp : H p = some (.lst zs)) (h : SqT K H q xs) : SqT K (upd H p o) q xs := by
  rcases h with (h | ⟨u, h⟩) | h
  · exact .inl (.inl (by rw [upd_ne (ne_of h hp (by intro z; cases z))]; exact h))
  · exact .inl (.inr ⟨u, by rw [upd_ne (ne_of h hp (by intro z; cases z))]; exact h⟩)
  · exact .inr h
theorem sq_but {K : PySem.W.Frag} {H H' : Hp} {d l q : Addr} {a : Nat} {zs : List Int} {xs : List V} (f : Feed H d l a zs) (b : But d H H') (h : SqT K H q xs) : SqT K H' q xs := by
  rcases h with (h | ⟨u, h⟩) | h
  · exact .inl (.inl (b _ _ h (ne_of h f.hd (by intro z; cases z))))
  · exact .inl (.inr ⟨u, b _ _ h (ne_of h f.hd (by intro z; cases z))⟩)
  · exact .inr h
/-- lines that stand in a list -/
structure Wls (K : PySem.W.Frag) (Hy : Hp) (ll : Addr) (ps : List (Addr × Wl)) : Prop where
  el : Hy ll = some (.lst (ps.map fun p => .ref p.1))
  at' : ∀ p ∈ ps, LnAt K Hy p.1 p.2.ln ∧ WlD p.2
theorem Wls.same {K : PySem.W.Frag} {H H' : Hp} {ll : Addr} {ps : List (Addr × Wl)} (h : Wls K H ll ps) (s : Same H H') : Wls K H' ll ps := ⟨s _ _ h.el, fun p hp => ⟨(h.at' p hp).1.same s, (h.at' p hp).2⟩⟩
theorem Wls.but {K : PySem.W.Frag} {H H' : Hp} {ll d l : Addr} {ps : List (Addr × Wl)} {a : Nat} {zs : List Int} (h : Wls K H ll ps) (f : Feed H d l a zs) (b : But d H H') : Wls K H' ll ps := ⟨f.keepL b h.el, fun p hp => ⟨wl_move (fun q xs => sq_but f b) (h.at' p hp).1, (h.at' p hp).2⟩⟩
theorem Wls.push {K : PySem.W.Frag} {H : Hp} {ll q : Addr} {ps : List (Addr × Wl)} {w : Wl} (h : Wls K H ll ps) (a : LnAt K H q w.ln) (g : WlD w) : Wls K (upd H ll (.lst (ps.map (fun p => V.ref p.1) ++ [.ref q]))) ll (ps ++ [(q, w)]) := by
  refine ⟨by rw [upd_same, List.map_append]; rfl, fun p hp => ?_⟩
  rcases List.mem_append.mp hp with m | m
  · exact ⟨wl_move (fun q xs => sq_upd h.el) (h.at' p m).1, (h.at' p m).2⟩
  · rw [List.mem_singleton.mp m]
    exact ⟨wl_move (fun q xs => sq_upd h.el) a, g⟩
theorem okw {x : Str} (h : x.length ≤ 1000) : OkV (.str x) := ⟨rfl, fun y e => by
  have := V.str.inj e
  rw [← this]
  exact h⟩
theorem oki (i : Int) : OkV (.int i) := ⟨rfl, fun y e => by cases e⟩
theorem nm_len {x : Str} (h : isNm x = true) : x.length ≤ 12 := by
  unfold isNm at h
  rw [Bool.and_eq_true, Bool.and_eq_true, Bool.and_eq_true] at h
  exact of_decide_eq_true h.1.2.2
section
variable {P : Program} {w : World} {K : PySem.W.Frag} {mg : Str → Option Value} {base : Heap}
def spLwi (K : PySem.W.Frag) : Sp := fun vs H Q _ => ∃ (d l na : Addr) (a : Nat) (xs : List Int) (ns : List Str), vs = [.ref d, .ref na] ∧ Feed H d l a xs ∧ a < 90000 ∧ H na = some (.lst (ns.map V.str)) ∧ ns.length ≤ 100 ∧ (∀ n ∈ ns, isNm n = true) ∧ ∀ (ll : Addr) (H' : Hp) (ps : List (Addr × Wl)) (a' : Nat), Fd H H' d l a' xs → a' ≤ a + 100 → H ll = none → Wls K H' ll ps → ps.length ≤ 6 → Q (.ref ll) H'
abbrev nLwi : List Str := ["feed", "names", "lines", "known", "k", "takers", "number", "pick", "j"]
theorem scLwi : FnScope nLwi ["feed", "names"] (defScope sLwi) := ⟨rfl, rfl, rfl, by decide +kernel, rfl, by decide +kernel, by decide +kernel⟩
theorem ok_lwi {f : Addr} {fd : FuncData} (F : Fun K "_law_will" "_law_will" sLwi f fd) (mgR : mg "range" = none) (mgT : mg "tuple" = none) (mgL : mg "len" = none) (TT : Has P w K mg base CX0 "_law_take" ["feed", "limit"] 1 spTak) : FnOk P w K mg base CX0 2 f fd ["feed", "names"] (spLwi K) := by
  obtain ⟨fT, fdT, mT, kT, bT, GT⟩ := TT.ok
  refine F.ok scLwi (fun vs H Q E h => ?_) (fun cdv A outer s H vs Q E hr h => ?_)
  · obtain ⟨d, l, na, a, xs, ns, rfl, _⟩ := h
    rfl
  · obtain ⟨d, l, na, a, xs, ns, rfl, f0, ha, en, hn, hnm, go⟩ := h
    refine ⟨_, (pss_cons (ps_set (i := 2) scLwi.nd rfl (.inl rfl) (pe_lst pa_nil))
      (pss_cons (ps_set (i := 3) scLwi.nd rfl (.inr rfl) (pe_op op_cat (pv 1) (pe_lst (pa_cons pe_str (pa_cons pe_str pa_nil)))))
      (pss_cons (ps_for PassesOwn.never rfl (pi_range1 rfl mgR (pa_cons (pe_call GT (hr.mono (by decide)) (by rfl) mT kT bT .nil pass0 (pa_cons (pv 0) (pa_cons pe_int pa_nil))) pa_nil)) (pg_name (i := 4) scLwi.nd rfl (.inl rfl)) (pss_cons (ps_set (i := 5) scLwi.nd rfl (.inl rfl) (pe_callTy call_tuple_of (by rfl) mgT (by decide +kernel) (pa_cons (pe_lc (own := [("j", 8)]) (g := gName 8) (tt := tYes) rfl scLwi.nd (pi_range1 rfl mgR (pa_cons (pe_op op_add pe_int (pe_call GT (hr.mono (by decide)) (by rfl) mT kT bT .nil pass0 (pa_cons (pv 0) (pa_cons pe_int pa_nil)))) pa_nil)) (blkOk_by (N := nLwi) (sc := defScope sLwi) (by decide +kernel)) (fun _ _ _ _ _ => (pg_name (i := 8) scLwi.nd rfl (.inl rfl) (.inr rfl))) (fun _ _ _ _ _ => pts_nil) (fun _ _ _ _ _ => (pe_ix (show IxR _ (rIxL K) from ix_list) (pv 3) (pe_call GT (hr.mono (by decide)) (by rfl) mT kT bT .nil pass0 (pa_cons (pv 0) (pa_cons (pe_callB (show CallR _ _ (fun xs H Q => ∃ p ys, xs = [.ref p] ∧ (SqL K H p ys ∨ SqT K H p ys) ∧ Q (.int (ys.length : Int)) H) from call_len_seq) (by rfl) mgL PySem.boot_len (pa_cons (pv 3) pa_nil)) pa_nil))) (fun _ _ => rfl)))) pa_nil)))
      (pss_cons (ps_set (i := 6) scLwi.nd rfl (.inl rfl) (pe_call GT (hr.mono (by decide)) (by rfl) mT kT bT .nil pass0 (pa_cons (pv 0) (pa_cons pe_int pa_nil))))
      (pss_cons (ps_set (i := 7) scLwi.nd rfl (.inl rfl) (pe_call GT (hr.mono (by decide)) (by rfl) mT kT bT .nil pass0 (pa_cons (pv 0) (pa_cons pe_int pa_nil))))
      (pss_one (ps_if (pt_cmpR op_lt (pv 7) pe_int (nomark _)) (pss_one (ps_expr (pe_bm PySem.F.plainAttrs_list PySem.F.slot_list_append PySem.F.type_list_append mt_append (pv 2) (pa_cons (pe_tup (pa_cons pe_str (pa_cons (pv 6) (pa_cons (pe_ix ix_list (pe_lst (pa_cons pe_str (pa_cons pe_str (pa_cons pe_str (pa_cons pe_str pa_nil))))) (pe_call GT (hr.mono (by decide)) (by rfl) mT kT bT .nil pass0 (pa_cons (pv 0) (pa_cons pe_int pa_nil))) (fun _ _ => rfl)) (pa_cons (pv 5) pa_nil))))) pa_nil)))) (pss_one (ps_if (pt_cmpR op_lt (pv 7) pe_int (nomark _)) (pss_one (ps_expr (pe_bm PySem.F.plainAttrs_list PySem.F.slot_list_append PySem.F.type_list_append mt_append (pv 2) (pa_cons (pe_tup (pa_cons pe_str (pa_cons (pv 6) (pa_cons (pe_call GT (hr.mono (by decide)) (by rfl) mT kT bT .nil pass0 (pa_cons (pv 0) (pa_cons pe_int pa_nil))) (pa_cons (pv 5) pa_nil))))) pa_nil)))) (pss_one (ps_if (pt_cmpR op_lt (pv 7) pe_int (nomark _)) (pss_one (ps_expr (pe_bm PySem.F.plainAttrs_list PySem.F.slot_list_append PySem.F.type_list_append mt_append (pv 2) (pa_cons (pe_tup (pa_cons pe_str (pa_cons (pv 6) (pa_cons (pe_op op_add pe_int (pe_call GT (hr.mono (by decide)) (by rfl) mT kT bT .nil pass0 (pa_cons (pv 0) (pa_cons pe_int pa_nil)))) (pa_cons (pv 5) pa_nil))))) pa_nil)))) (pss_one (ps_if (pt_cmpR op_eq (pv 7) pe_int (nomark _)) (pss_one (ps_expr (pe_bm PySem.F.plainAttrs_list PySem.F.slot_list_append PySem.F.type_list_append mt_append (pv 2) (pa_cons (pe_tup (pa_cons pe_str (pa_cons (pv 6) pa_nil))) pa_nil)))) (pss_one (ps_if (pt_cmpR op_eq (pe_call GT (hr.mono (by decide)) (by rfl) mT kT bT .nil pass0 (pa_cons (pv 0) (pa_cons pe_int pa_nil))) pe_int (nomark _)) (pss_one (ps_expr (pe_bm PySem.F.plainAttrs_list PySem.F.slot_list_append PySem.F.type_list_append mt_append (pv 2) (pa_cons (pe_tup (pa_cons pe_str pa_nil)) pa_nil)))) pss_nil))))))))))))))
      (pss_one (ps_ret (pv 2)))))), ?_⟩
    have X0 : Fd H H d l a xs := ⟨fun b o h _ => h, f0⟩
    refine ⟨Nat.zero_le _, fun ll nll => ?_⟩
    have lll : ll ≠ l := fun e => by rw [e, f0.hl] at nll; cases nll
    have X1 := X0.go (same_upd nll (o := .lst []))
    refine ⟨_, rfl, (by show 2 ≤ sizeLine; decide), fun L nL => ⟨na, L, _, _, rfl, rfl, ((same_upd nll).trans (same_upd nL)) _ _ en, upd_same, ?_, fun kn nkn => ?_⟩⟩
    · rw [List.length_map]
      exact Nat.le_of_lt (small1000 (by show ns.length + 2 ≤ 1000; omega))
    have s1 := ((same_upd nll (o := .lst [])).trans (same_upd nL (o := .lst [.str "q1", .str "zz"]))).trans (same_upd nkn (o := .lst (ns.map V.str ++ [.str "q1", .str "zz"])))
    have X2 := X0.go s1
    let known : List Str := ns ++ (["q1", "zz"] : List Str)
    have ekn0 : (upd (upd (upd H ll (.lst [])) L (.lst [.str "q1", .str "zz"])) kn (.lst (ns.map V.str ++ [.str "q1", .str "zz"]))) kn = some (.lst (known.map V.str)) := by
      rw [upd_same, List.map_append]
      rfl
    have kll : kn ≠ ll := Ne.symm (ne_of_none ((same_upd nL (o := .lst [.str "q1", .str "zz"])) ll _ (upd_same (H := H) (o := .lst []))) nkn)
    have ell0 : (upd (upd (upd H ll (.lst [])) L (.lst [.str "q1", .str "zz"])) kn (.lst (ns.map V.str ++ [.str "q1", .str "zz"]))) ll = some (.lst []) := by
      rw [upd_ne (Ne.symm kll)]
      exact (same_upd nL) _ _ upd_same
    have klen : known.length = ns.length + 2 := by rw [List.length_append]; rfl
    have kok : ∀ n ∈ known, isNm n = true := fun n h => by
      rcases List.mem_append.mp h with m | m
      · exact hnm n m
      · have all : ∀ x ∈ (["q1", "zz"] : List Str), isNm x = true := by decide +kernel
        exact all n m
    refine ⟨_, rfl, d, l, a, xs, 7, rfl, X2.f, by omega, by decide, fun r H1 r0 r1 b1 f1 => ?_⟩
    have X3 := X2.take b1 f1
    obtain ⟨m, em⟩ : ∃ m : Nat, r = (m : Int) := ⟨r.toNat, by omega⟩
    subst em
    refine ⟨_, rfl, by show -(2 ^ 62 : Int) ≤ (m : Int); omega, by show (m : Int) < 2 ^ 62; omega, ?_⟩
    rw [Int.toNat_natCast]
    refine for_range (lo := 0) (n := m) (fun i σ Hz => ∃ (y4 y5 y6 y7 : Option V) (b' : Nat) (ps : List (Addr × Wl)), σ = [some (.ref d), some (.ref na), some (.ref ll), some (.ref kn), y4, y5, y6, y7, none] ∧ Fd H Hz d l b' xs ∧ b' ≤ a + 1 + 12 * i ∧ Hz kn = some (.lst (known.map V.str)) ∧ Wls K Hz ll ps ∧ ps.length ≤ i)
      ⟨none, none, none, none, _, [], rfl, X3, by omega, X2.f.keepL b1 ekn0, ⟨X2.f.keepL b1 ell0, fun p h => by cases h⟩, Nat.le_refl _⟩ ?_ ?_
    · rintro i σ Hz hi ⟨y4, y5, y6, y7, b', ps, rfl, X, lb, ek, hW, hl⟩
      refine ⟨_, rfl, d, l, _, xs, 5, rfl, X.f, by omega, by decide, fun r2 H2 q0 q1 b2 f2 => ⟨_, _, rfl, rfl, ?_⟩⟩
      have Y1 := X.take b2 f2
      obtain ⟨tn, etn⟩ : ∃ tn : Nat, (1 : Int) + r2 = (tn : Int) := ⟨((1 : Int) + r2).toNat, by omega⟩
      refine ⟨_, rfl, by show -(2 ^ 62 : Int) ≤ 1 + r2; omega, by show (1 + r2 : Int) < 2 ^ 62; omega, fun Dn nD => ?_⟩
      rw [etn, Int.toNat_natCast]
      have ek2 := X.f.keepL b2 ek
      have Z0 : Fd H2 H2 d l (b' + 1) xs := ⟨fun b o h _ => h, f2⟩
      have Dl : Dn ≠ l := fun e => by rw [e, f2.hl] at nD; cases nD
      have knD : kn ≠ Dn := ne_of_none ek2 nD
      refine lc_it walk_range (fun j Hw => ∃ ts : List Str, Fd H2 Hw d l (b' + 1 + j) xs ∧ Hw Dn = some (.lst (ts.map V.str)) ∧ ts.length = j ∧ ∀ t ∈ ts, isNm t = true)
        ⟨[], Z0.go (same_upd nD), upd_same, rfl, fun t h => by cases h⟩ (fun _ _ _ _ => trivial) ?_ ?_
      · rintro j v Hw H' hj ⟨ts, Z, eD, lt, ht⟩ ⟨rfl, rfl⟩
        have ekw : H' kn = some (.lst (known.map V.str)) := Z.b _ _ ek2 (ne_of ek2 f2.hd (by intro z; cases z))
        refine ⟨rfl, _, rfl, _, rfl, _, rfl, kn, _, rfl, .inl (SqL.of ekw), d, l, _, xs, _, rfl, Z.f, by omega, (by rw [List.length_map, klen]; omega), fun r3 H3 z0 z1 b3 f3 => ?_⟩
        rw [List.length_map] at z1
        obtain ⟨tv, htv, hat⟩ := pick_str (ns := known) z0 z1
        have ekw3 := Z.f.keepL b3 ekw
        refine ⟨kn, _, _, _, rfl, rfl, SqL.of ekw3, hat, _, Z.f.keepL b3 eD, ?_, ts ++ [tv], ?_, ?_, ?_, ?_⟩
        · rw [List.length_map]
          exact small1000 (by omega)
        · have := (Z.take b3 f3).put (o := .lst (ts.map V.str ++ [.str tv])) nD (Z.f.keepL b3 eD) Dl
          rw [show b' + 1 + (j + 1) = b' + 1 + j + 1 by omega]
          exact this
        · rw [upd_same, List.map_append]
          rfl
        · rw [List.length_append, lt]
          rfl
        · intro t h
          rcases List.mem_append.mp h with m | m
          · exact ht t m
          · rw [List.mem_singleton.mp m]
            exact kok tv htv
      · rintro Hw ⟨ts, Z, eD, lt, ht⟩
        refine ⟨Dn, _, rfl, .inl ⟨SqL.of eD, fun tk ntk => ?_⟩⟩
        -- what stood at the turn's start stands behind the takers
        have Yw : Fd H Hw d l (b' + 1 + tn) xs := ⟨fun b o h n => Z.b b o (Y1.b b o h n) n, Z.f⟩
        have ekw : Hw kn = some (.lst (known.map V.str)) := Z.b _ _ ek2 (ne_of ek2 f2.hd (by intro z; cases z))
        have hW2 : Wls K Hw ll ps := by
          have h2 := hW.but X.f b2
          refine ⟨Z.b _ _ h2.el (ne_of h2.el f2.hd (by intro z; cases z)), fun p hp => ⟨wl_move (fun q xs h => ?_) (h2.at' p hp).1, (h2.at' p hp).2⟩⟩
          exact sq_but f2 Z.b h
        have Y2 := Yw.go (same_upd ntk (o := .tup (ts.map V.str)))
        refine ⟨_, rfl, d, l, _, xs, 6, rfl, Y2.f, by omega, by decide, fun num H4 n0 n1 b4 f4 => ?_⟩
        have Y3 := Y2.take b4 f4
        refine ⟨_, rfl, d, l, _, xs, 10, rfl, Y3.f, by omega, by decide, fun pk H5 p0 p1 b5 f5 => ?_⟩
        have Y4 := Y3.take b5 f5
        have ek5 : H5 kn = some (.lst (known.map V.str)) := Y3.f.keepL b5 (Y2.f.keepL b4 ((same_upd ntk) _ _ ekw))
        have hW5 : Wls K H5 ll ps := ((hW2.same (same_upd ntk)).but Y2.f b4).but Y3.f b5
        have tk5 : H5 tk = some (.tup (ts.map V.str)) := Y3.f.keep b5 (Y2.f.keep b4 upd_same)
        have tsn : ts ≠ [] := fun e => by rw [e] at lt; have : tn = 0 := lt.symm; omega
        have hts : ts ≠ [] ∧ ts.length ≤ 5 ∧ ∀ t ∈ ts, isNm t = true := ⟨tsn, by omega, ht⟩
        have vts {Hq : Hp} (h : Hq tk = some (.tup (ts.map V.str))) : VsIt K Hq (.ref tk) (some (ts.map V.str)) := ⟨tk, rfl, SqT.of h, fun x hx => by
          obtain ⟨t, h1, rfl⟩ := List.mem_map.mp hx
          exact okw (by have := nm_len (ht t h1); omega), by rw [List.length_map]; omega⟩
        have lsz : (ps.map fun p => V.ref p.1).length < sizeLine := by
          rw [List.length_map]
          exact small1000 (by omega)
        -- one more line
        have fin {Hq : Hp} {c' : Nat} {q : Addr} {wl : Wl} (Xq : Fd H Hq d l c' xs) (lc : c' ≤ a + 1 + 12 * (i + 1)) (ekq : Hq kn = some (.lst (known.map V.str))) (hq : Wls K Hq ll ps) (a1 : LnAt K Hq q wl.ln) (g1 : WlD wl) :
            ∃ (y4 y5 y6 y7 : Option V) (b' : Nat) (ps' : List (Addr × Wl)), ([some (.ref d), some (.ref na), some (.ref ll), some (.ref kn), some (.int (0 + (i : Int))), some (.ref tk), some (.int num), some (.int pk), none] : List (Option V)) = [some (.ref d), some (.ref na), some (.ref ll), some (.ref kn), y4, y5, y6, y7, none] ∧ Fd H (upd Hq ll (.lst (ps.map (fun p => V.ref p.1) ++ [.ref q]))) d l b' xs ∧ b' ≤ a + 1 + 12 * (i + 1) ∧ (upd Hq ll (.lst (ps.map (fun p => V.ref p.1) ++ [.ref q]))) kn = some (.lst (known.map V.str)) ∧ Wls K (upd Hq ll (.lst (ps.map (fun p => V.ref p.1) ++ [.ref q]))) ll ps' ∧ ps'.length ≤ i + 1 := by
          refine ⟨_, _, _, _, c', ps ++ [(q, wl)], rfl, Xq.put nll hq.el lll, lc, ?_, hq.push a1 g1, ?_⟩
          · rw [upd_ne kll]
            exact ekq
          · rw [List.length_append]
            exact Nat.succ_le_succ hl
        refine ⟨_, rfl, _, _, rfl, rfl, _, rfl, ite2 (fun c1 => ?_) (fun c1 => ?_)⟩
        · refine ⟨_, rfl, .inl ⟨rfl, _, SqL.of hW5.el⟩, _, rfl, (by show 4 ≤ sizeLine; decide), fun L4 nL4 => ⟨_, rfl, d, l, _, xs, 4, rfl, (Y4.go (same_upd nL4 (o := .lst (fourT.map V.str)))).f, by omega, by decide, fun r6 H6 x0 x1 b6 f6 => ?_⟩⟩
          have W1 := Y4.go (same_upd nL4 (o := .lst (fourT.map V.str)))
          obtain ⟨z, hz, hat⟩ := pick_str (ns := fourT) x0 (by show r6 < 4; exact x1)
          have hW6 := (hW5.same (same_upd nL4 (o := .lst (fourT.map V.str)))).but W1.f b6
          have ek6 := W1.f.keepL b6 ((same_upd nL4) _ _ ek5)
          have tk6 := W1.f.keep b6 ((same_upd nL4) _ _ tk5)
          refine ⟨L4, _, _, _, rfl, rfl, SqL.of (W1.f.keepL b6 upd_same), hat, _, rfl, (by show 4 ≤ sizeLine; decide), fun T1 nT => ?_⟩
          have s7 := same_upd nT (o := .tup [.str "thing", .int num, .str z, .ref tk])
          have hz12 : OkV (.str z) := okw (by
            have all : ∀ x ∈ fourT, x.length ≤ 1000 := by decide +kernel
            exact all z hz)
          exact ⟨ll, _, _, rfl, rfl, (hW6.same s7).el, lsz, fin (wl := .gift "thing" num (.str z) ts) ((W1.take b6 f6).go s7) (by omega) (s7 _ _ ek6) (hW6.same s7) ⟨.ref tk, SqT.of upd_same, okw (by decide +kernel), oki _, hz12, vts (s7 _ _ tk6)⟩ ⟨⟨n0, n1⟩, hts, .inl ⟨rfl, z, hz, rfl⟩⟩⟩
        · refine ⟨_, rfl, _, _, rfl, rfl, _, rfl, ite2 (fun c2 => ?_) (fun c2 => ?_)⟩
          · refine ⟨_, rfl, .inl ⟨rfl, _, SqL.of hW5.el⟩, _, rfl, _, rfl, d, l, _, xs, 300, rfl, Y4.f, by omega, by decide, fun r6 H6 x0 x1 b6 f6 => ⟨_, rfl, (by show 4 ≤ sizeLine; decide), fun T1 nT => ?_⟩⟩
            have hW6 := hW5.but Y4.f b6
            have s7 := same_upd nT (o := .tup [.str "sum", .int num, .int r6, .ref tk])
            exact ⟨ll, _, _, rfl, rfl, (hW6.same s7).el, lsz, fin (wl := .gift "sum" num (.int r6) ts) ((Y4.take b6 f6).go s7) (by omega) (s7 _ _ (Y4.f.keepL b6 ek5)) (hW6.same s7) ⟨.ref tk, SqT.of upd_same, okw (by decide +kernel), oki _, oki _, vts (s7 _ _ (Y4.f.keep b6 tk5))⟩ ⟨⟨n0, n1⟩, hts, .inr (.inl ⟨rfl, r6, rfl, x0, x1⟩)⟩⟩
          · refine ⟨_, rfl, _, _, rfl, rfl, _, rfl, ite2 (fun c3 => ?_) (fun c3 => ?_)⟩
            · refine ⟨_, rfl, .inl ⟨rfl, _, SqL.of hW5.el⟩, _, rfl, _, rfl, d, l, _, xs, 5, rfl, Y4.f, by omega, by decide, fun r6 H6 x0 x1 b6 f6 => ⟨_, _, rfl, rfl, _, rfl, (by show 4 ≤ sizeLine; decide), fun T1 nT => ?_⟩⟩
              have hW6 := hW5.but Y4.f b6
              have s7 := same_upd nT (o := .tup [.str "rest", .int num, .int (1 + r6), .ref tk])
              exact ⟨ll, _, _, rfl, rfl, (hW6.same s7).el, lsz, fin (wl := .gift "rest" num (.int (1 + r6)) ts) ((Y4.take b6 f6).go s7) (by omega) (s7 _ _ (Y4.f.keepL b6 ek5)) (hW6.same s7) ⟨.ref tk, SqT.of upd_same, okw (by decide +kernel), oki _, oki _, vts (s7 _ _ (Y4.f.keep b6 tk5))⟩ ⟨⟨n0, n1⟩, hts, .inr (.inr ⟨rfl, 1 + r6, rfl, by omega, by omega⟩)⟩⟩
            · refine ⟨_, rfl, rfl, _, rfl, ite2 (fun c4 => ?_) (fun c4 => ?_)⟩
              · refine ⟨_, rfl, .inl ⟨rfl, _, SqL.of hW5.el⟩, _, rfl, (by show 2 ≤ sizeLine; decide), fun T1 nT => ?_⟩
                have s7 := same_upd nT (o := .tup [.str "revoke", .int num])
                exact ⟨ll, _, _, rfl, rfl, (hW5.same s7).el, lsz, fin (wl := .rev num) (Y4.go s7) (by omega) (s7 _ _ ek5) (hW5.same s7) ⟨SqT.of upd_same, okw (by decide +kernel), oki _⟩ ⟨n0, n1⟩⟩
              · refine ⟨_, rfl, d, l, _, xs, 4, rfl, Y4.f, by omega, by decide, fun r6 H6 x0 x1 b6 f6 => ⟨rfl, _, rfl, ite2 (fun c5 => ?_) (fun c5 => ?_)⟩⟩
                · have hW6 := hW5.but Y4.f b6
                  refine ⟨_, rfl, .inl ⟨rfl, _, SqL.of hW6.el⟩, (by show 1 ≤ sizeLine; decide), fun T1 nT => ?_⟩
                  have s7 := same_upd nT (o := .tup [.str "revoke"])
                  exact ⟨ll, _, _, rfl, rfl, (hW6.same s7).el, lsz, fin (wl := .all) ((Y4.take b6 f6).go s7) (by omega) (s7 _ _ (Y4.f.keepL b6 ek5)) (hW6.same s7) ⟨SqT.of upd_same, okw (by decide +kernel)⟩ trivial⟩
                · exact ⟨_, _, _, _, _, ps, rfl, Y4.take b6 f6, by omega, Y4.f.keepL b6 ek5, hW5.but Y4.f b6, by omega⟩
    · rintro σ Hz ⟨y4, y5, y6, y7, b', ps, rfl, X, lb, ek, hW, hl⟩
      exact ⟨_, rfl, go ll Hz ps b' X (by omega) nll hW (by omega)⟩
end
end K2
namespace K2
open PySem L2 PyProof.Rows PySem.Spec G
theorem nm_ok {x : Str} (h : isNm x = true) : PyData.strOk x = true := by
  unfold isNm at h
  rw [Bool.and_eq_true, Bool.and_eq_true] at h
  have h2 := h.2
  rw [List.all_eq_true] at h2
  show x.cps.all (· < 0x110000) = true
  rw [← Array.all_toList, List.all_eq_true]
  intro c hc
  have m := of_decide_eq_true (h2 c hc)
  have all : ∀ c ∈ signs.cps.toList, c < 0x110000 := by decide +kernel
  exact decide_eq_true (all c m)
/-- a line as data -/
def xD : V → PyData
  | .int i => .int i
  | .str x => .str x
  | _ => .none
def wdat : Wl → PyData
  | .gift w n x ts => .tuple [.str w, .int n, xD x, .tuple (ts.map PyData.str)]
  | .rev n => .tuple [.str "revoke", .int n]
  | .all => .tuple [.str "revoke"]
theorem dp_strsT {K : PySem.W.Frag} {H : Hp} : ∀ (zs : List Str), DpAll K H (zs.map V.str) (zs.map PyData.str)
  | [] => .nil
  | z :: zs => .cons (.str z) (dp_strsT zs)
theorem dp_wl {K : PySem.W.Frag} {H : Hp} {q : Addr} {w : Wl} (h : LnAt K H q w.ln) (g : WlD w) : Dp K H (.ref q) (wdat w) := by
  cases w with
  | gift w n x ts =>
    obtain ⟨t, h1, h2, h3, h4, q', rfl, h5, h6⟩ := h
    have hx : Dp K H x (xD x) := by
      rcases g.2.2 with ⟨_, z, _, rfl⟩ | ⟨_, i, rfl, _⟩ | ⟨_, i, rfl, _⟩
      · exact .str _
      · exact .int _
      · exact .int _
    exact .tup h1 (.cons (.str _) (.cons (.int _) (.cons hx (.cons (.tup h5 (dp_strsT ts)) .nil))))
  | rev n => exact .tup h.1 (.cons (.str _) (.cons (.int _) .nil))
  | all => exact .tup h.1 (.cons (.str _) .nil)
theorem lay_strs : ∀ {zs : List Str}, (∀ z ∈ zs, PyData.strOk z = true) → PyData.canLayAll0 (zs.map PyData.str) = true
  | [], _ => rfl
  | z :: zs, h => by
    show (PyData.canLay0 (.str z) && PyData.canLayAll0 (zs.map PyData.str)) = true
    rw [lay_strs fun y hy => h y (List.mem_cons_of_mem _ hy), Bool.and_true]
    show PyData.strOk z = true
    exact h z List.mem_cons_self
theorem dep_strs : ∀ (zs : List Str), PyData.depthAll (zs.map PyData.str) = 0
  | [] => rfl
  | z :: zs => by
    show max 0 (PyData.depthAll (zs.map PyData.str)) = 0
    rw [dep_strs zs]
    rfl
theorem four_ok : ∀ z ∈ fourT, PyData.strOk z = true := by decide +kernel
theorem lay_wl {w : Wl} (g : WlD w) : PyData.canLay0 (wdat w) = true ∧ PyData.depth (wdat w) ≤ 2 := by
  cases w with
  | gift w n x ts =>
    have hx : PyData.canLay0 (xD x) = true ∧ PyData.depth (xD x) = 0 := by
      rcases g.2.2 with ⟨_, z, hz, rfl⟩ | ⟨_, i, rfl, _⟩ | ⟨_, i, rfl, _⟩
      · exact ⟨four_ok z hz, rfl⟩
      · exact ⟨rfl, rfl⟩
      · exact ⟨rfl, rfl⟩
    have hw : PyData.strOk w = true := by
      rcases g.2.2 with ⟨rfl, _⟩ | ⟨rfl, _⟩ | ⟨rfl, _⟩ <;> decide +kernel
    have ht := lay_strs fun z hz => nm_ok (g.2.1.2.2 z hz)
    have hd := dep_strs ts
    constructor
    · show (PyData.canLay0 (.str w) && (PyData.canLay0 (.int n) && (PyData.canLay0 (xD x) && (PyData.canLay0 (.tuple (ts.map PyData.str)) && PyData.canLayAll0 [])))) = true
      rw [show PyData.canLay0 (.str w) = true from hw, hx.1, show PyData.canLay0 (.tuple (ts.map PyData.str)) = true from ht]
      rfl
    · simp only [wdat, PyData.depth, PyData.depthAll, hx.2, hd]
      omega
  | rev n => exact ⟨by show (PyData.strOk ("revoke" : Str) && true) = true; decide +kernel, by simp [wdat, PyData.depth, PyData.depthAll]⟩
  | all => exact ⟨by show (PyData.strOk ("revoke" : Str) && true) = true; decide +kernel, by simp [wdat, PyData.depth, PyData.depthAll]⟩
theorem sha_wl {w : Wl} (g : WlD w) : SeqAt.shaped (wdat w) = true := by
  obtain ⟨a, b⟩ := lay_wl g
  unfold SeqAt.shaped
  rw [a, decide_eq_true (by omega)]
  rfl
def isA : Wl → Bool
  | .all => true
  | _ => false
theorem eqv_all {w : Wl} (g : WlD w) : PyData.eqv (wdat w) (.tuple [.str "revoke"]) = isA w := by
  cases w with
  | gift w n x ts =>
    have ne : (w == ("revoke" : Str)) = false := by
      rcases g.2.2 with ⟨rfl, _⟩ | ⟨rfl, _⟩ | ⟨rfl, _⟩ <;> decide +kernel
    show ((w == ("revoke" : Str)) && _) = false
    rw [ne]
    rfl
  | rev n =>
    show (("revoke" == ("revoke" : Str)) && false) = false
    rw [Bool.and_false]
  | all =>
    show (("revoke" == ("revoke" : Str)) && true) = true
    decide +kernel
theorem stp_all {acc : List (Addr × Wl)} {q : Addr} {w : Wl} (h : isA w = true) : stp acc (q, w) = [] := by
  cases w with
  | all =>
    unfold stp
    have e : acc.filter (fun g => !tak .all g.2) = [] := List.filter_eq_nil_iff.mpr fun g _ => by
      show ¬ (!true) = true
      decide
    rw [show (fun g : Addr × Wl => !tak (q, Wl.all).2 g.2) = fun g => !tak .all g.2 from rfl, e]
    rfl
  | gift w n x ts => cases h
  | rev n => cases h
section
variable {P : Program} {w : World} {K : PySem.W.Frag} {mg : Str → Option Value} {base : Heap}
def spLst (K : PySem.W.Frag) : Sp := fun vs H Q _ => ∃ (ll : Addr) (ps : List (Addr × Wl)), vs = [.ref ll] ∧ Wls K H ll ps ∧ ps.length ≤ 60 ∧ ∀ l H', Same H H' → H l = none → H' l = some (.lst ((stn ps).map fun p => .ref p.1)) → Q (.ref l) H'
abbrev nLst : List Str := ["will", "found", "line", "one"]
theorem scLst : FnScope nLst ["will"] (defScope sLst) := ⟨rfl, rfl, rfl, by decide +kernel, rfl, by decide +kernel, by decide +kernel⟩
theorem ok_lst {f : Addr} {fd : FuncData} (F : Fun K "_law_standing" "_law_standing" sLst f fd)  : FnOk P w K mg base CX0 1 f fd ["will"] (spLst K) := by
  refine F.ok scLst (fun vs H Q E h => ?_) (fun cdv A outer s H vs Q E hr h => ?_)
  · obtain ⟨ll, ps, rfl, _⟩ := h
    rfl
  · obtain ⟨ll, ps, rfl, hW, hz, go⟩ := h
    have hu : (A.deeper (envOfC "_law_standing" (defScope sLst) s.heap.objs.size f cdv)).units + 64 < cLine := by have := hr.un; omega
    refine ⟨_, (pss_cons (ps_set (i := 1) scLst.nd rfl (.inl rfl) (pe_lst pa_nil))
      (pss_cons (ps_for PassesOwn.never rfl (pi_list (pv 0)) (pg_name (i := 2) scLst.nd rfl (.inr rfl)) (pss_one (ps_if (pt_cmpR (op_eqD hu) (pv 2) (pe_tup (pa_cons pe_str pa_nil)) (nomark _)) (pss_one (ps_set (i := 1) scLst.nd rfl (.inl rfl) (pe_lst pa_nil))) (pss_cons (ps_setLc (i := 1) (own := [("one", 3)]) (g := gName 3) rfl scLst.nd rfl rfl (sw_true rfl rfl rfl (by decide +kernel)) (pi_list (pv 1)) (blkOk_by (N := nLst) (sc := defScope sLst) (by decide +kernel)) (fun _ _ _ _ _ => (pg_name (i := 3) scLst.nd rfl (.inl rfl) (.inr rfl))) (fun _ _ _ _ _ => pts_one (pt_cmpR op_ne (pe_ix (show IxR _ (rIxT K) from ix_tup) (pv 3) pe_int (fun _ _ => rfl)) (pe_ix (show IxR _ (rIxT K) from ix_tup) (pv 2) pe_int (fun _ _ => rfl)) (nomark _))) (fun _ _ _ _ _ => (pv 3)))
      (pss_one (ps_if (pt_cmpR op_ne (pe_ix ix_tup (pv 2) pe_int (fun _ _ => rfl)) pe_str (nomark _)) (pss_one (ps_expr (pe_bm PySem.F.plainAttrs_list PySem.F.slot_list_append PySem.F.type_list_append mt_append (pv 1) (pa_cons (pv 2) pa_nil)))) pss_nil))))))
      (pss_one (ps_ret (pv 1))))), ?_⟩
    refine ⟨Nat.zero_le _, fun G0 nG0 => ?_⟩
    refine ⟨_, rfl, ll, rfl, ⟨_, SqL.of ((same_upd nG0) _ _ hW.el)⟩, for_it (walk_list (xs := ps.map fun p => V.ref p.1)) (fun i σ Hy => ∃ (y2 : Option V) (gA : Addr), σ = [some (.ref ll), some (.ref gA), y2, none] ∧ Same H Hy ∧ H gA = none ∧ Hy gA = some (.lst ((stn (ps.take i)).map fun p => .ref p.1)))
      ⟨none, G0, rfl, same_upd nG0, nG0, upd_same⟩ (fun i σ Hy _ ⟨_, _, _, k, _⟩ => SqL.of (k _ _ hW.el)) ?_ ?_⟩
    · rintro i v σ Hy H' hi ⟨y2, gA, rfl, sy, nG, eG⟩ ⟨rfl, ev⟩
      rw [List.getElem?_map] at ev
      obtain ⟨⟨q, l⟩, hq, rfl⟩ := Option.map_eq_some_iff.mp ev
      have stE : stn (ps.take (i + 1)) = stp (stn (ps.take i)) (q, l) := by
        rw [List.take_add_one, hq]
        exact stn_snoc _ _
      obtain ⟨a1, g1⟩ := hW.at' _ (List.mem_of_getElem? hq)
      have a1 := wl_move (fun q xs => sameT sy) a1
      have lt : (stn (ps.take i)).length ≤ 60 := by
        have := stn_len (ps.take i)
        rw [List.length_take] at this
        omega
      refine ⟨_, rfl, (by show 1 ≤ sizeLine; decide), fun R1 nR1 => ⟨_, _, dp_wl (wl_move (fun q xs => sameT (same_upd nR1)) a1) g1, .tup (SqT.of upd_same) (.cons (.str _) .nil), sha_wl g1, by decide +kernel, _, rfl, ?_⟩⟩
      rw [eqv_all g1]
      have sR := same_upd nR1 (o := .tup [.str "revoke"])
      have sy1 := sy.trans sR
      cases ea : isA l with
      | true =>
        refine iteT ⟨Nat.zero_le _, fun G2 nG2 => ⟨_, G2, rfl, sy1.trans (same_upd nG2), sy1.free nG2, ?_⟩⟩
        rw [stE, stp_all ea]
        exact upd_same
      | false =>
        obtain ⟨ls, z, hls, hl0, hrv, hl1⟩ := ln_seq (wl_move (fun q xs => sameT sR) a1) g1.ok
        have hna : l ≠ .all := fun e => by rw [e] at ea; cases ea
        obtain ⟨hn1, hnum⟩ : ls.length ≠ 1 ∧ ls[1]? = some (.int l.num) := by
          rcases hl1 with ⟨e, _⟩ | ⟨_, x, y⟩
          · exact absurd e hna
          · exact ⟨x, y⟩
        have eG2 := sR _ _ eG
        generalize upd H' R1 (.tup [.str "revoke"]) = H2 at sR sy1 eG2 hls ⊢
        refine iteF ⟨_, rfl, gA, rfl, ⟨_, SqL.of eG2⟩, fun D nD => lc_it (walk_list (xs := (stn (ps.take i)).map fun p => V.ref p.1)) (fun j Hz => Same H2 Hz ∧ Hz D = some (.lst ((((stn (ps.take i)).take j).filter fun g => !tak l g.2).map fun p => .ref p.1))) ⟨same_upd nD, upd_same⟩ (fun j Hz _ h => SqL.of (h.1 _ _ eG2)) ?_ ?_⟩
        · rintro j gv Hz Hz' hj ⟨k1, k2⟩ ⟨rfl, eg⟩
          rw [List.getElem?_map] at eg
          obtain ⟨⟨gq, gl⟩, hg, rfl⟩ := Option.map_eq_some_iff.mp eg
          have gm := stn_mem (List.mem_of_getElem? hg)
          obtain ⟨b1, gg1⟩ := hW.at' _ (List.mem_of_mem_take gm.1)
          obtain ⟨gs, z', hgs, _, _, hg1⟩ := ln_seq (wl_move (fun q xs => sameT (sy1.trans k1)) b1) gg1.ok
          have hgi : gs[1]? = some (.int gl.num) := by
            rcases hg1 with ⟨ea', _⟩ | ⟨_, _, h⟩
            · have := gm.2
              rw [show gl = .all from ea'] at this
              cases this
            · exact h
          have step : ((stn (ps.take i)).take (j + 1)).filter (fun g => !tak l g.2) = ((stn (ps.take i)).take j).filter (fun g => !tak l g.2) ++ if (!tak l gl) = true then [(gq, gl)] else [] := by
            rw [List.take_add_one, hg, List.filter_append]
            congr 1
            show List.filter _ [(gq, gl)] = _
            rw [List.filter_cons, List.filter_nil]
          refine ⟨rfl, _, rfl, gq, gs, 1, _, rfl, rfl, hgs, atI_nat (j := 1) hgi, _, rfl, q, ls, 1, _, rfl, rfl, sameT k1 hls, atI_nat (j := 1) hnum, rfl, _, rfl, ?_⟩
          have en : (!decide (V.int gl.num = V.int l.num)) = !tak l gl := by
            rw [tak_num hna]
            congr 1
            exact decide_eq_decide.mpr ⟨fun e => (V.int.inj e).symm, fun e => congrArg V.int e.symm⟩
          rw [en]
          cases eb : tak l gl with
          | true =>
            rw [eb, show (if (!true) = true then [(gq, gl)] else []) = ([] : List (Addr × Wl)) from if_neg (by decide), List.append_nil] at step
            refine iteF ⟨k1, ?_⟩
            rw [step]
            exact k2
          | false =>
            rw [eb, show (if (!false) = true then [(gq, gl)] else []) = [(gq, gl)] from if_pos rfl] at step
            refine iteT ⟨_, rfl, _, k2, ?_, fun b o hb => ?_, ?_⟩
            · rw [List.length_map]
              have h1 := List.length_filter_le (fun g : Addr × Wl => !tak l g.2) ((stn (ps.take i)).take j)
              rw [List.length_take] at h1
              exact small1000 (by omega)
            · rw [upd_ne (ne_of_none hb nD)]
              exact k1 b o hb
            · rw [upd_same, step, List.map_append]
              rfl
        · rintro H3 ⟨k1, k2⟩
          rw [List.length_map, List.take_length] at k2
          refine ⟨_, rfl, q, ls, 0, .str z, rfl, rfl, sameT k1 hls, atI_nat (j := 0) hl0, rfl, _, rfl, ?_⟩
          rw [hrv]
          have stE2 : stn (ps.take (i + 1)) = (stn (ps.take i)).filter (fun g => !tak l g.2) ++ if isG l then [(q, l)] else [] := stE
          cases eg : isG l with
          | false =>
            rw [eg, show (if false = true then [(q, l)] else []) = ([] : List (Addr × Wl)) from if_neg (by decide), List.append_nil] at stE2
            refine iteF ⟨_, D, rfl, sy1.trans k1, sy1.free nD, ?_⟩
            rw [stE2]
            exact k2
          | true =>
            rw [eg, show (if true = true then [(q, l)] else []) = [(q, l)] from if_pos rfl] at stE2
            refine iteT ⟨_, rfl, .inl ⟨rfl, _, SqL.of k2⟩, _, rfl, D, _, _, rfl, rfl, k2, ?_, _, D, rfl, fun b o hb => ?_, sy1.free nD, ?_⟩
            · rw [List.length_map]
              have h1 := List.length_filter_le (fun g : Addr × Wl => !tak l g.2) (stn (ps.take i))
              exact small1000 (by omega)
            · rw [upd_ne (ne_of_none (sy1 b o hb) nD)]
              exact (sy1.trans k1) b o hb
            · rw [upd_same, stE2, List.map_append]
              rfl
    · rintro σ Hy ⟨y2, gA, rfl, sy, nG, eG⟩
      rw [List.length_map, List.take_length] at eG
      exact ⟨_, rfl, go gA Hy sy nG eG⟩
end
end K2
/-! try with several «except X as n» -/
namespace G
open PySem L2 PyProof.Rows PySem.W
inductive HdsA (X : Cx) : List ExceptHandler → List (Value × Nat × (Addr → Value → Option Addr → TS)) → Prop
  | nil : HdsA X [] []
  | cons {x n : Str} {c : Value} {i : Nat} {ts : Addr → Value → Option Addr → TS} {b₀ : Stmt} {suite : List Stmt} {np pos' : Pos} {hds : List ExceptHandler} {l : List (Value × Nat × (Addr → Value → Option Addr → TS))}
      (hi : X.N[i]? = some n) (hln : X.env.kindOf n = some .local) (hc : Names X x c)
      (hsu : ∀ (a : Addr) (oe : Obj) (cls : Value) (d : Option Addr) (pn : List (Addr × Obj)), Zc cls d oe → (∃ vs, oe.data = Data.fields vs) → PSs (X.suite a ((a, oe) :: pn)) (b₀ :: suite) (ts a cls d))
      (r : HdsA X hds l) : HdsA X (.ExceptHandler (some (.Name x np)) (some n) (b₀ :: suite) pos' :: hds) ((c, i, ts) :: l)
def wManyA (K : PySem.W.Frag) (Wout : WX) (D : Ends) : List (Value × Nat × (Addr → Value → Option Addr → TS)) → WX
  | [] => Wout
  | (c, i, ts) :: r => wAs K c i ts (wManyA K Wout D r) D
theorem ps_try_manyA {X : Cx} {body : List Stmt} {h₀ : ExceptHandler} {hds : List ExceptHandler} {l : List (Value × Nat × (Addr → Value → Option Addr → TS))} {pos : Pos} {tb : WX → TS} {Wout : WX}
    (hs : X.stack = X.env :: X.outer) (hf : X.env.frame = some X.env.locals) (hN : X.N.Nodup) (tk : Takes X Wout)
    (hb : ∀ (W : WX) (pn : List (Addr × Obj)) (xe : Value → Shared → Prop), Takes (X.tr pn xe) W → PassesOwn (model X.prog X.w) X.A X.env xe → PSs (X.tr pn xe) body (tb W)) (hh : HdsA X (h₀ :: hds) l) :
    PS X (Stmt.Try body (h₀ :: hds) [] [] pos) fun D σ H => tb (wManyA X.K Wout D l) D σ H := by
  refine ⟨fun pins s σ H D I h => ?_⟩
  have ok := I.ok
  have hfr : X.A.frames = some (X.env :: X.outer) := by rw [ok.frames, hs]
  refine wpAny_Try_except (wpAny_mono ((hb (wManyA X.K Wout D l) (X.pn ++ pins) (fun e s₁ => wpAny (model X.prog X.w) X.A (noteFrame e X.env) (fun _ s₂ => wpAny (model X.prog X.w) X.A (setFlight e none) (fun _ s₃ => wpAny (model X.prog X.w) X.A (handleBy e X.env (h₀ :: hds)) (SP X pins D) X.xe s₃) X.xe s₂) X.xe s₁) ?_ PassesOwn.looking).run [] s σ H D (Inv.toTry I fun e s₁ => wpAny (model X.prog X.w) X.A (noteFrame e X.env) (fun _ s₂ => wpAny (model X.prog X.w) X.A (setFlight e none) (fun _ s₃ => wpAny (model X.prog X.w) X.A (handleBy e X.env (h₀ :: hds)) (SP X pins D) X.xe s₃) X.xe s₂) X.xe s₁) h) (fun f s1 hsp => ?_) fun e s1 he => he)
  · intro u s' xx
    obtain ⟨a, B, sI, pins', σ', H', cls, d, rfl, J', nb, up, sky, na, os, ag, w⟩ := xx
    have J := Inv.ofTry J' ok
    have sky' : Sky B (X.env :: X.outer) a (Zc cls d) X.env.locals s'.heap := by
      rw [← hs]
      exact sky
    refine Sky.land Zc.steady hfr hf sky' fun h3 fl3 up3 => ?_
    have J3 : L2.Inv X pins σ' H' { heap := h3, gens := s'.gens, drawn := s'.drawn, toks := s'.toks, os := s'.os } := Inv.landed J nb fl3.1 (Heap.UpToSlots.trans up up3) os ag
    obtain ⟨oe3, vs3, he3, hz3, hd3⟩ := HandSPX.FlyingZ.there fl3
    have nfr : ¬ a ∈ frs (X.env :: X.outer) := fun hm => by
      obtain ⟨_, o', e', hnf⟩ := Heap.FunFrames.mem fl3.2.2.1 hm
      rw [he3] at e'
      rw [← Option.some.inj e'] at hnf
      exact hnf vs3 hd3
    have nL : a ≠ X.env.locals := fun z => nfr (List.mem_filterMap.mpr ⟨X.env, List.mem_cons_self, by rw [hf, z]⟩)
    have nF : ¬ a ∈ X.fs := fun hm => by
      obtain ⟨e, he, q⟩ := List.mem_filterMap.mp hm
      exact nfr (List.mem_filterMap.mpr ⟨e, List.mem_cons_of_mem X.env he, q⟩)
    have S3 := Inv.suite J3 he3 hd3 na nL nF
    have go : ∀ {hds' : List ExceptHandler} {l' : List (Value × Nat × (Addr → Value → Option Addr → TS))}, HdsA X hds' l' → wManyA X.K Wout D l' cls d σ' H' → wpAny (model X.prog X.w) X.A (handleBy (Value.ref a) X.env hds') (SP X pins D) X.xe { heap := h3, gens := s'.gens, drawn := s'.drawn, toks := s'.toks, os := s'.os } := by
      intro hds' l' hk
      induction hk with
      | nil =>
        intro w
        refine wpAny_handleBy_nil ?_
        obtain ⟨k1, k2, k3, oe, vs, T, oT, ts', he, hz, hd, h1, hr⟩ := id fl3
        refine wpAny_bind (wpAny_field he hd h1 ?_)
        rw [if_neg (by simp)]
        refine wpAny_bind ?_
        rw [hf]
        refine HandSPX.setFlight_upZ fl3 fun h4 hh4 up4 => ?_
        refine wpAny_throw (tk (Value.ref a) { heap := h4, gens := s'.gens, drawn := s'.drawn, toks := s'.toks, os := s'.os } ⟨a, B, sI, pins, σ', H', cls, d, rfl, J, nb, Heap.UpToSlots.trans (Heap.UpToSlots.trans up up3) up4, .inr (.inr ?_), na, os, ag, w⟩)
        rw [hs]
        exact hh4
      | cons hi hln hc hsu r ih =>
        rename_i x n c i ts b₀ suite np pos' hds2 l2
        rintro ⟨b, hb1, hyes, hno⟩
        refine wpAny_handleBy_cons (codeAny_handlers_test ?_) fun q => by cases q
        have LM : W.Looks (model X.prog X.w) h3 (excMatches (Value.ref a) c) b := W.exm_one (Inv.kIn J3) (fun A Q E s k q => wpAny_typeOf_ref (k a oe3 he3) (by rw [hz3.1]; exact q)) hb1
        have test {Q : Value → Shared → Prop} {E : Value → Shared → Prop} (q : Q c { heap := h3, gens := s'.gens, drawn := s'.drawn, toks := s'.toks, os := s'.os }) : wpAny (model X.prog X.w) (X.A.mark (some (Value.ref a))) (eval (Expr.Name x np) X.env) Q E { heap := h3, gens := s'.gens, drawn := s'.drawn, toks := s'.toks, os := s'.os } := by
          obtain ⟨hg, hdbg, hm | ⟨hm, hv, hnn⟩⟩ := hc
          · exact ld_glob S3 hg hm q hdbg
          · exact ld_blt S3 hg hm hv q hnn hdbg
        refine test (W.Looks.here LM ?_)
        cases b with
        | false => exact ih (hno rfl)
        | true =>
          refine codeAny_handlers_suite_as (HandSPX.lands_againZ fl3 fun h4 fl4 up4 => ?_)
          have J4 : L2.Inv X pins σ' H' { heap := h4, gens := s'.gens, drawn := s'.drawn, toks := s'.toks, os := s'.os } := Inv.landed J nb fl4.1 (Heap.UpToSlots.trans (Heap.UpToSlots.trans up up3) up4) os ag
          obtain ⟨oe4, vs4, he4, hz4, hd4⟩ := HandSPX.FlyingZ.there fl4
          have S4 := Inv.suite J4 he4 hd4 na nL nF
          refine store_ok (X := X.suite a ((a, oe4) :: (X.pn ++ pins))) S4 hN hi (.inl hln) (v := .ref a) rfl (fun s5 S5 => ?_) (.inr hln)
          refine wpAny_mono ((hsu a oe4 cls d (X.pn ++ pins) hz4 ⟨vs4, hd4⟩).run [] s5 (List.set σ' i (some (V.ref a))) H' _ S5 (hyes rfl a na)) (fun f s6 hsp => ?_) fun _ _ z => z.elim
          have end_ {σ6 : L2.St} {H6 : Hp} {Q : Unit → Shared → Prop} (S6 : L2.Inv (X.suite a ((a, oe4) :: (X.pn ++ pins))) [] σ6 H6 s6) (hq : ∀ s', L2.Inv X pins (σ6.set i none) H6 s' → Q () s') : wpAny (model X.prog X.w) X.A (do bindName X.env n Value.none; unbindBehindTheSuite X.env n pos') Q X.xe s6 := gone_ok (Inv.unsuite S6 ok) hN hi hln hq
          cases f with
          | next =>
            obtain ⟨σ6, H6, S6, q6⟩ := hsp
            exact end_ S6 fun s7 J7 => ⟨σ6.set i none, H6, J7, q6⟩
          | brk =>
            obtain ⟨σ6, H6, S6, q6⟩ := hsp
            exact end_ S6 fun s7 J7 => ⟨σ6.set i none, H6, J7, q6⟩
          | cont =>
            obtain ⟨σ6, H6, S6, q6⟩ := hsp
            exact end_ S6 fun s7 J7 => ⟨σ6.set i none, H6, J7, q6⟩
          | ret u =>
            obtain ⟨v6, σ6, H6, S6, r6, q6⟩ := hsp
            exact end_ S6 fun s7 J7 => ⟨v6, σ6.set i none, H6, J7, r6, q6⟩
    exact go hh w
  · cases f with
    | next =>
      obtain ⟨σ', H', J', q⟩ := hsp
      exact wpAny_execs_nil ⟨σ', H', Inv.ofTry J' ok, q⟩
    | brk =>
      obtain ⟨σ', H', J', q⟩ := hsp
      exact ⟨σ', H', Inv.ofTry J' ok, q⟩
    | cont =>
      obtain ⟨σ', H', J', q⟩ := hsp
      exact ⟨σ', H', Inv.ofTry J' ok, q⟩
    | ret u =>
      obtain ⟨v, σ', H', J', r, q⟩ := hsp
      exact ⟨v, σ', H', Inv.ofTry J' ok, r, q⟩
/-! C(e), its __init__ may raise, within a try -/
def tMakeS (C : Addr) (sp : Sp) (dvs : List V) (E : L2.St → XK) (t : TA) : TE := fun σ H Q => t σ H fun vs H1 => ∀ x dx, H1 x = none → H1 dx = none → dx ≠ x → sp (.ref x :: (vs ++ dvs)) (upd (upd H1 dx (.own x)) x (.ins C dx [])) (fun v H2 => v = .non ∧ Q (.ref x) H2) (E σ)
section
variable {X : Cx} {CX : CXT} {k : Nat} {f C : Addr} {fd : FuncData} {ps : List Str} {sp : Sp} {dvs : List V} {ds : List Value}
theorem run_makeS {E : XK} {pins : List (Addr × Obj)} {σ : L2.St} {H : Hp} {s : Shared} {Q : VK} {us : List Value} {vs : List V} (M : Mk X.K C f) (F : FnOk X.prog X.w X.K X.mg X.base CX k f fd ps sp) (hr : Room (k + 1) X.A) (hb : L2.Binds X.K fd ps ds) (hd : Vals dvs ds) (hx : PassesAt CX X σ E)
    (I : L2.Inv X pins σ H s) (r : Vals vs us) (h : ∀ x dx, H x = none → H dx = none → dx ≠ x → sp (.ref x :: (vs ++ dvs)) (upd (upd H dx (.own x)) x (.ins C dx [])) (fun v H2 => v = .non ∧ Q (.ref x) H2) E) :
    wpAny (model X.prog X.w) X.A (call (Value.ref C) us) (EP X pins σ Q) X.xe s := by
  have hq := h (s.heap.objs.size + 1) s.heap.objs.size (HOk.fresh I.hok (Nat.le_succ s.heap.objs.size)) (HOk.fresh I.hok (Nat.le_refl s.heap.objs.size)) (Nat.ne_of_lt (Nat.lt_succ_self s.heap.objs.size))
  have I2 := Inv.made (C := C) I
  have r2 : Vals (V.ref (s.heap.objs.size + 1) :: (vs ++ dvs)) (Value.ref (s.heap.objs.size + 1) :: (us ++ ds)) := Paired.cons rfl (Vals.append r hd)
  have hl : (Value.ref (s.heap.objs.size + 1) :: (us ++ ds)).length = ps.length := by
    rw [← Vals.length r2]
    exact F.len _ _ _ _ hq
  refine wpAny_call (make_map (Inv.kIn I) M.makes M.init (beq_iff_eq.mp M.fn) (codeAny_mono (F.run (X.A.under (Code.builtin "type.__call__" { pos := Value.ref C :: us })) X.stack { heap := (s.heap.push W.emptyDict).push (W.instObj C s.heap.objs.size), gens := s.gens, drawn := s.drawn, toks := s.toks, os := s.os } _
    { pos := Value.ref (s.heap.objs.size + 1) :: us } (Value.ref (s.heap.objs.size + 1) :: (us ++ ds)) _ _ E (Room.make hr C us []) (Env0.make (Inv.env0 I2) C us []) (hb _ (Value.ref (s.heap.objs.size + 1) :: us) (Inv.kIn I2) hl) r2 hq) fun r s' hq' => ?_))
  cases r with
  | error e => exact hx pins _ _ e s' I2 hq'
  | ok fl =>
    cases fl with
    | next => exact hq'.elim
    | brk => exact hq'.elim
    | cont => exact hq'.elim
    | ret u =>
      obtain ⟨v, H', I3, rv, ev, q3⟩ := Inv.after I2 hq'
      subst ev
      exact ⟨rv, V.ref (s.heap.objs.size + 1), H', I3, rfl, q3⟩
theorem pe_makeS {E : L2.St → XK} {x : Str} {p pos : Pos} {e : Expr} {es : List Expr} {t : TA} (M : Mk X.K C f) (F : FnOk X.prog X.w X.K X.mg X.base CX k f fd ps sp) (hr : Room (k + 1) X.A) (hg : Gl X x) (hm : X.mg x = some (Value.ref C)) (hb : L2.Binds X.K fd ps ds) (hd : Vals dvs ds)
    (hx : ∀ σ, PassesAt CX X σ (E σ)) (ha : PA X (e :: es) t) (hdb : (x == Str.ofString "__debug__") = false := by decide) (he : starEach (e :: es) X.env = (false, eval e X.env) :: starEach es X.env := by rfl) (hpl : ((backTo pos (starEach es X.env)).any fun x => x.fst) = false := by rfl) :
    PE X ((Expr.Name x p).Call (e :: es) [] pos) (tMakeS C sp dvs E t) :=
  ⟨fun pins s σ H Q I h => wpAny_Call_Name_kw (ld_glob I hg hm (W.callWith_K I.ok.mod.kin M.kp (thn (ha.run pos pins s σ H (fun vs H1 => ∀ x dx, H1 x = none → H1 dx = none → dx ≠ x → sp (.ref x :: (vs ++ dvs)) (upd (upd H1 dx (.own x)) x (.ins C dx [])) (fun v H2 => v = .non ∧ Q (.ref x) H2) (E σ)) I h) fun us s1 hh => by
    obtain ⟨vs, H1, I1, r, q⟩ := hh
    exact ⟨Inv.kIn I1, run_makeS M F hr hb hd (hx σ) I1 r q⟩) he hpl) hdb)⟩
end
end G
/-! C(e, k = v), its __init__ may raise, within a try -/
namespace G
open PySem L2 PyProof.Rows PySem.W
def tMakeKS (C : Addr) (n m : Nat) (sp : Sp) (gV : List V → List V → List V) (E : L2.St → XK) (t tk : TA) : TE := fun σ H Q => t σ H fun vs H1 => tk σ H1 fun zs H2 => vs.length = n ∧ zs.length = m ∧ ∀ x dx, H2 x = none → H2 dx = none → dx ≠ x → sp (gV (.ref x :: vs) zs) (upd (upd H2 dx (.own x)) x (.ins C dx [])) (fun v H3 => v = .non ∧ Q (.ref x) H3) (E σ)
section
variable {X : Cx} {CX : CXT} {k n : Nat} {f C : Addr} {fd : FuncData} {ps ks : List Str} {sp : Sp} {g : List Value → List Value → List Value} {gV : List V → List V → List V}
theorem run_makeKS {E : XK} {pins : List (Addr × Obj)} {σ : L2.St} {H : Hp} {s : Shared} {Q : VK} {us ws : List Value} {vs zs : List V} (M : Mk X.K C f) (F : FnOk X.prog X.w X.K X.mg X.base CX k f fd ps sp) (hr : Room (k + 1) X.A) (hb : KBn X.K fd ps (n + 1) ks g gV) (hx : PassesAt CX X σ E)
    (I : L2.Inv X pins σ H s) (r : Vals vs us) (rz : Vals zs ws) (l1 : vs.length = n) (l2 : zs.length = ks.length) (h : ∀ x dx, H x = none → H dx = none → dx ≠ x → sp (gV (.ref x :: vs) zs) (upd (upd H dx (.own x)) x (.ins C dx [])) (fun v H2 => v = .non ∧ Q (.ref x) H2) E) :
    wpAny (model X.prog X.w) X.A (call (Value.ref C) us (ks.zip ws)) (EP X pins σ Q) X.xe s := by
  have made := h (s.heap.objs.size + 1) s.heap.objs.size (HOk.fresh I.hok (Nat.le_succ s.heap.objs.size)) (HOk.fresh I.hok (Nat.le_refl s.heap.objs.size)) (Nat.ne_of_lt (Nat.lt_succ_self s.heap.objs.size))
  have J := Inv.made (C := C) I
  have rr := hb.rel (Paired.cons (show RelV (V.ref (s.heap.objs.size + 1)) (Value.ref (s.heap.objs.size + 1)) from rfl) r) rz
  have len1 : (Value.ref (s.heap.objs.size + 1) :: us).length = n + 1 := by rw [List.length_cons, ← Vals.length r, l1]
  refine wpAny_call (make_map (f := f) (Inv.kIn I) M.makes M.init (beq_iff_eq.mp M.fn) (codeAny_mono (F.run (X.A.under (Code.builtin "type.__call__" { pos := Value.ref C :: us, kw := ks.zip ws })) X.stack { heap := (s.heap.push W.emptyDict).push (W.instObj C s.heap.objs.size), gens := s.gens, drawn := s.drawn, toks := s.toks, os := s.os } _
    { pos := Value.ref (s.heap.objs.size + 1) :: us, kw := ks.zip ws } (g (Value.ref (s.heap.objs.size + 1) :: us) ws) _ _ E (Room.make hr C us (ks.zip ws)) (Env0.make (Inv.env0 J) C us (ks.zip ws)) (hb.to _ (Value.ref (s.heap.objs.size + 1) :: us) ws (Inv.kIn J) len1 ((Vals.length rz).symm.trans l2)) rr made) fun res s' ho => ?_))
  cases res with
  | error e => exact hx pins _ _ e s' J ho
  | ok fl =>
    cases fl with
    | next => exact ho.elim
    | brk => exact ho.elim
    | cont => exact ho.elim
    | ret u =>
      obtain ⟨v, H', J3, rv, ev, q3⟩ := Inv.after J ho
      subst ev
      exact ⟨rv, V.ref (s.heap.objs.size + 1), H', J3, rfl, q3⟩
theorem pe_makeKS0 {E : L2.St → XK} {x : Str} {p pos : Pos} {kws : List Keyword} {tk : TA} (M : Mk X.K C f) (F : FnOk X.prog X.w X.K X.mg X.base CX k f fd ps sp) (hr : Room (k + 1) X.A) (hg : Gl X x) (hm : X.mg x = some (Value.ref C)) (hb : KBn X.K fd ps 1 ks g gV)
    (hx : ∀ σ, PassesAt CX X σ (E σ)) (hkw : PK X kws tk) (hall : (backToKw pos (keywordEach kws X.env)).all (·.1.isSome) = true := by rfl) (hks : (backToKw pos (keywordEach kws X.env)).filterMap (·.1) = ks := by rfl) (hdb : (x == Str.ofString "__debug__") = false := by decide)
    (hpl : ((backTo pos (starEach [] X.env)).any (·.1) || (backToKw pos (keywordEach kws X.env)).any (·.1.isNone)) = false := by rfl) : PE X ((Expr.Name x p).Call [] kws pos) (tMakeKS C 0 ks.length sp gV E tNil tk) :=
  ⟨fun pins s σ H Q I h => wpAny_Call_Name_kw (ld_glob I hg hm (W.callWith_KW0 (h₀ := X.base) I.ok.mod.kin M.kp hall (thn (hkw.run pos pins s σ H _ I h) fun ws s2 hh => by
    obtain ⟨zs, H2, J, rz, l1, l2, q2⟩ := hh
    refine ⟨Inv.kIn J, ?_⟩
    rw [hks]
    exact run_makeKS (us := []) (vs := []) M F hr hb (hx σ) J .nil rz rfl l2 q2) hpl) hdb)⟩
theorem pe_makeKS {E : L2.St → XK} {x : Str} {p pos : Pos} {e : Expr} {es : List Expr} {kws : List Keyword} {t tk : TA} (M : Mk X.K C f) (F : FnOk X.prog X.w X.K X.mg X.base CX k f fd ps sp) (hr : Room (k + 1) X.A) (hg : Gl X x) (hm : X.mg x = some (Value.ref C)) (hb : KBn X.K fd ps (n + 1) ks g gV)
    (hx : ∀ σ, PassesAt CX X σ (E σ)) (ha : PA X (e :: es) t) (hkw : PK X kws tk) (hall : (backToKw pos (keywordEach kws X.env)).all (·.1.isSome) = true := by rfl) (hks : (backToKw pos (keywordEach kws X.env)).filterMap (·.1) = ks := by rfl) (hdb : (x == Str.ofString "__debug__") = false := by decide)
    (he : starEach (e :: es) X.env = (false, eval e X.env) :: starEach es X.env := by rfl) (hpl : ((backTo pos (starEach (e :: es) X.env)).any (·.1) || (backToKw pos (keywordEach kws X.env)).any (·.1.isNone)) = false := by rfl) :
    PE X ((Expr.Name x p).Call (e :: es) kws pos) (tMakeKS C n ks.length sp gV E t tk) :=
  ⟨fun pins s σ H Q I h => wpAny_Call_Name_kw (ld_glob I hg hm (W.callWith_KW (h₀ := X.base) I.ok.mod.kin M.kp hall (thn (ha.run pos pins s σ H _ I h) fun us s1 hh => by
    obtain ⟨vs, H1, I1, r, q⟩ := hh
    refine thn (hkw.run pos pins s1 σ H1 _ I1 q) fun ws s2 hh2 => ?_
    obtain ⟨zs, H2, J, rz, l1, l2, q2⟩ := hh2
    refine ⟨Inv.kIn J, ?_⟩
    rw [hks]
    exact run_makeKS M F hr hb (hx σ) J r rz l1 l2 q2) hpl he) hdb)⟩
end
end G
namespace K2
open PySem L2 PyProof.Rows PySem.Spec G
/-- an own error that a law catches -/
structure Cat (K : PySem.W.Frag) (mg : Str → Option Value) (x nm : Str) (C : Addr) : Prop where
  g : mg x = some (.ref C)
  f : XfC K C
  n : PySem.W.findIn K (.ref C) nm = some none
  e : PySem.W.exmOne K (.ref C) (.ref C) = some true
inductive WatIs (xs : List V) (os : List (Option Wl)) : Int → Prop
  | long (h : 60 < xs.length) : WatIs xs os 60
  | bad (i : Nat) (ps : List (Addr × Wl)) (h : xs.length ≤ 60) (e : os[i]? = some none) (l : ps.length = i) (g : Goods ps xs os) : WatIs xs os i
  | ok (ps : List (Addr × Wl)) (h : xs.length ≤ 60) (l : ps.length = xs.length) (g : Goods ps xs os) : WatIs xs os (-1)
def rulW (days mode rows : V) (o : Option (List (Option (List V)))) : Str := (rulOut days mode rows o).getD ""
def estW (c : V) (os : List (Option (Str × Int))) (ds : List (Option (Str × Int × Int))) : Str := match estOut c os ds with
  | .inl w => w
  | .inr _ => ""
section
variable {P : Program} {w : World} {K : PySem.W.Frag} {mg : Str → Option Value} {base : Heap}
def spWat (K : PySem.W.Frag) : Sp := fun vs H Q _ => ∃ (a : Addr) (xs : List V) (os : List (Option Wl)) (r : Int), vs = [.ref a] ∧ SqL K H a xs ∧ xs.length ≤ 900 ∧ os.length = xs.length ∧ (∀ (i : Nat) (x : V) (o : Option Wl), xs[i]? = some x → os[i]? = some o → WlIt K H x o) ∧ WatIs xs os r ∧ ∀ H', Same H H' → Q (.int r) H'
def spRuw (K : PySem.W.Frag) : Sp := fun vs H Q _ => ∃ (days mode sv rows : V) (o : Option (List (Option (List V)))), vs = [days, mode, sv, rows] ∧ flatV days = true ∧ OkV mode ∧ flatV rows = true ∧ LsIt K partV H sv o ∧ ∀ H', Same H H' → Q (.str (rulW days mode rows o)) H'
def spEsw (K : PySem.W.Frag) : Sp := fun vs H Q _ => ∃ (a b : Addr) (c : V) (xs ys : List V) (os : List (Option (Str × Int))) (ds : List (Option (Str × Int × Int))), vs = [c, .ref a, .ref b] ∧ flatV c = true ∧ SqT K H a xs ∧ SqT K H b ys ∧ os.length = xs.length ∧ ds.length = ys.length ∧ xs.length ≤ 900 ∧ ys.length ≤ 900 ∧
  (∀ (i : Nat) (x : V) (o : Option (Str × Int)), xs[i]? = some x → os[i]? = some o → ItB K thingV H x (o.map tc)) ∧ (∀ (i : Nat) (x : V) (o : Option (Str × Int × Int)), ys[i]? = some x → ds[i]? = some o → ItB K debtV H x (o.map dc)) ∧ ∀ H', Same H H' → Q (.str (estW c os ds)) H'
theorem made {H : Hp} {p dx C : Addr} (np : H p = none) (nd : H dx = none) (ne : dx ≠ p) : Same H (upd (upd H dx (.own p)) p (.ins C dx [])) := (same_upd nd).trans (same_upd (by rw [upd_ne (Ne.symm ne)]; exact np))
theorem madeK {H H' : Hp} {p dx C : Addr} (np : H p = none) (nd : H dx = none) (ne : dx ≠ p) (k : Kp p (upd (upd H dx (.own p)) p (.ins C dx [])) H') : Same H H' := fun b o hb => k b o (made np nd ne b o hb) (ne_of_none hb np)
abbrev nWat : List Str := ["will", "e"]
theorem scWat : FnScope nWat ["will"] (defScope sWat) := ⟨rfl, rfl, rfl, by decide +kernel, rfl, by decide +kernel, by decide +kernel⟩
theorem ok_wat {f : Addr} {fd : FuncData} (F : Fun K "_law_will_at" "_law_will_at" sWat f fd) {CW fS : Addr} {fdS : FuncData} (X : Cat K mg "BadWill" "at" CW) (mS : mg "standing" = some (.ref fS)) (kS : PySem.W.keepIn K (.ref fS) = true) (bS : Binds K fdS ["will"] []) (GS : FnOk P w K mg base (L2.CX P w) 4 fS fdS ["will"] (spSta K CW)) : FnOk P w K mg base CX0 6 f fd ["will"] (spWat K) := by
  refine F.ok scWat (fun vs H Q E h => ?_) (fun cdv A outer s H vs Q E hr h => ?_)
  · obtain ⟨a, xs, os, r, rfl, _⟩ := h
    rfl
  · obtain ⟨a, xs, os, r, rfl, ha, hz, ho, hI, hW, go⟩ := h
    refine ⟨_, pss_cons (ps_try_manyA (tb := fun W => _) (Wout := fun _ _ _ _ => False) rfl rfl scWat.nd takes0 (fun W pn xe tk _ => pss_one (ps_expr (pe_callS GS (hr.mono (by decide)) (by rfl) mS kS bS (fun σ => passAt tk σ) (pa_cons (pv 0) pa_nil)))) (HdsA.cons (i := 1) rfl rfl ⟨rfl, by decide, .inl X.g⟩ (fun a oe cls d pn hz hf => pss_one (ps_ret (pe_xf X.f X.n hz hf (pv 1)))) HdsA.nil)) (pss_one (ps_ret (pe_un un_neg pe_int))), ?_⟩
    refine ⟨_, rfl, a, xs, os, rfl, ha, hz, ho, hI, fun c d H' s nd e => ?_, fun i ps c e l g d H' s nd e2 => ?_, fun ps c l g lq H' s nl e => ?_⟩
    · have hr60 : r = 60 := by
        cases hW with
        | long h => rfl
        | bad i ps h _ _ _ => omega
        | ok ps h _ _ => omega
      rw [hr60] at go
      exact ⟨true, X.e, fun _ a1 n1 => ⟨_, rfl, rfl, rfl, d, _, _, rfl, e, rfl, go H' s⟩, fun z => by cases z⟩
    · have hri : r = (i : Int) := by
        cases hW with
        | long h => omega
        | bad j qs h e' l' g' =>
          rcases Nat.lt_trichotomy i j with lt | eq | gt
          · obtain ⟨p, hp⟩ : ∃ p, qs[i]? = some p := ⟨_, List.getElem?_eq_getElem (by omega)⟩
            have := (g' i p hp).2
            rw [e] at this
            cases this
          · rw [eq]
          · obtain ⟨p, hp⟩ : ∃ p, ps[j]? = some p := ⟨_, List.getElem?_eq_getElem (by omega)⟩
            have := (g j p hp).2
            rw [e'] at this
            cases this
        | ok qs h l' g' =>
          have li : i < qs.length := by
            have := (List.getElem?_eq_some_iff.mp e).1
            omega
          obtain ⟨p, hp⟩ : ∃ p, qs[i]? = some p := ⟨_, List.getElem?_eq_getElem li⟩
          have := (g' i p hp).2
          rw [e] at this
          cases this
      rw [hri] at go
      exact ⟨true, X.e, fun _ a1 n1 => ⟨_, rfl, rfl, rfl, d, _, _, rfl, e2, rfl, go H' s⟩, fun z => by cases z⟩
    · have hm : r = -1 := by
        cases hW with
        | long h => omega
        | bad j qs h e' l' g' =>
          have li : j < ps.length := by
            have := (List.getElem?_eq_some_iff.mp e').1
            omega
          obtain ⟨p, hp⟩ : ∃ p, ps[j]? = some p := ⟨_, List.getElem?_eq_getElem li⟩
          have := (g j p hp).2
          rw [e'] at this
          cases this
        | ok qs h l' g' => rfl
      rw [hm] at go
      exact ⟨_, rfl, go H' s⟩
abbrev nRuw : List Str := ["days", "mode", "spouse", "rows", "e"]
theorem scRuw : FnScope nRuw ["days", "mode", "spouse", "rows"] (defScope sRuw) := ⟨rfl, rfl, rfl, by decide +kernel, rfl, by decide +kernel, by decide +kernel⟩
theorem ok_ruw {f : Addr} {fd : FuncData} (F : Fun K "_law_rules_word" "_law_rules_word" sRuw f fd) {C CR fI : Addr} {fdI : FuncData} {g : List Value → List Value → List Value} (X : Cat K mg "BadRules" "why" CR) (mC : mg "Rules" = some (.ref C)) (M : Mk K C fI) (bI : KBn K fdI ["self", "days", "mode", "spouse", "rows", "steps_in"] 1 ["days", "mode", "spouse", "rows"] g (fun vs zs => vs ++ (zs ++ [.bl true]))) (GI : FnOk P w K mg base (L2.CX P w) 5 fI fdI ["self", "days", "mode", "spouse", "rows", "steps_in"] (spBokI K C CR)) : FnOk P w K mg base CX0 7 f fd ["days", "mode", "spouse", "rows"] (spRuw K) := by
  refine F.ok scRuw (fun vs H Q E h => ?_) (fun cdv A outer s H vs Q E hr h => ?_)
  · obtain ⟨days, mode, sv, rows, o, rfl, _⟩ := h
    rfl
  · obtain ⟨days, mode, sv, rows, o, rfl, hd, hm, hw, hl, go⟩ := h
    refine ⟨_, pss_cons (ps_try_manyA (tb := fun W => _) (Wout := fun _ _ _ _ => False) rfl rfl scRuw.nd takes0 (fun W pn xe tk _ => pss_one (ps_expr (pe_makeKS0 M GI (hr.mono (by decide)) (by rfl) mC bI (fun σ => passAt tk σ) (pk_cons (pv 0) (pk_cons (pv 1) (pk_cons (pv 2) (pk_cons (pv 3) pk_nil))))))) (HdsA.cons (i := 4) rfl rfl ⟨rfl, by decide, .inl X.g⟩ (fun a oe cls d pn hz hf => pss_one (ps_ret (pe_xf X.f X.n hz hf (pv 4)))) HdsA.nil)) (pss_one (ps_ret pe_str)), ?_⟩
    refine ⟨_, rfl, _, rfl, _, rfl, _, rfl, rfl, rfl, fun p dx np nd ne => ⟨p, dx, days, mode, sv, rows, .bl true, o, rfl, hd, hm, hw, hl.same (made np nd ne), upd_same, fun why e d H' s nd' e2 => ?_, fun i z r e1 e2 e3 e4 H' k hp => ⟨rfl, ?_⟩⟩⟩
    · have er : rulW days mode rows o = why := by
        unfold rulW
        rw [e]
        rfl
      rw [er] at go
      exact ⟨true, X.e, fun _ a1 n1 => ⟨_, rfl, rfl, rfl, d, _, _, rfl, e2, rfl, go H' ((made np nd ne).trans s)⟩, fun z => by cases z⟩
    · have er : rulW days mode rows o = "" := by
        unfold rulW
        rw [e4]
        rfl
      rw [er] at go
      exact go H' (madeK np nd ne k)
abbrev nEsw : List Str := ["coins", "things", "debts", "e"]
theorem scEsw : FnScope nEsw ["coins", "things", "debts"] (defScope sEsw) := ⟨rfl, rfl, rfl, by decide +kernel, rfl, by decide +kernel, by decide +kernel⟩
theorem ok_esw {f : Addr} {fd : FuncData} (F : Fun K "_law_estate_word" "_law_estate_word" sEsw f fd) {C CE fI : Addr} {fdI : FuncData} {g : List Value → List Value → List Value} (X : Cat K mg "BadEstate" "why" CE) (mC : mg "Estate" = some (.ref C)) (M : Mk K C fI) (bI : KBn K fdI ["self", "coins", "things", "debts"] 2 ["things", "debts"] g (fun vs zs => vs ++ zs)) (GI : FnOk P w K mg base (L2.CX P w) 4 fI fdI ["self", "coins", "things", "debts"] (spEstI K C CE)) : FnOk P w K mg base CX0 7 f fd ["coins", "things", "debts"] (spEsw K) := by
  refine F.ok scEsw (fun vs H Q E h => ?_) (fun cdv A outer s H vs Q E hr h => ?_)
  · obtain ⟨a, b, c, xs, ys, os, ds, rfl, _⟩ := h
    rfl
  · obtain ⟨a, b, c, xs, ys, os, ds, rfl, hc, ha, hb, ho, hd, zx, zy, hx, hy, go⟩ := h
    refine ⟨_, pss_cons (ps_try_manyA (tb := fun W => _) (Wout := fun _ _ _ _ => False) rfl rfl scEsw.nd takes0 (fun W pn xe tk _ => pss_one (ps_expr (pe_makeKS M GI (hr.mono (by decide)) (by rfl) mC bI (fun σ => passAt tk σ) (pa_cons (pv 0) pa_nil) (pk_cons (pv 1) (pk_cons (pv 2) pk_nil))))) (HdsA.cons (i := 3) rfl rfl ⟨rfl, by decide, .inl X.g⟩ (fun a oe cls d pn hz hf => pss_one (ps_ret (pe_xf X.f X.n hz hf (pv 3)))) HdsA.nil)) (pss_one (ps_ret pe_str)), ?_⟩
    refine ⟨_, rfl, _, rfl, _, rfl, rfl, rfl, fun p dx np nd ne => ⟨p, a, b, dx, c, xs, ys, os, ds, rfl, hc, upd_same, sameT (made np nd ne) ha, sameT (made np nd ne) hb, ho, hd, zx, zy, fun i x o h1 h2 => (hx i x o h1 h2).same (made np nd ne), fun i x o h1 h2 => (hy i x o h1 h2).same (made np nd ne), fun why e d H' k nd' e2 => ?_, fun i ws e1 e2 H' k hE => ⟨rfl, ?_⟩⟩⟩
    · have er : estW c os ds = why := by
        unfold estW
        rw [e]
      rw [er] at go
      exact ⟨true, X.e, fun _ a1 n1 => ⟨_, rfl, rfl, rfl, d, _, _, rfl, e2, rfl, go H' (madeK np nd ne k)⟩, fun z => by cases z⟩
    · have er : estW c os ds = "" := by
        unfold estW
        rw [e2]
      rw [er] at go
      exact go H' (madeK np nd ne k)
end
end K2
namespace K2
open PySem L2 PyProof.Rows PySem.Spec G
def okvB : V → Bool
  | .non => true
  | .bl _ => true
  | .int _ => true
  | .str x => decide (x.length ≤ 1000)
  | _ => false
theorem okv_by {v : V} (h : okvB v = true) : OkV v := by
  cases v with
  | non => exact ⟨rfl, fun x e => by cases e⟩
  | bl b => exact ⟨rfl, fun x e => by cases e⟩
  | int i => exact ⟨rfl, fun x e => by cases e⟩
  | str x => exact okw (of_decide_eq_true h)
  | byt b => cases h
  | flt b => cases h
  | ref b => cases h
  | ty b => cases h
/-- all of these are bad -/
structure BadG (Pd : Hp → V → Prop) (H0 H : Hp) (vs : List V) : Prop where
  s : Same H0 H
  b : ∀ v ∈ vs, Pd H v
theorem BadG.nil {Pd : Hp → V → Prop} {H : Hp} : BadG Pd H H [] := ⟨Same.refl H, fun v h => by cases h⟩
theorem BadG.add {Pd : Hp → V → Prop} {H0 H : Hp} {vs : List V} (b : BadG Pd H0 H vs) {v : V} (h : Pd H v) : BadG Pd H0 H (vs ++ [v]) := ⟨b.s, fun u hu => by
  rcases List.mem_append.mp hu with m | m
  · exact b.b u m
  · rw [List.mem_singleton.mp m]
    exact h⟩
theorem BadG.pick {Pd : Hp → V → Prop} {H0 H : Hp} {vs : List V} (b : BadG Pd H0 H vs) {k m : Int} (hm : (vs.length : Int) = m) (h : 0 < m) : ∃ v, atI vs (k % m) = some v ∧ Pd H v := by
  have r0 := Int.emod_nonneg k (b := m) (by omega)
  have r1 := Int.emod_lt_of_pos k h
  have hj : (k % m).toNat < vs.length := by omega
  refine ⟨vs[(k % m).toNat], ?_, b.b _ (List.getElem_mem hj)⟩
  have := atI_nat (List.getElem?_eq_getElem hj)
  rwa [Int.toNat_of_nonneg r0] at this
abbrev BL (K : PySem.W.Frag) (H : Hp) (v : V) : Prop := WlIt K H v none
theorem bl_mono {K : PySem.W.Frag} {H H' : Hp} {v : V} (s : Same H H') (h : BL K H v) : BL K H' v := WlIt.same h s
theorem BadG.goL {K : PySem.W.Frag} {H0 H H' : Hp} {vs : List V} (b : BadG (BL K) H0 H vs) (s : Same H H') : BadG (BL K) H0 H' vs := ⟨b.s.trans s, fun v h => bl_mono s (b.b v h)⟩
section
variable {K : PySem.W.Frag} {H0 H : Hp} {vs : List V}
theorem bl4 (b : BadG (BL K) H0 H vs) {I T : Addr} {w n x : V} {o : Option (List V)} (nT : H T = none) (hI : VsIt K H (.ref I) o) (h1 : okvB w = true) (h2 : okvB n = true) (h3 : okvB x = true) (hb : lnB (.l4 w n x o) = false) : BadG (BL K) H0 (upd H T (.tup [w, n, x, .ref I])) (vs ++ [.ref T]) :=
  BadG.add (Pd := BL K) (b.goL (same_upd nT)) ⟨some (.l4 w n x o), ⟨T, rfl, .ref I, SqT.of upd_same, okv_by h1, okv_by h2, okv_by h3, hI.same (same_upd nT)⟩, hb⟩
theorem bl2 (b : BadG (BL K) H0 H vs) {T : Addr} {w n : V} (nT : H T = none) (h1 : okvB w = true) (h2 : okvB n = true) (hb : lnB (.l2 w n) = false) : BadG (BL K) H0 (upd H T (.tup [w, n])) (vs ++ [.ref T]) :=
  BadG.add (Pd := BL K) (b.goL (same_upd nT)) ⟨some (.l2 w n), ⟨T, rfl, SqT.of upd_same, okv_by h1, okv_by h2⟩, hb⟩
theorem blk (b : BadG (BL K) H0 H vs) {T : Addr} {xs : List V} (nT : H T = none) (h1 : xs.length ≠ 1) (h2 : xs.length ≠ 2) (h4 : xs.length ≠ 4) : BadG (BL K) H0 (upd H T (.tup xs)) (vs ++ [.ref T]) :=
  BadG.add (Pd := BL K) (b.goL (same_upd nT)) ⟨some (.bad xs.length), ⟨T, rfl, xs, SqT.of upd_same, rfl, h1, h2, h4⟩, rfl⟩
theorem blf (b : BadG (BL K) H0 H vs) {v : V} (h : flatV v = true) : BadG (BL K) H0 H (vs ++ [v]) := BadG.add (Pd := BL K) b ⟨none, .inl h, rfl⟩
theorem bll (b : BadG (BL K) H0 H vs) {T : Addr} {xs : List V} (nT : H T = none) : BadG (BL K) H0 (upd H T (.lst xs)) (vs ++ [.ref T]) := BadG.add (Pd := BL K) (b.goL (same_upd nT)) ⟨none, .inr ⟨T, xs, rfl, upd_same⟩, rfl⟩
theorem vs_new {I : Addr} {xs : List V} (h : ∀ x ∈ xs, okvB x = true) (l : xs.length ≤ 900) : VsIt K (upd H I (.tup xs)) (.ref I) (some xs) := ⟨I, rfl, SqT.of upd_same, fun x hx => okv_by (h x hx), l⟩
theorem vs_lst {I : Addr} {xs : List V} : VsIt K (upd H I (.lst xs)) (.ref I) none := .inr ⟨I, xs, rfl, upd_same⟩
end
section
variable {P : Program} {w : World} {K : PySem.W.Frag} {mg : Str → Option Value} {base : Heap}
def spBli (K : PySem.W.Frag) : Sp := fun vs H Q _ => ∃ k : Int, vs = [.int k] ∧ ∀ v H', Same H H' → WlIt K H' v none → Q v H'
abbrev nBli : List Str := ["kind", "rows"]
theorem scBli : FnScope nBli ["kind"] (defScope sBli) := ⟨rfl, rfl, rfl, by decide +kernel, rfl, by decide +kernel, by decide +kernel⟩
theorem ok_bli {f : Addr} {fd : FuncData} (F : Fun K "_law_bad_line" "_law_bad_line" sBli f fd) (T : Txt mg) : FnOk P w K mg base CX0 1 f fd ["kind"] (spBli K) := by
  refine F.ok scBli (fun vs H Q E h => ?_) (fun cdv A outer s H vs Q E hr h => ?_)
  · obtain ⟨k, rfl, _⟩ := h
    rfl
  · obtain ⟨k, rfl, go⟩ := h
    refine ⟨_, (pss_cons (ps_set (i := 1) scBli.nd rfl (.inl rfl) (pe_lst (pa_cons (pe_tup (pa_cons pe_str (pa_cons pe_int (pa_cons pe_str (pa_cons (pe_tup (pa_cons pe_str pa_nil)) pa_nil))))) (pa_cons (pe_tup (pa_cons pe_str (pa_cons pe_int (pa_cons pe_str (pa_cons (pe_tup pa_nil) pa_nil))))) (pa_cons (pe_tup (pa_cons pe_str (pa_cons pe_int (pa_cons pe_str (pa_cons (pe_lst (pa_cons pe_str pa_nil)) pa_nil))))) (pa_cons (pe_tup (pa_cons pe_str (pa_cons pe_int (pa_cons (pe_op op_sub pe_int pe_int) (pa_cons (pe_tup (pa_cons pe_str pa_nil)) pa_nil))))) (pa_cons (pe_tup (pa_cons pe_str (pa_cons pe_bl (pa_cons pe_int (pa_cons (pe_tup (pa_cons pe_str pa_nil)) pa_nil))))) (pa_cons (pe_tup (pa_cons pe_str (pa_cons pe_int (pa_cons pe_int (pa_cons (pe_tup (pa_cons pe_str pa_nil)) pa_nil))))) (pa_cons (pe_tup (pa_cons pe_str (pa_cons pe_int (pa_cons pe_int (pa_cons (pe_op op_repT (pe_tup (pa_cons pe_str pa_nil)) pe_int) pa_nil))))) (pa_cons (pe_tup (pa_cons pe_str (pa_cons pe_int (pa_cons pe_int (pa_cons (pe_tup (pa_cons pe_str pa_nil)) pa_nil))))) (pa_cons (pe_tup (pa_cons pe_str (pa_cons pe_str pa_nil))) (pa_cons (pe_tup (pa_cons pe_str (pa_cons pe_int (pa_cons pe_int pa_nil)))) (pa_cons (pe_tup pa_nil) (pa_cons pe_int (pa_cons (pe_tup (pa_cons pe_str (pa_cons pe_int (pa_cons pe_int (pa_cons (pe_tup (pa_cons pe_str pa_nil)) pa_nil))))) (pa_cons (pe_tup (pa_cons pe_str (pa_cons pe_int (pa_cons pe_int pa_nil)))) (pa_cons (pe_lst (pa_cons pe_str pa_nil)) (pa_cons (pe_tup (pa_cons pe_str (pa_cons (pe_op op_sub pe_int pe_int) pa_nil))) pa_nil))))))))))))))))))
      (pss_one (ps_ret (pe_ix ix_list (pv 1) (pe_op op_mod (pv 0) (pe_callB call_len_seq (by rfl) T.len PySem.boot_len (pa_cons (pv 1) pa_nil))) (fun _ _ => rfl))))), ?_⟩
    refine ⟨(by show 1 ≤ sizeLine; decide), fun I0 m0 => ?_⟩
    refine ⟨(by show 4 ≤ sizeLine; decide), fun T0 n0 => ?_⟩
    have B0 := bl4 (K := K) (w := .str "thing") (n := .int 1) (x := .str "ring2") (o := some ([.str "p1"] : List V)) (BadG.nil.goL (same_upd m0)) n0 (vs_new (xs := [.str "p1"]) (by intro x hx; simp only [List.mem_cons, List.not_mem_nil, or_false] at hx; rcases hx with rfl <;> decide +kernel) (by show 1 ≤ 900; decide)) (by decide +kernel) (by decide +kernel) (by decide +kernel) (by decide +kernel)
    refine ⟨(by show 0 ≤ sizeLine; decide), fun I1 m1 => ?_⟩
    refine ⟨(by show 4 ≤ sizeLine; decide), fun T1 n1 => ?_⟩
    have B1 := bl4 (K := K) (w := .str "thing") (n := .int 1) (x := .str "ring") (o := some ([] : List V)) (B0.goL (same_upd m1)) n1 (vs_new (xs := []) (by intro x hx; cases hx) (by show 0 ≤ 900; decide)) (by decide +kernel) (by decide +kernel) (by decide +kernel) (by decide +kernel)
    refine ⟨(by show 1 ≤ sizeLine; decide), fun I2 m2 => ?_⟩
    refine ⟨(by show 4 ≤ sizeLine; decide), fun T2 n2 => ?_⟩
    have B2 := bl4 (K := K) (w := .str "thing") (n := .int 1) (x := .str "ring") (o := none) (B1.goL (same_upd m2)) n2 (vs_lst (xs := [.str "p1"])) (by decide +kernel) (by decide +kernel) (by decide +kernel) (by decide +kernel)
    refine ⟨_, _, rfl, rfl, (by show 1 ≤ sizeLine; decide), fun I3 m3 => ?_⟩
    refine ⟨(by show 4 ≤ sizeLine; decide), fun T3 n3 => ?_⟩
    have B3 := bl4 (K := K) (w := .str "sum") (n := .int 1) (x := .int (0 - 1)) (o := some ([.str "p1"] : List V)) (B2.goL (same_upd m3)) n3 (vs_new (xs := [.str "p1"]) (by intro x hx; simp only [List.mem_cons, List.not_mem_nil, or_false] at hx; rcases hx with rfl <;> decide +kernel) (by show 1 ≤ 900; decide)) (by decide +kernel) (by decide +kernel) (by decide +kernel) (by decide +kernel)
    refine ⟨(by show 1 ≤ sizeLine; decide), fun I4 m4 => ?_⟩
    refine ⟨(by show 4 ≤ sizeLine; decide), fun T4 n4 => ?_⟩
    have B4 := bl4 (K := K) (w := .str "sum") (n := .bl true) (x := .int 5) (o := some ([.str "p1"] : List V)) (B3.goL (same_upd m4)) n4 (vs_new (xs := [.str "p1"]) (by intro x hx; simp only [List.mem_cons, List.not_mem_nil, or_false] at hx; rcases hx with rfl <;> decide +kernel) (by show 1 ≤ 900; decide)) (by decide +kernel) (by decide +kernel) (by decide +kernel) (by decide +kernel)
    refine ⟨(by show 1 ≤ sizeLine; decide), fun I5 m5 => ?_⟩
    refine ⟨(by show 4 ≤ sizeLine; decide), fun T5 n5 => ?_⟩
    have B5 := bl4 (K := K) (w := .str "rest") (n := .int 1) (x := .int 0) (o := some ([.str "p1"] : List V)) (B4.goL (same_upd m5)) n5 (vs_new (xs := [.str "p1"]) (by intro x hx; simp only [List.mem_cons, List.not_mem_nil, or_false] at hx; rcases hx with rfl <;> decide +kernel) (by show 1 ≤ 900; decide)) (by decide +kernel) (by decide +kernel) (by decide +kernel) (by decide +kernel)
    refine ⟨(by show 1 ≤ sizeLine; decide), fun J6 j6 => ⟨J6, 6, _, rfl, rfl, SqT.of upd_same, (by intro z; cases z), (by decide), (by decide), (by show 1 ≤ 1000; decide), fun I6 m6 => ?_⟩⟩
    refine ⟨(by show 4 ≤ sizeLine; decide), fun T6 n6 => ?_⟩
    have B6 := bl4 (K := K) (w := .str "rest") (n := .int 1) (x := .int 2) (o := some ((List.replicate (6 : Int).toNat [V.str "p1"]).flatten)) ((B5.goL (same_upd j6)).goL (same_upd m6)) n6 (vs_new (xs := (List.replicate (6 : Int).toNat [V.str "p1"]).flatten) (by intro x hx; have : x = .str "p1" := by { simpa using hx }; rw [this]; decide +kernel) (by show 6 ≤ 900; decide)) (by decide +kernel) (by decide +kernel) (by decide +kernel) (by decide +kernel)
    refine ⟨(by show 1 ≤ sizeLine; decide), fun I7 m7 => ?_⟩
    refine ⟨(by show 4 ≤ sizeLine; decide), fun T7 n7 => ?_⟩
    have B7 := bl4 (K := K) (w := .str "gift") (n := .int 1) (x := .int 2) (o := some ([.str "p1"] : List V)) (B6.goL (same_upd m7)) n7 (vs_new (xs := [.str "p1"]) (by intro x hx; simp only [List.mem_cons, List.not_mem_nil, or_false] at hx; rcases hx with rfl <;> decide +kernel) (by show 1 ≤ 900; decide)) (by decide +kernel) (by decide +kernel) (by decide +kernel) (by decide +kernel)
    refine ⟨(by show 2 ≤ sizeLine; decide), fun T8 n8 => ?_⟩
    have B8 := bl2 (K := K) (w := .str "revoke") (n := .str "1") B7 n8 (by decide +kernel) (by decide +kernel) (by decide +kernel)
    refine ⟨(by show 3 ≤ sizeLine; decide), fun T9 n9 => ?_⟩
    have B9 := blk (K := K) (xs := [.str "revoke", .int 1, .int 2]) B8 n9 (by decide) (by decide) (by decide)
    refine ⟨(by show 0 ≤ sizeLine; decide), fun T10 n10 => ?_⟩
    have B10 := blk (K := K) (xs := []) B9 n10 (by decide) (by decide) (by decide)
    have B11 := blf (K := K) (v := .int 7) B10 rfl
    refine ⟨(by show 1 ≤ sizeLine; decide), fun I12 m12 => ?_⟩
    refine ⟨(by show 4 ≤ sizeLine; decide), fun T12 n12 => ?_⟩
    have B12 := bl4 (K := K) (w := .str "sum") (n := .int 1) (x := .int 5) (o := some ([.str "crown"] : List V)) (B11.goL (same_upd m12)) n12 (vs_new (xs := [.str "crown"]) (by intro x hx; simp only [List.mem_cons, List.not_mem_nil, or_false] at hx; rcases hx with rfl <;> decide +kernel) (by show 1 ≤ 900; decide)) (by decide +kernel) (by decide +kernel) (by decide +kernel) (by decide +kernel)
    refine ⟨(by show 3 ≤ sizeLine; decide), fun T13 n13 => ?_⟩
    have B13 := blk (K := K) (xs := [.str "sum", .int 1, .int 5]) B12 n13 (by decide) (by decide) (by decide)
    refine ⟨(by show 1 ≤ sizeLine; decide), fun T14 n14 => ?_⟩
    have B14 := bll (K := K) (xs := [.str "revoke"]) B13 n14
    refine ⟨_, _, rfl, rfl, (by show 2 ≤ sizeLine; decide), fun T15 n15 => ?_⟩
    have B15 := bl2 (K := K) (w := .str "revoke") (n := .int (0 - 1)) B14 n15 (by decide +kernel) (by decide +kernel) (by decide +kernel)
    refine ⟨(by show 16 ≤ sizeLine; decide), fun L nL => ?_⟩
    refine ⟨_, rfl, _, rfl, _, rfl, L, _, rfl, .inl (SqL.of upd_same), _, _, rfl, rfl, (by show (0 : Int) < 16; decide), ?_⟩
    obtain ⟨v, e1, e2⟩ := B15.pick (k := k) (m := 16) rfl (by decide)
    exact ⟨L, _, _, v, rfl, rfl, SqL.of upd_same, e1, go v _ (B15.s.trans (same_upd nL)) (e2.same (same_upd nL))⟩
end
end K2
namespace K2
open PySem L2 PyProof.Rows PySem.Spec G
theorem cut_take (xs : List V) (k : Nat) (h : k ≤ xs.length) : cutV xs none (some (k : Int)) = xs.take k := by
  have e1 : HT.sIx xs.length 0 none = 0 := rfl
  have e2 : HT.sIx xs.length xs.length (some (k : Int)) = k := by
    unfold HT.sIx
    simp only
    rw [if_neg (by omega)]
    omega
  unfold cutV
  rw [e1, e2]
  rfl
theorem cut_drop (xs : List V) (k : Nat) (h : k ≤ xs.length) : cutV xs (some (k : Int)) none = xs.drop k := by
  have e1 : HT.sIx xs.length xs.length none = xs.length := rfl
  have e2 : HT.sIx xs.length 0 (some (k : Int)) = k := by
    unfold HT.sIx
    simp only
    rw [if_neg (by omega)]
    omega
  unfold cutV
  rw [e1, e2, List.take_of_length_le (by rw [List.length_drop]; exact Nat.le_refl _)]
theorem ix_take {n k : Nat} (h : k ≤ n) : HT.sIx n n (some (k : Int)) = k := by
  unfold HT.sIx
  simp only
  rw [if_neg (by omega)]
  omega
theorem ix_drop {n k : Nat} (h : k ≤ n) : HT.sIx n 0 (some (k : Int)) = k := by
  unfold HT.sIx
  simp only
  rw [if_neg (by omega)]
  omega
def rCatU (K : PySem.W.Frag) : R2 := fun x y H Q => ∃ (a b : Addr) (xs ys : List V), x = .ref a ∧ y = .ref b ∧ SqT K H a xs ∧ SqT K H b ys ∧ xs.length + ys.length ≤ sizeLine ∧ ∀ p H', Same H H' → SqT K H' p (xs ++ ys) → Q (.ref p) H'
theorem op_catU {X : Cx} : OpR X (binaryOp .Add) (rCatU X.K) := by
  intro pins s σ H x y v u Q I rx ry h
  obtain ⟨a, b, xs, ys, ex, ey, ha, hb, hz, go⟩ := h
  refine op_catA pins s σ H x y v u Q I rx ry ⟨a, b, xs, ys, ex, ey, ha, hb, hz, fun e => ?_, fun _ e => ?_, fun _ _ p np => go p _ (same_upd np) (SqT.of upd_same)⟩
  · refine go b H (Same.refl H) ?_
    rw [e]
    exact hb
  · refine go a H (Same.refl H) ?_
    rw [e, List.append_nil]
    exact ha
theorem rulW_days {dv mv rv : V} {o : Option (List (Option (List V)))} (h : uptV dv 1000 = false) : rulW dv mv rv o = "days" := by
  unfold rulW rulOut
  rw [if_pos h]
  rfl
theorem rulW_mode {dv mv rv : V} {o : Option (List (Option (List V)))} (h : uptV dv 1000 = true) (g : modeB mv = false) : rulW dv mv rv o = "mode" := by
  unfold rulW rulOut
  rw [if_neg (by rw [h]; decide), if_pos g]
  rfl
theorem rulW_rows {dv mv rv : V} {o : Option (List (Option (List V)))} (h : uptV dv 1000 = true) (g : modeB mv = true) (k : uptV rv 3 = false) : rulW dv mv rv o = "rows" := by
  unfold rulW rulOut
  rw [if_neg (by rw [h]; decide), if_neg (by rw [g]; decide), if_pos k]
  rfl
theorem rulW_spouse {dv mv : V} {r : Int} {o : Option (List (Option (List V)))} (h : uptV dv 1000 = true) (g : modeB mv = true) (k : uptV (.int r) 3 = true) (p : partsB o (r + 1) = false) : rulW dv mv (.int r) o = "spouse" := by
  unfold rulW rulOut
  rw [if_neg (by rw [h]; decide), if_neg (by rw [g]; decide), if_neg (by rw [k]; decide)]
  show (if partsB o (r + 1) = false then some ("spouse" : Str) else none).getD "" = _
  rw [if_pos p]
  rfl
theorem rulOut_ok {dv mv : V} {r : Int} {o : Option (List (Option (List V)))} (h : uptV dv 1000 = true) (g : modeB mv = true) (k : uptV (.int r) 3 = true) (p : partsB o (r + 1) = true) : rulOut dv mv (.int r) o = none := by
  unfold rulOut
  rw [if_neg (by rw [h]; decide), if_neg (by rw [g]; decide), if_neg (by rw [k]; decide)]
  show (if partsB o (r + 1) = false then some ("spouse" : Str) else none) = _
  rw [if_neg (by rw [p]; decide)]
theorem upt_ok {i m : Int} (h0 : 0 ≤ i) (h1 : i ≤ m) (h2 : i ≤ 1000000000) : uptV (.int i) m = true := by
  show (amtV (.int i) && decide (i ≤ m)) = true
  rw [amt_ok ⟨h0, h2⟩, decide_eq_true h1]
  rfl
theorem six_part : ∀ p ∈ six, partV (pc p) = true := by decide +kernel
theorem RulD.u {days : Int} {md : Str} {ps : List (Int × Int)} {rows : Int} (R : RulD days md ps rows) : uptV (.int days) 1000 = true ∧ modeB (.str md) = true ∧ uptV (.int rows) 3 = true := by
  refine ⟨upt_ok R.d0 (by have := R.d1; omega) (by have := R.d1; omega), ?_, upt_ok R.r0 R.r1 (by have := R.r1; omega)⟩
  rcases R.m with e | e
  · rw [e]
    decide +kernel
  · rw [e]
    decide +kernel
def posO (ps : List (Int × Int)) : List (Option (List V)) := ps.map fun p => some (pc p)
theorem pos_some (ps : List (Int × Int)) : (posO ps).all (·.isSome) = true := by
  unfold posO
  rw [List.all_map]
  exact List.all_eq_true.mpr fun p _ => rfl
theorem parts_it {K : PySem.W.Frag} {H : Hp} {qs : List Addr} {ps : List (Int × Int)} (hT : TupsAt H qs (ps.map pc)) (h6 : ∀ q ∈ ps, q ∈ six) : (posO ps).length = (qs.map V.ref).length ∧ ∀ (i : Nat) (x : V) (o : Option (List V)), (qs.map V.ref)[i]? = some x → (posO ps)[i]? = some o → ItB K partV H x o := by
  refine ⟨by have := hT.1; rw [List.length_map] at this; unfold posO; rw [List.length_map, List.length_map, this], fun i x o h1 h2 => ?_⟩
  rw [List.getElem?_map] at h1
  unfold posO at h2
  rw [List.getElem?_map] at h2
  obtain ⟨q, hq, rfl⟩ := Option.map_eq_some_iff.mp h1
  obtain ⟨p, hp, rfl⟩ := Option.map_eq_some_iff.mp h2
  refine ⟨q, rfl, SqT.of (hT.2 i q (pc p) hq (by rw [List.getElem?_map, hp]; rfl)), fun y hy => ?_, six_part p (h6 p (List.mem_of_getElem? hp))⟩
  simp only [pc, List.mem_cons, List.not_mem_nil, or_false] at hy
  rcases hy with rfl | rfl
  · exact oki _
  · exact oki _
theorem its_app {K : PySem.W.Frag} {f : List V → Bool} {H : Hp} {xs ys : List V} {os qs : List (Option (List V))} (hl : os.length = xs.length) (h : ∀ (i : Nat) (x : V) (o : Option (List V)), xs[i]? = some x → os[i]? = some o → ItB K f H x o) (g : ∀ (i : Nat) (x : V) (o : Option (List V)), ys[i]? = some x → qs[i]? = some o → ItB K f H x o) :
    ∀ (i : Nat) (x : V) (o : Option (List V)), (xs ++ ys)[i]? = some x → (os ++ qs)[i]? = some o → ItB K f H x o := fun i x o h1 h2 => by
  rcases Nat.lt_or_ge i xs.length with lt | ge
  · rw [List.getElem?_append_left lt] at h1
    rw [List.getElem?_append_left (by omega)] at h2
    exact h i x o h1 h2
  · rw [List.getElem?_append_right ge] at h1
    rw [List.getElem?_append_right (by omega), hl] at h2
    exact g _ x o h1 h2
theorem its_one {K : PySem.W.Frag} {f : List V → Bool} {H : Hp} {v : V} {o : Option (List V)} (h : ItB K f H v o) : ∀ (i : Nat) (x : V) (o' : Option (List V)), [v][i]? = some x → [o][i]? = some o' → ItB K f H x o' := fun i x o' h1 h2 => by
  cases i with
  | zero =>
    obtain rfl := Option.some.inj h1
    obtain rfl := Option.some.inj h2
    exact h
  | succ i => cases h1
abbrev BP (f : List V → Bool) (K : PySem.W.Frag) (H : Hp) (v : V) : Prop := ItB K f H v none
theorem BadG.goP {f : List V → Bool} {K : PySem.W.Frag} {H0 H H' : Hp} {vs : List V} (b : BadG (BP f K) H0 H vs) (s : Same H H') : BadG (BP f K) H0 H' vs := ⟨b.s.trans s, fun v h => (b.b v h).same s⟩
section
variable {K : PySem.W.Frag} {H0 H : Hp} {vs : List V} {f : List V → Bool}
theorem bpt (b : BadG (BP f K) H0 H vs) {T : Addr} {xs : List V} (nT : H T = none) (h : ∀ x ∈ xs, okvB x = true) (hb : f xs = false) : BadG (BP f K) H0 (upd H T (.tup xs)) (vs ++ [.ref T]) :=
  BadG.add (Pd := BP f K) (b.goP (same_upd nT)) (.inl ⟨T, xs, rfl, SqT.of upd_same, fun x hx => okv_by (h x hx), hb⟩)
theorem bpl (b : BadG (BP f K) H0 H vs) {T : Addr} {xs : List V} (nT : H T = none) : BadG (BP f K) H0 (upd H T (.lst xs)) (vs ++ [.ref T]) := BadG.add (Pd := BP f K) (b.goP (same_upd nT)) (.inr (.inr ⟨T, xs, rfl, upd_same⟩))
theorem bpf (b : BadG (BP f K) H0 H vs) {v : V} (h : flatV v = true) : BadG (BP f K) H0 H (vs ++ [v]) := BadG.add (Pd := BP f K) b (.inr (.inl h))
end
section
variable {P : Program} {w : World} {K : PySem.W.Frag} {mg : Str → Option Value} {base : Heap}
def spBru (K : PySem.W.Frag) : Sp := fun vs H Q _ => ∃ (p t : Addr) (days : Int) (md : Str) (ps : List (Int × Int)) (rows : Int) (st : V) (qs : List Addr) (k : Int), vs = [.ref p, .int k] ∧ 0 ≤ k ∧ H p = some (.lst [.int days, .str md, .ref t, .int rows, st]) ∧ H t = some (.tup (qs.map V.ref)) ∧ TupsAt H qs (ps.map pc) ∧ RulD days md ps rows ∧
  ∀ q H' (dv mv sv rv : V) (word : Str) (o : Option (List (Option (List V)))), Same H H' → H' q = some (.lst [dv, mv, sv, rv, .str word]) → flatV dv = true → OkV mv → flatV rv = true → LsIt K partV H' sv o → rulW dv mv rv o = word → PyData.strOk word = true → Q (.ref q) H'
abbrev nBru : List Str := ["rules", "kind", "days", "mode", "spouse", "rows", "steps", "bad", "wrong"]
theorem scBru : FnScope nBru ["rules", "kind"] (defScope sBru) := ⟨rfl, rfl, rfl, by decide +kernel, rfl, by decide +kernel, by decide +kernel⟩
theorem ok_bru {f : Addr} {fd : FuncData} (F : Fun K "_law_bad_rules" "_law_bad_rules" sBru f fd) (T : Txt mg) (mgInt : mg "int" = none) (mgList : mg "list" = none) : FnOk P w K mg base CX0 1 f fd ["rules", "kind"] (spBru K) := by
  refine F.ok scBru (fun vs H Q E h => ?_) (fun cdv A outer s H vs Q E hr h => ?_)
  · obtain ⟨p, t, days, md, ps, rows, st, qs, k, rfl, _⟩ := h
    rfl
  · obtain ⟨p, t, days, md, ps, rows, st, qs, k, rfl, k0, hp, ht, hT, R, go⟩ := h
    refine ⟨_, (pss_cons (ps_asg (pv 0) (pg_unl (n := 5) rfl (pgs_cons (pg_name (i := 2) scBru.nd rfl (.inl rfl)) (pgs_cons (pg_name (i := 3) scBru.nd rfl (.inl rfl)) (pgs_cons (pg_name (i := 4) scBru.nd rfl (.inl rfl)) (pgs_cons (pg_name (i := 5) scBru.nd rfl (.inl rfl)) (pgs_cons (pg_name (i := 6) scBru.nd rfl (.inl rfl)) pgs_nil)))))))
      (pss_cons (ps_set (i := 7) scBru.nd rfl (.inl rfl) (pe_ix ix_list (pe_lst (pa_cons (pe_lst (pa_cons (pe_op op_sub pe_int pe_int) (pa_cons pe_str pa_nil))) (pa_cons (pe_lst (pa_cons pe_int (pa_cons pe_str pa_nil))) (pa_cons (pe_lst (pa_cons pe_bl (pa_cons pe_str pa_nil))) (pa_cons (pe_lst (pa_cons pe_str (pa_cons pe_str pa_nil))) pa_nil))))) (pe_op op_mod (pv 1) pe_int) (fun _ _ => rfl)))
      (pss_cons (ps_if (pt_cmpR op_eq (pe_op op_mod (pv 1) pe_int) pe_int (nomark _)) (pss_one (ps_ret (pe_lst (pa_cons (pe_ix ix_list (pv 7) pe_int (fun _ _ => rfl)) (pa_cons (pv 3) (pa_cons (pv 4) (pa_cons (pv 5) (pa_cons (pe_ix ix_list (pv 7) pe_int (fun _ _ => rfl)) pa_nil)))))))) pss_nil)
      (pss_cons (ps_if (pt_cmpR op_eq (pe_op op_mod (pv 1) pe_int) pe_int (nomark _)) (pss_one (ps_ret (pe_lst (pa_cons (pv 2) (pa_cons (pe_ix ix_list (pe_lst (pa_cons pe_str (pa_cons pe_int (pa_cons pe_non pa_nil)))) (pe_op op_mod (pv 1) pe_int) (fun _ _ => rfl)) (pa_cons (pv 4) (pa_cons (pv 5) (pa_cons pe_str pa_nil)))))))) pss_nil)
      (pss_cons (ps_if (pt_cmpR op_eq (pe_op op_mod (pv 1) pe_int) pe_int (nomark _)) (pss_one (ps_ret (pe_lst (pa_cons (pv 2) (pa_cons (pv 3) (pa_cons (pv 4) (pa_cons (pe_ix ix_list (pe_lst (pa_cons (pe_op op_sub pe_int pe_int) (pa_cons pe_int (pa_cons pe_bl (pa_cons pe_str pa_nil))))) (pe_op op_mod (pv 1) pe_int) (fun _ _ => rfl)) (pa_cons pe_str pa_nil)))))))) pss_nil)
      (pss_cons (ps_set (i := 8) scBru.nd rfl (.inl rfl) (pe_ix ix_list (pe_lst (pa_cons (pe_tup (pa_cons pe_int (pa_cons pe_int pa_nil))) (pa_cons (pe_tup (pa_cons pe_int (pa_cons pe_int pa_nil))) (pa_cons (pe_tup (pa_cons pe_int (pa_cons pe_int pa_nil))) (pa_cons (pe_tup (pa_cons pe_int pa_nil)) (pa_cons (pe_lst (pa_cons pe_int (pa_cons pe_int pa_nil))) (pa_cons (pe_tup (pa_cons pe_bl (pa_cons pe_int pa_nil))) (pa_cons (pe_tup (pa_cons pe_int (pa_cons pe_int (pa_cons pe_int pa_nil)))) (pa_cons pe_int pa_nil))))))))) (pe_op op_mod (pe_callTy call_int1 (by rfl) mgInt (by decide +kernel) (pa_cons (pe_op op_fdiv (pv 1) pe_int) pa_nil)) pe_int) (fun _ _ => rfl)))
      (pss_cons (ps_if (pt_cmpR op_eq (pe_op op_mod (pv 1) pe_int) pe_int (nomark _)) (pss_one (ps_ret (pe_lst (pa_cons (pv 2) (pa_cons (pv 3) (pa_cons (pe_op op_catU (pe_slice sl_tup (pv 4) po_none (po_some (pv 5))) (pe_tup (pa_cons (pv 8) pa_nil))) (pa_cons (pv 5) (pa_cons pe_str pa_nil)))))))) pss_nil)
      (pss_one (ps_ret (pe_lst (pa_cons (pv 2) (pa_cons (pv 3) (pa_cons (pe_ix ix_list (pe_lst (pa_cons (pe_op op_catU (pv 4) (pe_tup (pa_cons (pe_tup (pa_cons pe_int (pa_cons pe_int pa_nil))) pa_nil))) (pa_cons (pe_slice sl_tup (pv 4) (po_some pe_int) po_none) (pa_cons (pe_callTy call_list_of (by rfl) mgList (by decide +kernel) (pa_cons (pv 4) pa_nil)) pa_nil)))) (pe_op op_mod (pv 1) pe_int) (fun _ _ => rfl)) (pa_cons (pv 5) (pa_cons pe_str pa_nil))))))))))))))), ?_⟩
    obtain ⟨rn, rfl⟩ : ∃ rn : Nat, rows = (rn : Int) := ⟨rows.toNat, by have := R.r0; omega⟩
    obtain ⟨u1, u2, u3⟩ := R.u
    obtain ⟨pl1, pl2⟩ := parts_it (K := K) hT R.p
    have mdk : OkV (.str md) := okw (by
      rcases R.m with e | e
      · rw [e]
        decide +kernel
      · rw [e]
        decide +kernel)
    have good {H' : Hp} (s : Same H H') : LsIt K partV H' (.ref t) (some (posO ps)) := ⟨t, qs.map V.ref, rfl, SqT.of (s _ _ ht), pl1, by
      have := R.r
      have := R.r1
      have := hT.1
      rw [List.length_map] at this
      rw [List.length_map]
      omega, fun i x o a b => (pl2 i x o a b).same s⟩
    have lqs : (qs.length : Int) = (rn : Int) + 1 := by
      have := hT.1
      rw [List.length_map] at this
      rw [this]
      exact R.r
    refine ⟨_, rfl, p, _, rfl, SqL.of hp, rfl, _, _, rfl, _, _, rfl, _, _, rfl, _, _, rfl, _, _, rfl, rfl, ?_⟩
    refine ⟨_, _, rfl, rfl, (by show 2 ≤ sizeLine; decide), fun A1 a1 => ⟨(by show 2 ≤ sizeLine; decide), fun A2 a2 => ⟨(by show 2 ≤ sizeLine; decide), fun A3 a3 => ⟨(by show 2 ≤ sizeLine; decide), fun A4 a4 => ⟨(by show 4 ≤ sizeLine; decide), fun A5 a5 => ?_⟩⟩⟩⟩⟩
    have s1 := same_upd a1 (o := .lst [.int (0 - 1), .str "days"])
    have s2 := same_upd a2 (o := .lst [.int 1001, .str "days"])
    have s3 := same_upd a3 (o := .lst [.bl true, .str "days"])
    have s4 := same_upd a4 (o := .lst [.str "0", .str "days"])
    have s5 := same_upd a5 (o := .lst [.ref A1, .ref A2, .ref A3, .ref A4])
    have sA := (((s1.trans s2).trans s3).trans s4).trans s5
    obtain ⟨Lb, dv, hat, hLb, fdv, udv⟩ : ∃ (Lb : Addr) (dv : V), atI [V.ref A1, .ref A2, .ref A3, .ref A4] (k % 4) = some (.ref Lb) ∧ (upd (upd (upd (upd (upd H A1 (.lst [.int (0 - 1), .str "days"])) A2 (.lst [.int 1001, .str "days"])) A3 (.lst [.bl true, .str "days"])) A4 (.lst [.str "0", .str "days"])) A5 (.lst [.ref A1, .ref A2, .ref A3, .ref A4])) Lb = some (.lst [dv, .str "days"]) ∧ flatV dv = true ∧ uptV dv 1000 = false := by
      have r0 := Int.emod_nonneg k (b := 4) (by decide)
      have r1 := Int.emod_lt_of_pos k (b := 4) (by decide)
      obtain ⟨j, ej⟩ : ∃ j : Nat, k % 4 = (j : Int) := ⟨(k % 4).toNat, by omega⟩
      rw [ej]
      have : j < 4 := by omega
      match j, this with
      | 0, _ => exact ⟨A1, _, atI_nat rfl, (((s2.trans s3).trans s4).trans s5) _ _ upd_same, rfl, by decide +kernel⟩
      | 1, _ => exact ⟨A2, _, atI_nat rfl, ((s3.trans s4).trans s5) _ _ upd_same, rfl, by decide +kernel⟩
      | 2, _ => exact ⟨A3, _, atI_nat rfl, (s4.trans s5) _ _ upd_same, rfl, by decide +kernel⟩
      | 3, _ => exact ⟨A4, _, atI_nat rfl, s5 _ _ upd_same, rfl, by decide +kernel⟩
    have e5 : (upd (upd (upd (upd (upd H A1 (.lst [.int (0 - 1), .str "days"])) A2 (.lst [.int 1001, .str "days"])) A3 (.lst [.bl true, .str "days"])) A4 (.lst [.str "0", .str "days"])) A5 (.lst [.ref A1, .ref A2, .ref A3, .ref A4])) A5 = some (.lst [.ref A1, .ref A2, .ref A3, .ref A4]) := upd_same
    generalize upd (upd (upd (upd (upd H A1 (.lst [.int (0 - 1), .str "days"])) A2 (.lst [.int 1001, .str "days"])) A3 (.lst [.bl true, .str "days"])) A4 (.lst [.str "0", .str "days"])) A5 (.lst [.ref A1, .ref A2, .ref A3, .ref A4]) = H5 at sA hLb e5 ⊢
    clear s1 s2 s3 s4 s5 a1 a2 a3 a4 a5
    refine ⟨_, rfl, _, _, rfl, rfl, (by show (0 : Int) < 4; decide), A5, _, _, _, rfl, rfl, SqL.of e5, hat, ?_⟩
    refine ⟨_, rfl, _, _, rfl, rfl, (by show (0 : Int) < 5; decide), rfl, _, rfl, ite2 (fun c0 => ?_) (fun c0 => ?_)⟩
    · refine ⟨_, rfl, Lb, _, 0, dv, rfl, rfl, SqL.of hLb, atI_nat (j := 0) rfl, _, rfl, _, rfl, _, rfl, _, rfl, Lb, _, 1, .str "days", rfl, rfl, SqL.of hLb, atI_nat (j := 1) rfl, (by show 5 ≤ sizeLine; decide), fun q nq => ?_⟩
      exact go q _ dv (.str md) (.ref t) (.int (rn : Int)) "days" _ (sA.trans (same_upd nq)) upd_same fdv mdk rfl (good (sA.trans (same_upd nq))) (rulW_days udv) (by decide +kernel)
    · refine ⟨_, rfl, _, _, rfl, rfl, (by show (0 : Int) < 5; decide), rfl, _, rfl, ite2 (fun c1 => ?_) (fun c1 => ?_)⟩
      · refine ⟨_, rfl, (by show 3 ≤ sizeLine; decide), fun M nM => ?_⟩
        obtain ⟨mv, hm, mk, mb⟩ : ∃ mv, atI [V.str "stock", .int 0, .non] (k % 3) = some mv ∧ OkV mv ∧ modeB mv = false := by
          have r0 := Int.emod_nonneg k (b := 3) (by decide)
          have r1 := Int.emod_lt_of_pos k (b := 3) (by decide)
          obtain ⟨j, ej⟩ : ∃ j : Nat, k % 3 = (j : Int) := ⟨(k % 3).toNat, by omega⟩
          rw [ej]
          have : j < 3 := by omega
          match j, this with
          | 0, _ => exact ⟨_, atI_nat rfl, okv_by (by decide +kernel), by decide +kernel⟩
          | 1, _ => exact ⟨_, atI_nat rfl, okv_by (by decide +kernel), by decide +kernel⟩
          | 2, _ => exact ⟨_, atI_nat rfl, okv_by (by decide +kernel), by decide +kernel⟩
        refine ⟨_, rfl, _, _, rfl, rfl, (by show (0 : Int) < 3; decide), M, _, _, _, rfl, rfl, SqL.of upd_same, hm, _, rfl, _, rfl, (by show 5 ≤ sizeLine; decide), fun q nq => ?_⟩
        have s7 := (sA.trans (same_upd nM (o := .lst [V.str "stock", .int 0, .non]))).trans (same_upd nq (o := .lst [.int days, mv, .ref t, .int (rn : Int), .str "mode"]))
        exact go q _ (.int days) mv (.ref t) (.int (rn : Int)) "mode" _ s7 upd_same rfl mk rfl (good s7) (rulW_mode u1 mb) (by decide +kernel)
      · refine ⟨_, rfl, _, _, rfl, rfl, (by show (0 : Int) < 5; decide), rfl, _, rfl, ite2 (fun c2 => ?_) (fun c2 => ?_)⟩
        · refine ⟨_, rfl, _, rfl, _, rfl, _, _, rfl, rfl, (by show 4 ≤ sizeLine; decide), fun M nM => ?_⟩
          obtain ⟨rv, hm, mk, mb⟩ : ∃ rv, atI [V.int (0 - 1), .int 4, .bl true, .str "2"] (k % 4) = some rv ∧ flatV rv = true ∧ uptV rv 3 = false := by
            have r0 := Int.emod_nonneg k (b := 4) (by decide)
            have r1 := Int.emod_lt_of_pos k (b := 4) (by decide)
            obtain ⟨j, ej⟩ : ∃ j : Nat, k % 4 = (j : Int) := ⟨(k % 4).toNat, by omega⟩
            rw [ej]
            have : j < 4 := by omega
            match j, this with
            | 0, _ => exact ⟨_, atI_nat rfl, rfl, by decide +kernel⟩
            | 1, _ => exact ⟨_, atI_nat rfl, rfl, by decide +kernel⟩
            | 2, _ => exact ⟨_, atI_nat rfl, rfl, by decide +kernel⟩
            | 3, _ => exact ⟨_, atI_nat rfl, rfl, by decide +kernel⟩
          refine ⟨_, rfl, _, _, rfl, rfl, (by show (0 : Int) < 4; decide), M, _, _, _, rfl, rfl, SqL.of upd_same, hm, (by show 5 ≤ sizeLine; decide), fun q nq => ?_⟩
          have s7 := (sA.trans (same_upd nM (o := .lst [V.int (0 - 1), .int 4, .bl true, .str "2"]))).trans (same_upd nq (o := .lst [.int days, .str md, .ref t, rv, .str "rows"]))
          exact go q _ (.int days) (.str md) (.ref t) rv "rows" _ s7 upd_same rfl mdk mk (good s7) (rulW_rows u1 u2 mb) (by decide +kernel)
        · have W00 : BadG (BP partV K) H5 H5 [] := BadG.nil
          refine ⟨(by show 2 ≤ sizeLine; decide), fun WT0 Wn0 => ?_⟩
          have W0 := bpt (xs := [.int 3, .int 2]) (BadG.nil (Pd := BP partV K)) Wn0 (by intro x hx; simp only [List.mem_cons, List.not_mem_nil, or_false] at hx; rcases hx with rfl | rfl <;> decide +kernel) (by decide +kernel)
          refine ⟨(by show 2 ≤ sizeLine; decide), fun WT1 Wn1 => ?_⟩
          have W1 := bpt (xs := [.int 0, .int 0]) (W0) Wn1 (by intro x hx; simp only [List.mem_cons, List.not_mem_nil, or_false] at hx; rcases hx with rfl | rfl <;> decide +kernel) (by decide +kernel)
          refine ⟨(by show 2 ≤ sizeLine; decide), fun WT2 Wn2 => ?_⟩
          have W2 := bpt (xs := [.int 1, .int 1001]) (W1) Wn2 (by intro x hx; simp only [List.mem_cons, List.not_mem_nil, or_false] at hx; rcases hx with rfl | rfl <;> decide +kernel) (by decide +kernel)
          refine ⟨(by show 1 ≤ sizeLine; decide), fun WT3 Wn3 => ?_⟩
          have W3 := bpt (xs := [.int 1]) (W2) Wn3 (by intro x hx; simp only [List.mem_cons, List.not_mem_nil, or_false] at hx; rcases hx with rfl <;> decide +kernel) (by decide +kernel)
          refine ⟨(by show 2 ≤ sizeLine; decide), fun WT4 Wn4 => ?_⟩
          have W4 := bpl (xs := [.int 1, .int 2]) (W3) Wn4
          refine ⟨(by show 2 ≤ sizeLine; decide), fun WT5 Wn5 => ?_⟩
          have W5 := bpt (xs := [.bl true, .int 1]) (W4) Wn5 (by intro x hx; simp only [List.mem_cons, List.not_mem_nil, or_false] at hx; rcases hx with rfl | rfl <;> decide +kernel) (by decide +kernel)
          refine ⟨(by show 3 ≤ sizeLine; decide), fun WT6 Wn6 => ?_⟩
          have W6 := bpt (xs := [.int 1, .int 2, .int 3]) (W5) Wn6 (by intro x hx; simp only [List.mem_cons, List.not_mem_nil, or_false] at hx; rcases hx with rfl | rfl | rfl <;> decide +kernel) (by decide +kernel)
          have W7 := bpf (K := K) (v := .int 7) (W6) rfl
          refine ⟨(by show 8 ≤ sizeLine; decide), fun WL wnL => ?_⟩
          obtain ⟨wv, hw, bw⟩ := W7.pick (k := k / 5) (m := 8) rfl (by decide)
          refine ⟨_, rfl, _, _, rfl, rfl, ⟨by decide, by decide⟩, .inl ⟨_, rfl, _, _, rfl, rfl, (by show (0 : Int) < 8; decide), WL, _, _, _, rfl, rfl, SqL.of upd_same, hw, ?_⟩⟩
          have sW : Same H (upd (upd (upd (upd (upd (upd (upd (upd H5 WT0 (.tup [.int 3, .int 2])) WT1 (.tup [.int 0, .int 0])) WT2 (.tup [.int 1, .int 1001])) WT3 (.tup [.int 1])) WT4 (.lst [.int 1, .int 2])) WT5 (.tup [.bl true, .int 1])) WT6 (.tup [.int 1, .int 2, .int 3])) WL (.lst [.ref WT0, .ref WT1, .ref WT2, .ref WT3, .ref WT4, .ref WT5, .ref WT6, .int 7])) := sA.trans (W7.s.trans (same_upd wnL))
          have bw := bw.same (show Same _ (upd (upd (upd (upd (upd (upd (upd (upd H5 WT0 (.tup [.int 3, .int 2])) WT1 (.tup [.int 0, .int 0])) WT2 (.tup [.int 1, .int 1001])) WT3 (.tup [.int 1])) WT4 (.lst [.int 1, .int 2])) WT5 (.tup [.bl true, .int 1])) WT6 (.tup [.int 1, .int 2, .int 3])) WL (.lst [.ref WT0, .ref WT1, .ref WT2, .ref WT3, .ref WT4, .ref WT5, .ref WT6, .int 7])) from same_upd wnL)
          generalize (upd (upd (upd (upd (upd (upd (upd (upd H5 WT0 (.tup [.int 3, .int 2])) WT1 (.tup [.int 0, .int 0])) WT2 (.tup [.int 1, .int 1001])) WT3 (.tup [.int 1])) WT4 (.lst [.int 1, .int 2])) WT5 (.tup [.bl true, .int 1])) WT6 (.tup [.int 1, .int 2, .int 3])) WL (.lst [.ref WT0, .ref WT1, .ref WT2, .ref WT3, .ref WT4, .ref WT5, .ref WT6, .int 7])) = H6 at sW bw ⊢
          have ht6 := sW _ _ ht
          have lx : (qs.map V.ref).length = rn + 1 := by rw [List.length_map]; omega
          have lo : (posO ps).length = rn + 1 := by rw [pl1, lx]
          have r3 : (rn : Int) ≤ 3 := R.r1
          have plx {H' : Hp} (s : Same H H') : ∀ (i : Nat) (x : V) (o : Option (List V)), (qs.map V.ref)[i]? = some x → (posO ps)[i]? = some o → ItB K partV H' x o := fun i x o a b => (pl2 i x o a b).same s
          refine ⟨_, rfl, _, _, rfl, rfl, (by show (0 : Int) < 5; decide), rfl, _, rfl, ite2 (fun c3 => ?_) (fun c3 => ?_)⟩
          · refine ⟨_, rfl, _, rfl, _, rfl, _, rfl, (rn : Int), rfl, t, _, rfl, SqT.of ht6, (by
              rw [ix_take (by omega), lx]
              omega), fun T1 nT => ⟨_, rfl, (by show 1 ≤ sizeLine; decide), fun U nU => ?_⟩⟩
            rw [cut_take _ _ (by omega)] at *
            have sT := same_upd nT (o := .tup ((qs.map V.ref).take rn))
            have sU := same_upd nU (o := .tup [wv])
            refine ⟨T1, U, _, _, rfl, rfl, SqT.of (sU _ _ upd_same), SqT.of upd_same, Nat.le_of_lt (small1000 (by rw [List.length_take]; show min rn _ + 1 ≤ 1000; omega)), fun cc H7 s7 hc => ⟨_, rfl, (by show 5 ≤ sizeLine; decide), fun q nq => ?_⟩⟩
            have sq := same_upd nq (o := .lst [.int days, .str md, .ref cc, .int (rn : Int), .str "spouse"])
            have s6 := ((sT.trans sU).trans s7).trans sq
            refine go q _ (.int days) (.str md) (.ref cc) (.int (rn : Int)) "spouse" (some ((posO ps).take rn ++ [none])) (sW.trans s6) upd_same rfl mdk rfl ⟨cc, _, rfl, sameT sq hc, ?_, ?_, its_app (by rw [List.length_take, List.length_take, lo, lx]) (fun i x o h1 h2 => ?_) (its_one (bw.same s6))⟩ (rulW_spouse u1 u2 u3 ?_) (by decide +kernel)
            · rw [List.length_append, List.length_append, List.length_take, List.length_take, lo, lx]
              rfl
            · rw [List.length_append, List.length_take]
              show min rn _ + 1 ≤ 900
              omega
            · rw [List.getElem?_take] at h1 h2
              split at h1
              · next cl =>
                rw [if_pos cl] at h2
                exact plx (sW.trans s6) i x o h1 h2
              · cases h1
            · show (decide ((((posO ps).take rn ++ [none]).length : Int) = (rn : Int) + 1) && ((posO ps).take rn ++ [none]).all (·.isSome)) = false
              rw [List.all_append, show ([none] : List (Option (List V))).all (·.isSome) = false from rfl, Bool.and_false, Bool.and_false]
          · refine ⟨_, rfl, _, rfl, _, rfl, (by show 2 ≤ sizeLine; decide), fun I nI => ⟨(by show 1 ≤ sizeLine; decide), fun U nU => ?_⟩⟩
            have sI := same_upd nI (o := .tup [.int 1, .int 2])
            have sU := same_upd nU (o := .tup [.ref I])
            refine ⟨t, U, _, _, rfl, rfl, SqT.of ((sI.trans sU) _ _ ht6), SqT.of upd_same, Nat.le_of_lt (small1000 (by rw [lx]; show rn + 1 + 1 ≤ 1000; omega)), fun c1' H7 s7 hc1 => ?_⟩
            have s67 := (sI.trans sU).trans s7
            refine ⟨_, rfl, ((1 : Nat) : Int), rfl, t, _, rfl, SqT.of (s67 _ _ ht6), (by
              rw [ix_drop (by omega)]
              intro z
              omega), fun T1 nT => ?_⟩
            rw [cut_drop _ _ (by omega)] at *
            have sT := same_upd nT (o := .tup ((qs.map V.ref).drop 1))
            refine ⟨_, rfl, t, _, rfl, .inr (SqT.of ((s67.trans sT) _ _ ht6)), fun l nl => ⟨(by show 3 ≤ sizeLine; decide), fun M nM => ?_⟩⟩
            have sl := same_upd nl (o := .lst (qs.map V.ref))
            have sM := same_upd nM (o := .lst [.ref c1', .ref T1, .ref l])
            have s8 := ((s67.trans sT).trans sl).trans sM
            obtain ⟨sv, o, hat, hL, hB⟩ : ∃ (sv : V) (o : Option (List (Option (List V)))), atI [V.ref c1', .ref T1, .ref l] (k % 3) = some sv ∧ LsIt K partV (upd (upd (upd H7 T1 (.tup ((qs.map V.ref).drop 1))) l (.lst (qs.map V.ref))) M (.lst [.ref c1', .ref T1, .ref l])) sv o ∧ partsB o ((rn : Int) + 1) = false := by
              have r0 := Int.emod_nonneg k (b := 3) (by decide)
              have r1 := Int.emod_lt_of_pos k (b := 3) (by decide)
              obtain ⟨j, ej⟩ : ∃ j : Nat, k % 3 = (j : Int) := ⟨(k % 3).toNat, by omega⟩
              rw [ej]
              have : j < 3 := by omega
              match j, this with
              | 0, _ =>
                refine ⟨_, some (posO ps ++ [some (pc (1, 2))]), atI_nat rfl, ⟨c1', _, rfl, sameT ((sT.trans sl).trans sM) hc1, ?_, ?_, its_app pl1 (plx (sW.trans s8)) (its_one ⟨I, rfl, SqT.of ((((sU.trans s7).trans sT).trans sl).trans sM _ _ upd_same), ?_, by decide +kernel⟩)⟩, ?_⟩
                · rw [List.length_append, List.length_append, lo, lx]
                  rfl
                · rw [List.length_append, lx]
                  show rn + 1 + 1 ≤ 900
                  omega
                · intro y hy
                  simp only [pc, List.mem_cons, List.not_mem_nil, or_false] at hy
                  rcases hy with rfl | rfl
                  · exact oki _
                  · exact oki _
                · show (decide (((posO ps ++ [some (pc (1, 2))]).length : Int) = (rn : Int) + 1) && _) = false
                  rw [decide_eq_false (by rw [List.length_append, lo]; show ¬ ((rn + 1 + 1 : Nat) : Int) = (rn : Int) + 1; omega), Bool.false_and]
              | 1, _ =>
                refine ⟨_, some ((posO ps).drop 1), atI_nat rfl, ⟨T1, _, rfl, SqT.of ((sl.trans sM) _ _ upd_same), ?_, ?_, fun i x o h1 h2 => ?_⟩, ?_⟩
                · rw [List.length_drop, List.length_drop, lo, lx]
                · rw [List.length_drop, lx]
                  omega
                · rw [List.getElem?_drop] at h1 h2
                  exact plx (sW.trans s8) _ x o h1 h2
                · show (decide ((((posO ps).drop 1).length : Int) = (rn : Int) + 1) && _) = false
                  rw [decide_eq_false (by rw [List.length_drop, lo]; omega), Bool.false_and]
              | 2, _ => exact ⟨_, none, atI_nat rfl, .inr ⟨l, _, rfl, sM _ _ upd_same⟩, rfl⟩
            refine ⟨_, rfl, _, _, rfl, rfl, (by show (0 : Int) < 3; decide), M, _, _, _, rfl, rfl, SqL.of upd_same, hat, _, rfl, (by show 5 ≤ sizeLine; decide), fun q nq => ?_⟩
            have sq := same_upd nq (o := .lst [.int days, .str md, sv, .int (rn : Int), .str "spouse"])
            exact go q _ (.int days) (.str md) sv (.int (rn : Int)) "spouse" o ((sW.trans s8).trans sq) upd_same rfl mdk rfl (hL.same sq) (rulW_spouse u1 u2 u3 hB) (by decide +kernel)
end
end K2
namespace K2
open PySem L2 PyProof.Rows PySem.Spec G
def repS (z : Str) (n : Nat) : Str := { cps := List.foldl (fun x1 x2 => x1 ++ x2) #[] (List.replicate n z.cps) }
theorem rep_size (c : Array Nat) : ∀ (n : Nat) (acc : Array Nat), (List.foldl (fun x1 x2 => x1 ++ x2) acc (List.replicate n c)).size = acc.size + n * c.size
  | 0, acc => by simp
  | n + 1, acc => by
    rw [List.replicate_succ, List.foldl_cons, rep_size c n, Array.size_append, Nat.succ_mul]
    omega
theorem rep_len (z : Str) (n : Nat) : (repS z n).length = n * z.length := by
  show (List.foldl (fun x1 x2 => x1 ++ x2) #[] (List.replicate n z.cps)).size = _
  rw [rep_size]
  show 0 + n * z.cps.size = n * z.cps.size
  omega
def rMulS : R2 := fun x y H Q => ∃ (z : Str) (n : Nat), x = .str z ∧ y = .int (n : Int) ∧ 2 ≤ n ∧ n ≤ 1000 ∧ 1 ≤ z.length ∧ z.length ≤ 1000 ∧ Q (.str (repS z n)) H
theorem op_mulS {X : Cx} : OpR X (binaryOp .Mult) rMulS := by
  intro pins s σ H x y v u Q I rx ry h
  obtain ⟨z, n, rfl, rfl, n2, nm, z1, zm, go⟩ := h
  obtain ⟨t, rfl⟩ := rx
  obtain ⟨t', rfl⟩ := ry
  have e : ((n : Int) == 1 || z.length == 0) = false := by
    rw [Bool.or_eq_false_iff]
    exact ⟨by simpa using (by omega : ¬ (n : Int) = 1), by simpa using (by omega : ¬ z.length = 0)⟩
  refine PySem.P.mul_str (by rw [Bool.or_eq_false_iff]; exact ⟨decide_eq_false (by omega), decide_eq_false (by omega)⟩) (fun _ _ => ?_) (fun _ _ => ?_) ?_
  · have h1 : (1000 : Int) ≤ (2 ^ 63 - 1) / (n : Int) := (Int.le_ediv_iff_mul_le (by omega)).mpr (by omega)
    omega
  · have h1 : z.length * ((n : Int)).toNat ≤ 1000 * 1000 := Nat.mul_le_mul zm (by omega)
    exact decide_eq_false (by rw [sizeLine_eq]; omega)
  · rw [if_neg (by omega), e]
    rw [if_neg (by decide), Int.toNat_natCast]
    refine ⟨?_, .str (repS z n), H, I.tok _, ⟨_, rfl⟩, go⟩
    show (repS z n).length ≤ sizeLine
    rw [rep_len, sizeLine_eq]
    have h1 : n * z.length ≤ 1000 * 1000 := Nat.mul_le_mul nm zm
    omega

theorem thRun_app : ∀ (ws acc : List (Str × Int)) (r : List (Option (Str × Int))), ((acc ++ ws).map (·.1)).Nodup → thRun acc (ws.map some ++ r) = thRun (acc ++ ws) r
  | [], acc, r, _ => by rw [List.append_nil]; rfl
  | p :: ws, acc, r, h => by
    have hp : ¬ p.1 ∈ acc.map (·.1) := fun m => by
      rw [List.map_append, List.map_cons] at h
      exact (List.nodup_append.mp h).2.2 _ m _ List.mem_cons_self rfl
    show (if p.1 ∈ acc.map (·.1) then .inl "twice" else thRun (acc ++ [p]) (ws.map some ++ r)) = _
    rw [if_neg hp, thRun_app ws (acc ++ [p]) r (by rw [List.append_assoc]; exact h), List.append_assoc]
    rfl
theorem EstD.nd {coins : Int} {ws : List (Str × Int)} {ds : List Db} (E : EstD coins ws ds) : (ws.map (·.1)).Nodup := E.n.nodup (by decide +kernel)
theorem EstD.run {coins : Int} {ws : List (Str × Int)} {ds : List Db} (E : EstD coins ws ds) (r : List (Option (Str × Int))) : thRun [] (ws.map some ++ r) = thRun ws r := thRun_app ws [] r E.nd
theorem EstD.cv {coins : Int} {ws : List (Str × Int)} {ds : List Db} (E : EstD coins ws ds) : amtV (.int coins) = true := amt_ok ⟨E.c0, E.c1⟩
theorem three_ok : ∀ n ∈ three, tnV (.str n) = true ∧ n ≠ "zz" ∧ PyData.strOk n = true ∧ n.length ≤ 1000 := by decide +kernel
theorem cn_ok : ∀ n ∈ cnames, nameV (.str n) = true ∧ PyData.strOk n = true ∧ n.length ≤ 1000 := by decide +kernel
theorem cr_ok : ∀ r ∈ cranks, amtV (.int r) = true := by decide +kernel
theorem EstD.mem {coins : Int} {ws : List (Str × Int)} {ds : List Db} (E : EstD coins ws ds) {p : Str × Int} (h : p ∈ ws) : p.1 ∈ three := E.n.subset (List.mem_map.mpr ⟨p, h, rfl⟩)
theorem EstD.zz {coins : Int} {ws : List (Str × Int)} {ds : List Db} (E : EstD coins ws ds) : ¬ ("zz" : Str) ∈ ws.map (·.1) := fun m => by
  obtain ⟨p, hp, e⟩ := List.mem_map.mp m
  exact (three_ok _ (E.mem hp)).2.1 e
theorem ths_it {K : PySem.W.Frag} {H : Hp} {coins : Int} {ws : List (Str × Int)} {ds : List Db} {qs : List Addr} (E : EstD coins ws ds) (hT : TupsAt H qs (ws.map tc)) : (ws.map some).length = (qs.map V.ref).length ∧ ∀ (i : Nat) (x : V) (o : Option (Str × Int)), (qs.map V.ref)[i]? = some x → (ws.map some)[i]? = some o → ItB K thingV H x (o.map tc) := by
  refine ⟨by have := hT.1; rw [List.length_map] at this; rw [List.length_map, List.length_map, this], fun i x o h1 h2 => ?_⟩
  rw [List.getElem?_map] at h1 h2
  obtain ⟨q, hq, rfl⟩ := Option.map_eq_some_iff.mp h1
  obtain ⟨p, hp, rfl⟩ := Option.map_eq_some_iff.mp h2
  have hm := List.mem_of_getElem? hp
  have t := three_ok _ (E.mem hm)
  have a := E.w p hm
  refine ⟨q, rfl, SqT.of (hT.2 i q (tc p) hq (by rw [List.getElem?_map, hp]; rfl)), fun y hy => ?_, ?_⟩
  · simp only [tc, List.mem_cons, List.not_mem_nil, or_false] at hy
    rcases hy with rfl | rfl
    · exact okw t.2.2.2
    · exact oki _
  · show (tnV (.str p.1) && amtV (.int p.2)) = true
    rw [t.1, amt_ok a]
    rfl
theorem dbs_it {K : PySem.W.Frag} {H : Hp} {coins : Int} {ws : List (Str × Int)} {ds : List Db} {us : List Addr} (E : EstD coins ws ds) (hT : TupsAt H us (ds.map dc)) : (ds.map some).length = (us.map V.ref).length ∧ ∀ (i : Nat) (x : V) (o : Option Db), (us.map V.ref)[i]? = some x → (ds.map some)[i]? = some o → ItB K debtV H x (o.map dc) := by
  refine ⟨by have := hT.1; rw [List.length_map] at this; rw [List.length_map, List.length_map, this], fun i x o h1 h2 => ?_⟩
  rw [List.getElem?_map] at h1 h2
  obtain ⟨q, hq, rfl⟩ := Option.map_eq_some_iff.mp h1
  obtain ⟨p, hp, rfl⟩ := Option.map_eq_some_iff.mp h2
  have hm := List.mem_of_getElem? hp
  have t := cn_ok _ (E.dn p hm)
  have r := cr_ok _ (E.dr p hm)
  have a := E.da p hm
  refine ⟨q, rfl, SqT.of (hT.2 i q (dc p) hq (by rw [List.getElem?_map, hp]; rfl)), fun y hy => ?_, ?_⟩
  · simp only [dc, List.mem_cons, List.not_mem_nil, or_false] at hy
    rcases hy with rfl | rfl | rfl
    · exact okw t.2.2
    · exact oki _
    · exact oki _
  · show (nameV (.str p.1) && (amtV (.int p.2.1) && amtV (.int p.2.2))) = true
    rw [t.1, r, amt_ok a]
    rfl
/-- lists of items, one behind the other -/
theorem its_appG {α : Type} {R : V → α → Prop} {xs ys : List V} {os qs : List α} (hl : os.length = xs.length) (h : ∀ (i : Nat) (x : V) (o : α), xs[i]? = some x → os[i]? = some o → R x o) (g : ∀ (i : Nat) (x : V) (o : α), ys[i]? = some x → qs[i]? = some o → R x o) : ∀ (i : Nat) (x : V) (o : α), (xs ++ ys)[i]? = some x → (os ++ qs)[i]? = some o → R x o := fun i x o h1 h2 => by
  rcases Nat.lt_or_ge i xs.length with lt | ge
  · rw [List.getElem?_append_left lt] at h1
    rw [List.getElem?_append_left (by omega)] at h2
    exact h i x o h1 h2
  · rw [List.getElem?_append_right ge] at h1
    rw [List.getElem?_append_right (by omega), hl] at h2
    exact g _ x o h1 h2
theorem its_consG {α : Type} {R : V → α → Prop} {v : V} {o : α} {ys : List V} {qs : List α} (h : R v o) (g : ∀ (i : Nat) (x : V) (o : α), ys[i]? = some x → qs[i]? = some o → R x o) : ∀ (i : Nat) (x : V) (o' : α), (v :: ys)[i]? = some x → (o :: qs)[i]? = some o' → R x o' := fun i x o' h1 h2 => by
  cases i with
  | zero =>
    obtain rfl := Option.some.inj h1
    obtain rfl := Option.some.inj h2
    exact h
  | succ i => exact g i x o' h1 h2
theorem its_nilG {α : Type} {R : V → α → Prop} {qs : List α} : ∀ (i : Nat) (x : V) (o' : α), ([] : List V)[i]? = some x → qs[i]? = some o' → R x o' := fun i x o' h1 _ => by cases h1
section
variable {P : Program} {w : World} {K : PySem.W.Frag} {mg : Str → Option Value} {base : Heap}
def spBes (K : PySem.W.Frag) : Sp := fun vs H Q _ => ∃ (p t u : Addr) (coins : Int) (ws : List (Str × Int)) (ds : List Db) (qs us : List Addr) (k : Int), vs = [.ref p, .int k] ∧ 0 ≤ k ∧ H p = some (.lst [.int coins, .ref t, .ref u]) ∧ H t = some (.tup (qs.map V.ref)) ∧ TupsAt H qs (ws.map tc) ∧ H u = some (.tup (us.map V.ref)) ∧ TupsAt H us (ds.map dc) ∧ EstD coins ws ds ∧
  ∀ q H' (cv : V) (a b : Addr) (xs ys : List V) (os : List (Option (Str × Int))) (eds : List (Option Db)) (word : Str), Same H H' → H' q = some (.lst [cv, .ref a, .ref b, .str word]) → flatV cv = true → SqT K H' a xs → SqT K H' b ys → os.length = xs.length → eds.length = ys.length → xs.length ≤ 900 → ys.length ≤ 900 → (∀ (i : Nat) (x : V) (o : Option (Str × Int)), xs[i]? = some x → os[i]? = some o → ItB K thingV H' x (o.map tc)) → (∀ (i : Nat) (x : V) (o : Option Db), ys[i]? = some x → eds[i]? = some o → ItB K debtV H' x (o.map dc)) → estW cv os eds = word → PyData.strOk word = true → Q (.ref q) H'
abbrev nBes : List Str := ["estate", "kind", "coins", "things", "debts", "wrong"]
theorem scBes : FnScope nBes ["estate", "kind"] (defScope sBes) := ⟨rfl, rfl, rfl, by decide +kernel, rfl, by decide +kernel, by decide +kernel⟩
theorem ok_bes {f : Addr} {fd : FuncData} (F : Fun K "_law_bad_estate" "_law_bad_estate" sBes f fd) (T : Txt mg) (mgInt : mg "int" = none) : FnOk P w K mg base CX0 1 f fd ["estate", "kind"] (spBes K) := by
  refine F.ok scBes (fun vs H Q E h => ?_) (fun cdv A outer s H vs Q E hr h => ?_)
  · obtain ⟨p, t, u, coins, ws, ds, qs, us, k, rfl, _⟩ := h
    rfl
  · obtain ⟨p, t, u, coins, ws, ds, qs, us, k, rfl, k0, hp, ht, hT, hu, hU, E, go⟩ := h
    refine ⟨_, (pss_cons (ps_asg (pv 0) (pg_unl (n := 3) rfl (pgs_cons (pg_name (i := 2) scBes.nd rfl (.inl rfl)) (pgs_cons (pg_name (i := 3) scBes.nd rfl (.inl rfl)) (pgs_cons (pg_name (i := 4) scBes.nd rfl (.inl rfl)) pgs_nil)))))
      (pss_cons (ps_if (pt_cmpR op_eq (pe_op op_mod (pv 1) pe_int) pe_int (nomark _)) (pss_one (ps_ret (pe_lst (pa_cons (pe_ix ix_list (pe_lst (pa_cons (pe_op op_sub pe_int pe_int) (pa_cons pe_bl (pa_cons pe_int (pa_cons pe_str pa_nil))))) (pe_op op_mod (pe_callTy call_int1 (by rfl) mgInt (by decide +kernel) (pa_cons (pe_op op_fdiv (pv 1) pe_int) pa_nil)) pe_int) (fun _ _ => rfl)) (pa_cons (pv 3) (pa_cons (pv 4) (pa_cons pe_str pa_nil))))))) pss_nil)
      (pss_cons (ps_if (pt_cmpR op_eq (pe_op op_mod (pv 1) pe_int) pe_int (nomark _)) (pss_cons (ps_set (i := 5) scBes.nd rfl (.inl rfl) (pe_ix ix_list (pe_lst (pa_cons (pe_tup (pa_cons pe_str (pa_cons pe_int pa_nil))) (pa_cons (pe_tup (pa_cons pe_str (pa_cons pe_int pa_nil))) (pa_cons (pe_tup (pa_cons (pe_op op_mulS pe_str pe_int) (pa_cons pe_int pa_nil))) (pa_cons (pe_tup (pa_cons pe_str (pa_cons (pe_op op_sub pe_int pe_int) pa_nil))) (pa_cons (pe_tup (pa_cons pe_str pa_nil)) (pa_cons (pe_lst (pa_cons pe_str (pa_cons pe_int pa_nil))) (pa_cons pe_int pa_nil)))))))) (pe_op op_mod (pe_callTy call_int1 (by rfl) mgInt (by decide +kernel) (pa_cons (pe_op op_fdiv (pv 1) pe_int) pa_nil)) pe_int) (fun _ _ => rfl)))
      (pss_one (ps_ret (pe_lst (pa_cons (pv 2) (pa_cons (pe_op op_catU (pv 3) (pe_tup (pa_cons (pv 5) pa_nil))) (pa_cons (pv 4) (pa_cons pe_str pa_nil)))))))) pss_nil)
      (pss_cons (ps_if (pt_cmpR op_eq (pe_op op_mod (pv 1) pe_int) pe_int (nomark _)) (pss_one (ps_ret (pe_lst (pa_cons (pv 2) (pa_cons (pe_op op_catU (pv 3) (pe_tup (pa_cons (pe_tup (pa_cons pe_str (pa_cons pe_int pa_nil))) (pa_cons (pe_tup (pa_cons pe_str (pa_cons pe_int pa_nil))) pa_nil)))) (pa_cons (pv 4) (pa_cons pe_str pa_nil))))))) pss_nil)
      (pss_cons (ps_set (i := 5) scBes.nd rfl (.inl rfl) (pe_ix ix_list (pe_lst (pa_cons (pe_tup (pa_cons pe_str (pa_cons pe_int (pa_cons pe_int pa_nil)))) (pa_cons (pe_tup (pa_cons pe_str (pa_cons pe_int pa_nil))) (pa_cons (pe_tup (pa_cons pe_str (pa_cons (pe_op op_sub pe_int pe_int) (pa_cons pe_int pa_nil)))) (pa_cons (pe_tup (pa_cons pe_str (pa_cons pe_int (pa_cons pe_bl pa_nil)))) (pa_cons (pe_lst (pa_cons pe_str (pa_cons pe_int (pa_cons pe_int pa_nil)))) (pa_cons pe_int (pa_cons (pe_tup (pa_cons pe_str (pa_cons pe_int (pa_cons pe_int pa_nil)))) pa_nil)))))))) (pe_op op_mod (pe_callTy call_int1 (by rfl) mgInt (by decide +kernel) (pa_cons (pe_op op_fdiv (pv 1) pe_int) pa_nil)) pe_int) (fun _ _ => rfl)))
      (pss_one (ps_ret (pe_lst (pa_cons (pv 2) (pa_cons (pv 3) (pa_cons (pe_op op_catU (pv 4) (pe_tup (pa_cons (pv 5) pa_nil))) (pa_cons pe_str pa_nil)))))))))))), ?_⟩
    obtain ⟨tl1, tl2⟩ := ths_it (K := K) E hT
    obtain ⟨dl1, dl2⟩ := dbs_it (K := K) E hU
    have z3 : ws.length ≤ 3 := by
      have := E.n.length_le
      rw [List.length_map] at this
      exact this
    have z4 := E.l
    have lq : (qs.map V.ref).length = ws.length := by rw [← tl1, List.length_map]
    have lu : (us.map V.ref).length = ds.length := by rw [← dl1, List.length_map]
    have tl {H' : Hp} (s : Same H H') : ∀ (i : Nat) (x : V) (o : Option (Str × Int)), (qs.map V.ref)[i]? = some x → (ws.map some)[i]? = some o → ItB K thingV H' x (o.map tc) := fun i x o a b => (tl2 i x o a b).same s
    have dl {H' : Hp} (s : Same H H') : ∀ (i : Nat) (x : V) (o : Option Db), (us.map V.ref)[i]? = some x → (ds.map some)[i]? = some o → ItB K debtV H' x (o.map dc) := fun i x o a b => (dl2 i x o a b).same s
    have E1 {os : List (Option (Str × Int))} {eds : List (Option Db)} {w : Str} (h : thRun [] os = .inl w) : estW (.int coins) os eds = w := by
      unfold estW estOut
      rw [if_neg (by rw [E.cv]; decide), h]
    refine ⟨_, rfl, p, _, rfl, SqL.of hp, rfl, _, _, rfl, _, _, rfl, _, _, rfl, rfl, ?_⟩
    refine ⟨_, rfl, _, _, rfl, rfl, (by show (0 : Int) < 4; decide), rfl, _, rfl, ite2 (fun c0 => ?_) (fun c0 => ?_)⟩
    · refine ⟨_, _, rfl, rfl, (by show 4 ≤ sizeLine; decide), fun M nM => ?_⟩
      obtain ⟨cv, hm, mk, mb⟩ : ∃ cv, atI [V.int (0 - 1), .bl true, .int 1000000001, .str "5"] (k / 4 % 4) = some cv ∧ flatV cv = true ∧ amtV cv = false := by
        have r0 := Int.emod_nonneg (k / 4) (b := 4) (by decide)
        have r1 := Int.emod_lt_of_pos (k / 4) (b := 4) (by decide)
        obtain ⟨j, ej⟩ : ∃ j : Nat, k / 4 % 4 = (j : Int) := ⟨(k / 4 % 4).toNat, by omega⟩
        rw [ej]
        have : j < 4 := by omega
        match j, this with
        | 0, _ => exact ⟨_, atI_nat rfl, rfl, by decide +kernel⟩
        | 1, _ => exact ⟨_, atI_nat rfl, rfl, by decide +kernel⟩
        | 2, _ => exact ⟨_, atI_nat rfl, rfl, by decide +kernel⟩
        | 3, _ => exact ⟨_, atI_nat rfl, rfl, by decide +kernel⟩
      refine ⟨_, rfl, _, _, rfl, rfl, ⟨by decide, by decide⟩, .inl ⟨_, rfl, _, _, rfl, rfl, (by show (0 : Int) < 4; decide), M, _, _, _, rfl, rfl, SqL.of upd_same, hm, _, rfl, _, rfl, (by show 4 ≤ sizeLine; decide), fun q nq => ?_⟩⟩
      have s7 := (same_upd nM (o := .lst [V.int (0 - 1), .bl true, .int 1000000001, .str "5"])).trans (same_upd nq (o := .lst [cv, .ref t, .ref u, .str "coins"]))
      refine go q _ cv t u _ _ (ws.map some) (ds.map some) "coins" s7 upd_same mk (SqT.of (s7 _ _ ht)) (SqT.of (s7 _ _ hu)) tl1 dl1 (by omega) (by omega) (tl s7) (dl s7) ?_ (by decide +kernel)
      unfold estW estOut
      rw [if_pos mb]
    · refine ⟨_, rfl, _, _, rfl, rfl, (by show (0 : Int) < 4; decide), rfl, _, rfl, ite2 (fun c1 => ?_) (fun c1 => ?_)⟩
      · have W00 : BadG (BP thingV K) H H [] := BadG.nil
        refine ⟨(by show 2 ≤ sizeLine; decide), fun WT0 Wn0 => ?_⟩
        have W0 := bpt (xs := [.str "ring2", .int 5]) (BadG.nil (Pd := BP thingV K)) Wn0 (by intro x hx; simp only [List.mem_cons, List.not_mem_nil, or_false] at hx; rcases hx with rfl | rfl <;> decide +kernel) (by decide +kernel)
        refine ⟨(by show 2 ≤ sizeLine; decide), fun WT1 Wn1 => ?_⟩
        have W1 := bpt (xs := [.str "", .int 5]) (W0) Wn1 (by intro x hx; simp only [List.mem_cons, List.not_mem_nil, or_false] at hx; rcases hx with rfl | rfl <;> decide +kernel) (by decide +kernel)
        refine ⟨"a", 13, rfl, rfl, by decide, by decide, by decide +kernel, by decide +kernel, (by show 2 ≤ sizeLine; decide), fun WT2 Wn2 => ?_⟩
        have W2 := bpt (xs := [.str (repS "a" 13), .int 1]) (W1) Wn2 (by intro x hx; simp only [List.mem_cons, List.not_mem_nil, or_false] at hx; rcases hx with rfl | rfl <;> decide +kernel) (by decide +kernel)
        refine ⟨_, _, rfl, rfl, (by show 2 ≤ sizeLine; decide), fun WT3 Wn3 => ?_⟩
        have W3 := bpt (xs := [.str "x", .int (0 - 1)]) (W2) Wn3 (by intro x hx; simp only [List.mem_cons, List.not_mem_nil, or_false] at hx; rcases hx with rfl | rfl <;> decide +kernel) (by decide +kernel)
        refine ⟨(by show 1 ≤ sizeLine; decide), fun WT4 Wn4 => ?_⟩
        have W4 := bpt (xs := [.str "x"]) (W3) Wn4 (by intro x hx; simp only [List.mem_cons, List.not_mem_nil, or_false] at hx; rcases hx with rfl <;> decide +kernel) (by decide +kernel)
        refine ⟨(by show 2 ≤ sizeLine; decide), fun WT5 Wn5 => ?_⟩
        have W5 := bpl (xs := [.str "x", .int 1]) (W4) Wn5
        have W6 := bpf (K := K) (v := .int 7) (W5) rfl
        refine ⟨(by show 7 ≤ sizeLine; decide), fun WL wnL => ?_⟩
        obtain ⟨wv, hw, bw⟩ := W6.pick (k := k / 4) (m := 7) rfl (by decide)
        refine ⟨_, rfl, _, _, rfl, rfl, ⟨by decide, by decide⟩, .inl ⟨_, rfl, _, _, rfl, rfl, (by show (0 : Int) < 7; decide), WL, _, _, _, rfl, rfl, SqL.of upd_same, hw, ?_⟩⟩
        have sW : Same H (upd (upd (upd (upd (upd (upd (upd H WT0 (.tup [.str "ring2", .int 5])) WT1 (.tup [.str "", .int 5])) WT2 (.tup [.str (repS "a" 13), .int 1])) WT3 (.tup [.str "x", .int (0 - 1)])) WT4 (.tup [.str "x"])) WT5 (.lst [.str "x", .int 1])) WL (.lst [.ref WT0, .ref WT1, .ref WT2, .ref WT3, .ref WT4, .ref WT5, .int 7])) := W6.s.trans (same_upd wnL)
        have bw := bw.same (show Same _ (upd (upd (upd (upd (upd (upd (upd H WT0 (.tup [.str "ring2", .int 5])) WT1 (.tup [.str "", .int 5])) WT2 (.tup [.str (repS "a" 13), .int 1])) WT3 (.tup [.str "x", .int (0 - 1)])) WT4 (.tup [.str "x"])) WT5 (.lst [.str "x", .int 1])) WL (.lst [.ref WT0, .ref WT1, .ref WT2, .ref WT3, .ref WT4, .ref WT5, .int 7])) from same_upd wnL)
        generalize (upd (upd (upd (upd (upd (upd (upd H WT0 (.tup [.str "ring2", .int 5])) WT1 (.tup [.str "", .int 5])) WT2 (.tup [.str (repS "a" 13), .int 1])) WT3 (.tup [.str "x", .int (0 - 1)])) WT4 (.tup [.str "x"])) WT5 (.lst [.str "x", .int 1])) WL (.lst [.ref WT0, .ref WT1, .ref WT2, .ref WT3, .ref WT4, .ref WT5, .int 7])) = H6 at sW bw ⊢
        refine ⟨_, rfl, _, rfl, _, rfl, (by show 1 ≤ sizeLine; decide), fun U nU => ?_⟩
        have sU := same_upd nU (o := .tup [wv])
        refine ⟨t, U, _, _, rfl, rfl, SqT.of ((sW.trans sU) _ _ ht), SqT.of upd_same, Nat.le_of_lt (small1000 (by rw [lq]; show ws.length + 1 ≤ 1000; omega)), fun cc H7 s7 hc => ⟨_, rfl, (by show 4 ≤ sizeLine; decide), fun q nq => ?_⟩⟩
        have sq := same_upd nq (o := .lst [.int coins, .ref cc, .ref u, .str "things"])
        have s6 := (sU.trans s7).trans sq
        refine go q _ (.int coins) cc u _ _ (ws.map some ++ [none]) (ds.map some) "things" (sW.trans s6) upd_same rfl (sameT sq hc) (SqT.of ((sW.trans s6) _ _ hu)) ?_ dl1 ?_ (by omega) (its_appG tl1 (tl (sW.trans s6)) (its_consG (show ItB K thingV _ wv (Option.map tc none) from bw.same s6) its_nilG)) (dl (sW.trans s6)) (E1 ?_) (by decide +kernel)
        · rw [List.length_append, List.length_append, tl1]
          rfl
        · rw [List.length_append, lq]
          show ws.length + 1 ≤ 900
          omega
        · rw [E.run]
          rfl
      · refine ⟨_, rfl, _, _, rfl, rfl, (by show (0 : Int) < 4; decide), rfl, _, rfl, ite2 (fun c2 => ?_) (fun c2 => ?_)⟩
        · refine ⟨_, rfl, _, rfl, (by show 2 ≤ sizeLine; decide), fun Z1 z1 => ⟨(by show 2 ≤ sizeLine; decide), fun Z2 z2 => ⟨(by show 2 ≤ sizeLine; decide), fun U nU => ?_⟩⟩⟩
          have s1 := same_upd z1 (o := .tup (tc ("zz", 1)))
          have s2 := same_upd z2 (o := .tup (tc ("zz", 1)))
          have sU := same_upd nU (o := .tup [.ref Z1, .ref Z2])
          have s3 := (s1.trans s2).trans sU
          refine ⟨t, U, _, _, rfl, rfl, SqT.of (s3 _ _ ht), SqT.of upd_same, Nat.le_of_lt (small1000 (by rw [lq]; show ws.length + 2 ≤ 1000; omega)), fun cc H7 s7 hc => ⟨_, rfl, (by show 4 ≤ sizeLine; decide), fun q nq => ?_⟩⟩
          have sq := same_upd nq (o := .lst [.int coins, .ref cc, .ref u, .str "twice"])
          have s6 := (s3.trans s7).trans sq
          have okz : ∀ y ∈ tc ("zz", 1), OkV y := fun y hy => by
            simp only [tc, List.mem_cons, List.not_mem_nil, or_false] at hy
            rcases hy with rfl | rfl
            · exact okw (by decide +kernel)
            · exact oki _
          have i1 {Hq : Hp} {Z : Addr} (h : Hq Z = some (.tup (tc ("zz", 1)))) : ItB K thingV Hq (.ref Z) ((some (("zz" : Str), (1 : Int))).map tc) := ⟨Z, rfl, SqT.of h, okz, by decide +kernel⟩
          refine go q _ (.int coins) cc u _ _ (ws.map some ++ ([some ("zz", 1), some ("zz", 1)] : List (Option (Str × Int)))) (ds.map some) "twice" s6 upd_same rfl (sameT sq hc) (SqT.of (s6 _ _ hu)) ?_ dl1 ?_ (by omega) (its_appG tl1 (tl s6) (its_consG (i1 ((((s2.trans sU).trans s7).trans sq) _ _ upd_same)) (its_consG (i1 (((sU.trans s7).trans sq) _ _ upd_same)) its_nilG))) (dl s6) (E1 ?_) (by decide +kernel)
          · rw [List.length_append, List.length_append, tl1]
            rfl
          · rw [List.length_append, lq]
            show ws.length + 2 ≤ 900
            omega
          · rw [E.run]
            show (if ("zz" : Str) ∈ ws.map (·.1) then (.inl "twice" : Str ⊕ List (Str × Int)) else if ("zz" : Str) ∈ (ws ++ [(("zz" : Str), (1 : Int))]).map (·.1) then .inl "twice" else thRun _ []) = _
            rw [if_neg E.zz, if_pos (by rw [List.map_append]; exact List.mem_append_right _ List.mem_cons_self)]
        · have Y00 : BadG (BP debtV K) H H [] := BadG.nil
          refine ⟨(by show 3 ≤ sizeLine; decide), fun YT0 Yn0 => ?_⟩
          have Y0 := bpt (xs := [.str "crown", .int 1, .int 1]) (BadG.nil (Pd := BP debtV K)) Yn0 (by intro x hx; simp only [List.mem_cons, List.not_mem_nil, or_false] at hx; rcases hx with rfl | rfl | rfl <;> decide +kernel) (by decide +kernel)
          refine ⟨(by show 2 ≤ sizeLine; decide), fun YT1 Yn1 => ?_⟩
          have Y1 := bpt (xs := [.str "c", .int 1]) (Y0) Yn1 (by intro x hx; simp only [List.mem_cons, List.not_mem_nil, or_false] at hx; rcases hx with rfl | rfl <;> decide +kernel) (by decide +kernel)
          refine ⟨_, _, rfl, rfl, (by show 3 ≤ sizeLine; decide), fun YT2 Yn2 => ?_⟩
          have Y2 := bpt (xs := [.str "c", .int (0 - 1), .int 5]) (Y1) Yn2 (by intro x hx; simp only [List.mem_cons, List.not_mem_nil, or_false] at hx; rcases hx with rfl | rfl | rfl <;> decide +kernel) (by decide +kernel)
          refine ⟨(by show 3 ≤ sizeLine; decide), fun YT3 Yn3 => ?_⟩
          have Y3 := bpt (xs := [.str "c", .int 1, .bl true]) (Y2) Yn3 (by intro x hx; simp only [List.mem_cons, List.not_mem_nil, or_false] at hx; rcases hx with rfl | rfl | rfl <;> decide +kernel) (by decide +kernel)
          refine ⟨(by show 3 ≤ sizeLine; decide), fun YT4 Yn4 => ?_⟩
          have Y4 := bpl (xs := [.str "c", .int 1, .int 1]) (Y3) Yn4
          have Y5 := bpf (K := K) (v := .int 7) (Y4) rfl
          refine ⟨(by show 3 ≤ sizeLine; decide), fun YT6 Yn6 => ?_⟩
          have Y6 := bpt (xs := [.str "C", .int 1, .int 1]) (Y5) Yn6 (by intro x hx; simp only [List.mem_cons, List.not_mem_nil, or_false] at hx; rcases hx with rfl | rfl | rfl <;> decide +kernel) (by decide +kernel)
          refine ⟨(by show 7 ≤ sizeLine; decide), fun WL wnL => ?_⟩
          obtain ⟨wv, hw, bw⟩ := Y6.pick (k := k / 4) (m := 7) rfl (by decide)
          refine ⟨_, rfl, _, _, rfl, rfl, ⟨by decide, by decide⟩, .inl ⟨_, rfl, _, _, rfl, rfl, (by show (0 : Int) < 7; decide), WL, _, _, _, rfl, rfl, SqL.of upd_same, hw, ?_⟩⟩
          have sW : Same H (upd (upd (upd (upd (upd (upd (upd H YT0 (.tup [.str "crown", .int 1, .int 1])) YT1 (.tup [.str "c", .int 1])) YT2 (.tup [.str "c", .int (0 - 1), .int 5])) YT3 (.tup [.str "c", .int 1, .bl true])) YT4 (.lst [.str "c", .int 1, .int 1])) YT6 (.tup [.str "C", .int 1, .int 1])) WL (.lst [.ref YT0, .ref YT1, .ref YT2, .ref YT3, .ref YT4, .int 7, .ref YT6])) := Y6.s.trans (same_upd wnL)
          have bw := bw.same (show Same _ (upd (upd (upd (upd (upd (upd (upd H YT0 (.tup [.str "crown", .int 1, .int 1])) YT1 (.tup [.str "c", .int 1])) YT2 (.tup [.str "c", .int (0 - 1), .int 5])) YT3 (.tup [.str "c", .int 1, .bl true])) YT4 (.lst [.str "c", .int 1, .int 1])) YT6 (.tup [.str "C", .int 1, .int 1])) WL (.lst [.ref YT0, .ref YT1, .ref YT2, .ref YT3, .ref YT4, .int 7, .ref YT6])) from same_upd wnL)
          generalize (upd (upd (upd (upd (upd (upd (upd H YT0 (.tup [.str "crown", .int 1, .int 1])) YT1 (.tup [.str "c", .int 1])) YT2 (.tup [.str "c", .int (0 - 1), .int 5])) YT3 (.tup [.str "c", .int 1, .bl true])) YT4 (.lst [.str "c", .int 1, .int 1])) YT6 (.tup [.str "C", .int 1, .int 1])) WL (.lst [.ref YT0, .ref YT1, .ref YT2, .ref YT3, .ref YT4, .int 7, .ref YT6])) = H6 at sW bw ⊢
          refine ⟨_, rfl, _, rfl, _, rfl, _, rfl, (by show 1 ≤ sizeLine; decide), fun U nU => ?_⟩
          have sU := same_upd nU (o := .tup [wv])
          refine ⟨u, U, _, _, rfl, rfl, SqT.of ((sW.trans sU) _ _ hu), SqT.of upd_same, Nat.le_of_lt (small1000 (by rw [lu]; show ds.length + 1 ≤ 1000; omega)), fun cc H7 s7 hc => ⟨(by show 4 ≤ sizeLine; decide), fun q nq => ?_⟩⟩
          have sq := same_upd nq (o := .lst [.int coins, .ref t, .ref cc, .str "debts"])
          have s6 := (sU.trans s7).trans sq
          refine go q _ (.int coins) t cc _ _ (ws.map some) (ds.map some ++ [none]) "debts" (sW.trans s6) upd_same rfl (SqT.of ((sW.trans s6) _ _ ht)) (sameT sq hc) tl1 ?_ (by omega) ?_ (tl (sW.trans s6)) (its_appG dl1 (dl (sW.trans s6)) (its_consG (show ItB K debtV _ wv (Option.map dc none) from bw.same s6) its_nilG)) ?_ (by decide +kernel)
          · rw [List.length_append, List.length_append, dl1]
            rfl
          · rw [List.length_append, lu]
            show ds.length + 1 ≤ 900
            omega
          · have hr : thRun [] (ws.map some) = .inr ws := by
              have := E.run []
              rw [List.append_nil] at this
              exact this
            unfold estW estOut
            rw [if_neg (by rw [E.cv]; decide), hr]
            show (match (if (ds.map some ++ [none]).all (·.isSome) = true then (.inr ws : Str ⊕ List (Str × Int)) else .inl "debts") with | .inl w => w | .inr _ => "") = _
            rw [List.all_append, show ([none] : List (Option Db)).all (·.isSome) = false from rfl, Bool.and_false, if_neg (by decide)]
end
end K2
namespace K2
open PySem L2 PyProof.Rows PySem.Spec G
theorem inV_int (x : Int) (zs : List Int) : inV (.int x) (zs.map V.int) = decide (x ∈ zs) := by
  unfold inV
  rw [List.any_map, Bool.eq_iff_iff, List.any_eq_true, decide_eq_true_eq]
  constructor
  · rintro ⟨y, hy, e⟩
    have e' : (y == x) = true := e
    rw [beq_iff_eq] at e'
    rw [← e']
    exact hy
  · intro h
    exact ⟨x, h, show (x == x) = true from beq_self_eq_true x⟩
theorem flat_ints (zs : List Int) : (zs.map V.int).all flatV = true := by
  rw [List.all_map]
  exact List.all_eq_true.mpr fun _ _ => rfl
/-- a debt's share at its rank -/
def shr (du : Int → Int) (l : Int) (rs : List Int) (d : Db) (ri : Nat) : Rat := (d.2.2 : Rat) * pt du (lft du l (rs.take ri)) d.2.1
theorem ixn {n j : Nat} (h : j < n) : ixN n (j : Int) = some j := by
  unfold ixN
  rw [if_pos (Int.natCast_nonneg j), if_pos (by omega), Int.toNat_natCast]
theorem fv0 : fv (0 : Rat) = [.int 0, .int 1] := fv_int 0
theorem int_div (a m b : Int) : (a : Rat) * Rat.divInt m b = Rat.divInt (a * m) b := by
  have e := rat_self (a : Rat)
  rw [Rat.num_intCast, Rat.den_intCast] at e
  rw [← e, Rat.divInt_mul_divInt]
  congr 1
  exact Int.one_mul b
/-- what is paid so far: the ranks ahead of i, and of the i-th the debts ahead of j -/
def Pd (K : PySem.W.Frag) (ds : List Db) (L : Int) (rs : List Int) (H : Hp) (i j : Nat) (fs : List Addr) : Prop := ∀ (k : Nat) (d : Db) (f : Addr) (ri : Nat), ds[k]? = some d → fs[k]? = some f → rs[ri]? = some d.2.1 → SqT K H f (fv (if ri < i ∨ (ri = i ∧ k < j) then shr (dueOf ds) L rs d ri else 0))
theorem Pd.step {K : PySem.W.Frag} {ds : List Db} {L : Int} {rs : List Int} {H H' : Hp} {i j : Nat} {fs fs' : List Addr} (R : Rks ds rs) (h : Pd K ds L rs H i j fs) (mv : ∀ q xs, SqT K H q xs → SqT K H' q xs) (oth : ∀ k, k ≠ j → fs'[k]? = fs[k]?)
    (one : ∀ d f, ds[j]? = some d → fs'[j]? = some f → rs[i]? = some d.2.1 → SqT K H' f (fv (shr (dueOf ds) L rs d i))) (two : ∀ d f, ds[j]? = some d → fs'[j]? = some f → rs[i]? ≠ some d.2.1 → fs[j]? = some f) : Pd K ds L rs H' i (j + 1) fs' := by
  intro k d f ri hd hf hr
  by_cases kj : k = j
  · subst kj
    by_cases e : ri = i
    · subst e
      rw [if_pos (.inr ⟨rfl, Nat.lt_succ_self _⟩)]
      exact one d f hd hf hr
    · by_cases m : rs[i]? = some d.2.1
      · exact absurd (R.ix hr m) e
      · have := mv _ _ (h k d f ri hd (two d f hd hf m) hr)
        rw [show (if ri < i ∨ ri = i ∧ k < k + 1 then shr (dueOf ds) L rs d ri else 0) = (if ri < i ∨ ri = i ∧ k < k then shr (dueOf ds) L rs d ri else 0) by
          by_cases c : ri < i
          · rw [if_pos (.inl c), if_pos (.inl c)]
          · rw [if_neg (by omega), if_neg (by omega)]]
        exact this
  · rw [oth k kj] at hf
    have := mv _ _ (h k d f ri hd hf hr)
    rw [show (if ri < i ∨ ri = i ∧ k < j + 1 then shr (dueOf ds) L rs d ri else 0) = (if ri < i ∨ ri = i ∧ k < j then shr (dueOf ds) L rs d ri else 0) by
      by_cases c : ri < i ∨ ri = i ∧ k < j
      · rw [if_pos (by omega), if_pos c]
      · rw [if_neg (by omega), if_neg c]]
    exact this
section
variable {P : Program} {w : World} {K : PySem.W.Frag} {mg : Str → Option Value} {base : Heap}
def spLde (K : PySem.W.Frag) : Sp := fun vs H Q _ => ∃ (p t u : Addr) (coins : Int) (ws : List (Str × Int)) (ds : List Db) (qs us : List Addr) (rs : List Int), vs = [.ref p] ∧ H p = some (.lst [.int coins, .ref t, .ref u]) ∧ H t = some (.tup (qs.map V.ref)) ∧ TupsAt H qs (ws.map tc) ∧ H u = some (.tup (us.map V.ref)) ∧ TupsAt H us (ds.map dc) ∧ EstD coins ws ds ∧ Rks ds rs ∧
  ∀ q pl H' (fs : List Addr), Same H H' → H q = none → H' q = some (.lst [.ref pl, .int (lft (dueOf ds) (coins + (ws.map (·.2)).sum) rs)]) → H' pl = some (.lst (fs.map V.ref)) → fs.length = ds.length → (∀ (k : Nat) (d : Db) (f : Addr) (ri : Nat), ds[k]? = some d → fs[k]? = some f → rs[ri]? = some d.2.1 → SqT K H' f (fv (shr (dueOf ds) (coins + (ws.map (·.2)).sum) rs d ri))) → Q (.ref q) H'
abbrev nLde : List Str := ["estate", "coins", "things", "debts", "left", "paid", "k", "ranks", "rank", "due", "thing", "debt"]
theorem scLde : FnScope nLde ["estate"] (defScope sLde) := ⟨rfl, rfl, rfl, by decide +kernel, rfl, by decide +kernel, by decide +kernel⟩
theorem ok_lde {f : Addr} {fd : FuncData} (F : Fun K "_law_debts" "_law_debts" sLde f fd) (T : Txt mg) (mgSum : mg "sum" = none) (mgMin : mg "min" = none) (mgSorted : mg "sorted" = none) (mgRange : mg "range" = none) (TF : Has P w K mg base CX0 "_law_fraction" ["top", "bottom"] 2 spLow) : FnOk P w K mg base CX0 3 f fd ["estate"] (spLde K) := by
  obtain ⟨fF, fdF, mF, kF, bF, GF⟩ := TF.ok
  refine F.ok scLde (fun vs H Q E h => ?_) (fun cdv A outer s H vs Q E hr h => ?_)
  · obtain ⟨p, t, u, coins, ws, ds, qs, us, rs, rfl, _⟩ := h
    rfl
  · obtain ⟨p, t, u, coins, ws, ds, qs, us, rs, rfl, hp, ht, hT, hu, hU, E, R, go⟩ := h
    refine ⟨_, (pss_cons (ps_asg (pv 0) (pg_unl (n := 3) rfl (pgs_cons (pg_name (i := 1) scLde.nd rfl (.inl rfl)) (pgs_cons (pg_name (i := 2) scLde.nd rfl (.inl rfl)) (pgs_cons (pg_name (i := 3) scLde.nd rfl (.inr rfl)) pgs_nil)))))
      (pss_cons (ps_set (i := 4) scLde.nd rfl (.inl rfl) (pe_op op_add (pv 1) (pe_callB (cr_sum rfl) (by rfl) mgSum (by decide +kernel) (pa_cons (pe_lc (own := [("thing", 10)]) (g := gName 10) (tt := tYes) rfl scLde.nd (pi_tup (pv 2)) (blkOk_by (N := nLde) (sc := defScope sLde) (by decide +kernel)) (fun _ _ _ _ _ => (pg_name (i := 10) scLde.nd rfl (.inl rfl) (.inr rfl))) (fun _ _ _ _ _ => pts_nil) (fun _ _ _ _ _ => (pe_ix (show IxR _ (rIxT K) from ix_tup) (pv 10) pe_int (fun _ _ => rfl)))) pa_nil))))
      (pss_cons (ps_set (i := 5) scLde.nd rfl (.inl rfl) (pe_op op_rep (pe_lst (pa_cons (pe_tup (pa_cons pe_int (pa_cons pe_int pa_nil))) pa_nil)) (pe_callB call_len_seq (by rfl) T.len PySem.boot_len (pa_cons (pv 3) pa_nil))))
      (pss_cons (ps_set (i := 7) scLde.nd rfl (.inl rfl) (pe_callB cr_sortedI (by rfl) mgSorted (by decide +kernel) (pa_cons (pe_lc (own := [("k", 6)]) (g := gName 6) rfl scLde.nd (pi_range1 rfl mgRange (pa_cons (pe_callB call_len_seq (by rfl) T.len PySem.boot_len (pa_cons (pv 3) pa_nil)) pa_nil)) (blkOk_by (N := nLde) (sc := defScope sLde) (by decide +kernel)) (fun _ _ _ _ _ => (pg_name (i := 6) scLde.nd rfl (.inl rfl) (.inr rfl))) (fun _ _ _ _ _ => pts_one (pt_cmpR (show OpR _ _ (rIn K true) from op_notIn_seq) (pe_ix (show IxR _ (rIxT K) from ix_tup) (pe_ix (show IxR _ (rIxT K) from ix_tup) (pv 3) (pv 6) (fun _ _ => rfl)) pe_int (fun _ _ => rfl)) (show PE _ _ (tLc (iTup K _) (gName 11) tYes _ [11]) from pe_lc (own := [("debt", 11)]) (g := gName 11) (tt := tYes) rfl scLde.nd (pi_tup (pe_slice (show SlR _ (rSlT K) from sl_tup) (pv 3) po_none (po_some (pv 6)))) (blkOk_by (N := nLde) (sc := { kind := PySem.ScopeKind.function, names := [(".0", PySem.NameKind.local), ("k", PySem.NameKind.local), ("debts", PySem.NameKind.cell)], isGenerator := false, isCoroutine := false }) (by decide +kernel)) (fun _ _ _ _ _ => (pg_name (i := 11) scLde.nd rfl (.inl rfl) (.inr rfl))) (fun _ _ _ _ _ => pts_nil) (fun _ _ _ _ _ => (pe_ix (show IxR _ (rIxT K) from ix_tup) (pv 11) pe_int (fun _ _ => rfl)))) (by rfl))) (fun _ _ _ _ _ => (pe_ix (show IxR _ (rIxT K) from ix_tup) (pe_ix (show IxR _ (rIxT K) from ix_tup) (pv 3) (pv 6) (fun _ _ => rfl)) pe_int (fun _ _ => rfl)))) pa_nil)))
      (pss_cons (ps_for PassesOwn.never rfl (pi_list (pv 7)) (pg_name (i := 8) scLde.nd rfl (.inr rfl)) (pss_cons (ps_set (i := 9) scLde.nd rfl (.inl rfl) (pe_callB (cr_sum rfl) (by rfl) mgSum (by decide +kernel) (pa_cons (pe_lc (own := [("debt", 11)]) (g := gName 11) rfl scLde.nd (pi_tup (pv 3)) (blkOk_by (N := nLde) (sc := defScope sLde) (by decide +kernel)) (fun _ _ _ _ _ => (pg_name (i := 11) scLde.nd rfl (.inl rfl) (.inr rfl))) (fun _ _ _ _ _ => pts_one (pt_cmpR op_eq (pe_ix (show IxR _ (rIxT K) from ix_tup) (pv 11) pe_int (fun _ _ => rfl)) (pv 8) (nomark _))) (fun _ _ _ _ _ => (pe_ix (show IxR _ (rIxT K) from ix_tup) (pv 11) pe_int (fun _ _ => rfl)))) pa_nil)))
      (pss_cons (ps_for PassesOwn.never rfl (pi_range1 rfl mgRange (pa_cons (pe_callB call_len_seq (by rfl) T.len PySem.boot_len (pa_cons (pv 3) pa_nil)) pa_nil)) (pg_name (i := 6) scLde.nd rfl (.inl rfl)) (pss_one (ps_if (PW.pt (pw_and (pt_cmpR op_eq (pe_ix ix_tup (pe_ix ix_tup (pv 3) (pv 6) (fun _ _ => rfl)) pe_int (fun _ _ => rfl)) (pv 8) (nomark _)) (pw_and1 (pt_cmpR op_gt (pv 9) pe_int (nomark _))))) (pss_one (ps_asg (pe_call GF (hr.mono (by decide)) (by rfl) mF kF bF .nil pass0 (pa_cons (pe_op op_mul (pe_ix ix_tup (pe_ix ix_tup (pv 3) (pv 6) (fun _ _ => rfl)) pe_int (fun _ _ => rfl)) (pe_callB (call_min2 rfl) (by rfl) mgMin (by decide +kernel) (pa_cons (pv 4) (pa_cons (pv 9) pa_nil)))) (pa_cons (pv 9) pa_nil))) (pg_sub (pv 5) (pv 6) set_list))) pss_nil)))
      (pss_one (ps_set (i := 4) scLde.nd rfl (.inl rfl) (pe_op op_sub (pv 4) (pe_callB (call_min2 rfl) (by rfl) mgMin (by decide +kernel) (pa_cons (pv 4) (pa_cons (pv 9) pa_nil)))))))))
      (pss_one (ps_ret (pe_lst (pa_cons (pv 5) (pa_cons (pv 4) pa_nil)))))))))), ?_⟩
    have lus : us.length = ds.length := by
      have := hU.1
      rw [List.length_map] at this
      exact this
    have lqs : qs.length = ws.length := by
      have := hT.1
      rw [List.length_map] at this
      exact this
    have z3 : ws.length ≤ 3 := by
      have := E.n.length_le
      rw [List.length_map] at this
      exact this
    have z4 := E.l
    have gu {i : Nat} {v : V} (h : (us.map V.ref)[i]? = some v) : ∃ q d, us[i]? = some q ∧ ds[i]? = some d ∧ v = .ref q := by
      rw [List.getElem?_map] at h
      obtain ⟨q, hq, rfl⟩ := Option.map_eq_some_iff.mp h
      exact ⟨q, ds[i]'(by have := (List.getElem?_eq_some_iff.mp hq).1; omega), hq, List.getElem?_eq_getElem _, rfl⟩
    have du {i : Nat} {q : Addr} {d : Db} {Hz : Hp} (s : Same H Hz) (h1 : us[i]? = some q) (h2 : ds[i]? = some d) : Hz q = some (.tup (dc d)) := s _ _ (hU.2 i q (dc d) h1 (by rw [List.getElem?_map, h2]; rfl))
    have uat {i : Nat} {q : Addr} (h1 : us[i]? = some q) : atI (us.map V.ref) (i : Int) = some (.ref q) := atI_nat (by rw [List.getElem?_map, h1]; rfl)
    have dsz := due_sz ds E.da
    have dz (r : Int) : 0 ≤ dueOf ds r ∧ dueOf ds r ≤ 3000000000 := by
      have := dsz r
      omega
    refine ⟨_, rfl, p, _, rfl, SqL.of hp, rfl, _, _, rfl, _, _, rfl, _, _, rfl, rfl, ?_⟩
    refine ⟨_, rfl, _, rfl, t, rfl, ⟨_, SqT.of ht⟩, fun D1 nD1 => ?_⟩
    refine lc_it (walk_tup (xs := qs.map V.ref)) (fun i Hy => Same H Hy ∧ Hy D1 = some (.lst (((ws.take i).map (·.2)).map V.int))) ⟨same_upd nD1, upd_same⟩ (fun i Hy _ h => SqT.of (h.1 _ _ ht)) ?_ ?_
    · rintro i v Hy H' hi ⟨k1, k2⟩ ⟨rfl, ev⟩
      rw [List.getElem?_map] at ev
      obtain ⟨q, hq, rfl⟩ := Option.map_eq_some_iff.mp ev
      have hi' : i < ws.length := by have := (List.getElem?_eq_some_iff.mp hq).1; omega
      have hw : ws[i]? = some ws[i] := List.getElem?_eq_getElem hi'
      have hq' := k1 _ _ (hT.2 i q (tc ws[i]) hq (by rw [List.getElem?_map, hw]; rfl))
      refine ⟨rfl, _, rfl, q, _, 1, .int ws[i].2, rfl, rfl, SqT.of hq', atI_nat (j := 1) rfl, _, k2, ?_, ?_, ?_⟩
      · rw [List.length_map, List.length_map, List.length_take]
        exact small1000 (by omega)
      · intro b o hb
        rw [upd_ne (ne_of_none hb nD1)]
        exact k1 b o hb
      · rw [upd_same, List.take_add_one, hw, List.map_append, List.map_append]
        rfl
    · rintro H1 ⟨k1, k2⟩
      rw [List.length_map, lqs, List.take_length] at k2
      refine ⟨D1, _, rfl, SqL.of k2, _, _, rfl, rfl, ?_⟩
      show gName 4 (V.int (coins + (ws.map (·.2)).sum)) _ _ _
      clear k2 nD1
      have ws0 : 0 ≤ (ws.map (·.2)).sum := by
        have : ∀ l : List (Str × Int), (∀ p ∈ l, 0 ≤ p.2 ∧ p.2 ≤ 1000000000) → 0 ≤ (l.map (·.2)).sum ∧ (l.map (·.2)).sum ≤ 1000000000 * (l.length : Int) := by
          intro l
          induction l with
          | nil => exact fun _ => ⟨Int.le_refl _, Int.le_refl _⟩
          | cons a l ih =>
            intro h
            obtain ⟨x, y⟩ := ih fun p hp => h p (List.mem_cons_of_mem _ hp)
            obtain ⟨z, w⟩ := h a List.mem_cons_self
            rw [List.map_cons, List.sum_cons, List.length_cons]
            omega
        exact (this ws E.w).1
      have L0 : 0 ≤ coins + (ws.map (·.2)).sum := by have := E.c0; omega
      generalize coins + (ws.map (·.2)).sum = L at L0 go ⊢
      refine ⟨(by show 2 ≤ sizeLine; decide), fun Z nZ => ⟨(by show 1 ≤ sizeLine; decide), fun L1 nL1 => ?_⟩⟩
      have sZ := same_upd nZ (o := .tup [.int 0, .int 1])
      have sL := same_upd nL1 (o := .lst [.ref Z])
      have sa := (k1.trans sZ).trans sL
      refine ⟨_, rfl, u, _, rfl, .inr (SqT.of (sa _ _ hu)), L1, _, _, rfl, rfl, upd_same, by omega, ?_, ?_, fun PL nPL => ?_⟩
      · rw [List.length_map, lus]
        omega
      · rw [List.length_map, lus]
        exact Nat.le_of_lt (small1000 (by show 1 * ((ds.length : Nat) : Int).toNat ≤ 1000; omega))
      have sP := same_upd nPL (o := .lst ((List.replicate ds.length Z).map V.ref))
      have eP : (List.replicate (((us.map V.ref).length : Nat) : Int).toNat [V.ref Z]).flatten = (List.replicate ds.length Z).map V.ref := by
        rw [List.length_map, lus, Int.toNat_natCast]
        induction ds.length with
        | zero => rfl
        | succ n ih => rw [List.replicate_succ, List.flatten_cons, ih, List.replicate_succ]; rfl
      rw [eP]
      have sb := sa.trans sP
      have hZ := (sL.trans sP) _ _ (upd_same (H := H1) (a := Z) (o := .tup [.int 0, .int 1]))
      have ePL : (upd (upd (upd H1 Z (.tup [.int 0, .int 1])) L1 (.lst [.ref Z])) PL (.lst ((List.replicate ds.length Z).map V.ref))) PL = some (.lst ((List.replicate ds.length Z).map V.ref)) := upd_same
      have PLN := sa.free nPL
      generalize upd (upd (upd H1 Z (.tup [.int 0, .int 1])) L1 (.lst [.ref Z])) PL (.lst ((List.replicate ds.length Z).map V.ref)) = H2 at sb hZ ePL ⊢
      clear sZ sL sP sa nZ nL1 nPL k1
      -- the ranks
      refine ⟨_, rfl, u, _, rfl, .inr (SqT.of (sb _ _ hu)), _, rfl, by omega, (by rw [List.length_map, lus]; omega), fun D2 nD2 => ?_⟩
      rw [List.length_map, lus, Int.toNat_natCast]
      refine lc_it walk_range (fun i Hy => Same H2 Hy ∧ ∃ ks : List Int, Hy D2 = some (.lst (ks.map V.int)) ∧ ks.Nodup ∧ (∀ r, r ∈ ks ↔ ∃ d ∈ ds.take i, d.2.1 = r) ∧ ks.length ≤ i) ⟨same_upd nD2, [], upd_same, List.nodup_nil, (fun r => by simp), Nat.le_refl _⟩ (fun _ _ _ _ => trivial) ?_ ?_
      · rintro i v Hy H' hi ⟨k1, ks, k2, k3, k4, k5⟩ ⟨rfl, rfl⟩
        show gName 6 (V.int (0 + (i : Int))) _ _ _
        rw [Int.zero_add]
        obtain ⟨q, db, hq, hd, -⟩ := gu (i := i) (v := (us.map V.ref)[i]'(by rw [List.length_map, lus]; exact hi)) (List.getElem?_eq_getElem _)
        have s1 := sb.trans k1
        have hdb := du s1 hq hd
        refine ⟨rfl, _, rfl, _, rfl, u, _, _, .ref q, rfl, rfl, SqT.of (s1 _ _ hu), uat hq, q, _, 1, .int db.2.1, rfl, rfl, SqT.of hdb, atI_nat (j := 1) rfl, ?_⟩
        refine ⟨_, rfl, _, rfl, (i : Int), rfl, u, _, rfl, SqT.of (s1 _ _ hu), (by
          rw [ix_take (by rw [List.length_map, lus]; omega), List.length_map, lus]
          omega), fun T1 nT => ?_⟩
        rw [cut_take _ _ (by rw [List.length_map, lus]; omega)] at *
        have sT := same_upd nT (o := .tup ((us.map V.ref).take i))
        have s2 := s1.trans sT
        refine ⟨T1, rfl, ⟨_, SqT.of upd_same⟩, fun D3 nD3 => ?_⟩
        have hT1 : (upd H' T1 (.tup ((us.map V.ref).take i))) T1 = some (.tup ((us.map V.ref).take i)) := upd_same
        refine lc_it (walk_tup (xs := (us.map V.ref).take i)) (fun j Hw => Same (upd H' T1 (.tup ((us.map V.ref).take i))) Hw ∧ Hw D3 = some (.lst (((ds.take j).map (·.2.1)).map V.int))) ⟨same_upd nD3, upd_same⟩ (fun j Hw _ h => SqT.of (h.1 _ _ hT1)) ?_ ?_
        · rintro j v Hw H'' hj ⟨w1, w2⟩ ⟨rfl, ev⟩
          rw [List.length_take] at hj
          rw [List.getElem?_take_of_lt (by omega)] at ev
          obtain ⟨q2, d2, hq2, hd2, rfl⟩ := gu ev
          have hdb2 := du (s2.trans w1) hq2 hd2
          refine ⟨rfl, _, rfl, q2, _, 1, .int d2.2.1, rfl, rfl, SqT.of hdb2, atI_nat (j := 1) rfl, _, w2, ?_, ?_, ?_⟩
          · rw [List.length_map, List.length_map, List.length_take]
            exact small1000 (by omega)
          · intro b o hb
            rw [upd_ne (ne_of_none hb nD3)]
            exact w1 b o hb
          · rw [upd_same, List.take_add_one, hd2, List.map_append, List.map_append]
            rfl
        · rintro Hw ⟨w1, w2⟩
          rw [List.length_take, List.length_map, lus, show min i ds.length = i by omega] at w2
          refine ⟨D3, _, rfl, .inl (SqL.of w2), rfl, flat_ints _, _, rfl, ?_⟩
          rw [show (if true = true then !inV (V.int db.2.1) (((ds.take i).map (·.2.1)).map V.int) else inV (V.int db.2.1) (((ds.take i).map (·.2.1)).map V.int)) = !inV (V.int db.2.1) (((ds.take i).map (·.2.1)).map V.int) from if_pos rfl, inV_int]
          have mm : db.2.1 ∈ (ds.take i).map (·.2.1) ↔ db.2.1 ∈ ks := by
            rw [k4, List.mem_map]
          have stepM (r : Int) : (∃ d ∈ ds.take (i + 1), d.2.1 = r) ↔ (∃ d ∈ ds.take i, d.2.1 = r) ∨ db.2.1 = r := by
            rw [List.take_add_one, hd]
            exact ex_snoc
          have sw := sT.trans w1
          by_cases m : db.2.1 ∈ (ds.take i).map (·.2.1)
          · rw [decide_eq_true m]
            refine iteF ⟨k1.trans sw, ks, sw _ _ k2, k3, fun r => ?_, by omega⟩
            rw [stepM, ← k4]
            exact ⟨.inl, fun h => h.elim id fun e => e ▸ mm.mp m⟩
          · rw [decide_eq_false m]
            refine iteT ⟨_, rfl, _, rfl, u, _, _, .ref q, rfl, rfl, SqT.of ((s2.trans w1) _ _ hu), uat hq, q, _, 1, .int db.2.1, rfl, rfl, SqT.of (du (s2.trans w1) hq hd), atI_nat (j := 1) rfl, _, sw _ _ k2, ?_, ?_, ks ++ [db.2.1], ?_, ?_, fun r => ?_, ?_⟩
            · rw [List.length_map]
              exact small1000 (by omega)
            · intro b o hb
              rw [upd_ne (ne_of_none hb nD2)]
              exact sw _ _ (k1 b o hb)
            · rw [upd_same, List.map_append]
              rfl
            · refine List.nodup_append.mpr ⟨k3, List.pairwise_singleton _ _, fun a ha b hb e => m (mm.mpr ?_)⟩
              rw [← List.mem_singleton.mp hb, ← e]
              exact ha
            · rw [List.mem_append, List.mem_singleton, stepM, k4]
              exact or_congr Iff.rfl ⟨fun h => h.symm, fun h => h.symm⟩
            · rw [List.length_append]
              exact Nat.succ_le_succ k5
      · rintro H3 ⟨k1, ks, k2, k3, k4, k5⟩
        rw [List.take_length] at k4
        refine ⟨D2, ks, rfl, SqL.of k2, fun ns RL perm pw nRL => ?_⟩
        obtain rfl : ns = rs := R.one pw (perm.nodup_iff.mpr k3) fun r => perm.mem_iff.trans (k4 r)
        have sR := same_upd nRL (o := .lst (ns.map V.int))
        have sc := (sb.trans k1).trans sR
        have hZ3 := (k1.trans sR) _ _ hZ
        have ePL3 := (k1.trans sR) _ _ ePL
        have eRL : (upd H3 RL (.lst (ns.map V.int))) RL = some (.lst (ns.map V.int)) := upd_same
        have RLPL : RL ≠ PL := fun e => by rw [e] at nRL; rw [k1 _ _ ePL] at nRL; cases nRL
        generalize upd H3 RL (.lst (ns.map V.int)) = H4 at sc hZ3 ePL3 eRL ⊢
        clear sR k1 k2 nRL nD2 hZ ePL sb
        refine ⟨_, rfl, RL, rfl, ⟨_, SqL.of eRL⟩, for_it (walk_list (xs := ns.map V.int)) (fun i σ Hy => ∃ (y6 y8 y9 : Option V) (fs : List Addr), σ = [some (.ref p), some (.int coins), some (.ref t), some (.ref u), some (.int (lft (dueOf ds) L (ns.take i))), some (.ref PL), y6, some (.ref RL), y8, y9, none, none] ∧ Same H Hy ∧ Hy RL = some (.lst (ns.map V.int)) ∧ Hy PL = some (.lst (fs.map V.ref)) ∧ fs.length = ds.length ∧ Pd K ds L ns Hy i 0 fs)
          ⟨none, none, none, List.replicate ds.length Z, rfl, sc, eRL, ePL3, List.length_replicate, fun k d f ri _ hf _ => ?_⟩ (fun i σ Hy _ ⟨_, _, _, _, _, _, h, _⟩ => SqL.of h) ?_ ?_⟩
        · rw [if_neg (by omega), fv0]
          rw [List.eq_of_mem_replicate (List.mem_of_getElem? hf)]
          exact SqT.of hZ3
        · rintro i v σ Hy H' hi ⟨y6, y8, y9, fs, rfl, sy, eR, eP, lf, hJ⟩ ⟨rfl, ev⟩
          rw [List.getElem?_map] at ev
          obtain ⟨r, er, rfl⟩ := Option.map_eq_some_iff.mp ev
          have step : ns.take (i + 1) = ns.take i ++ [r] := by rw [List.take_add_one, er]; rfl
          have lz := lft_sz (dueOf ds) (fun r => (dz r).1) L (ns.take i) L0
          refine ⟨_, rfl, u, rfl, ⟨_, SqT.of (sy _ _ hu)⟩, fun D4 nD4 => ?_⟩
          refine lc_it (walk_tup (xs := us.map V.ref)) (fun j Hz => Same H' Hz ∧ Hz D4 = some (.lst ((((ds.take j).filter fun d => decide (d.2.1 = r)).map (·.2.2)).map V.int))) ⟨same_upd nD4, upd_same⟩ (fun j Hz _ h => SqT.of ((sy.trans h.1) _ _ hu)) ?_ ?_
          · rintro j v Hz H'' hj ⟨k1, k2⟩ ⟨rfl, ev⟩
            obtain ⟨q, db, hq, hd, rfl⟩ := gu ev
            have hdb := du (sy.trans k1) hq hd
            have fst : (ds.take (j + 1)).filter (fun d => decide (d.2.1 = r)) = (ds.take j).filter (fun d => decide (d.2.1 = r)) ++ if db.2.1 = r then [db] else [] := by
              rw [List.take_add_one, hd, List.filter_append]
              congr 1
              show List.filter _ [db] = _
              rw [List.filter_cons, List.filter_nil]
              by_cases e : db.2.1 = r
              · rw [decide_eq_true e, if_pos rfl, if_pos e]
              · rw [decide_eq_false e, if_neg (by decide), if_neg e]
            refine ⟨rfl, _, rfl, q, _, 1, .int db.2.1, rfl, rfl, SqT.of hdb, atI_nat (j := 1) rfl, _, rfl, rfl, _, rfl, ?_⟩
            by_cases e : db.2.1 = r
            · rw [decide_eq_true (congrArg V.int e)]
              rw [if_pos e] at fst
              refine iteT ⟨_, rfl, q, _, 2, .int db.2.2, rfl, rfl, SqT.of hdb, atI_nat (j := 2) rfl, _, k2, ?_, ?_, ?_⟩
              · rw [List.length_map, List.length_map]
                have h1 := List.length_filter_le (fun d : Db => decide (d.2.1 = r)) (ds.take j)
                rw [List.length_take] at h1
                exact small1000 (by omega)
              · intro b o hb
                rw [upd_ne (ne_of_none hb nD4)]
                exact k1 b o hb
              · rw [upd_same, fst, List.map_append, List.map_append]
                rfl
            · rw [decide_eq_false (fun z => e (V.int.inj z))]
              rw [if_neg e, List.append_nil] at fst
              refine iteF ⟨k1, ?_⟩
              rw [fst]
              exact k2
          · rintro H5 ⟨k1, k2⟩
            rw [List.length_map, lus, List.take_length] at k2
            refine ⟨D4, _, rfl, SqL.of k2, ?_⟩
            show gName 9 (V.int (dueOf ds r)) _ _ _
            have s5 := sy.trans k1
            have emin : (if dueOf ds r < lft (dueOf ds) L (ns.take i) then dueOf ds r else lft (dueOf ds) L (ns.take i)) = min (lft (dueOf ds) L (ns.take i)) (dueOf ds r) := by
              split <;> omega
            refine ⟨_, rfl, u, _, rfl, .inr (SqT.of (s5 _ _ hu)), _, rfl, by omega, (by rw [List.length_map, lus]; omega), ?_⟩
            rw [List.length_map, lus, Int.toNat_natCast]
            refine for_range (lo := 0) (n := ds.length) (fun j σ Hz => ∃ (y6 : Option V) (fs : List Addr), σ = [some (.ref p), some (.int coins), some (.ref t), some (.ref u), some (.int (lft (dueOf ds) L (ns.take i))), some (.ref PL), y6, some (.ref RL), some (.int r), some (.int (dueOf ds r)), none, none] ∧ Same H Hz ∧ Hz RL = some (.lst (ns.map V.int)) ∧ Hz PL = some (.lst (fs.map V.ref)) ∧ fs.length = ds.length ∧ Pd K ds L ns Hz i j fs)
              ⟨y6, fs, rfl, s5, k1 _ _ eR, k1 _ _ eP, lf, fun k d f ri a b c => sameT k1 (hJ k d f ri a b c)⟩ ?_ ?_
            · rintro j σ Hz hj ⟨y6, fs, rfl, sz, eR, eP, lf, hJ⟩
              obtain ⟨q, db, hq, hd, -⟩ := gu (i := j) (v := (us.map V.ref)[j]'(by rw [List.length_map, lus]; exact hj)) (List.getElem?_eq_getElem _)
              have hdb := du sz hq hd
              have am := E.da db (List.mem_of_getElem? hd)
              show gName 6 (V.int (0 + (j : Int))) _ _ _
              rw [Int.zero_add]
              refine ⟨_, rfl, _, rfl, u, _, _, .ref q, rfl, rfl, SqT.of (sz _ _ hu), uat hq, q, _, 1, .int db.2.1, rfl, rfl, SqT.of hdb, atI_nat (j := 1) rfl, _, rfl, rfl, _, rfl, ?_⟩
              by_cases e : db.2.1 = r
              · rw [decide_eq_true (congrArg V.int e)]
                refine iteT ⟨_, rfl, _, _, rfl, rfl, _, rfl, ite2 (fun c => ?_) (fun c => ?_)⟩
                · have c' : 0 < dueOf ds r := of_decide_eq_true c
                  refine ⟨_, rfl, _, rfl, u, _, _, .ref q, rfl, rfl, SqT.of (sz _ _ hu), uat hq, q, _, 2, .int db.2.2, rfl, rfl, SqT.of hdb, atI_nat (j := 2) rfl, _, rfl, _, rfl, _, _, rfl, _, _, rfl, rfl, .inl ⟨by omega, by omega⟩, _, rfl, _, _, rfl, c', (by have := (dz r).2; omega), fun f nf => ?_⟩
                  rw [emin]
                  have sf := same_upd nf (o := .tup (fv (Rat.divInt (db.2.2 * min (lft (dueOf ds) L (ns.take i)) (dueOf ds r)) (dueOf ds r))))
                  refine ⟨_, rfl, _, rfl, PL, _, _, j, rfl, rfl, sf _ _ eP, ixn (by rw [List.length_map, lf]; exact hj), ?_⟩
                  have eset : (fs.map V.ref).set j (.ref f) = (fs.set j f).map V.ref := by rw [List.map_set]
                  rw [eset]
                  have kp {q : Addr} {o o' : HO} (h : (upd Hz f (.tup (fv (Rat.divInt (db.2.2 * min (lft (dueOf ds) L (ns.take i)) (dueOf ds r)) (dueOf ds r))))) q = some o) (n : q ≠ PL) : (upd (upd Hz f (.tup (fv (Rat.divInt (db.2.2 * min (lft (dueOf ds) L (ns.take i)) (dueOf ds r)) (dueOf ds r))))) PL o') q = some o := by rw [upd_ne n]; exact h
                  refine ⟨_, fs.set j f, rfl, fun b o hb => kp (sf _ _ (sz b o hb)) (ne_of_none hb PLN), kp (sf _ _ eR) RLPL, upd_same, by rw [List.length_set]; exact lf, hJ.step R (fun q xs h => sq_upd (sf _ _ eP) (sameT sf h)) (fun k kj => List.getElem?_set_ne (Ne.symm kj)) (fun d f' h1 h2 h3 => ?_) (fun d f' h1 h2 h3 => ?_)⟩
                  · rw [hd] at h1
                    obtain rfl := Option.some.inj h1
                    rw [List.getElem?_set_self (by rw [lf]; exact hj)] at h2
                    obtain rfl := Option.some.inj h2
                    refine sq_upd (sf _ _ eP) ?_
                    have es : shr (dueOf ds) L ns db i = Rat.divInt (db.2.2 * min (lft (dueOf ds) L (ns.take i)) (dueOf ds r)) (dueOf ds r) := by
                      unfold shr pt
                      rw [e, if_pos c', int_div]
                    rw [es]
                    exact SqT.of upd_same
                  · rw [hd] at h1
                    obtain rfl := Option.some.inj h1
                    exact absurd (by rw [e]; exact er) h3
                · have c' : ¬ 0 < dueOf ds r := fun z => c (decide_eq_true z)
                  refine ⟨_, fs, rfl, sz, eR, eP, lf, hJ.step R (fun q xs h => h) (fun k _ => rfl) (fun d f' h1 h2 h3 => ?_) (fun d f' h1 h2 h3 => h2)⟩
                  rw [hd] at h1
                  obtain rfl := Option.some.inj h1
                  have a0 : db.2.2 = 0 := by
                    have hle : ∀ (l : List Db), (∀ d ∈ l, 0 ≤ d.2.2 ∧ d.2.2 ≤ 1000000000) → db ∈ l → db.2.2 ≤ dueOf l db.2.1 := by
                      intro l
                      induction l with
                      | nil => intro _ h; cases h
                      | cons x l ih =>
                        intro h m
                        have h0 := (due_sz l (fun d hd => h d (List.mem_cons_of_mem _ hd)) db.2.1).1
                        have ec : dueOf (x :: l) db.2.1 = (if x.2.1 = db.2.1 then x.2.2 else 0) + dueOf l db.2.1 := by
                          unfold dueOf
                          by_cases q : x.2.1 = db.2.1
                          · rw [if_pos q, List.filter_cons, decide_eq_true q]
                            simp
                          · rw [if_neg q, List.filter_cons, decide_eq_false q]
                            simp
                        rw [ec]
                        rcases List.mem_cons.mp m with rfl | m
                        · rw [if_pos rfl]
                          omega
                        · have := ih (fun d hd => h d (List.mem_cons_of_mem _ hd)) m
                          have := (h x List.mem_cons_self).1
                          split <;> omega
                    have := hle ds E.da (List.mem_of_getElem? hd)
                    rw [e] at this
                    omega
                  have es : shr (dueOf ds) L ns db i = 0 := by
                    unfold shr
                    rw [a0]
                    exact Rat.zero_mul _
                  rw [es]
                  have := hJ j db f' i hd h2 h3
                  rw [if_neg (by omega)] at this
                  exact this
              · rw [decide_eq_false (fun z => e (V.int.inj z))]
                refine iteF ⟨_, fs, rfl, sz, eR, eP, lf, hJ.step R (fun q xs h => h) (fun k _ => rfl) (fun d f' h1 h2 h3 => ?_) (fun d f' h1 h2 h3 => h2)⟩
                rw [hd] at h1
                obtain rfl := Option.some.inj h1
                rw [er] at h3
                exact absurd (Option.some.inj h3).symm e
            · rintro σ Hz ⟨y6, fs, rfl, sz, eR, eP, lf, hJ⟩
              refine ⟨_, rfl, _, rfl, _, rfl, _, _, rfl, _, _, rfl, rfl, ?_⟩
              rw [emin]
              refine ⟨y6, some (.int r), some (.int (dueOf ds r)), fs, by rw [step, lft_snoc]; rfl, sz, eR, eP, lf, fun k d f ri h1 h2 h3 => ?_⟩
              have := hJ k d f ri h1 h2 h3
              have kl : k < ds.length := (List.getElem?_eq_some_iff.mp h1).1
              rw [show (if ri < i + 1 ∨ ri = i + 1 ∧ k < 0 then shr (dueOf ds) L ns d ri else 0) = (if ri < i ∨ ri = i ∧ k < ds.length then shr (dueOf ds) L ns d ri else 0) by
                by_cases c : ri < i + 1
                · rw [if_pos (by omega), if_pos (by omega)]
                · rw [if_neg (by omega), if_neg (by omega)]]
              exact this
        · rintro σ Hy ⟨y6, y8, y9, fs, rfl, sy, eR, eP, lf, hJ⟩
          rw [List.length_map] at hJ ⊢
          rw [List.take_length]
          refine ⟨_, rfl, _, rfl, (by show 2 ≤ sizeLine; decide), fun qq nq => ?_⟩
          refine go qq PL _ fs (sy.trans (same_upd nq)) (sy.free nq) upd_same ((same_upd nq) _ _ eP) lf fun k d f ri h1 h2 h3 => ?_
          have := hJ k d f ri h1 h2 h3
          rw [if_pos (.inl (List.getElem?_eq_some_iff.mp h3).1)] at this
          exact sameT (same_upd nq) this
end
end K2
/-! defs that show nested data: what they promise where no showing is under way -/
namespace G
open PySem L2 PyProof.Rows PySem.W
structure FnG (P : Program) (w : World) (K : PySem.W.Frag) (mg : Str → Option Value) (base : Heap) (CX : CXT) (k : Nat) (f : Addr) (fd : FuncData) (ps : List Str) (sp : Sp) : Prop where
  len : ∀ (vs : List V) (H : Hp) (Q : VK) (E : XK), sp vs H Q E → vs.length = ps.length
  run : ∀ (A : Around) (outer : List Env) (s : Shared) (H : Hp) (args : Args) (us : List Value) (vs : List V) (Q : VK) (E : XK),
    Room k A → A.guards = some [] → Env0 P w K mg base A outer s H → BindsTo s fd args (ps.zip us) → Vals vs us → sp vs H Q E → codeAny (model P w) A (Code.call (Value.ref f) args) (CR CX outer P w H s Q E) s
theorem FnG.of {P : Program} {w : World} {K : PySem.W.Frag} {mg : Str → Option Value} {base : Heap} {CX : CXT} {k : Nat} {f : Addr} {fd : FuncData} {ps : List Str} {sp : Sp} (F : FnOk P w K mg base CX k f fd ps sp) : FnG P w K mg base CX k f fd ps sp :=
  ⟨F.len, fun A outer s H args us vs Q E hr _ => F.run A outer s H args us vs Q E hr⟩
section
variable {CX : CXT} {P : Program} {w : World} {K : PySem.W.Frag} {mg : Str → Option Value} {base : Heap}
theorem fnG_of {k : Nat} {f : Addr} {name qual : Str} {params : Arguments} {body : List Stmt} {scope : Scope} {dV kV doc pm cdv ct oc : Value} {an od : Option Addr} {osl : Array (Option Value)} {N ps : List Str} {sp : Sp}
    (lk : List.lookup f K = some { cls := oc, dict := od, data := Data.func (fnOf name qual params body scope dV kV doc pm an cdv ct), slots := osl }) (hcd : codeIn K cdv qual = true) (S : FnScope N ps scope)
    (len : ∀ (vs : List V) (H : Hp) (Q : VK) (E : XK), sp vs H Q E → vs.length = ps.length)
    (hbody : ∀ (A : Around) (outer : List Env) (s : Shared) (H : Hp) (vs : List V) (Q : VK) (E : XK), Room k (A.deeper (envOfC qual scope s.heap.objs.size f cdv)) → A.guards = some [] → sp vs H Q E →
      ∃ t, PSs (cxOf CX P w K mg base N qual scope f cdv A outer s H E) body t ∧ t { nx := fun x H' => Q V.non H', rt := Q } (L2.start N vs) H) :
    FnG P w K mg base CX (k + 1) f (fnOf name qual params body scope dV kV doc pm an cdv ct) ps sp := by
  refine ⟨len, fun A outer s H args us vs Q E hr hg e0 hb r hsp => ?_⟩
  have hl := len vs H Q E hsp
  have KX : K.In s.heap := W.Frag.In.keeps e0.mod.kin fun b o e => (e0.bs b o e).1
  have lim := Heap.NoLimit.keeps e0.mod.nolimit fun b o e => (e0.bs b o e).1
  have hkind : ∀ (x : Str × Value), x ∈ ps.zip us → List.lookup x.fst scope.names = some NameKind.local ∨ List.lookup x.fst scope.names = some NameKind.cell ∧ (List.lookup x.fst (cellsFrom (s.heap.objs.size + 1) scope.names [])).isSome = true := by
    rintro ⟨n, v⟩ hy
    rcases S.par n (List.of_mem_zip hy).1 with q | q
    · exact .inl q
    · exact .inr ⟨q, W.cellsFrom_some scope.names (s.heap.objs.size + 1) [] (.inl q)⟩
  refine codeAny_call_function (Room.depth hr) (KX f _ lk) rfl S.co S.gen rfl (W.codeRec_of KX hcd) (hb (model P w) A.in1 (fun e s' => CR CX outer P w H s Q E (Except.error e) s') (fun binds s₁ => wpAny (model P w) A.in1 (newFunctionEnv (fnOf name qual params body scope dV kV doc pm an cdv ct).scope (fnOf name qual params body scope dV kV doc pm an cdv ct).globals (fnOf name qual params body scope dV kV doc pm an cdv ct).closure binds ((fnOf name qual params body scope dV kV doc pm an cdv ct).qualname ++ Str.ofString ".<locals>.") (some f) (fnOf name qual params body scope dV kV doc pm an cdv ct).code none (fnOf name qual params body scope dV kV doc pm an cdv ct).builtins) (fun env s₂ => s₂.heap.NoLimit ∧ codeAny (model P w) A (Code.func body env) (CR CX outer P w H s Q E) s₂) (fun e s' => CR CX outer P w H s Q E (Except.error e) s') s₁) ?_)
  refine wpAny_newFunctionEnv_cells S.kind hkind fun env he s1 x => ?_
  subst he
  refine ⟨Heap.NoLimit.keeps lim x.toInCall.keep, codeAny_func ?_⟩
  obtain ⟨t, ht, hq⟩ := hbody A outer s H vs Q E (Room.deeper hr (envOfC qual scope s.heap.objs.size f cdv)) hg hsp
  have I := inv_start (CX := CX) (E := E) S hr.hd e0 hl r x
  refine wpAny_mono (ht.run [] s1 (L2.start N vs) H { nx := fun x H' => Q V.non H', rt := Q } I hq) (fun fl s' hs => ?_) fun e s' hs => hs
  have fin : ∀ {σ' : L2.St} {H' : Hp} {v : V} {u : Value}, L2.Inv (cxOf CX P w K mg base N qual scope f cdv A outer s H E) [] σ' H' s' → L2.RelV v u → Q v H' → CE outer P w H s Q u s' := fun {σ'} {H'} {v} {u} J rv q => ⟨v, H', J.os, J.bare, J.base, J.hok, rv, q⟩
  cases fl with
  | next =>
    obtain ⟨σ', H', J, q⟩ := hs
    exact fin J (show L2.RelV V.non Value.none from rfl) q
  | brk =>
    obtain ⟨_, _, _, q⟩ := hs
    exact q.elim
  | cont =>
    obtain ⟨_, _, _, q⟩ := hs
    exact q.elim
  | ret u =>
    obtain ⟨v, σ', H', J, rv, q⟩ := hs
    exact fin J rv q
theorem okG {x qual : Str} {st : Stmt} {f : Addr} {fd : FuncData} {N ps : List Str} {k : Nat} {sp : Sp} (F : Fun K x qual st f fd) (S : FnScope N ps (defScope st)) (len : ∀ (vs : List V) (H : Hp) (Q : VK) (E : XK), sp vs H Q E → vs.length = ps.length)
    (hbody : ∀ (cdv : Value) (A : Around) (outer : List Env) (s : Shared) (H : Hp) (vs : List V) (Q : VK) (E : XK), Room k (A.deeper (envOfC qual (defScope st) s.heap.objs.size f cdv)) → A.guards = some [] → sp vs H Q E →
      ∃ t, PSs (cxOf CX0 P w K mg base N qual (defScope st) f cdv A outer s H E).nox (defBody st) t ∧ t { nx := fun x H' => Q V.non H', rt := Q } (L2.start N vs) H) :
    FnG P w K mg base CX0 (k + 1) f fd ps sp := by
  obtain ⟨oc, od, kV, doc, pm, an, cdv, ct, osl, rfl, lk, hcd⟩ := F.ex
  exact fnG_of lk hcd S len fun A outer s H vs Q E hr hg hsp => by
    obtain ⟨t, h, q⟩ := hbody cdv A outer s H vs Q E hr hg hsp
    exact ⟨t, h.nox, q⟩
end
theorem run_fnG {X : Cx} {CX : CXT} {k : Nat} {f : Addr} {fd : FuncData} {ps : List Str} {sp : Sp} {dvs : List V} {ds : List Value} {E : XK} {pins : List (Addr × Obj)} {σ : L2.St} {H : Hp} {s : Shared} {Q : VK} {us : List Value} {vs : List V}
    (F : FnG X.prog X.w X.K X.mg X.base CX k f fd ps sp) (hr : Room k X.A) (hg : X.A.guards = some []) (hb : L2.Binds X.K fd ps ds) (hd : Vals dvs ds) (hx : Passes CX X E) (I : L2.Inv X pins σ H s) (r : Vals vs us) (h : sp (vs ++ dvs) H Q E) :
    wpAny (model X.prog X.w) X.A (call (Value.ref f) us) (EP X pins σ Q) X.xe s := by
  have r2 := Vals.append r hd
  have hl : (us ++ ds).length = ps.length := by
    rw [← Vals.length r2]
    exact F.len _ _ _ _ h
  refine wpAny_call (codeAny_mono (F.run X.A X.stack s H { pos := us } (us ++ ds) (vs ++ dvs) Q E hr hg (Inv.env0 I) (hb s us (Inv.kIn I) hl) r2 h) fun r s' hq => ?_)
  cases r with
  | error e => exact hx pins σ H s e s' I hq
  | ok fl =>
    cases fl with
    | next => exact hq.elim
    | brk => exact hq.elim
    | cont => exact hq.elim
    | ret u => exact Inv.after I hq
theorem pe_callG {X : Cx} {CX : CXT} {k : Nat} {f : Addr} {fd : FuncData} {ps : List Str} {sp : Sp} {dvs : List V} {ds : List Value} {E : XK} {x : Str} {p pos : Pos} {e : Expr} {es : List Expr} {t : TA}
    (F : FnG X.prog X.w X.K X.mg X.base CX k f fd ps sp) (hr : Room k X.A) (hgd : X.A.guards = some []) (hg : Gl X x) (hm : X.mg x = some (Value.ref f)) (hk : PySem.W.keepIn X.K (Value.ref f) = true) (hb : L2.Binds X.K fd ps ds) (hd : Vals dvs ds) (hx : Passes CX X E) (ha : PA X (e :: es) t)
    (hdb : (x == Str.ofString "__debug__") = false := by decide) (he : starEach (e :: es) X.env = (false, eval e X.env) :: starEach es X.env := by rfl) (hpl : ((backTo pos (starEach es X.env)).any fun x => x.fst) = false := by rfl) :
    PE X ((Expr.Name x p).Call (e :: es) [] pos) (tCall sp dvs E t) :=
  ⟨fun pins s σ H Q I h => wpAny_Call_Name_kw (ld_glob I hg hm (W.callWith_K I.ok.mod.kin hk (thn (ha.run pos pins s σ H (fun vs H1 => sp (vs ++ dvs) H1 Q E) I h) fun us s1 hh => by
    obtain ⟨vs, H1, I1, r, q⟩ := hh
    exact ⟨Inv.kIn I1, run_fnG F hr hgd hb hd hx I1 r q⟩) he hpl) hdb)⟩
/-! repr of nested data -/
def rRepr (K : PySem.W.Frag) : List V → Hp → VK → Prop := fun vs H Q => ∃ (a : Addr) (d : PyData), vs = [.ref a] ∧ Dp K H (.ref a) d ∧ d.showable = true ∧ d.hasDict = false ∧ d.depth ≤ 64 ∧ d.shown.length ≤ sizeLine ∧ Q (.str d.shown) H
theorem cr_repr {X : Cx} (hg : X.A.guards = some []) (hu : X.A.units + 65 < cLine) : CallR X (.builtin "repr") (rRepr X.K) := by
  intro pins s σ H vs us Q I r h
  obtain ⟨a, d, rfl, hd, h1, h2, h3, h4, go⟩ := h
  obtain ⟨u, rfl, ru⟩ := vals1 r
  obtain rfl : u = Value.ref a := ru
  obtain ⟨as, hr⟩ := Dp.reads I d (.ref a) (.ref a) hd rfl
  refine repr_of_reads' hr h1 (fun e => by rw [h2] at e; cases e) hg (by omega) (fun b o e => e) (fun h' u tk k => ?_) h4
  exact ⟨.str d.shown, H, I.kept k, ⟨u, rfl⟩, go⟩
end G
namespace G
open PySem L2 PyProof.Rows PySem.W
section
variable {P : Program} {w : World} {K : PySem.W.Frag} {mg mb : Str → Option Value}
theorem law_callG {CX : CXT} {k : Nat} {fa a : Addr} {fd : FuncData} {x : Str} {sp : Sp} {s₁ : Shared} {vs : List Value} {ns : List Int}
    (KX : K.In s₁.heap) (hns : s₁.heap.Ns mainGlobals mg) (hb : s₁.heap.Ns builtinsNs mb) (hbb : ∀ (x : Str), x ≠ Str.ofString "__name__" → mb x = bootBuiltins x) (hlim : s₁.heap.NoLimit) (hg : s₁.gens = #[])
    (ha : s₁.heap.get? a = some { cls := Value.type "list", data := Data.seq vs.toArray }) (hi : IntsAre vs ns) (hl : ns.length ≤ sizeLine) (hr : Room k callerA)
    (F : ∀ (base : Heap), K.In base → base.Ns mainGlobals mg → FnG P w K mg base CX k fa fd [x] sp) (hbind : ∀ (s : Shared) (u : Value), BindsTo s fd { pos := [u] } [(x, u)])
    (hsp : ∀ (H : Hp), Only H → SqL K H a (List.map V.int ns) → sp [V.ref a] H (fun v _ => v = V.bl true) fun _ _ _ => False)
    (hCX : ∀ (H : Hp) (e : Value) (s' : Shared), CX [] H s₁ (fun _ _ _ => False) e s' → False) :
    codeAny (model P w) callerA (Code.call (Value.ref fa) { pos := [Value.ref a] }) (fun r s' => r = Except.ok (Flow.ret (Value.bool true)) ∧ OldK s₁.heap s'.heap ∧ s'.os = s₁.os ∧ AllBare s'.gens) s₁ := by
  have rv := vals_ints hi
  have lenV := IntsAre.length hi
  have core : ∀ H : Hp, Only H → SqL K H a (ns.map V.int) → HOk P w H s₁.heap → (∀ b, H b ≠ none → b = a) → (H a ≠ none → List.lookup a K = none) →
      codeAny (model P w) callerA (Code.call (Value.ref fa) { pos := [Value.ref a] }) (fun r s' => r = Except.ok (Flow.ret (Value.bool true)) ∧ OldK s₁.heap s'.heap ∧ s'.os = s₁.os ∧ AllBare s'.gens) s₁ := by
    intro H hO hS hok hA hK
    have noA : ∀ {b : Addr} {o : Obj} {es : Array DictEntry} {ep : Nat}, s₁.heap.get? b = some o → o.data = .dict es ep → H b = none := by
      intro b o es ep e d
      cases q : H b with
      | none => rfl
      | some u =>
        have e' := hA b (by rw [q]; exact fun z => by cases z)
        subst e'
        rw [ha] at e
        rw [← Option.some.inj e] at d
        cases d
    have nsK : ∀ {b : Addr} {m : Str → Option Value}, s₁.heap.Ns b m → (hidT s₁.heap H).Ns b m := fun ⟨o, es, ep, e, d, r⟩ => ⟨o, es, ep, hidT_get e (noA e d), d, r⟩
    have hKb : K.In (hidT s₁.heap H) := fun b o e => hidT_get (KX b o e) (by
      cases q : H b with
      | none => rfl
      | some u =>
        have e' := hA b (by rw [q]; exact fun z => by cases z)
        subst e'
        rw [hK (by rw [q]; exact fun z => by cases z)] at e
        cases e)
    have hM : L2.Mod K mg (hidT s₁.heap H) := ⟨hKb, nsK hns, ⟨mb, nsK hb, hbb⟩, match hlim with
      | ⟨mc, h1, h2⟩ => ⟨mc, nsK h1, h2⟩⟩
    have e0 : Env0 P w K mg (hidT s₁.heap H) callerA [] s₁ H := { frames := rfl, mod := hM, bs := fun b o e => of_hidT e, bsz := Nat.le_of_eq (hidT_size s₁.heap H), funs := trivial, frf := (fun b hb => by cases hb), hok := hok, bare := AllBare.of_eq hg }
    refine codeAny_mono ((F (hidT s₁.heap H) hKb (nsK hns)).run callerA [] s₁ H { pos := [Value.ref a] } [Value.ref a] [V.ref a] (fun v x => v = V.bl true) (fun x x_1 x_2 => False) hr rfl e0 (hbind s₁ (Value.ref a)) (Paired.cons rfl Paired.nil) (hsp H hO hS)) fun r s' h => ?_
    cases r with
    | error e => exact (hCX H e s' h).elim
    | ok fl =>
      cases fl with
      | next => exact h.elim
      | brk => exact h.elim
      | cont => exact h.elim
      | ret u =>
        obtain ⟨v, H', os, bare, un, hok', r', q⟩ := h
        subst q
        obtain rfl : u = Value.bool true := r'
        refine ⟨rfl, OldK.of_keep fun b o e => ?_, os, bare⟩
        cases q : H b with
        | none => exact un.keep b o e q (by simp [frs]) (by simp)
        | some u =>
          rcases hO b with z | ⟨ob, xs, z⟩
          · rw [q] at z
            cases z
          · have z2 := un.frzs b ob (HO.lst xs) z
            have e1 := (hok b _ z).1
            have e2 := (hok' b _ z2).1
            rw [e] at e1
            rw [Option.some.inj e1]
            exact e2
  cases hk : List.lookup a K with
  | none =>
    refine core (fun b => if b = a then some (HO.frz { cls := Value.type "list", data := Data.seq vs.toArray } (HO.lst (List.map V.int ns))) else none) (fun b => ?_) (.inl (.inr ⟨_, if_pos rfl⟩)) (fun b u z => ?_) (fun b z => ?_) fun _ => hk
    · by_cases hb : b = a
      · exact .inr ⟨_, _, if_pos hb⟩
      · exact .inl (if_neg hb)
    · by_cases hb : b = a
      · have z' := (if_pos hb).symm.trans z
        obtain rfl := Option.some.inj z'
        subst hb
        exact ⟨ha, by rw [List.length_map]; exact hl, vs, 0, rv, ha⟩
      · have z' := (if_neg hb).symm.trans z
        cases z'
    · by_cases hb : b = a
      · exact hb
      · exact absurd (if_neg hb) z
  | some o =>
    have e := KX a o hk
    rw [ha] at e
    obtain rfl := Option.some.inj e
    refine core (fun x => none) (fun x => .inl rfl) (.inr ⟨_, vs.toArray, 0, hk, rfl, rfl, rfl, ?_, ?_⟩) (fun b u z => by cases z) (fun b z => absurd rfl z) fun z => absurd rfl z
    · rw [List.size_toArray, lenV]
      exact hl
    · exact rv
end
theorem walk_ofBG {l : PySem.W.OpenLaw} {n k : Nat} {q : Program} {loose : List Str} {XP : (Str → Option Value) → Heap → Prop} {YP : World → Heap → Prop} {d : DefRec} {K : Params → PySem.W.Frag} {CX : World → CXT} {sp : World → Sp} {x : Str}
    (hn : l.most = some n) (hn2 : n ≤ sizeLine) (hdf : d.params.defaults = []) (hr : Room k callerA) (hY : ∀ (w : World) (h : Heap), YP w h → (K w.params).In h)
    (F : ∀ (w : World) (mg : Str → Option Value) (fa : Addr) (h : Heap), (K w.params).In h → h.Ns mainGlobals mg → mg d.name = some (Value.ref fa) → ∃ fd : FuncData, (∀ (s : Shared) (u : Value), BindsTo s fd { pos := [u] } [(x, u)]) ∧ ∀ (base : Heap), (K w.params).In base → base.Ns mainGlobals mg → FnG l.prog w (K w.params) mg base (CX w) k fa fd [x] (sp w))
    (hsp : ∀ (w : World) (H : Hp) (a : Addr) (ns : List Int), ns.length ≤ n → (∀ (z : Int), z ∈ ns → Builtin.Int.intBits z ≤ 1048576) → Only H → SqL (K w.params) H a (List.map V.int ns) → sp w [V.ref a] H (fun v _ => v = V.bl true) fun _ _ _ => False)
    (hCX : ∀ (w : World) (H : Hp) (s : Shared) (e : Value) (s' : Shared), CX w [] H s (fun _ _ _ => False) e s' → False) :
    W.WalkO q loose XP YP l.row.toRowW d [] fun f vs => PySem.call f vs :=
  Att.attach_callB hn hdf fun w s₀ s₁ mg mb fa o pm cd doc a vs ns Gr Y ho hd hcd hmg hobj hints hlen hbits hg => by
    have KX := hY w s₁.heap Y
    obtain ⟨fd, hb, hF⟩ := F w mg fa s₁.heap KX Gr.T.g hmg
    exact law_callG KX Gr.T.g Gr.T.b Gr.T.builtins Gr.T.nolimit hg hobj hints (Nat.le_trans hlen hn2) hr hF hb (fun H hO hS => hsp w H a ns hlen hbits hO hS) fun H e s' => hCX w H s₁ e s'
end G
namespace K2
open PySem L2 PyProof.Rows PySem.Spec G
theorem sh_eqv {d : PyData} (h : SeqAt.shaped d = true) : PyData.eqv d d = true := SeqAt.eqv_refl d (SeqAt.canLay_of_shaped h)
theorem ne_same {K : PySem.W.Frag} {x y : V} {H : Hp} {Q : VK} {d : PyData} (h1 : Dp K H x d) (h2 : Dp K H y d) (s : SeqAt.shaped d = true) (q : Q (.bl false) H) : rNeD K x y H Q := by
  refine ⟨d, d, h1, h2, s, s, ?_⟩
  rw [sh_eqv s]
  exact q
theorem rks_ex : ∀ ds : List Db, ∃ rs, Rks ds rs
  | [] => ⟨[], .nil, fun r => ⟨fun h => absurd h (List.not_mem_nil), fun ⟨d, h, _⟩ => absurd h (List.not_mem_nil)⟩⟩
  | d :: ds => by
    obtain ⟨rs, R⟩ := rks_ex ds
    refine ⟨rs.filter (fun r => decide (r < d.2.1)) ++ d.2.1 :: rs.filter (fun r => decide (d.2.1 < r)), ?_, fun r => ?_⟩
    · refine List.pairwise_append.mpr ⟨R.pw.filter _, List.pairwise_cons.mpr ⟨fun a ha => of_decide_eq_true (List.mem_filter.mp ha).2, R.pw.filter _⟩, fun a ha b hb => ?_⟩
      have a1 := of_decide_eq_true (List.mem_filter.mp ha).2
      rcases List.mem_cons.mp hb with rfl | m
      · exact a1
      · have b1 := of_decide_eq_true (List.mem_filter.mp m).2
        omega
    · rw [List.mem_append, List.mem_cons, List.mem_filter, List.mem_filter, R.mem, decide_eq_true_eq, decide_eq_true_eq]
      constructor
      · rintro (⟨⟨e, he, rfl⟩, _⟩ | rfl | ⟨⟨e, he, rfl⟩, _⟩)
        · exact ⟨e, List.mem_cons_of_mem _ he, rfl⟩
        · exact ⟨d, List.mem_cons_self, rfl⟩
        · exact ⟨e, List.mem_cons_of_mem _ he, rfl⟩
      · rintro ⟨e, he, rfl⟩
        rcases List.mem_cons.mp he with rfl | m
        · exact .inr (.inl rfl)
        · rcases Int.lt_trichotomy e.2.1 d.2.1 with l | l | l
          · exact .inl ⟨⟨e, m, rfl⟩, l⟩
          · exact .inr (.inl l)
          · exact .inr (.inr ⟨⟨e, m, rfl⟩, l⟩)
theorem one_sub (x : Int) {y : Int} (h : 0 < y) : 1 - Rat.divInt x y = Rat.divInt (y - x) y := by
  have e : (1 : Rat) = Rat.divInt 1 1 := by decide +kernel
  rw [e, Rat.divInt_sub_divInt _ _ (by decide) (by omega)]
  rw [Int.one_mul, Int.mul_one]
/-! data -/
def fvD (q : Rat) : PyData := .tuple [.int q.num, .int (q.den : Int)]
theorem dp_fv {K : PySem.W.Frag} {H : Hp} {t : Addr} {q : Rat} (h : SqT K H t (fv q)) : Dp K H (.ref t) (fvD q) := .tup h (.cons (.int _) (.cons (.int _) .nil))
theorem sh_fv (q : Rat) : SeqAt.shaped (fvD q) = true := rfl
def tD (p : Str × Int) : PyData := .tuple [.str p.1, .int p.2]
theorem dp_tups {K : PySem.W.Frag} {H : Hp} {α : Type} {c : α → List V} {f : α → PyData} (hf : ∀ (a : Addr) (x : α), H a = some (.tup (c x)) → Dp K H (.ref a) (f x)) : ∀ {qs : List Addr} {xs : List α}, TupsAt H qs (xs.map c) → DpAll K H (qs.map V.ref) (xs.map f)
  | [], [], _ => .nil
  | q :: qs, x :: xs, h => .cons (hf q x (h.2 0 q _ rfl rfl)) (dp_tups hf ⟨Nat.succ.inj h.1, fun i q' c' h1 h2 => h.2 (i + 1) q' c' h1 h2⟩)
  | [], _ :: _, h => by cases h.1
  | _ :: _, [], h => by cases h.1
theorem dp_tc {K : PySem.W.Frag} {H : Hp} (a : Addr) (x : Str × Int) (h : H a = some (.tup (tc x))) : Dp K H (.ref a) (tD x) := .tup (SqT.of h) (.cons (.str _) (.cons (.int _) .nil))
def dD (p : Db) : PyData := .tuple [.str p.1, .int p.2.1, .int p.2.2]
theorem dp_dc {K : PySem.W.Frag} {H : Hp} (a : Addr) (x : Db) (h : H a = some (.tup (dc x))) : Dp K H (.ref a) (dD x) := .tup (SqT.of h) (.cons (.str _) (.cons (.int _) (.cons (.int _) .nil)))
theorem lay_all {α : Type} {f : α → PyData} {xs : List α} (h : ∀ x ∈ xs, (f x).canLay0 = true) : PyData.canLayAll0 (xs.map f) = true := by
  induction xs with
  | nil => rfl
  | cons x r ih =>
    show ((f x).canLay0 && PyData.canLayAll0 (r.map f)) = true
    rw [h x List.mem_cons_self, ih fun y hy => h y (List.mem_cons_of_mem _ hy)]
    rfl
theorem dep_all {α : Type} {f : α → PyData} {n : Nat} {xs : List α} (h : ∀ x ∈ xs, (f x).depth ≤ n) : PyData.depthAll (xs.map f) ≤ n := by
  induction xs with
  | nil => exact Nat.zero_le _
  | cons x r ih =>
    show max (f x).depth (PyData.depthAll (r.map f)) ≤ n
    exact Nat.max_le.mpr ⟨h x List.mem_cons_self, ih fun y hy => h y (List.mem_cons_of_mem _ hy)⟩
theorem sh_list {α : Type} {f : α → PyData} {n : Nat} {xs : List α} (h : ∀ x ∈ xs, (f x).canLay0 = true) (g : ∀ x ∈ xs, (f x).depth ≤ n) (hn : n ≤ 63) : SeqAt.shaped (.list (xs.map f)) = true := by
  show (PyData.canLayAll0 (xs.map f) && decide (PyData.depthAll (xs.map f) + 1 ≤ 64)) = true
  have := dep_all g
  rw [lay_all h, decide_eq_true (by omega)]
  rfl
theorem lay_tD {p : Str × Int} (h : PyData.strOk p.1 = true) : (tD p).canLay0 = true := by
  show (PyData.strOk p.1 && (true && true)) = true
  rw [h]
  rfl
theorem lay_dD {p : Db} (h : PyData.strOk p.1 = true) : (dD p).canLay0 = true := by
  show (PyData.strOk p.1 && (true && (true && true))) = true
  rw [h]
  rfl
/-- the pair that a tuple holds -/
def kSI (H : Hp) : V → Str × Int
  | .ref a => match H a with
    | some (.tup [.str x, .int i]) => (x, i)
    | _ => ("", 0)
  | _ => ("", 0)
theorem kSI_at {H : Hp} {a : Addr} {p : Str × Int} (h : H a = some (.tup (tc p))) : kSI H (.ref a) = p := by
  show (match H a with
    | some (.tup [.str x, .int i]) => (x, i)
    | _ => (("" : Str), (0 : Int))) = p
  rw [h]
  rfl
theorem wOf_mem {ws : List (Str × Int)} (nd : (ws.map (·.1)).Nodup) {p : Str × Int} (h : p ∈ ws) : wOf ws p.1 = p.2 := by
  unfold wOf
  induction ws with
  | nil => cases h
  | cons a r ih =>
    rw [List.map_cons, List.nodup_cons] at nd
    rcases List.mem_cons.mp h with rfl | m
    · rw [List.find?_cons, decide_eq_true rfl]
      rfl
    · have ne : ¬ a.1 = p.1 := fun e => nd.1 (by rw [e]; exact List.mem_map.mpr ⟨p, m, rfl⟩)
      rw [List.find?_cons, decide_eq_false ne]
      exact ih nd.2 m
/-- things, sorted, are the things by their sorted names -/
theorem si_names {ws xs : List (Str × Int)} (nd : (ws.map (·.1)).Nodup) (p : xs.Perm ws) (s : xs.Pairwise fun a b => ltSI b a = false) : xs = (srt (ws.map (·.1))).map fun n => (n, wOf ws n) := by
  have e1 : xs.map (·.1) = srt (ws.map (·.1)) := by
    refine srt_one (p.map _) (List.pairwise_map.mpr (s.imp fun {a b} h => ?_))
    refine leT_iff.mpr fun z => ?_
    have : ltSI b a = true := ltSI_iff.mpr (.inl z)
    rw [this] at h
    cases h
  rw [← e1, List.map_map]
  refine (List.map_id xs).symm.trans (List.map_congr_left fun x hx => ?_)
  show x = (x.1, wOf ws x.1)
  rw [wOf_mem nd (p.mem_iff.mp hx)]
theorem dp_sorted {K : PySem.W.Frag} {H : Hp} {qs : List Addr} {ws : List (Str × Int)} (T : TupsAt H qs (ws.map tc)) (nd : (ws.map (·.1)).Nodup) {ys : List V} (s : SrtO.Srtd (fun x y => ltSI (kSI H x) (kSI H y)) ys) (p : ys.Perm (qs.map V.ref)) {H' : Hp} (sm : Same H H') : DpAll K H' ys ((srt (ws.map (·.1))).map fun n => tD (n, wOf ws n)) := by
  have ek : (qs.map V.ref).map (kSI H) = ws := by
    refine List.ext_getElem? fun i => ?_
    rw [List.getElem?_map, List.getElem?_map]
    cases e : qs[i]? with
    | none =>
      have := List.getElem?_eq_none_iff.mp e
      have l := T.1
      rw [List.length_map] at l
      exact (List.getElem?_eq_none_iff.mpr (by omega)).symm
    | some q =>
      have l := T.1
      rw [List.length_map] at l
      have hi := (List.getElem?_eq_some_iff.mp e).1
      have ew : ws[i]? = some (ws[i]'(by omega)) := List.getElem?_eq_getElem _
      rw [ew]
      show some (kSI H (.ref q)) = _
      rw [kSI_at (T.2 i q (tc (ws[i]'(by omega))) e (by rw [List.getElem?_map, ew]; rfl))]
  have e2 := si_names nd (xs := ys.map (kSI H)) ((p.map (kSI H)).trans (by rw [ek])) (List.pairwise_map.mpr s)
  rw [show ((srt (ws.map (·.1))).map fun n => tD (n, wOf ws n)) = (ys.map (kSI H)).map tD by rw [e2, List.map_map]; rfl]
  have at' : ∀ y ∈ ys, ∃ q x, y = .ref q ∧ H q = some (.tup (tc x)) := by
    intro y hy
    obtain ⟨q, hq, rfl⟩ := List.mem_map.mp (p.mem_iff.mp hy)
    obtain ⟨i, hi⟩ := List.getElem?_of_mem hq
    have l := T.1
    rw [List.length_map] at l
    have hi' := (List.getElem?_eq_some_iff.mp hi).1
    exact ⟨q, ws[i]'(by omega), rfl, T.2 i q _ hi (by rw [List.getElem?_map, List.getElem?_eq_getElem (h := by omega)]; rfl)⟩
  clear e2 s p
  induction ys with
  | nil => exact .nil
  | cons y r ih =>
    obtain ⟨q, x, rfl, hq⟩ := at' _ List.mem_cons_self
    refine .cons ?_ (ih fun y hy => at' y (List.mem_cons_of_mem _ hy))
    rw [kSI_at hq]
    exact dp_tc q x (sm _ _ hq)
/-! the lines that stand, as data -/
theorem nm_okS {x : Str} (h : isNm x = true) : PyData.strOk x = true := by
  unfold isNm at h
  rw [Bool.and_eq_true, Bool.and_eq_true] at h
  have h2 := h.2
  rw [List.all_eq_true] at h2
  show x.cps.all (· < 0x110000) = true
  rw [← Array.all_toList, List.all_eq_true]
  intro c hc
  have m := of_decide_eq_true (h2 c hc)
  have all : ∀ c ∈ signs.cps.toList, c < 0x110000 := by decide +kernel
  exact decide_eq_true (all c m)
theorem log_12 {i : Int} (h : i.natAbs < 10 ^ 12) : i.natAbs.log2 < 41 := by
  by_cases e : i.natAbs = 0
  · rw [e]; decide
  · exact (Nat.log2_lt e (k := 41)).mpr (Nat.lt_trans h (by decide))
theorem int_show {i : Int} (h : i.natAbs < 10 ^ 12) : (PyData.int i).showable = true := decide_eq_true (Nat.lt_trans (log_12 h) (by decide))
theorem int_short {i : Int} (h : i.natAbs < 10 ^ 12) : (PyData.int i).leavesShort 13 = true := decide_eq_true (PyData.shown_int_le h)
theorem int_weight {i : Int} (h : i.natAbs < 10 ^ 12) : (PyData.int i).weight ≤ 41 := by
  have := log_12 h
  show (if (i == 0) = true then 0 else i.natAbs.log2 + 1) ≤ 41
  split <;> omega
theorem str_short {z : Str} (h : PyData.strOk z = true) : (PyData.str z).leavesShort 13 = true := by
  show (z.cps.toList.all fun c => decide (c < 16 ^ 8)) = true
  rw [List.all_eq_true]
  intro c hc
  have h1 : z.cps.all (· < 0x110000) = true := h
  rw [← Array.all_toList, List.all_eq_true] at h1
  have h2 : c < 0x110000 := of_decide_eq_true (h1 c hc)
  exact decide_eq_true (Nat.lt_of_lt_of_le h2 (by decide))
theorem show_all {α : Type} {f : α → PyData} {xs : List α} (h : ∀ x ∈ xs, (f x).showable = true) : PyData.showableAll (xs.map f) = true := by
  induction xs with
  | nil => rfl
  | cons x r ih =>
    show ((f x).showable && PyData.showableAll (r.map f)) = true
    rw [h x List.mem_cons_self, ih fun y hy => h y (List.mem_cons_of_mem _ hy)]
    rfl
theorem dict_all {α : Type} {f : α → PyData} {xs : List α} (h : ∀ x ∈ xs, (f x).hasDict = false) : PyData.hasDictAll (xs.map f) = false := by
  induction xs with
  | nil => rfl
  | cons x r ih =>
    show ((f x).hasDict || PyData.hasDictAll (r.map f)) = false
    rw [h x List.mem_cons_self, ih fun y hy => h y (List.mem_cons_of_mem _ hy)]
    rfl
theorem short_all {α : Type} {f : α → PyData} {xs : List α} (h : ∀ x ∈ xs, (f x).leavesShort 13 = true) : PyData.leavesShortAll 13 (xs.map f) = true := by
  induction xs with
  | nil => rfl
  | cons x r ih =>
    show ((f x).leavesShort 13 && PyData.leavesShortAll 13 (r.map f)) = true
    rw [h x List.mem_cons_self, ih fun y hy => h y (List.mem_cons_of_mem _ hy)]
    rfl
theorem weight_all {α : Type} {f : α → PyData} {m : Nat} : ∀ {xs : List α}, (∀ x ∈ xs, (f x).weight ≤ m) → PyData.weightAll (xs.map f) ≤ xs.length * (m + 1)
  | [], _ => Nat.zero_le _
  | z :: r, h => by
    show (f z).weight + 1 + PyData.weightAll (r.map f) ≤ (r.length + 1) * (m + 1)
    have h1 := h z List.mem_cons_self
    have h2 := weight_all (m := m) (xs := r) fun y hy => h y (List.mem_cons_of_mem _ hy)
    rw [Nat.succ_mul]
    omega
def seven : List Str := ["thing", "sum", "rest", "ring", "house", "cow", "ship"]
theorem strs_ok : ∀ z ∈ seven, PyData.strOk z = true ∧ z.length ≤ 5 := by decide +kernel
theorem four_seven : ∀ z ∈ fourT, z ∈ seven := by decide +kernel
theorem seven_in : ("thing" : Str) ∈ seven ∧ ("sum" : Str) ∈ seven ∧ ("rest" : Str) ∈ seven := by decide +kernel
structure Shn (da : PyData) (n m : Nat) : Prop where
  s : da.showable = true
  d : da.hasDict = false
  p : da.depth ≤ n
  l : da.leavesShort 13 = true
  w : da.weight ≤ m
theorem shn_int {i : Int} (h : i.natAbs < 10 ^ 12) : Shn (.int i) 0 41 := ⟨int_show h, rfl, Nat.le_refl _, int_short h, int_weight h⟩
theorem shn_str {z : Str} (h : PyData.strOk z = true) (l : z.length ≤ 41) : Shn (.str z) 0 41 := ⟨rfl, rfl, Nat.le_refl _, str_short h, l⟩
theorem shn_tup {α : Type} {f : α → PyData} {n m : Nat} {xs : List α} (h : ∀ x ∈ xs, Shn (f x) n m) : Shn (.tuple (xs.map f)) (n + 1) (xs.length * (m + 1)) := ⟨show_all fun x hx => (h x hx).s, dict_all fun x hx => (h x hx).d, Nat.succ_le_succ (dep_all fun x hx => (h x hx).p), short_all fun x hx => (h x hx).l, weight_all fun x hx => (h x hx).w⟩
theorem shn_lst {α : Type} {f : α → PyData} {n m : Nat} {xs : List α} (h : ∀ x ∈ xs, Shn (f x) n m) : Shn (.list (xs.map f)) (n + 1) (xs.length * (m + 1)) := ⟨show_all fun x hx => (h x hx).s, dict_all fun x hx => (h x hx).d, Nat.succ_le_succ (dep_all fun x hx => (h x hx).p), short_all fun x hx => (h x hx).l, weight_all fun x hx => (h x hx).w⟩
theorem Shn.up {d : PyData} {n m n' m' : Nat} (h : Shn d n m) (a : n ≤ n') (b : m ≤ m') : Shn d n' m' := ⟨h.s, h.d, Nat.le_trans h.p a, h.l, Nat.le_trans h.w b⟩
theorem shn_gift {w : Wl} (g : isG w = true) (d : WlD w) : Shn (wdat w) 2 2000 := by
  cases w with
  | gift w n x ts =>
    obtain ⟨hn, ht, hx⟩ := d
    have T : Shn (.tuple (ts.map PyData.str)) 1 210 := (shn_tup (f := PyData.str) (n := 0) (m := 41) (xs := ts) fun z hz => shn_str (nm_okS (ht.2.2 z hz)) (Nat.le_trans (nm_len (ht.2.2 z hz)) (by decide))).up (Nat.le_refl _) (by have := ht.2.1; omega)
    have X : Shn (.str w) 0 41 ∧ Shn (xD x) 0 41 := by
      have ok := strs_ok
      rcases hx with ⟨rfl, z, hz, rfl⟩ | ⟨rfl, i, rfl, i0, i1⟩ | ⟨rfl, i, rfl, i0, i1⟩
      · have hz' := four_seven z hz
        exact ⟨shn_str (ok _ seven_in.1).1 (Nat.le_trans (ok _ seven_in.1).2 (by decide)), shn_str (ok _ hz').1 (Nat.le_trans (ok _ hz').2 (by decide))⟩
      · exact ⟨shn_str (ok _ seven_in.2.1).1 (Nat.le_trans (ok _ seven_in.2.1).2 (by decide)), shn_int (by omega)⟩
      · exact ⟨shn_str (ok _ seven_in.2.2).1 (Nat.le_trans (ok _ seven_in.2.2).2 (by decide)), shn_int (by omega)⟩
    have N : Shn (.int n) 0 41 := shn_int (by omega)
    refine ⟨?_, ?_, ?_, ?_, ?_⟩
    · show ((PyData.str w).showable && ((PyData.int n).showable && ((xD x).showable && ((PyData.tuple (ts.map PyData.str)).showable && true)))) = true
      rw [X.1.s, N.s, X.2.s, T.s]
      rfl
    · show ((PyData.str w).hasDict || ((PyData.int n).hasDict || ((xD x).hasDict || ((PyData.tuple (ts.map PyData.str)).hasDict || false)))) = false
      rw [X.1.d, N.d, X.2.d, T.d]
      rfl
    · show max (PyData.str w).depth (max (PyData.int n).depth (max (xD x).depth (max (PyData.tuple (ts.map PyData.str)).depth 0))) + 1 ≤ 2
      have a := X.1.p
      have b := N.p
      have c := X.2.p
      have e := T.p
      omega
    · show ((PyData.str w).leavesShort 13 && ((PyData.int n).leavesShort 13 && ((xD x).leavesShort 13 && ((PyData.tuple (ts.map PyData.str)).leavesShort 13 && true)))) = true
      rw [X.1.l, N.l, X.2.l, T.l]
      rfl
    · show (PyData.str w).weight + 1 + ((PyData.int n).weight + 1 + ((xD x).weight + 1 + ((PyData.tuple (ts.map PyData.str)).weight + 1 + 0))) ≤ 2000
      have a := X.1.w
      have b := N.w
      have c := X.2.w
      have e := T.w
      omega
  | rev n => cases g
  | all => cases g
theorem dp_stn {K : PySem.W.Frag} {H : Hp} {l : Addr} {gs : List (Addr × Wl)} (hl : H l = some (.lst (gs.map fun p => V.ref p.1))) (h : ∀ p ∈ gs, LnAt K H p.1 p.2.ln ∧ isG p.2 = true ∧ WlD p.2) : Dp K H (.ref l) (.list (gs.map fun p => wdat p.2)) := by
  refine .lst (SqL.of hl) ?_
  clear hl
  induction gs with
  | nil => exact .nil
  | cons p r ih => exact .cons (dp_wl (h p List.mem_cons_self).1 (h p List.mem_cons_self).2.2) (ih fun q hq => h q (List.mem_cons_of_mem _ hq))
/-- what repr asks of them -/
theorem stn_shows {gs : List (Addr × Wl)} (z : gs.length ≤ 6) (h : ∀ p ∈ gs, isG p.2 = true ∧ WlD p.2) : (PyData.list (gs.map fun p => wdat p.2)).showable = true ∧ (PyData.list (gs.map fun p => wdat p.2)).hasDict = false ∧ (PyData.list (gs.map fun p => wdat p.2)).depth ≤ 64 ∧ (PyData.list (gs.map fun p => wdat p.2)).shown.length ≤ sizeLine := by
  have S := shn_lst (f := fun p : Addr × Wl => wdat p.2) (n := 2) (m := 2000) (xs := gs) fun p hp => shn_gift (h p hp).1 (h p hp).2
  have e20 : (2 : Nat) ^ 20 = 1048576 := by decide
  have wt := S.w
  exact ⟨S.s, S.d, Nat.le_trans S.p (by decide), PyData.shown_fits (B := 13) (by decide) (by decide) S.l (by omega)⟩
theorem sqlS {K : PySem.W.Frag} {H H' : Hp} {a : Addr} {xs : List V} (e : Same H H') (h : SqL K H a xs) : SqL K H' a xs := by
  rcases h with (h | ⟨u, h⟩) | h
  · exact .inl (.inl (e _ _ h))
  · exact .inl (.inr ⟨u, e _ _ h⟩)
  · exact .inr h
theorem sql_but {K : PySem.W.Frag} {H H' : Hp} {d l q : Addr} {a : Nat} {zs : List Int} {xs : List V} (f : Feed H d l a zs) (b : But d H H') (h : SqL K H q xs) : SqL K H' q xs := by
  rcases h with (h | ⟨u, h⟩) | h
  · exact .inl (.inl (b _ _ h (ne_of h f.hd (by intro z; cases z))))
  · exact .inl (.inr ⟨u, b _ _ h (ne_of h f.hd (by intro z; cases z))⟩)
  · exact .inr h
theorem _root_.K2.TupsAt.same' {H H' : Hp} {qs : List Addr} {cs : List (List V)} (h : TupsAt H qs cs) (s : Same H H') : TupsAt H' qs cs := ⟨h.1, fun i q c x y => s _ _ (h.2 i q c x y)⟩
theorem noOt (d : Int) (m : Str) (r : Int) (s p : V) : (rfl5 d m r s p).lookup ("others_part" : Str) = none := by kernel_rfl
theorem six_sz : ∀ q ∈ six, 0 < q.2 ∧ q.2 ≤ 1000 ∧ 0 ≤ q.1 ∧ q.1 ≤ 1000 := by decide +kernel
theorem prs_of {K : PySem.W.Frag} {H : Hp} {t : Addr} {qs : List Addr} {ps : List (Int × Int)} (h : H t = some (.tup (qs.map V.ref))) (T : TupsAt H qs (ps.map pc)) : PrsAt K H t ps := ⟨qs, SqT.of h, by have := T.1; rw [List.length_map] at this; exact this, fun i q p a b => SqT.of (T.2 i q (pc p) a (by rw [List.getElem?_map, b]; rfl))⟩
theorem lkEc (c : Int) (d l : Addr) : (efl c d l).lookup ("coins" : Str) = some (.int c) := by kernel_rfl
theorem noTh (c : Int) (d l : Addr) : (efl c d l).lookup ("things" : Str) = none := by kernel_rfl
theorem noDb (c : Int) (d l : Addr) : (efl c d l).lookup ("debts" : Str) = none := by kernel_rfl
theorem noAl (c : Int) (d l : Addr) : (efl c d l).lookup ("all_worth" : Str) = none := by kernel_rfl
theorem noHa (c : Int) (d l : Addr) : (efl c d l).lookup ("has" : Str) = none := by kernel_rfl
theorem noWo (c : Int) (d l : Addr) : (efl c d l).lookup ("worth" : Str) = none := by kernel_rfl
theorem prs_it {K : PySem.W.Frag} {H : Hp} {a : Addr} {ps : List (Int × Int)} (h : PrsAt K H a ps) (g : ∀ q ∈ ps, partV (pc q) = true) (l : ps.length ≤ 900) : LsIt K partV H (.ref a) (some (posO ps)) := by
  obtain ⟨qs, h1, h2, h3⟩ := h
  refine ⟨a, qs.map V.ref, rfl, h1, by unfold posO; rw [List.length_map, List.length_map, h2], by rw [List.length_map, h2]; exact l, fun i x o e1 e2 => ?_⟩
  rw [List.getElem?_map] at e1
  unfold posO at e2
  rw [List.getElem?_map] at e2
  obtain ⟨q, hq, rfl⟩ := Option.map_eq_some_iff.mp e1
  obtain ⟨p, hp, rfl⟩ := Option.map_eq_some_iff.mp e2
  refine ⟨q, rfl, h3 i q p hq hp, fun y hy => ?_, g p (List.mem_of_getElem? hp)⟩
  simp only [pc, List.mem_cons, List.not_mem_nil, or_false] at hy
  rcases hy with rfl | rfl
  · exact oki _
  · exact oki _
def four : List (Int × Int) := [(1, 2), (3, 4), (1, 1), (1, 1)]
theorem four_part : ∀ q ∈ four, partV (pc q) = true := by decide +kernel
theorem four_sz : ∀ q ∈ four, 0 < q.2 ∧ q.2 ≤ 1000 ∧ 0 ≤ q.1 ∧ q.1 ≤ 1000 := by decide +kernel
theorem four_fv : (four.map fun q => fv (Rat.divInt q.1 q.2)) = four.map pc := by decide +kernel
theorem fourR_ok : rulOut (.int 0) (.str "stocks") (.int 3) (some (posO four)) = none := by decide +kernel
def pD (p : Int × Int) : PyData := .tuple [.int p.1, .int p.2]
theorem dp_pc {K : PySem.W.Frag} {H : Hp} (a : Addr) (x : Int × Int) (h : H a = some (.tup (pc x))) : Dp K H (.ref a) (pD x) := .tup (SqT.of h) (.cons (.int _) (.cons (.int _) .nil))
theorem estOut_ok {coins : Int} {ws : List (Str × Int)} {ds : List Db} (E : EstD coins ws ds) : estOut (.int coins) (ws.map some) (ds.map some) = .inr ws := by
  have e := E.run []
  rw [List.append_nil] at e
  have a : (ds.map some).all (·.isSome) = true := by
    rw [List.all_map]
    exact List.all_eq_true.mpr fun _ _ => rfl
  unfold estOut
  rw [if_neg (by rw [E.cv]; decide), e]
  show (if (ds.map some).all (·.isSome) = true then (Sum.inr ws : Str ⊕ List (Str × Int)) else .inl "debts") = _
  rw [if_pos a]
theorem ne_ref {x y : V} {H : Hp} {Q : VK} (e : x = y) (s : scal x x = true) (q : Q (.bl false) H) : rNe x y H Q := by
  subst e
  refine ⟨s, ?_⟩
  rw [decide_eq_true rfl]
  exact q
theorem kSI_all {H : Hp} {qs : List Addr} {ws : List (Str × Int)} (T : TupsAt H qs (ws.map tc)) : ∀ x ∈ qs.map V.ref, ∃ t, x = V.ref t ∧ H t = some (.tup [.str (kSI H x).1, .int (kSI H x).2]) := by
  intro x hx
  obtain ⟨q, hq, rfl⟩ := List.mem_map.mp hx
  obtain ⟨i, hi⟩ := List.getElem?_of_mem hq
  have l := T.1
  rw [List.length_map] at l
  have hi' := (List.getElem?_eq_some_iff.mp hi).1
  have h := T.2 i q (tc (ws[i]'(by omega))) hi (by rw [List.getElem?_map, List.getElem?_eq_getElem (h := by omega)]; rfl)
  refine ⟨q, rfl, ?_⟩
  rw [kSI_at h]
  exact h
theorem ws_sum0 : ∀ l : List (Str × Int), (∀ p ∈ l, 0 ≤ p.2 ∧ p.2 ≤ 1000000000) → 0 ≤ (l.map (·.2)).sum
  | [], _ => Int.le_refl _
  | a :: l, h => by
    have x := ws_sum0 l fun p hp => h p (List.mem_cons_of_mem _ hp)
    have z := (h a List.mem_cons_self).1
    rw [List.map_cons, List.sum_cons]
    omega
theorem ship_no {coins : Int} {ws : List (Str × Int)} {ds : List Db} (E : EstD coins ws ds) : decide (("ship" : Str) ∈ ws.map (·.1)) = false := by
  refine decide_eq_false fun m => ?_
  have h := E.n.subset m
  have no : ¬ ("ship" : Str) ∈ three := by decide +kernel
  exact no h
theorem dp_allI {K : PySem.W.Frag} {H : Hp} {α : Type} {f : α → PyData} : ∀ {qs : List Addr} {xs : List α}, qs.length = xs.length → (∀ (i : Nat) (q : Addr) (x : α), qs[i]? = some q → xs[i]? = some x → Dp K H (.ref q) (f x)) → DpAll K H (qs.map V.ref) (xs.map f)
  | [], [], _, _ => .nil
  | q :: qs, x :: xs, e, h => .cons (h 0 q x rfl rfl) (dp_allI (Nat.succ.inj e) fun i q' x' h1 h2 => h (i + 1) q' x' h1 h2)
  | [], _ :: _, e, _ => by cases e
  | _ :: _, [], e, _ => by cases e
def wxs (wl : List (Addr × Wl)) : List V := wl.map fun p => .ref p.1
def wos (wl : List (Addr × Wl)) : List (Option Wl) := wl.map fun p => some p.2
theorem goods_eq {wl ps : List (Addr × Wl)} (l : ps.length = wl.length) (g : Goods ps (wxs wl) (wos wl)) : ps = wl := by
  refine List.ext_getElem? fun j => ?_
  cases e : ps[j]? with
  | none =>
    have := List.getElem?_eq_none_iff.mp e
    exact (List.getElem?_eq_none_iff.mpr (by omega)).symm
  | some p =>
    obtain ⟨h1, h2⟩ := g j p e
    unfold wxs at h1
    unfold wos at h2
    rw [List.getElem?_map] at h1 h2
    obtain ⟨q, hq, e1⟩ := Option.map_eq_some_iff.mp h1
    rw [hq] at h2
    have e2 := Option.some.inj (Option.some.inj h2)
    have e3 := V.ref.inj e1
    rw [hq]
    exact congrArg some (Prod.ext e3.symm e2.symm)
theorem goods_self (wl : List (Addr × Wl)) : Goods wl (wxs wl) (wos wl) := fun j p h => ⟨by unfold wxs; rw [List.getElem?_map, h]; rfl, by unfold wos; rw [List.getElem?_map, h]; rfl⟩
theorem Wls.its {K : PySem.W.Frag} {H : Hp} {ll : Addr} {wl : List (Addr × Wl)} (W : Wls K H ll wl) : ∀ (i : Nat) (x : V) (o : Option Wl), (wxs wl)[i]? = some x → (wos wl)[i]? = some o → WlIt K H x o := by
  intro i x o h1 h2
  unfold wxs at h1
  unfold wos at h2
  rw [List.getElem?_map] at h1 h2
  obtain ⟨p, hp, rfl⟩ := Option.map_eq_some_iff.mp h1
  rw [hp] at h2
  obtain rfl := Option.some.inj h2
  have m := W.at' p (List.mem_of_getElem? hp)
  exact ⟨p.1, rfl, m.1, m.2.ok⟩
theorem wos_some {wl : List (Addr × Wl)} {i : Nat} : ¬ (wos wl)[i]? = some none := by
  intro h
  unfold wos at h
  rw [List.getElem?_map] at h
  obtain ⟨p, _, e⟩ := Option.map_eq_some_iff.mp h
  cases e
open Classical in
/-- the place of a debt's rank -/
noncomputable def rix (rs : List Int) (d : Db) : Nat := if h : ∃ i, rs[i]? = some d.2.1 then choose h else 0
open Classical in
theorem rix_at {ds : List Db} {rs : List Int} (R : Rks ds rs) {d : Db} (h : d ∈ ds) : rs[rix rs d]? = some d.2.1 := by
  have ex : ∃ i, rs[i]? = some d.2.1 := List.getElem?_of_mem ((R.mem _).mpr ⟨d, h, rfl⟩)
  unfold rix
  rw [dif_pos ex]
  exact choose_spec ex
noncomputable def pdD (du : Int → Int) (l : Int) (rs : List Int) (d : Db) : PyData := .tuple [.str d.1, fvD (shr du l rs d (rix rs d))]
theorem lay_pd {du : Int → Int} {l : Int} {rs : List Int} {d : Db} (h : PyData.strOk d.1 = true) : (pdD du l rs d).canLay0 = true := by
  show (PyData.strOk d.1 && ((true && (true && true)) && true)) = true
  rw [h]
  rfl
theorem sh_paid {du : Int → Int} {l : Int} {rs : List Int} {ds : List Db} (h : ∀ d ∈ ds, PyData.strOk d.1 = true) (i : Int) : SeqAt.shaped (.tuple [.list (ds.map (pdD du l rs)), .int i]) = true := by
  show ((PyData.canLayAll0 (ds.map (pdD du l rs)) && (true && true)) && decide (max (PyData.depthAll (ds.map (pdD du l rs)) + 1) (max 0 0) + 1 ≤ 64)) = true
  have := dep_all (f := pdD du l rs) (n := 2) (xs := ds) fun d _ => Nat.le_refl 2
  rw [lay_all fun d hd => lay_pd (h d hd), decide_eq_true (by omega)]
  rfl
section
variable {α : Type} {R : V → α → Prop} {xs : List V} {os : List α}
theorem its_take (h : ∀ (i : Nat) (x : V) (o : α), xs[i]? = some x → os[i]? = some o → R x o) (n : Nat) : ∀ (i : Nat) (x : V) (o : α), (xs.take n)[i]? = some x → (os.take n)[i]? = some o → R x o := by
  intro i x o h1 h2
  rw [List.getElem?_take] at h1 h2
  split at h1
  · next c =>
    rw [if_pos c] at h2
    exact h i x o h1 h2
  · cases h1
theorem its_drop (h : ∀ (i : Nat) (x : V) (o : α), xs[i]? = some x → os[i]? = some o → R x o) (n : Nat) : ∀ (i : Nat) (x : V) (o : α), (xs.drop n)[i]? = some x → (os.drop n)[i]? = some o → R x o := by
  intro i x o h1 h2
  rw [List.getElem?_drop] at h1 h2
  exact h _ x o h1 h2
end
theorem wxs_len (wl : List (Addr × Wl)) : (wxs wl).length = wl.length := by unfold wxs; exact List.length_map _
theorem wos_len (wl : List (Addr × Wl)) : (wos wl).length = wl.length := by unfold wos; exact List.length_map _
/-- a bad line put in -/
theorem wat_bad {wl : List (Addr × Wl)} {n : Nat} {v : V} (h : n ≤ wl.length) (l : wl.length ≤ 59) : WatIs ((wxs wl).take n ++ [v] ++ (wxs wl).drop n) ((wos wl).take n ++ [none] ++ (wos wl).drop n) (n : Int) := by
  have a := wxs_len wl
  have b := wos_len wl
  refine .bad n (wl.take n) ?_ ?_ (by rw [List.length_take]; omega) ?_
  · rw [List.length_append, List.length_append, List.length_take, List.length_drop]
    show min n (wxs wl).length + 1 + ((wxs wl).length - n) ≤ 60
    omega
  · rw [List.append_assoc, List.getElem?_append_right (by rw [List.length_take]; omega), List.length_take, show n - min n (wos wl).length = 0 by omega]
    rfl
  · intro j p e
    have hj : j < n := by
      have := (List.getElem?_eq_some_iff.mp e).1
      rw [List.length_take] at this
      omega
    rw [List.getElem?_take, if_pos hj] at e
    obtain ⟨h1, h2⟩ := goods_self wl j p e
    refine ⟨?_, ?_⟩
    · rw [List.append_assoc, List.getElem?_append_left (by rw [List.length_take]; omega), List.getElem?_take, if_pos hj]
      exact h1
    · rw [List.append_assoc, List.getElem?_append_left (by rw [List.length_take]; omega), List.getElem?_take, if_pos hj]
      exact h2
/-- the same line, many times -/
def reps (q : Addr) (n : Nat) : List (Addr × Wl) := List.replicate n (q, .rev 1)
theorem reps_xs (q : Addr) (n : Nat) : (List.replicate n [V.ref q]).flatten = wxs (reps q n) := by
  unfold wxs reps
  induction n with
  | zero => rfl
  | succ n ih => rw [List.replicate_succ, List.flatten_cons, ih, List.replicate_succ]; rfl
theorem reps_len (q : Addr) (n : Nat) : (reps q n).length = n := List.length_replicate
theorem reps_it {K : PySem.W.Frag} {H : Hp} {q : Addr} {n : Nat} (h : H q = some (.tup [.str "revoke", .int 1])) : ∀ (i : Nat) (x : V) (o : Option Wl), (wxs (reps q n))[i]? = some x → (wos (reps q n))[i]? = some o → WlIt K H x o := by
  intro i x o h1 h2
  unfold wxs at h1
  unfold wos at h2
  rw [List.getElem?_map] at h1 h2
  obtain ⟨p, hp, rfl⟩ := Option.map_eq_some_iff.mp h1
  rw [hp] at h2
  obtain rfl := Option.some.inj h2
  obtain rfl := List.eq_of_mem_replicate (List.mem_of_getElem? hp)
  exact ⟨q, rfl, ⟨SqT.of h, okw (by decide +kernel), oki _⟩, WlD.ok (w := .rev 1) (by show (0 : Int) ≤ 1 ∧ (1 : Int) < 6; decide)⟩
theorem reps_wat (q : Addr) (n : Nat) : WatIs (wxs (reps q n)) (wos (reps q n)) (if 60 < n then 60 else -1) := by
  have l : (wxs (reps q n)).length = n := by rw [wxs_len, reps_len]
  split
  · exact .long (by omega)
  · exact .ok (reps q n) (by omega) (by rw [l, reps_len]) (goods_self _)
end K2
namespace K2
open PySem L2 PyProof.Rows PySem.Spec G
section
variable {K : PySem.W.Frag} {f : Addr} {fd : FuncData}
abbrev kwR (aS : Addr) : List (Str × V) := [("days", .int 0), ("mode", .str "stocks"), ("spouse", .ref aS), ("rows", .int 3), ("steps_in", .bl true)]
abbrev psR : List Str := ["self", "days", "mode", "spouse", "rows", "steps_in"]
theorem kb5 {aS : Addr} (F : FunD K "__init__" "Rules.__init__" (defArgs sBokI) (defBody sBokI) (defScope sBokI) [] (kwR aS) f fd) : ∃ mv : List Value, KBn K fd psR 1 ["days", "mode", "spouse", "rows", "steps_in"] (fun us ws => us ++ ws) (fun vs zs => vs ++ zs) :=
  F.kbinds0 1 ["days", "mode", "spouse", "rows", "steps_in"] [] (fun us mv ws => us ++ ws) (by intro h; cases h) (fun q h => by cases h) (fun r1 _ r3 => r1.append r3) (fun D doc pm an cdv ct us mv ws h1 h2 h3 =>
    match us, mv, ws, h1, h2, h3 with
    | [u], [], [a, b, c, d, e], _, _, _ => rfl)
theorem kb4 {aS : Addr} (F : FunD K "__init__" "Rules.__init__" (defArgs sBokI) (defBody sBokI) (defScope sBokI) [] (kwR aS) f fd) : ∃ mv : List Value, KBn K fd psR 1 ["days", "mode", "spouse", "rows"] (fun us ws => us ++ (ws ++ mv)) (fun vs zs => vs ++ (zs ++ [.bl true])) :=
  F.kbinds0 1 ["days", "mode", "spouse", "rows"] [("steps_in", .bl true)] (fun us mv ws => us ++ (ws ++ mv)) (by intro h; cases h) (fun q h => by simp at h ⊢; simp [h]) (fun r1 r2 r3 => r1.append (r3.append r2)) (fun D doc pm an cdv ct us mv ws h1 h2 h3 =>
    match us, mv, ws, h1, h2, h3 with
    | [u], [m], [a, b, c, d], _, _, _ => ⟨_, _, _, _, _, _, rfl, rfl, rfl⟩)
theorem kb0 {aS : Addr} (F : FunD K "__init__" "Rules.__init__" (defArgs sBokI) (defBody sBokI) (defScope sBokI) [] (kwR aS) f fd) : ∃ ds, Vals [.int 0, .str "stocks", .ref aS, .int 3, .bl true] ds ∧ Binds K fd psR ds :=
  F.binds0 1 (by intro h; cases h) rfl (fun D doc pm an cdv ct us ks h1 h2 =>
    match us, ks, h1, h2 with
    | [u], [a, b, c, d, e], _, _ => ⟨_, _, _, _, _, _, rfl, rfl, _, _, _, _, _, _, rfl, rfl, _, _, _, _, _, _, rfl, rfl, _, _, _, _, _, _, rfl, rfl, _, _, _, _, _, _, rfl, rfl, rfl⟩)
theorem kbE {t1 t2 : Addr} (F : FunD K "__init__" "Estate.__init__" (defArgs sEstI) (defBody sEstI) (defScope sEstI) [] [("things", .ref t1), ("debts", .ref t2)] f fd) : ∃ mv : List Value, KBn K fd ["self", "coins", "things", "debts"] 2 ["things", "debts"] (fun us ws => us ++ ws) (fun vs zs => vs ++ zs) :=
  F.kbinds0 2 ["things", "debts"] [] (fun us mv ws => us ++ ws) (by intro h; cases h) (fun q h => by cases h) (fun r1 _ r3 => r1.append r3) (fun D doc pm an cdv ct us mv ws h1 h2 h3 =>
    match us, mv, ws, h1, h2, h3 with
    | [u, c], [], [a, b], _, _, _ => rfl)
end
end K2
set_option maxHeartbeats 0
namespace K2
open PySem L2 PyProof.Rows PySem.Spec G
structure LwB (mg : Str → Option Value) : Prop where
  abs : mg "abs" = none
  len : mg "len" = none
  int : mg "int" = none
  range : mg "range" = none
  sorted : mg "sorted" = none
  sum : mg "sum" = none
  list : mg "list" = none
  repr : mg "repr" = none
theorem passF {P : Program} {w : World} {X : Cx} : Passes (L2.CX P w) X (fun _ _ _ => False) := by
  intro pins σ H s e s' I h
  obtain ⟨_, _, _, _, _, _, _, _, _, _, _, _, z⟩ := h
  exact z.elim
section
variable {P : Program} {w : World} {K : PySem.W.Frag} {mg : Str → Option Value} {base : Heap}
abbrev nLaw : List Str := ["script", "feed", "rules", "names", "will", "estate", "days", "mode", "spouse", "rows", "steps", "book", "row", "top", "bottom", "plain", "parts", "one", "thing", "worth", "paid", "left", "due", "setting", "word", "coins", "things", "debts", "at", "lines", "k"]
theorem scLaw : FnScope nLaw ["script"] (defScope sLaw) := ⟨rfl, rfl, rfl, by decide +kernel, rfl, by decide +kernel, by decide +kernel⟩
def spLaw (K : PySem.W.Frag) : Sp := fun vs H Q _ => ∃ (a : Addr) (ns : List Int), vs = [.ref a] ∧ SqL K H a (ns.map V.int) ∧ ns.length ≤ 63 ∧ (∀ z ∈ ns, Builtin.Int.intBits z ≤ 1048576) ∧ ∀ H', Q (.bl true) H'
theorem law_terms {f CB CE CR CF CW : Addr} {fd : FuncData} (F : Fun K "law" "law" sLaw f fd) (B : LwB mg) (DB : BT K CB) (DE : ET K CE)
  (HCel : Has P w K mg base CX0 "_law_cell" ["script", "k"] 1 (spCel K)) (HFee : Has P w K mg base CX0 "_law_feed" ["cell", "many"] 2 spFee) (HLru : Has P w K mg base CX0 "_law_rules" ["feed"] 2 spLru) (HLwi : Has P w K mg base CX0 "_law_will" ["feed", "names"] 2 (spLwi K)) (HLes : Has P w K mg base CX0 "_law_estate" ["feed"] 2 spLes) (HLow : Has P w K mg base CX0 "_law_fraction" ["top", "bottom"] 2 spLow) (HLde : Has P w K mg base CX0 "_law_debts" ["estate"] 3 (spLde K)) (HPdd : Has P w K mg base CX0 "paid_debts" ["estate"] 4 (spPdd K CE)) (HLst : Has P w K mg base CX0 "_law_standing" ["will"] 1 (spLst K)) (HBru : Has P w K mg base CX0 "_law_bad_rules" ["rules", "kind"] 1 (spBru K)) (HRuw : Has P w K mg base CX0 "_law_rules_word" ["days", "mode", "spouse", "rows"] 7 (spRuw K)) (HBes : Has P w K mg base CX0 "_law_bad_estate" ["estate", "kind"] 1 (spBes K)) (HEsw : Has P w K mg base CX0 "_law_estate_word" ["coins", "things", "debts"] 7 (spEsw K)) (HWat : Has P w K mg base CX0 "_law_will_at" ["will"] 6 (spWat K)) (HBli : Has P w K mg base CX0 "_law_bad_line" ["kind"] 1 (spBli K))
  (HSta : Has P w K mg base (L2.CX P w) "standing" ["will"] 4 (spSta K CW))
  (HSpp : HasM P w K mg base CX0 CB "spouse_part" ["self", "row"] 2 (spSpp K CB)) (HOtp : HasM P w K mg base CX0 CB "others_part" ["self", "row"] 3 (spOtp K CB))
  (HThs : HasM P w K mg base CX0 CE "things" ["self"] 1 (spThs CE)) (HDbs : HasM P w K mg base CX0 CE "debts" ["self"] 1 (spDbs CE)) (HAll : HasM P w K mg base CX0 CE "all_worth" ["self"] 1 (spAll CE)) (HHas : HasM P w K mg base CX0 CE "has" ["self", "thing"] 1 (spHas CE)) (HWor : HasM P w K mg base CX0 CE "worth" ["self", "thing"] 1 (spWor CE))
  {fR fE : Addr} {fdR fdE : FuncData} {gR gE : List Value → List Value → List Value} {dsR : List Value} (mRu : mg "Rules" = some (.ref CB)) (MR : Mk K CB fR) (GRi : FnOk P w K mg base (L2.CX P w) 5 fR fdR ["self", "days", "mode", "spouse", "rows", "steps_in"] (spBokI K CB CR)) (bR5 : KBn K fdR ["self", "days", "mode", "spouse", "rows", "steps_in"] 1 ["days", "mode", "spouse", "rows", "steps_in"] gR (fun vs zs => vs ++ zs))
  {aS : Addr} (bR0 : Binds K fdR ["self", "days", "mode", "spouse", "rows", "steps_in"] dsR) (vR0 : Vals [.int 0, .str "stocks", .ref aS, .int 3, .bl true] dsR) (hS : ∀ H, PrsAt K H aS [(1, 2), (3, 4), (1, 1), (1, 1)])
  (mEs : mg "Estate" = some (.ref CE)) (ME : Mk K CE fE) (GEi : FnOk P w K mg base (L2.CX P w) 4 fE fdE ["self", "coins", "things", "debts"] (spEstI K CE CF)) (bE2 : KBn K fdE ["self", "coins", "things", "debts"] 2 ["things", "debts"] gE (fun vs zs => vs ++ zs)) : FnG P w K mg base CX0 9 f fd ["script"] (spLaw K) := by
  obtain ⟨fCel, fdCel, mCel, kCel, bCel, GCel⟩ := HCel.ok
  obtain ⟨fFee, fdFee, mFee, kFee, bFee, GFee⟩ := HFee.ok
  obtain ⟨fLru, fdLru, mLru, kLru, bLru, GLru⟩ := HLru.ok
  obtain ⟨fLwi, fdLwi, mLwi, kLwi, bLwi, GLwi⟩ := HLwi.ok
  obtain ⟨fLes, fdLes, mLes, kLes, bLes, GLes⟩ := HLes.ok
  obtain ⟨fLow, fdLow, mLow, kLow, bLow, GLow⟩ := HLow.ok
  obtain ⟨fLde, fdLde, mLde, kLde, bLde, GLde⟩ := HLde.ok
  obtain ⟨fPdd, fdPdd, mPdd, kPdd, bPdd, GPdd⟩ := HPdd.ok
  obtain ⟨fLst, fdLst, mLst, kLst, bLst, GLst⟩ := HLst.ok
  obtain ⟨fBru, fdBru, mBru, kBru, bBru, GBru⟩ := HBru.ok
  obtain ⟨fRuw, fdRuw, mRuw, kRuw, bRuw, GRuw⟩ := HRuw.ok
  obtain ⟨fBes, fdBes, mBes, kBes, bBes, GBes⟩ := HBes.ok
  obtain ⟨fEsw, fdEsw, mEsw, kEsw, bEsw, GEsw⟩ := HEsw.ok
  obtain ⟨fWat, fdWat, mWat, kWat, bWat, GWat⟩ := HWat.ok
  obtain ⟨fBli, fdBli, mBli, kBli, bBli, GBli⟩ := HBli.ok
  obtain ⟨fSta, fdSta, mSta, kSta, bSta, GSta⟩ := HSta.ok
  obtain ⟨fSpp, fdSpp, meSpp, bSpp, GSpp⟩ := HSpp.ok
  obtain ⟨fOtp, fdOtp, meOtp, bOtp, GOtp⟩ := HOtp.ok
  obtain ⟨fThs, fdThs, meThs, bThs, GThs⟩ := HThs.ok
  obtain ⟨fDbs, fdDbs, meDbs, bDbs, GDbs⟩ := HDbs.ok
  obtain ⟨fAll, fdAll, meAll, bAll, GAll⟩ := HAll.ok
  obtain ⟨fHas, fdHas, meHas, bHas, GHas⟩ := HHas.ok
  obtain ⟨fWor, fdWor, meWor, bWor, GWor⟩ := HWor.ok
  refine okG F scLaw (fun vs H Q E h => ?_) (fun cdv A outer s H vs Q E hr hg h => ?_)
  · obtain ⟨a, ns, rfl, _⟩ := h
    rfl
  · obtain ⟨a, ns, rfl, hS0, hn, hbits, go⟩ := h
    have hu : (A.deeper (envOfC "law" (defScope sLaw) s.heap.objs.size f cdv)).units + 64 < cLine := by have := hr.un; omega
    have hu65 : (A.deeper (envOfC "law" (defScope sLaw) s.heap.objs.size f cdv)).units + 65 < cLine := by have := hr.un; omega
    refine ⟨_, (pss_cons (ps_set (i := 1) scLaw.nd rfl (.inl rfl) (pe_call GFee (hr.mono (by decide)) (by rfl) mFee kFee bFee .nil pass0 (pa_cons (pe_call GCel (hr.mono (by decide)) (by rfl) mCel kCel bCel .nil pass0 (pa_cons (pv 0) (pa_cons pe_int pa_nil))) (pa_cons pe_int pa_nil))))
      (pss_cons (ps_set (i := 2) scLaw.nd rfl (.inl rfl) (pe_call GLru (hr.mono (by decide)) (by rfl) mLru kLru bLru .nil pass0 (pa_cons (pv 1) pa_nil)))
      (pss_cons (ps_set (i := 3) scLaw.nd rfl (.inl rfl) (pe_lst (pa_cons pe_str (pa_cons pe_str (pa_cons pe_str pa_nil)))))
      (pss_cons (ps_set (i := 4) scLaw.nd rfl (.inl rfl) (pe_call GLwi (hr.mono (by decide)) (by rfl) mLwi kLwi bLwi .nil pass0 (pa_cons (pv 1) (pa_cons (pv 3) pa_nil))))
      (pss_cons (ps_set (i := 5) scLaw.nd rfl (.inr rfl) (pe_call GLes (hr.mono (by decide)) (by rfl) mLes kLes bLes .nil pass0 (pa_cons (pv 1) pa_nil)))
      (pss_cons (ps_asg (pv 2) (pg_unl (n := 5) rfl (pgs_cons (pg_name (i := 6) scLaw.nd rfl (.inl rfl)) (pgs_cons (pg_name (i := 7) scLaw.nd rfl (.inl rfl)) (pgs_cons (pg_name (i := 8) scLaw.nd rfl (.inl rfl)) (pgs_cons (pg_name (i := 9) scLaw.nd rfl (.inl rfl)) (pgs_cons (pg_name (i := 10) scLaw.nd rfl (.inl rfl)) pgs_nil)))))))
      (pss_cons (ps_set (i := 11) scLaw.nd rfl (.inl rfl) (pe_makeK0 MR GRi (hr.mono (by decide)) (by rfl) mRu bR5 passF (pk_cons (pv 6) (pk_cons (pv 7) (pk_cons (pv 8) (pk_cons (pv 9) (pk_cons (pv 10) pk_nil)))))))
      (pss_cons (ps_if (pt_cmpR (op_neD hu) (pe_lst (pa_cons (pe_fld (pv 11) rfl) (pa_cons (pe_fld (pv 11) rfl) (pa_cons (pe_fld (pv 11) rfl) (pa_cons (pe_fld (pv 11) rfl) pa_nil))))) (pe_lst (pa_cons (pv 6) (pa_cons (pv 7) (pa_cons (pv 9) (pa_cons (pv 10) pa_nil))))) (nomark _)) (pss_one (ps_ret pe_bl)) pss_nil)
      (pss_cons (ps_for PassesOwn.never rfl (pi_range1 rfl B.range (pa_cons (pe_op op_add (pv 9) pe_int) pa_nil)) (pg_name (i := 12) scLaw.nd rfl (.inl rfl)) (pss_cons (ps_asg (pe_ix ix_tup (pv 8) (pv 12) (fun _ _ => rfl)) (pg_tup (n := 2) rfl (pgs_cons (pg_name (i := 13) scLaw.nd rfl (.inl rfl)) (pgs_cons (pg_name (i := 14) scLaw.nd rfl (.inl rfl)) pgs_nil))))
      (pss_one (ps_if (PW.pt (pw_or (pt_cmpR (op_neD hu) (pe_meth (pv 11) DB.cl meSpp GSpp (hr.mono (by decide)) bSpp .nil pass0 (pa_cons (pv 12) pa_nil)) (pe_call GLow (hr.mono (by decide)) (by rfl) mLow kLow bLow .nil pass0 (pa_cons (pv 13) (pa_cons (pv 14) pa_nil))) (nomark _)) (pw_or1 (pt_cmpR (op_neD hu) (pe_meth (pv 11) DB.cl meOtp GOtp (hr.mono (by decide)) bOtp .nil pass0 (pa_cons (pv 12) pa_nil)) (pe_call GLow (hr.mono (by decide)) (by rfl) mLow kLow bLow .nil pass0 (pa_cons (pe_op op_sub (pv 14) (pv 13)) (pa_cons (pv 14) pa_nil))) (nomark _))))) (pss_one (ps_ret pe_bl)) pss_nil))))
      (pss_cons (ps_set (i := 15) scLaw.nd rfl (.inr rfl) (pe_make0 MR GRi (hr.mono (by decide)) (by rfl) mRu bR0 vR0 passF))
      (pss_cons (ps_setLc (i := 16) (own := [("row", 12)]) (g := gName 12) (tt := tYes) rfl scLaw.nd rfl rfl (sw_true rfl rfl rfl (by decide +kernel)) (pi_range1 rfl B.range (pa_cons pe_int pa_nil)) (blkOk_by (N := nLaw) (sc := defScope sLaw) (by decide +kernel)) (fun _ _ _ _ _ => (pg_name (i := 12) scLaw.nd rfl (.inl rfl) (.inr rfl))) (fun _ _ _ _ _ => pts_nil) (fun _ _ _ _ _ => (pe_meth (pv 15) DB.cl meSpp GSpp (hr.mono (by decide)) bSpp .nil pass0 (pa_cons (pv 12) pa_nil))))
      (pss_cons (ps_if (pt_cmpR (op_neD hu) (pe_lst (pa_cons (pe_fld (pv 15) rfl) (pa_cons (pe_fld (pv 15) rfl) (pa_cons (pe_fld (pv 15) rfl) (pa_cons (pe_fld (pv 15) rfl) (pa_cons (pv 16) pa_nil)))))) (pe_lst (pa_cons pe_int (pa_cons pe_str (pa_cons pe_int (pa_cons pe_bl (pa_cons (pe_lst (pa_cons (pe_tup (pa_cons pe_int (pa_cons pe_int pa_nil))) (pa_cons (pe_tup (pa_cons pe_int (pa_cons pe_int pa_nil))) (pa_cons (pe_tup (pa_cons pe_int (pa_cons pe_int pa_nil))) (pa_cons (pe_tup (pa_cons pe_int (pa_cons pe_int pa_nil))) pa_nil))))) pa_nil)))))) (nomark _)) (pss_one (ps_ret pe_bl)) pss_nil)
      (pss_cons (ps_set (i := 17) scLaw.nd rfl (.inl rfl) (pe_makeK ME GEi (hr.mono (by decide)) (by rfl) mEs bE2 passF (pa_cons (pe_ix ix_list (pv 5) pe_int (fun _ _ => rfl)) pa_nil) (pk_cons (pe_ix ix_list (pv 5) pe_int (fun _ _ => rfl)) (pk_cons (pe_ix ix_list (pv 5) pe_int (fun _ _ => rfl)) pk_nil))))
      (pss_cons (ps_if (PW.pt (pw_or (pt_cmpR op_ne (pe_fld (pv 17) rfl) (pe_ix ix_list (pv 5) pe_int (fun _ _ => rfl)) (nomark _)) (pw_or (pt_cmpR (op_neD hu) (pe_meth0 (pv 17) DE.cl meThs GThs (hr.mono (by decide)) bThs .nil pass0) (pe_callB G.cr_sortSI (by rfl) B.sorted (by decide +kernel) (pa_cons (pe_ix ix_list (pv 5) pe_int (fun _ _ => rfl)) pa_nil)) (nomark _)) (pw_or1 (pt_cmpR (op_neD hu) (pe_meth0 (pv 17) DE.cl meDbs GDbs (hr.mono (by decide)) bDbs .nil pass0) (pe_callTy call_list_of (by rfl) B.list (by decide +kernel) (pa_cons (pe_ix ix_list (pv 5) pe_int (fun _ _ => rfl)) pa_nil)) (nomark _)))))) (pss_one (ps_ret pe_bl)) pss_nil)
      (pss_cons (ps_if (PW.pt (pw_or (pt_cmpR op_ne (pe_meth0 (pv 17) DE.cl meAll GAll (hr.mono (by decide)) bAll .nil pass0) (pe_op op_add (pe_ix ix_list (pv 5) pe_int (fun _ _ => rfl)) (pe_callB (cr_sum rfl) (by rfl) B.sum (by decide +kernel) (pa_cons (pe_lc (own := [("thing", 18)]) (g := gName 18) (tt := tYes) rfl scLaw.nd (pi_tup (pe_ix ix_list (pv 5) pe_int (fun _ _ => rfl))) (blkOk_by (N := nLaw) (sc := defScope sLaw) (by decide +kernel)) (fun _ _ _ _ _ => (pg_name (i := 18) scLaw.nd rfl (.inl rfl) (.inr rfl))) (fun _ _ _ _ _ => pts_nil) (fun _ _ _ _ _ => (pe_ix (show IxR _ (rIxT K) from ix_tup) (pv 18) pe_int (fun _ _ => rfl)))) pa_nil))) (nomark _)) (pw_or1 (pt_cmpR op_notBl (pe_meth (pv 17) DE.cl meHas GHas (hr.mono (by decide)) bHas .nil pass0 (pa_cons pe_str pa_nil)) pe_bl (nomark _))))) (pss_one (ps_ret pe_bl)) pss_nil)
      (pss_cons (ps_for PassesOwn.never rfl (pi_tup (pe_ix ix_list (pv 5) pe_int (fun _ _ => rfl))) (pg_tup (n := 2) rfl (pgs_cons (pg_name (i := 18) scLaw.nd rfl (.inl rfl)) (pgs_cons (pg_name (i := 19) scLaw.nd rfl (.inl rfl)) pgs_nil))) (pss_one (ps_if (PW.pt (pw_or (pt_cmpR op_notBl (pe_meth (pv 17) DE.cl meHas GHas (hr.mono (by decide)) bHas .nil pass0 (pa_cons (pv 18) pa_nil)) pe_bl (nomark _)) (pw_or1 (pt_cmpR op_ne (pe_meth (pv 17) DE.cl meWor GWor (hr.mono (by decide)) bWor .nil pass0 (pa_cons (pv 18) pa_nil)) (pv 19) (nomark _))))) (pss_one (ps_ret pe_bl)) pss_nil)))
      (pss_cons (ps_asg (pe_call GLde (hr.mono (by decide)) (by rfl) mLde kLde bLde .nil pass0 (pa_cons (pv 5) pa_nil)) (pg_unl (n := 2) rfl (pgs_cons (pg_name (i := 20) scLaw.nd rfl (.inr rfl)) (pgs_cons (pg_name (i := 21) scLaw.nd rfl (.inl rfl)) pgs_nil))))
      (pss_cons (ps_setLc (i := 22) (own := [("k", 30)]) (g := gName 30) (tt := tYes) rfl scLaw.nd rfl rfl (sw_true rfl rfl rfl (by decide +kernel)) (pi_range1 rfl B.range (pa_cons (pe_callB call_len_seq (by rfl) B.len PySem.boot_len (pa_cons (pv 20) pa_nil)) pa_nil)) (blkOk_by (N := nLaw) (sc := defScope sLaw) (by decide +kernel)) (fun _ _ _ _ _ => (pg_name (i := 30) scLaw.nd rfl (.inl rfl) (.inr rfl))) (fun _ _ _ _ _ => pts_nil) (fun _ _ _ _ _ => (pe_tup (pa_cons (pe_ix (show IxR _ (rIxT K) from ix_tup) (pe_ix (show IxR _ (rIxT K) from ix_tup) (pe_ix (show IxR _ (rIxL K) from ix_list) (pv 5) pe_int (fun _ _ => rfl)) (pv 30) (fun _ _ => rfl)) pe_int (fun _ _ => rfl)) (pa_cons (pe_ix (show IxR _ (rIxL K) from ix_list) (pv 20) (pv 30) (fun _ _ => rfl)) pa_nil)))))
      (pss_cons (ps_if (PW.pt (pw_or (pt_cmpR (op_neD hu) (pe_call GPdd (hr.mono (by decide)) (by rfl) mPdd kPdd bPdd .nil pass0 (pa_cons (pv 17) pa_nil)) (pe_tup (pa_cons (pv 22) (pa_cons (pv 21) pa_nil))) (nomark _)) (pw_or1 (pt_cmpR op_ne (pe_callB (cr_repr hg hu65) (by rfl) B.repr (by decide +kernel) (pa_cons (pe_call GSta (hr.mono (by decide)) (by rfl) mSta kSta bSta .nil passF (pa_cons (pv 4) pa_nil)) pa_nil)) (pe_callB (cr_repr hg hu65) (by rfl) B.repr (by decide +kernel) (pa_cons (pe_call GLst (hr.mono (by decide)) (by rfl) mLst kLst bLst .nil pass0 (pa_cons (pv 4) pa_nil)) pa_nil)) (nomark _))))) (pss_one (ps_ret pe_bl)) pss_nil)
      (pss_cons (ps_set (i := 23) scLaw.nd rfl (.inl rfl) (pe_callB call_abs (by rfl) B.abs (by decide +kernel) (pa_cons (pe_call GCel (hr.mono (by decide)) (by rfl) mCel kCel bCel .nil pass0 (pa_cons (pv 0) (pa_cons pe_int pa_nil))) pa_nil)))
      (pss_cons (ps_asg (pe_call GBru (hr.mono (by decide)) (by rfl) mBru kBru bBru .nil pass0 (pa_cons (pv 2) (pa_cons (pe_op op_mod (pv 23) pe_int) pa_nil))) (pg_unl (n := 5) rfl (pgs_cons (pg_name (i := 6) scLaw.nd rfl (.inl rfl)) (pgs_cons (pg_name (i := 7) scLaw.nd rfl (.inl rfl)) (pgs_cons (pg_name (i := 8) scLaw.nd rfl (.inl rfl)) (pgs_cons (pg_name (i := 9) scLaw.nd rfl (.inl rfl)) (pgs_cons (pg_name (i := 24) scLaw.nd rfl (.inl rfl)) pgs_nil)))))))
      (pss_cons (ps_if (pt_cmpR op_ne (pe_call GRuw (hr.mono (by decide)) (by rfl) mRuw kRuw bRuw .nil pass0 (pa_cons (pv 6) (pa_cons (pv 7) (pa_cons (pv 8) (pa_cons (pv 9) pa_nil))))) (pv 24) (nomark _)) (pss_one (ps_ret pe_bl)) pss_nil)
      (pss_cons (ps_asg (pe_call GBes (hr.mono (by decide)) (by rfl) mBes kBes bBes .nil pass0 (pa_cons (pv 5) (pa_cons (pe_op op_mod (pe_callTy call_int1 (by rfl) B.int (by decide +kernel) (pa_cons (pe_op op_fdiv (pv 23) pe_int) pa_nil)) pe_int) pa_nil))) (pg_unl (n := 4) rfl (pgs_cons (pg_name (i := 25) scLaw.nd rfl (.inl rfl)) (pgs_cons (pg_name (i := 26) scLaw.nd rfl (.inl rfl)) (pgs_cons (pg_name (i := 27) scLaw.nd rfl (.inl rfl)) (pgs_cons (pg_name (i := 24) scLaw.nd rfl (.inl rfl)) pgs_nil))))))
      (pss_cons (ps_if (pt_cmpR op_ne (pe_call GEsw (hr.mono (by decide)) (by rfl) mEsw kEsw bEsw .nil pass0 (pa_cons (pv 25) (pa_cons (pv 26) (pa_cons (pv 27) pa_nil)))) (pv 24) (nomark _)) (pss_one (ps_ret pe_bl)) pss_nil)
      (pss_cons (ps_set (i := 28) scLaw.nd rfl (.inl rfl) (pe_op op_mod (pe_callTy call_int1 (by rfl) B.int (by decide +kernel) (pa_cons (pe_op op_fdiv (pv 23) pe_int) pa_nil)) (pe_op op_add (pe_callB call_len_seq (by rfl) B.len PySem.boot_len (pa_cons (pv 4) pa_nil)) pe_int)))
      (pss_cons (ps_if (pt_cmpR op_ne (pe_call GWat (hr.mono (by decide)) (by rfl) mWat kWat bWat .nil pass0 (pa_cons (pe_op op_cat (pe_op op_cat (pe_slice sl_list (pv 4) po_none (po_some (pv 28))) (pe_lst (pa_cons (pe_call GBli (hr.mono (by decide)) (by rfl) mBli kBli bBli .nil pass0 (pa_cons (pe_callTy call_int1 (by rfl) B.int (by decide +kernel) (pa_cons (pe_op op_fdiv (pv 23) pe_int) pa_nil)) pa_nil)) pa_nil))) (pe_slice sl_list (pv 4) (po_some (pv 28)) po_none)) pa_nil)) (pv 28) (nomark _)) (pss_one (ps_ret pe_bl)) pss_nil)
      (pss_cons (ps_set (i := 29) scLaw.nd rfl (.inl rfl) (pe_op op_rep (pe_lst (pa_cons (pe_tup (pa_cons pe_str (pa_cons pe_int pa_nil))) pa_nil)) (pe_op op_add pe_int (pe_op op_mod (pv 23) pe_int))))
      (pss_one (ps_ret (pe_cmpR op_eq (pe_call GWat (hr.mono (by decide)) (by rfl) mWat kWat bWat .nil pass0 (pa_cons (pv 29) pa_nil)) (pe_ix ix_list (pe_lst (pa_cons (pe_op op_sub pe_int pe_int) (pa_cons pe_int pa_nil))) (pe_callTy call_int1 (by rfl) B.int (by decide +kernel) (pa_cons (pe_cmpR op_gt (pe_callB call_len_seq (by rfl) B.len PySem.boot_len (pa_cons (pv 29) pa_nil)) pe_int (nomark _)) pa_nil)) (fun _ _ => rfl)) (nomark _))))))))))))))))))))))))))))))), ?_⟩
    refine ⟨_, rfl, a, ns, 0, rfl, hS0, by decide, _, 60, rfl, by decide, by decide, fun d l H1 xs s1 nd nl fe => ?_⟩
    refine ⟨_, rfl, d, l, 0, xs, rfl, fe, by decide, fun p t H2 days md ps rows st a2 qs f2 z2 np nt ep et T RD => ?_⟩
    refine ⟨(by show 3 ≤ sizeLine; decide), fun N nN => ?_⟩
    have sN := same_upd nN (o := .lst [.str "p1", .str "p2", .str "p3"])
    have f3 := f2.go sN
    refine ⟨_, rfl, _, rfl, d, l, N, a2, xs, ["p1", "p2", "p3"], rfl, f3.f, by omega, upd_same, by decide, (by decide +kernel), fun ll H4 wl a4 f4 z4 nll W zw => ?_⟩
    refine ⟨_, rfl, d, l, a4, xs, rfl, f4.f, by omega, fun e t2 u H5 coins ws ds qs2 us a5 f5 z5 ne nt2 nu ee et2 T2 eu U ED => ?_⟩
    have hS5 : SqL K H5 a (ns.map V.int) := sql_but f4.f f5.b (sql_but f3.f f4.b (sqlS sN (sql_but fe f2.b (sqlS s1 hS0))))
    have ep5 := f4.f.keepL f5.b (f3.f.keepL f4.b (sN _ _ ep))
    have et5 := f4.f.keep f5.b (f3.f.keep f4.b (sN _ _ et))
    have T5 := f4.f.tups f5.b (f3.f.tups f4.b (T.same sN))
    have W5 := W.but f4.f f5.b
    clear f5 f4 f3 f2 fe sN nN nll ne nt2 nu np nt z2 z4 z5 ep et T W s1 nd nl hS0
    refine ⟨_, rfl, p, _, rfl, SqL.of ep5, rfl, _, _, rfl, _, _, rfl, _, _, rfl, _, _, rfl, _, _, rfl, rfl, ?_⟩
    obtain ⟨RU1, RU2, RU3⟩ := RD.u
    have PI := parts_it (K := K) T5 RD.p
    have lps : ((posO ps).length : Int) = rows + 1 := by
      unfold posO
      rw [List.length_map]
      exact RD.r
    have mdo : PyData.strOk md = true ∧ md.length ≤ 1000 := by
      rcases RD.m with e | e
      · rw [e]
        decide +kernel
      · rw [e]
        decide +kernel
    refine ⟨_, rfl, _, rfl, _, rfl, _, rfl, _, rfl, rfl, rfl, fun bk dx nb ndx nex => ?_⟩
    have sM := made (C := CB) nb ndx nex
    refine ⟨bk, dx, .int days, .str md, .ref t, .int rows, .bl st, some (posO ps), rfl, rfl, okw mdo.2, rfl, LsIt.same (o := some (posO ps)) ⟨t, qs.map V.ref, rfl, SqT.of et5, PI.1, by rw [← PI.1]; have := RD.r1; omega, PI.2⟩ sM, upd_same, fun why er => ?_, fun i z r e1 e2 e3 _ H6 kp hb => ⟨rfl, ?_⟩⟩
    · rw [rulOut_ok RU1 RU2 RU3 (show partsB (some (posO ps)) (rows + 1) = true by
        show (decide (((posO ps).length : Int) = rows + 1) && (posO ps).all (·.isSome)) = true
        rw [lps, pos_some, decide_eq_true rfl]
        rfl)] at er
      cases er
    obtain rfl := V.int.inj e1
    obtain rfl := V.str.inj e2
    obtain rfl := V.int.inj e3
    have s6 := madeK nb ndx nex kp
    -- the book tells
    refine ⟨_, rfl, bk, CB, dx, _, _, rfl, hb, DB.cl, DB.n1, lkd _ _ _ _ _, _, rfl, bk, CB, dx, _, _, rfl, hb, DB.cl, DB.n2, lkm _ _ _ _ _, _, rfl, bk, CB, dx, _, _, rfl, hb, DB.cl, DB.n3, lkr _ _ _ _ _, _, rfl, bk, CB, dx, _, _, rfl, hb, DB.cl, DB.n4, lks _ _ _ _ _, (by show 4 ≤ sizeLine; decide), fun L1 nL1 => ?_⟩
    refine ⟨_, rfl, _, rfl, _, rfl, _, rfl, (by show 4 ≤ sizeLine; decide), fun L2 nL2 => ?_⟩
    have sL1 := same_upd nL1 (o := .lst [.int days, .str md, .int rows, .bl st])
    have sL2 := same_upd nL2 (o := .lst [.int days, .str md, .int rows, .bl st])
    refine ne_same (d := .list [.int days, .str md, .int rows, .bool st]) (.lst (SqL.of (sL2 _ _ upd_same)) (.cons (.int _) (.cons (.str _) (.cons (.int _) (.cons (.bl _) .nil))))) (.lst (SqL.of upd_same) (.cons (.int _) (.cons (.str _) (.cons (.int _) (.cons (.bl _) .nil))))) ?_ ?_
    · unfold SeqAt.shaped
      simp [PyData.canLay0, PyData.canLayAll0, PyData.depth, PyData.depthAll, mdo.1]
    have s8 := s6.trans (sL1.trans sL2)
    have hb8 := (sL1.trans sL2) _ _ hb
    clear sL1 sL2 nL1
    generalize upd (upd H6 L1 (.lst [.int days, .str md, .int rows, .bl st])) L2 (.lst [.int days, .str md, .int rows, .bl st]) = H8 at s8 hb8 ⊢
    refine ⟨_, rfl, iteF ?_⟩
    obtain ⟨rn, rfl⟩ : ∃ rn : Nat, rows = (rn : Int) := ⟨rows.toNat, by have := RD.r0; omega⟩
    have rn3 : rn ≤ 3 := by have := RD.r1; omega
    refine ⟨_, rfl, _, _, rfl, rfl, _, rfl, by show -(2 ^ 62 : Int) ≤ (rn : Int) + 1; omega, by show (rn : Int) + 1 < 2 ^ 62; omega, ?_⟩
    rw [show ((rn : Int) + 1).toNat = rn + 1 by omega]
    have et8 := s8 _ _ et5
    have T8 := T5.same s8
    refine for_range (lo := 0) (n := rn + 1) (fun i σ Hz => ∃ (y12 y13 y14 : Option V), σ = [some (.ref a), some (.ref d), some (.ref p), some (.ref N), some (.ref ll), some (.ref e), some (.int days), some (.str md), some (.ref t), some (.int (rn : Int)), some (.bl st), some (.ref bk), y12, y13, y14, none, none, none, none, none, none, none, none, none, none, none, none, none, none, none, none] ∧ Same H8 Hz)
      ⟨none, none, none, rfl, Same.refl _⟩ ?_ ?_
    · rintro i σ Hz hi ⟨y12, y13, y14, rfl, sz⟩
      rw [Int.zero_add]
      have hi' : i < ps.length := by have := RD.r; omega
      have hpi : ps[i]? = some ps[i] := List.getElem?_eq_getElem hi'
      obtain ⟨z1, z2, z3, z4⟩ := six_sz _ (RD.p _ (List.getElem_mem hi'))
      have lq : qs.length = ps.length := by have := T5.1; rw [List.length_map] at this; exact this
      have hqi : qs[i]? = some (qs[i]'(by omega)) := List.getElem?_eq_getElem _
      have hT := T8.2 i _ _ hqi (by rw [List.getElem?_map, hpi]; rfl)
      generalize hxy : ps[i] = xy at hpi z1 z2 z3 z4 hT
      obtain ⟨x, y⟩ := xy
      refine ⟨_, rfl, _, rfl, t, _, (i : Int), _, rfl, rfl, SqT.of (sz _ _ et8), atI_nat (by rw [List.getElem?_map, hqi]; rfl), _, _, rfl, SqT.of (sz _ _ hT), rfl, _, _, rfl, _, _, rfl, rfl, ?_⟩
      refine ⟨_, rfl, bk, dx, _, rfl, sz _ _ hb8, noSp _ _ _ _ _, _, rfl, bk, dx, t, days, md, (rn : Int), .bl st, ps, i, x, y, rfl, sz _ _ hb8, prs_of (sz _ _ et8) (T8.same sz), hpi, z1, z2, z3, z4, fun t1 n1 => ?_⟩
      have u1 := same_upd n1 (o := .tup (fv (Rat.divInt x y)))
      refine ⟨_, rfl, _, rfl, x, y, rfl, z1, by omega, fun t3 n3 => ?_⟩
      have u2 := same_upd n3 (o := .tup (fv (Rat.divInt x y)))
      refine ne_same (dp_fv (SqT.of (u2 _ _ upd_same))) (dp_fv (SqT.of upd_same)) (sh_fv _) ⟨_, rfl, iteF ?_⟩
      have sv := (sz.trans u1).trans u2
      refine ⟨_, rfl, bk, dx, _, rfl, sv _ _ hb8, noOt _ _ _ _ _, _, rfl, bk, dx, t, days, md, (rn : Int), .bl st, ps, i, x, y, rfl, sv _ _ hb8, prs_of (sv _ _ et8) (T8.same sv), hpi, z1, z2, z3, z4, fun t4 H9 s9 n4 e4 => ?_⟩
      rw [one_sub x z1] at e4
      refine ⟨_, rfl, _, rfl, _, _, rfl, rfl, _, rfl, y - x, y, rfl, z1, by omega, fun t5 n5 => ?_⟩
      have u5 := same_upd n5 (o := .tup (fv (Rat.divInt (y - x) y)))
      refine ne_same (dp_fv (SqT.of (u5 _ _ e4))) (dp_fv (SqT.of upd_same)) (sh_fv _) ⟨_, rfl, iteF ?_⟩
      exact ⟨_, _, _, rfl, (sv.trans s9).trans u5⟩
    · rintro σ H9 ⟨y12, y13, y14, rfl, s9⟩
      have s59 := s8.trans s9
      have hS9 := sqlS s59 hS5
      have ep9 := s59 _ _ ep5
      have et9 := s59 _ _ et5
      have T9 := T5.same s59
      have W9 := W5.same s59
      have ee9 := s59 _ _ ee
      have et29 := s59 _ _ et2
      have T29 := T2.same s59
      have eu9 := s59 _ _ eu
      have U9 := U.same s59
      clear hS5 ep5 et5 T5 W5 ee et2 T2 eu U s59 s9 s8 hb8 et8 T8 hb s6 kp sM PI lps e1 e2 e3
      -- plain rules
      have hF := hS H9
      refine fun pl px npl npx nep => ?_
      have sP := made (C := CB) npl npx nep
      refine ⟨pl, px, .int 0, .str "stocks", .ref aS, .int 3, .bl true, some (posO four), rfl, rfl, okw (by decide +kernel), rfl, prs_it (hS _) four_part (by decide), upd_same, fun why er => ?_, fun i z r e1 e2 e3 _ H10 kp hp10 => ⟨rfl, ?_⟩⟩
      · rw [fourR_ok] at er
        cases er
      obtain rfl := V.int.inj e1
      obtain rfl := V.str.inj e2
      obtain rfl := V.int.inj e3
      have s10 := madeK npl npx nep kp
      clear kp sP npl npx nep hF
      refine ⟨_, rfl, (by show -(2 ^ 62 : Int) ≤ 4; decide), (by show (4 : Int) < 2 ^ 62; decide), fun PD nPD => ?_⟩
      rw [show ((4 : Int)).toNat = 4 from rfl]
      refine lc_it walk_range (fun i Hz => Same H10 Hz ∧ ∃ ts : List Addr, Hz PD = some (.lst (ts.map V.ref)) ∧ TupsAt Hz ts ((four.take i).map fun q => fv (Rat.divInt q.1 q.2))) ⟨same_upd nPD, [], upd_same, .nil⟩ (fun _ _ _ _ => trivial) ?_ ?_
      · rintro i v Hz H' hi ⟨k1, ts, k2, k3⟩ ⟨rfl, rfl⟩
        show gName 12 (V.int (0 + (i : Int))) _ _ _
        rw [Int.zero_add]
        have hpi : four[i]? = some four[i] := List.getElem?_eq_getElem hi
        obtain ⟨z1, z2, z3, z4⟩ := four_sz _ (List.getElem_mem hi)
        generalize hxy : four[i] = xy at hpi z1 z2 z3 z4
        obtain ⟨x, y⟩ := xy
        have hp' := k1 _ _ hp10
        refine ⟨rfl, _, rfl, pl, px, _, rfl, hp', noSp _ _ _ _ _, _, rfl, pl, px, aS, 0, "stocks", 3, .bl true, four, i, x, y, rfl, hp', hS _, hpi, z1, z2, z3, z4, fun t1 n1 => ⟨_, (same_upd n1) _ _ k2, ?_, ?_, ts ++ [t1], ?_, ?_⟩⟩
        · have := k3.1
          rw [List.length_map, List.length_take] at this
          rw [List.length_map]
          exact small1000 (by omega)
        · intro b o hb
          rw [upd_ne (ne_of_none hb nPD)]
          exact (same_upd n1) _ _ (k1 b o hb)
        · rw [upd_same, List.map_append]
          rfl
        · rw [List.take_add_one, hpi, List.map_append]
          have PT : t1 ≠ PD := fun z => by rw [z, k2] at n1; cases n1
          refine TupsAt.snoc ⟨k3.1, fun j q c h1 h2 => ?_⟩ (by rw [upd_ne PT, upd_same])
          have := (same_upd n1 (o := .tup (fv (Rat.divInt x y)))) _ _ (k3.2 j q c h1 h2)
          rw [upd_ne (ne_of this ((same_upd n1 (o := .tup (fv (Rat.divInt x y)))) _ _ k2) (by intro z; cases z))]
          exact this
      · rintro H11 ⟨k1, ts, k2, k3⟩
        have tk : four.take 4 = four := rfl
        rw [tk, four_fv] at k3
        have hp11 := k1 _ _ hp10
        refine ⟨_, rfl, pl, CB, px, _, _, rfl, hp11, DB.cl, DB.n1, lkd _ _ _ _ _, _, rfl, pl, CB, px, _, _, rfl, hp11, DB.cl, DB.n2, lkm _ _ _ _ _, _, rfl, pl, CB, px, _, _, rfl, hp11, DB.cl, DB.n3, lkr _ _ _ _ _, _, rfl, pl, CB, px, _, _, rfl, hp11, DB.cl, DB.n4, lks _ _ _ _ _, _, rfl, (by show 5 ≤ sizeLine; decide), fun L1 nL1 => ?_⟩
        refine ⟨(by show 2 ≤ sizeLine; decide), fun t1 n1 => ⟨(by show 2 ≤ sizeLine; decide), fun t2' n2 => ⟨(by show 2 ≤ sizeLine; decide), fun t3 n3 => ⟨(by show 2 ≤ sizeLine; decide), fun t4 n4 => ⟨(by show 4 ≤ sizeLine; decide), fun L2 nL2 => ⟨(by show 5 ≤ sizeLine; decide), fun L3 nL3 => ?_⟩⟩⟩⟩⟩⟩
        have v1 := same_upd nL1 (o := .lst [.int 0, .str "stocks", .int 3, .bl true, .ref PD])
        have v2 := same_upd n1 (o := .tup (pc (1, 2)))
        have v3 := same_upd n2 (o := .tup (pc (3, 4)))
        have v4 := same_upd n3 (o := .tup (pc (1, 1)))
        have v5 := same_upd n4 (o := .tup (pc (1, 1)))
        have v6 := same_upd nL2 (o := .lst ([t1, t2', t3, t4].map V.ref))
        have v7 := same_upd nL3 (o := .lst [.int 0, .str "stocks", .int 3, .bl true, .ref L2])
        have w2 := (((v2.trans v3).trans v4).trans v5).trans (v6.trans v7)
        have T4 : TupsAt _ [t1, t2', t3, t4] (four.map pc) := TupsAt.same (TupsAt.snoc (TupsAt.same (TupsAt.snoc (TupsAt.same (TupsAt.snoc (TupsAt.same (TupsAt.snoc TupsAt.nil upd_same) v3) upd_same) v4) upd_same) v5) upd_same) (v6.trans v7)
        refine ne_same (d := .list [.int 0, .str "stocks", .int 3, .bool true, .list (four.map pD)]) (.lst (SqL.of (w2 _ _ upd_same)) (.cons (.int _) (.cons (.str _) (.cons (.int _) (.cons (.bl _) (.cons (.lst (SqL.of ((v1.trans w2) _ _ k2)) (dp_tups dp_pc (k3.same (v1.trans w2)))) .nil)))))) (.lst (SqL.of upd_same) (.cons (.int _) (.cons (.str _) (.cons (.int _) (.cons (.bl _) (.cons (.lst (SqL.of (v7 _ _ upd_same)) (dp_tups dp_pc T4)) .nil)))))) (by decide +kernel) ⟨_, rfl, iteF ?_⟩
        have s12 := (s10.trans k1).trans (v1.trans w2)
        clear v1 v2 v3 v4 v5 v6 v7 w2 T4 nL1 n1 n2 n3 n4 nL2
        generalize upd _ L3 _ = H12 at s12 ⊢
        have ee12 := s12 _ _ ee9
        -- the estate
        have TI := ths_it (K := K) ED (T29.same s12)
        have DI := dbs_it (K := K) ED (U9.same s12)
        have wl3 : ws.length ≤ 3 := by
          have := ED.n.length_le
          rw [List.length_map] at this
          exact this
        have lq2 : qs2.length = ws.length := by have := T29.1; rw [List.length_map] at this; exact this
        have lus : us.length = ds.length := by have := U9.1; rw [List.length_map] at this; exact this
        have dl3 := ED.l
        refine ⟨_, rfl, e, _, 0, .int coins, rfl, rfl, SqL.of ee12, atI_nat (j := 0) rfl, _, rfl, e, _, 1, .ref t2, rfl, rfl, SqL.of ee12, atI_nat (j := 1) rfl, _, rfl, e, _, 2, .ref u, rfl, rfl, SqL.of ee12, atI_nat (j := 2) rfl, rfl, rfl, fun es ex nes nex' nee => ?_⟩
        have sE := made (C := CE) nes nex' nee
        refine ⟨es, t2, u, ex, .int coins, qs2.map V.ref, us.map V.ref, ws.map some, ds.map some, rfl, rfl, upd_same, SqT.of (sE _ _ (s12 _ _ et29)), SqT.of (sE _ _ (s12 _ _ eu9)), TI.1, DI.1, by rw [List.length_map]; omega, by rw [List.length_map]; omega, fun i x o h1 h2 => (TI.2 i x o h1 h2).same sE, fun i x o h1 h2 => (DI.2 i x o h1 h2).same sE, fun why er => ?_, fun i ws' e1 er H13 kp hE => ⟨rfl, ?_⟩⟩
        · rw [estOut_ok ED] at er
          cases er
        obtain rfl := V.int.inj e1
        rw [estOut_ok ED] at er
        obtain rfl := Sum.inr.inj er
        have s13 := s12.trans (madeK nes nex' nee kp)
        clear kp sE nes nex' nee TI DI s12 ee12 k3 k2 hp11 k1 s10
        have ee13 := s13 _ _ ee9
        have T13 := T29.same s13
        have U13 := U9.same s13
        have et13 := s13 _ _ et29
        have eu13 := s13 _ _ eu9
        obtain ⟨ex', dd, dl, hi13, _, _⟩ := id hE.ex
        refine ⟨_, rfl, es, CE, ex', _, _, rfl, hi13, DE.cl, DE.n1, lkEc _ _ _, _, rfl, e, _, 0, .int coins, rfl, rfl, SqL.of ee13, atI_nat (j := 0) rfl, ne_ref rfl rfl ⟨_, rfl, iteF ?_⟩⟩
        refine ⟨_, rfl, es, ex', _, rfl, hi13, noTh _ _ _, es, coins, ws, us.map V.ref, rfl, hE, by omega, fun l1 H14 qs3 s14 nl1 el1 T3 => ?_⟩
        refine ⟨_, rfl, e, _, 1, .ref t2, rfl, rfl, SqL.of (s14 _ _ ee13), atI_nat (j := 1) rfl, t2, qs2.map V.ref, kSI H14, rfl, SqT.of (s14 _ _ et13), kSI_all (T13.same s14), fun ys sp hs hp nsp => ?_⟩
        have v1 := same_upd nsp (o := .lst ys)
        have tdo : ∀ n ∈ srt (ws.map (·.1)), PyData.strOk n = true := fun n hn => (three_ok n (ED.n.subset (srt_mem.mp hn))).2.2.1
        refine ne_same (d := .list ((srt (ws.map (·.1))).map fun n => tD (n, wOf ws n))) (.lst (SqL.of (v1 _ _ el1)) (dp_tups (c := fun n => tc (n, wOf ws n)) (fun a n h => dp_tc a _ h) (T3.same v1))) (.lst (SqL.of upd_same) (dp_sorted (T13.same s14) ED.nd hs hp v1)) (sh_list (n := 1) (fun n hn => lay_tD (tdo n hn)) (fun n _ => Nat.le_refl 1) (by decide)) ⟨_, rfl, iteF ?_⟩
        have s15 := s14.trans v1
        clear v1 T3 el1 nsp hs hp
        refine ⟨_, rfl, es, ex', _, rfl, s15 _ _ hi13, noDb _ _ _, es, coins, ws, us.map V.ref, rfl, hE.same s15, fun l2 nl2 => ?_⟩
        have v2 := same_upd nl2 (o := .lst (us.map V.ref))
        have s16 := s15.trans v2
        refine ⟨_, rfl, e, _, 2, .ref u, rfl, rfl, SqL.of (s16 _ _ ee13), atI_nat (j := 2) rfl, u, us.map V.ref, rfl, .inr (SqT.of (s16 _ _ eu13)), fun l3 nl3 => ?_⟩
        have v3 := same_upd nl3 (o := .lst (us.map V.ref))
        have s17 := s16.trans v3
        refine ne_same (d := .list (ds.map dD)) (.lst (SqL.of (v3 _ _ upd_same)) (dp_tups dp_dc (U13.same s17))) (.lst (SqL.of upd_same) (dp_tups dp_dc (U13.same s17))) (sh_list (n := 1) (fun n hn => lay_dD (cn_ok _ (ED.dn n hn)).2.1) (fun n _ => Nat.le_refl 1) (by decide)) ⟨_, rfl, iteF ?_⟩
        have s18 : Same H13 _ := s17
        clear v2 v3 s16 s15 s14
        generalize upd _ l3 _ = H18 at s17 s18 ⊢
        -- what it is worth
        refine ⟨_, rfl, es, ex', _, rfl, s17 _ _ hi13, noAl _ _ _, es, coins, ws, us.map V.ref, rfl, hE.same s17, ?_⟩
        refine ⟨_, rfl, e, _, 0, .int coins, rfl, rfl, SqL.of (s17 _ _ ee13), atI_nat (j := 0) rfl, _, rfl, e, _, 1, .ref t2, rfl, rfl, SqL.of (s17 _ _ ee13), atI_nat (j := 1) rfl, t2, rfl, ⟨_, SqT.of (s17 _ _ et13)⟩, fun D1 nD1 => ?_⟩
        refine lc_it (walk_tup (xs := qs2.map V.ref)) (fun i Hy => Same H18 Hy ∧ Hy D1 = some (.lst (((ws.take i).map (·.2)).map V.int))) ⟨same_upd nD1, upd_same⟩ (fun i Hy _ h => SqT.of (h.1 _ _ (s17 _ _ et13))) ?_ ?_
        · rintro i v Hy H' hi ⟨k1, k2⟩ ⟨rfl, ev⟩
          rw [List.getElem?_map] at ev
          obtain ⟨q, hq, rfl⟩ := Option.map_eq_some_iff.mp ev
          have hi' : i < ws.length := by have := (List.getElem?_eq_some_iff.mp hq).1; omega
          have hw : ws[i]? = some ws[i] := List.getElem?_eq_getElem hi'
          have hq' := k1 _ _ (s17 _ _ (T13.2 i q (tc ws[i]) hq (by rw [List.getElem?_map, hw]; rfl)))
          refine ⟨rfl, _, rfl, q, _, 1, .int ws[i].2, rfl, rfl, SqT.of hq', atI_nat (j := 1) rfl, _, k2, ?_, ?_, ?_⟩
          · rw [List.length_map, List.length_map, List.length_take]
            exact small1000 (by omega)
          · intro b o hb
            rw [upd_ne (ne_of_none hb nD1)]
            exact k1 b o hb
          · rw [upd_same, List.take_add_one, hw, List.map_append, List.map_append]
            rfl
        · rintro H19 ⟨k1, k2⟩
          rw [List.length_map, lq2, List.take_length] at k2
          refine ⟨D1, _, rfl, SqL.of k2, _, _, rfl, rfl, ne_ref rfl rfl ⟨_, rfl, iteF ?_⟩⟩
          have s19 := s17.trans k1
          refine ⟨_, rfl, es, ex', _, rfl, s19 _ _ hi13, noHa _ _ _, es, coins, ws, us.map V.ref, "ship", rfl, hE.same s19, ?_⟩
          rw [ship_no ED]
          refine ⟨false, false, rfl, rfl, _, rfl, iteF ?_⟩
          -- each thing
          refine ⟨_, rfl, e, _, 1, .ref t2, rfl, rfl, SqL.of (s19 _ _ ee13), atI_nat (j := 1) rfl, t2, rfl, ⟨_, SqT.of (s19 _ _ et13)⟩, for_tup (K := K) (a := t2) (xs := qs2.map V.ref) (fun i σ Hz => ∃ (y18 y19 : Option V), σ = [some (.ref a), some (.ref d), some (.ref p), some (.ref N), some (.ref ll), some (.ref e), some (.int days), some (.str md), some (.ref t), some (.int (rn : Int)), some (.bl st), some (.ref bk), y12, y13, y14, some (.ref pl), some (.ref PD), some (.ref es), y18, y19, none, none, none, none, none, none, none, none, none, none, none] ∧ Same H19 Hz)
            ⟨none, none, rfl, Same.refl _⟩ (fun i σ Hy _ ⟨_, _, _, z⟩ => SqT.of (z _ _ (s19 _ _ et13))) ?_ ?_⟩
          · rintro i v σ Hz ev ⟨y18, y19, rfl, sz⟩
            rw [List.getElem?_map] at ev
            obtain ⟨q, hq, rfl⟩ := Option.map_eq_some_iff.mp ev
            have hi' : i < ws.length := by have := (List.getElem?_eq_some_iff.mp hq).1; omega
            have hw : ws[i]? = some ws[i] := List.getElem?_eq_getElem hi'
            have hm : ws[i] ∈ ws := List.getElem_mem hi'
            have sv := s19.trans sz
            have hq' := sv _ _ (T13.2 i q (tc ws[i]) hq (by rw [List.getElem?_map, hw]; rfl))
            generalize ws[i] = wi at hm hq'
            have hmn : wi.1 ∈ ws.map (·.1) := List.mem_map.mpr ⟨wi, hm, rfl⟩
            refine ⟨q, _, rfl, SqT.of hq', rfl, _, _, rfl, _, _, rfl, rfl, ?_⟩
            refine ⟨_, rfl, es, ex', _, rfl, sv _ _ hi13, noHa _ _ _, _, rfl, es, coins, ws, us.map V.ref, wi.1, rfl, hE.same sv, ?_⟩
            rw [decide_eq_true hmn]
            refine ⟨true, true, rfl, rfl, _, rfl, iteF ?_⟩
            refine ⟨_, rfl, es, ex', _, rfl, sv _ _ hi13, noWo _ _ _, _, rfl, es, coins, ws, us.map V.ref, wi.1, rfl, hE.same sv, hmn, _, rfl, ne_ref (by rw [wOf_mem ED.nd hm]) rfl ⟨_, rfl, iteF ?_⟩⟩
            exact ⟨_, _, rfl, sz⟩
          · rintro σ H20 ⟨y18, y19, rfl, s20⟩
            have v20 := s19.trans s20
            obtain ⟨rs, R⟩ := rks_ex ds
            refine ⟨_, rfl, e, t2, u, coins, ws, ds, qs2, us, rs, rfl, v20 _ _ ee13, v20 _ _ et13, T13.same v20, v20 _ _ eu13, U13.same v20, ED, R, fun q PL H21 fs s21 nq eq epl lfs hfs => ?_⟩
            refine ⟨q, _, rfl, SqL.of eq, rfl, _, _, rfl, _, _, rfl, rfl, ?_⟩
            have v21 := v20.trans s21
            have lz : (ds.zip fs).length = ds.length := by rw [List.length_zip]; omega
            refine ⟨_, rfl, PL, _, rfl, .inl (SqL.of epl), _, rfl, (by rw [List.length_map, lfs]; show -(2 ^ 62 : Int) ≤ (ds.length : Int); omega), (by rw [List.length_map, lfs]; show (ds.length : Int) < 2 ^ 62; omega), fun DD nDD => ?_⟩
            rw [List.length_map, lfs, Int.toNat_natCast]
            refine lc_it walk_range (fun i Hz => Same H21 Hz ∧ ∃ ts : List Addr, Hz DD = some (.lst (ts.map V.ref)) ∧ TupsAt Hz ts (((ds.zip fs).take i).map fun z => [V.str z.1.1, V.ref z.2])) ⟨same_upd nDD, [], upd_same, .nil⟩ (fun _ _ _ _ => trivial) ?_ ?_
            · rintro i v Hz H' hi ⟨k1, ts, k2, k3⟩ ⟨rfl, rfl⟩
              show gName 30 (V.int (0 + (i : Int))) _ _ _
              rw [Int.zero_add]
              have hd : ds[i]? = some ds[i] := List.getElem?_eq_getElem hi
              have hf : fs[i]? = some (fs[i]'(by omega)) := List.getElem?_eq_getElem _
              have hu2 : us[i]? = some (us[i]'(by omega)) := List.getElem?_eq_getElem _
              have hz : (ds.zip fs)[i]? = some (ds[i], fs[i]'(by omega)) := by rw [List.getElem?_zip_eq_some]; exact ⟨hd, hf⟩
              have hq' := (v21.trans k1) _ _ (U13.2 i _ (dc ds[i]) hu2 (by rw [List.getElem?_map, hd]; rfl))
              generalize ds[i] = di at hd hz hq'
              generalize fs[i]'(by omega) = fi at hf hz
              generalize us[i]'(by omega) = ui at hu2 hq'
              refine ⟨rfl, _, rfl, e, _, 2, .ref u, rfl, rfl, SqL.of ((v21.trans k1) _ _ ee13), atI_nat (j := 2) rfl, _, rfl, u, _, (i : Int), .ref ui, rfl, rfl, SqT.of ((v21.trans k1) _ _ eu13), atI_nat (by rw [List.getElem?_map, hu2]; rfl), ui, dc di, 0, .str di.1, rfl, rfl, SqT.of hq', atI_nat (j := 0) rfl, _, rfl, _, rfl, PL, _, (i : Int), .ref fi, rfl, rfl, SqL.of (k1 _ _ epl), atI_nat (by rw [List.getElem?_map, hf]; rfl), (by show 2 ≤ sizeLine; decide), fun T1 n1 => ⟨_, (same_upd n1) _ _ k2, ?_, ?_, ts ++ [T1], ?_, ?_⟩⟩
              · have := k3.1
                rw [List.length_map, List.length_take] at this
                rw [List.length_map]
                exact small1000 (by omega)
              · intro b o hb
                rw [upd_ne (ne_of_none hb nDD)]
                exact (same_upd n1) _ _ (k1 b o hb)
              · rw [upd_same, List.map_append]
                rfl
              · rw [List.take_add_one, hz, List.map_append]
                have PT : T1 ≠ DD := fun z => by rw [z, k2] at n1; cases n1
                refine TupsAt.snoc ⟨k3.1, fun j q c h1 h2 => ?_⟩ (by rw [upd_ne PT, upd_same])
                have := same_upd n1 (o := .tup [.str di.1, .ref fi]) _ _ (k3.2 j q c h1 h2)
                rw [upd_ne (ne_of this ((same_upd n1 (o := .tup [.str di.1, .ref fi])) _ _ k2) (by intro z; cases z))]
                exact this
            · rintro H22 ⟨k1, ts, k2, k3⟩
              rw [show (ds.zip fs).take ds.length = ds.zip fs by rw [← lz, List.take_length]] at k3
              have v22 := v21.trans k1
              have dsz : DSz ds := ⟨by omega, ED.da⟩
              have wc0 : 0 ≤ coins + (ws.map (·.2)).sum := by
                have := ws_sum0 ws ED.w
                have := ED.c0
                omega
              refine ⟨_, rfl, es, coins, ws, us, ds, rs, rfl, hE.same v22, U13.same v22, dsz, R, wc0, fun t3 l3 H23 us3 s23 n3 et3 el3 lu3 hp3 => ?_⟩
              refine ⟨_, rfl, _, rfl, (by show 2 ≤ sizeLine; decide), fun T5 n5 => ?_⟩
              have v5 := same_upd n5 (o := .tup [.ref DD, .int (lft (dueOf ds) (coins + (ws.map (·.2)).sum) rs)])
              have ddo : ∀ d ∈ ds, PyData.strOk d.1 = true := fun d hd => (cn_ok _ (ED.dn d hd)).2.1
              refine ne_same (d := .tuple [.list (ds.map (pdD (dueOf ds) (coins + (ws.map (·.2)).sum) rs)), .int (lft (dueOf ds) (coins + (ws.map (·.2)).sum) rs)])
                (.tup (SqT.of (v5 _ _ et3)) (.cons (.lst (SqL.of (v5 _ _ el3)) (dp_allI lu3 fun i q x hq hx => ?_)) (.cons (.int _) .nil)))
                (.tup (SqT.of upd_same) (.cons (.lst (SqL.of ((s23.trans v5) _ _ k2)) (dp_allI (by have := k3.1; rw [List.length_map, lz] at this; exact this) fun i q x hq hx => ?_)) (.cons (.int _) .nil))) (sh_paid ddo _) ⟨_, rfl, iteF ?_⟩
              · obtain ⟨f', ri, a1, a2, a3⟩ := hp3 i x q hx hq
                have hr' := R.ix a2 (rix_at R (List.mem_of_getElem? hx))
                subst hr'
                exact .tup (SqT.of (v5 _ _ a1)) (.cons (.str _) (.cons (dp_fv (sameT v5 a3)) .nil))
              · have hix : i < ds.length := (List.getElem?_eq_some_iff.mp hx).1
                have hf : fs[i]? = some (fs[i]'(by omega)) := List.getElem?_eq_getElem _
                have hz : (ds.zip fs)[i]? = some (x, fs[i]'(by omega)) := by rw [List.getElem?_zip_eq_some]; exact ⟨hx, hf⟩
                have h1 := k3.2 i q [.str x.1, .ref (fs[i]'(by omega))] hq (by rw [List.getElem?_map, hz]; rfl)
                have h2 := hfs i x _ _ hx hf (rix_at R (List.mem_of_getElem? hx))
                exact .tup (SqT.of ((s23.trans v5) _ _ h1)) (.cons (.str _) (.cons (dp_fv (sameT ((k1.trans s23).trans v5) h2)) .nil))
              -- the lines that stand
              have v24 := v22.trans (s23.trans v5)
              have W24 : Wls K _ ll wl := W9.same (s13.trans v24)
              have wlx := wxs_len wl
              have wlo := wos_len wl
              refine ⟨_, rfl, ll, wxs wl, wos wl, rfl, SqL.of W24.el, by omega, by omega, W24.its, fun z => (by omega), fun i ps' _ z _ _ => absurd z wos_some, fun ps' _ l2 g2 l4 H25 s25 nl4 el4 => ?_⟩
              obtain rfl := goods_eq (by omega) g2
              have shn := stn_shows (gs := stn ps') (Nat.le_trans (stn_len ps') zw) fun g hg => ⟨(stn_mem hg).2, (W9.at' g (stn_mem hg).1).2⟩
              refine ⟨l4, _, rfl, dp_stn el4 (fun g hg => ⟨((W24.same s25).at' g (stn_mem hg).1).1, (stn_mem hg).2, (W9.at' g (stn_mem hg).1).2⟩), shn.1, shn.2.1, shn.2.2.1, shn.2.2.2, ?_⟩
              refine ⟨_, rfl, ll, ps', rfl, W24.same s25, by omega, fun l5 H26 s26 nl5 el5 => ?_⟩
              refine ⟨l5, _, rfl, dp_stn el5 (fun g hg => ⟨((W24.same (s25.trans s26)).at' g (stn_mem hg).1).1, (stn_mem hg).2, (W9.at' g (stn_mem hg).1).2⟩), shn.1, shn.2.1, shn.2.2.1, shn.2.2.2, ne_ref rfl rfl ⟨_, rfl, iteF ?_⟩⟩
              have v26 := v24.trans (s25.trans s26)
              have w26 := s13.trans v26
              clear v5 n5 el4 nl4 el5 nl5 hp3 lu3 el3 et3 n3 s23 k3 k2 k1 hfs epl eq nq nDD nD1
              -- the wrong rules
              refine ⟨_, rfl, a, ns, 1, rfl, sqlS w26 hS9, by decide, _, rfl, ?_⟩
              generalize hte : (if cell ns 1 < 0 then -cell ns 1 else cell ns 1) = tt
              have t0 : 0 ≤ tt := by rw [← hte]; split <;> omega
              clear hte
              refine ⟨_, rfl, _, rfl, _, _, rfl, rfl, (by show (0 : Int) < 1000; decide), p, t, days, md, ps, (rn : Int), .bl st, qs, tt % 1000, rfl, Int.emod_nonneg _ (by decide), w26 _ _ ep9, w26 _ _ et9, T9.same w26, RD, fun q2 H27 dv mv sv rv word o s27 eq2 fd1 om fr1 ls rw' wk => ?_⟩
              refine ⟨q2, _, rfl, SqL.of eq2, rfl, _, _, rfl, _, _, rfl, _, _, rfl, _, _, rfl, _, _, rfl, rfl, ?_⟩
              refine ⟨_, rfl, _, rfl, _, rfl, _, rfl, dv, mv, sv, rv, o, rfl, fd1, om, fr1, ls, fun H28 s28 => ⟨_, rfl, ne_ref (congrArg V.str rw') rfl ⟨_, rfl, iteF ?_⟩⟩⟩
              have v28 := v26.trans (s27.trans s28)
              -- the wrong estate
              refine ⟨_, rfl, _, rfl, _, _, rfl, rfl, ⟨by decide, by decide⟩, .inl ⟨_, rfl, _, _, rfl, rfl, (by show (0 : Int) < 1000; decide), e, t2, u, coins, ws, ds, qs2, us, tt / 7 % 1000, rfl, Int.emod_nonneg _ (by decide), v28 _ _ ee13, v28 _ _ et13, T13.same v28, v28 _ _ eu13, U13.same v28, ED, fun q3 H29 cv ea eb exs eys eos eds word2 s29 eq3 fc1 hea heb le1 le2 le3 le4 it1 it2 rw2 wk2 => ?_⟩⟩
              refine ⟨q3, _, rfl, SqL.of eq3, rfl, _, _, rfl, _, _, rfl, _, _, rfl, _, _, rfl, rfl, ?_⟩
              refine ⟨_, rfl, _, rfl, _, rfl, ea, eb, cv, exs, eys, eos, eds, rfl, fc1, hea, heb, le1, le2, le3, le4, it1, it2, fun H30 s30 => ⟨_, rfl, ne_ref (congrArg V.str rw2) rfl ⟨_, rfl, iteF ?_⟩⟩⟩
              have v30 := v28.trans (s29.trans s30)
              have W30 : Wls K H30 ll ps' := W9.same (s13.trans v30)
              -- the wrong line
              refine ⟨_, rfl, _, _, rfl, rfl, ⟨by decide, by decide⟩, .inl ⟨_, rfl, _, rfl, ll, wxs ps', rfl, .inl (SqL.of W30.el), _, _, rfl, rfl, _, _, rfl, rfl, (by show (0 : Int) < ((wxs ps').length : Int) + 1; omega), ?_⟩⟩
              rw [wlx]
              obtain ⟨n0, en0⟩ : ∃ n0 : Nat, tt / 11 % ((ps'.length : Int) + 1) = (n0 : Int) := ⟨(tt / 11 % ((ps'.length : Int) + 1)).toNat, by have := Int.emod_nonneg (tt / 11) (b := (ps'.length : Int) + 1) (by omega); omega⟩
              have n0l : n0 ≤ ps'.length := by have := Int.emod_lt_of_pos (tt / 11) (b := (ps'.length : Int) + 1) (by omega); omega
              show gName 28 (V.int (tt / 11 % ((ps'.length : Int) + 1))) _ _ _
              rw [en0]
              refine ⟨_, rfl, _, rfl, (n0 : Int), rfl, ll, wxs ps', rfl, SqL.of W30.el, fun A1 m1 => ?_⟩
              rw [cut_take (wxs ps') n0 (by omega)]
              have b1 := same_upd m1 (o := .lst ((wxs ps').take n0))
              refine ⟨_, rfl, _, _, rfl, rfl, ⟨by decide, by decide⟩, .inl ⟨_, rfl, tt / 13, rfl, fun v H31 s31 iv => ⟨(by show 1 ≤ sizeLine; decide), fun A2 m2 => ?_⟩⟩⟩
              have b2 := same_upd m2 (o := .lst [v])
              refine ⟨A1, A2, _, _, rfl, rfl, (s31.trans b2) _ _ upd_same, upd_same, (by rw [List.length_take]; exact Nat.le_of_lt (small1000 (by show min n0 (wxs ps').length + 1 ≤ 1000; omega))), fun C1 m3 => ?_⟩
              have b3 := same_upd m3 (o := .lst ((wxs ps').take n0 ++ [v]))
              have b13 := ((b1.trans s31).trans b2).trans b3
              refine ⟨_, rfl, _, rfl, (n0 : Int), rfl, ll, wxs ps', rfl, SqL.of (b13 _ _ W30.el), fun A3 m4 => ?_⟩
              rw [cut_drop (wxs ps') n0 (by omega)]
              have b4 := same_upd m4 (o := .lst ((wxs ps').drop n0))
              refine ⟨C1, A3, _, _, rfl, rfl, b4 _ _ upd_same, upd_same, (by rw [List.length_append, List.length_take, List.length_drop]; exact Nat.le_of_lt (small1000 (by show min n0 (wxs ps').length + 1 + ((wxs ps').length - n0) ≤ 1000; omega))), fun C2 m5 => ?_⟩
              have b5 := same_upd m5 (o := .lst ((wxs ps').take n0 ++ [v] ++ (wxs ps').drop n0))
              have its := (W30.same (b13.trans (b4.trans b5))).its
              refine ⟨C2, _, (wos ps').take n0 ++ [none] ++ (wos ps').drop n0, (n0 : Int), rfl, SqL.of upd_same, ?_, ?_, its_appG (by rw [List.length_append, List.length_append, List.length_take, List.length_take]; show min n0 (wos ps').length + 1 = min n0 (wxs ps').length + 1; omega) (its_appG (by rw [List.length_take, List.length_take]; omega) (its_take its n0) (its_consG ((((iv.same b2).same b3).same b4).same b5) its_nilG)) (its_drop its n0), wat_bad n0l (by omega), fun H32 s32 => ⟨_, rfl, ne_ref rfl rfl ⟨_, rfl, iteF ?_⟩⟩⟩
              · rw [List.length_append, List.length_append, List.length_take, List.length_drop]
                show min n0 (wxs ps').length + 1 + ((wxs ps').length - n0) ≤ 900
                omega
              · rw [List.length_append, List.length_append, List.length_take, List.length_drop, List.length_append, List.length_append, List.length_take, List.length_drop]
                show min n0 (wos ps').length + 1 + ((wos ps').length - n0) = min n0 (wxs ps').length + 1 + ((wxs ps').length - n0)
                omega
              clear its b1 b2 b3 b4 b5 b13 m1 m2 m3 m4 m5 s31 iv
              -- too many lines
              obtain ⟨m, em⟩ : ∃ m : Nat, (58 : Int) + tt % 5 = (m : Int) := ⟨((58 : Int) + tt % 5).toNat, by have := Int.emod_nonneg tt (b := 5) (by decide); omega⟩
              have m62 : m ≤ 62 := by have := Int.emod_lt_of_pos tt (b := 5) (by decide); omega
              refine ⟨(by show 2 ≤ sizeLine; decide), fun Z nZ => ⟨(by show 1 ≤ sizeLine; decide), fun L4 nL4 => ?_⟩⟩
              refine ⟨_, rfl, _, _, rfl, rfl, (by show (0 : Int) < 5; decide), _, _, rfl, rfl, L4, _, _, rfl, rfl, upd_same, (by rw [em]; omega), (by rw [em]; omega), (by rw [em]; exact Nat.le_of_lt (small1000 (by show 1 * ((m : Nat) : Int).toNat ≤ 1000; omega))), fun PL2 nPL => ?_⟩
              rw [em, Int.toNat_natCast, reps_xs]
              have c2 := same_upd nL4 (o := .lst [.ref Z])
              have c3 := same_upd nPL (o := .lst (wxs (reps Z m)))
              have hZ := (c2.trans c3) _ _ (upd_same (H := H32) (a := Z) (o := .tup [.str "revoke", .int 1]))
              have rl : (wxs (reps Z m)).length = m := by rw [wxs_len, reps_len]
              have wr := reps_wat Z m
              by_cases c : 60 < m
              · rw [if_pos c] at wr
                refine ⟨_, rfl, PL2, wxs (reps Z m), wos (reps Z m), _, rfl, SqL.of upd_same, by omega, by rw [wos_len, wxs_len], reps_it hZ, wr, fun H33 s33 => ?_⟩
                have ePL := s33 _ _ (upd_same (a := PL2) (o := .lst (wxs (reps Z m))))
                clear wr c3 hZ
                refine ⟨_, _, rfl, rfl, (by show 2 ≤ sizeLine; decide), fun L5 nL5 => ?_⟩
                have c5 := same_upd nL5 (o := .lst [.int (0 - 1), .int 60])
                refine ⟨_, rfl, PL2, wxs (reps Z m), rfl, .inl (SqL.of (c5 _ _ ePL)), _, _, rfl, rfl, .inr ⟨_, rfl, L5, _, _, .int 60, rfl, rfl, SqL.of upd_same, ?_, rfl, ?_⟩⟩
                · rw [decide_eq_true (show (60 : Int) < ((wxs (reps Z m)).length : Int) by omega)]
                  exact atI_nat (j := 1) rfl
                · have e := decide_eq_true (rfl : V.int 60 = V.int 60)
                  first
                  | (rw [e]; exact go _)
                  | (show Q (V.bl (decide (V.int 60 = V.int 60))) _; rw [e]; exact go _)
                  | (rw [decide_eq_true rfl]; exact go _)
                  | exact go _
              · rw [if_neg c] at wr
                refine ⟨_, rfl, PL2, wxs (reps Z m), wos (reps Z m), _, rfl, SqL.of upd_same, by omega, by rw [wos_len, wxs_len], reps_it hZ, wr, fun H33 s33 => ?_⟩
                have ePL := s33 _ _ (upd_same (a := PL2) (o := .lst (wxs (reps Z m))))
                clear wr c3 hZ
                refine ⟨_, _, rfl, rfl, (by show 2 ≤ sizeLine; decide), fun L5 nL5 => ?_⟩
                have c5 := same_upd nL5 (o := .lst [.int (0 - 1), .int 60])
                refine ⟨_, rfl, PL2, wxs (reps Z m), rfl, .inl (SqL.of (c5 _ _ ePL)), _, _, rfl, rfl, .inr ⟨_, rfl, L5, _, _, .int (-1), rfl, rfl, SqL.of upd_same, ?_, rfl, ?_⟩⟩
                · rw [decide_eq_false (show ¬ (60 : Int) < ((wxs (reps Z m)).length : Int) by omega)]
                  exact atI_nat (j := 0) rfl
                · have e := decide_eq_true (rfl : V.int (-1) = V.int (-1))
                  first
                  | (rw [e]; exact go _)
                  | (show Q (V.bl (decide (V.int (-1) = V.int (-1)))) _; rw [e]; exact go _)
                  | (rw [decide_eq_true rfl]; exact go _)
                  | exact go _
end
end K2
namespace K2
open PySem L2 PyProof.Rows PySem.Spec G
theorem tup_of {K : PySem.W.Frag} {a : Addr} {o : Obj} {its : List Value} {n : Nat} {xs : List V} (h : K.lookup a = some o) (c : o.cls = .type "tuple") (d : o.data = .seq its.toArray n) (z : its.length ≤ 1000) (v : Vals xs its) : ∀ H, SqT K H a xs := fun H => .inr ⟨o, its.toArray, n, h, c, d, by rw [List.size_toArray, sizeLine_eq]; omega, v⟩
/-! what the top has written -/
theorem all_mk {l : PySem.W.OpenLaw} {w : World} {K : PySem.W.Frag} {h : Heap} {mg : Str → Option Value} {fa CE CB CR CW CF CRR CRW CRF DKE DKB aT1 aT2 aS aS1 aS2 aS3 aS4 aM aO fNam fAmt fFra fMin fTim fThn fThi fDeb fTks fGiv fLin fTaw fSta fPdp fPdd fUpt fPar fPas fCel fNum fFee fTak fLru fLwi fLes fEuc fLow fLst fLde fRuw fEsw fWat fBru fBes fBli fLaw fHas fWor fThs fDbs fAll fSpp fOtp fEstI fBokI fRulI fWilI fEsxI : Addr} (X : K.In h) (G : h.Ns mainGlobals mg) (hfa : mg "law" = some (.ref fa))
    {odNam anNam odAmt anAmt odFra anFra odMin anMin odTim anTim odThn anThn odThi anThi odDeb anDeb odTks anTks odGiv anGiv odLin anLin odTaw anTaw odSta anSta odPdp anPdp odPdd anPdd odUpt anUpt odPar anPar odPas anPas odCel anCel odNum anNum odFee anFee odTak anTak odLru anLru odLwi anLwi odLes anLes odEuc anEuc odLow anLow odLst anLst odLde anLde odRuw anRuw odEsw anEsw odWat anWat odBru anBru odBes anBes odBli anBli odLaw anLaw odHas anHas odWor anWor odThs anThs odDbs anDbs odAll anAll odSpp anSpp odOtp anOtp odEstI anEstI odBokI anBokI odRulI anRulI odWilI anWilI odEsxI anEsxI : Option Addr} {slNam slAmt slFra slMin slTim slThn slThi slDeb slTks slGiv slLin slTaw slSta slPdp slPdd slUpt slPar slPas slCel slNum slFee slTak slLru slLwi slLes slEuc slLow slLst slLde slRuw slEsw slWat slBru slBes slBli slLaw slHas slWor slThs slDbs slAll slSpp slOtp slEstI slBokI slRulI slWilI slEsxI : Array (Option Value)} {ocNam kVNam dcNam pmNam cdNam ctNam ocAmt kVAmt dcAmt pmAmt cdAmt ctAmt ocFra kVFra dcFra pmFra cdFra ctFra ocMin kVMin dcMin pmMin cdMin ctMin ocTim kVTim dcTim pmTim cdTim ctTim ocThn kVThn dcThn pmThn cdThn ctThn ocThi kVThi dcThi pmThi cdThi ctThi ocDeb kVDeb dcDeb pmDeb cdDeb ctDeb ocTks kVTks dcTks pmTks cdTks ctTks ocGiv kVGiv dcGiv pmGiv cdGiv ctGiv ocLin kVLin dcLin pmLin cdLin ctLin ocTaw kVTaw dcTaw pmTaw cdTaw ctTaw ocSta kVSta dcSta pmSta cdSta ctSta ocPdp kVPdp dcPdp pmPdp cdPdp ctPdp ocPdd kVPdd dcPdd pmPdd cdPdd ctPdd ocUpt kVUpt dcUpt pmUpt cdUpt ctUpt ocPar kVPar dcPar pmPar cdPar ctPar ocPas kVPas dcPas pmPas cdPas ctPas ocCel kVCel dcCel pmCel cdCel ctCel ocNum kVNum dcNum pmNum cdNum ctNum ocFee kVFee dcFee pmFee cdFee ctFee ocTak kVTak dcTak pmTak cdTak ctTak ocLru kVLru dcLru pmLru cdLru ctLru ocLwi kVLwi dcLwi pmLwi cdLwi ctLwi ocLes kVLes dcLes pmLes cdLes ctLes ocEuc kVEuc dcEuc pmEuc cdEuc ctEuc ocLow kVLow dcLow pmLow cdLow ctLow ocLst kVLst dcLst pmLst cdLst ctLst ocLde kVLde dcLde pmLde cdLde ctLde ocRuw kVRuw dcRuw pmRuw cdRuw ctRuw ocEsw kVEsw dcEsw pmEsw cdEsw ctEsw ocWat kVWat dcWat pmWat cdWat ctWat ocBru kVBru dcBru pmBru cdBru ctBru ocBes kVBes dcBes pmBes cdBes ctBes ocBli kVBli dcBli pmBli cdBli ctBli ocLaw kVLaw dcLaw pmLaw cdLaw ctLaw ocHas kVHas dcHas pmHas cdHas ctHas ocWor kVWor dcWor pmWor cdWor ctWor ocThs kVThs dcThs pmThs cdThs ctThs ocDbs kVDbs dcDbs pmDbs cdDbs ctDbs ocAll kVAll dcAll pmAll cdAll ctAll ocSpp kVSpp dcSpp pmSpp cdSpp ctSpp ocOtp kVOtp dcOtp pmOtp cdOtp ctOtp ocEstI dcEstI pmEstI cdEstI ctEstI ocBokI dcBokI pmBokI cdBokI ctBokI ocRulI kVRulI dcRulI pmRulI cdRulI ctRulI ocWilI kVWilI dcWilI pmWilI cdWilI ctWilI ocEsxI kVEsxI dcEsxI pmEsxI cdEsxI ctEsxI : Value} {tSg tLn tCr tGr tTs tLt tLi tTk tMd tMr tGp u0 u1 u2 u3 u4 u5 u6 u7 u8 u9 u10 u11 u12 u13 u14 : Tok} {od0 od1 od2 od3 od4 od5 od6 : Option Addr} {sl0 sl1 sl2 sl3 sl4 sl5 sl6 : Array (Option Value)} {nn0 nn1 nn2 nn3 nn4 nn5 nn6 : Nat}
    (aNam : PySem.W.nsIn K mainGlobals "is_name" = some (some (.ref fNam)))
    (lNam : K.lookup fNam = some ⟨ocNam, odNam, .func (PySem.W.fnOf "is_name" "is_name" (defArgs sNam) (defBody sNam) (defScope sNam) .none kVNam dcNam pmNam anNam cdNam ctNam), slNam⟩)
    (cNam : PySem.W.codeIn K cdNam "is_name" = true)
    (kNam : PySem.W.keepIn K (.ref fNam) = true)
    (aAmt : PySem.W.nsIn K mainGlobals "is_amount" = some (some (.ref fAmt)))
    (lAmt : K.lookup fAmt = some ⟨ocAmt, odAmt, .func (PySem.W.fnOf "is_amount" "is_amount" (defArgs sAmt) (defBody sAmt) (defScope sAmt) .none kVAmt dcAmt pmAmt anAmt cdAmt ctAmt), slAmt⟩)
    (cAmt : PySem.W.codeIn K cdAmt "is_amount" = true)
    (kAmt : PySem.W.keepIn K (.ref fAmt) = true)
    (aFra : PySem.W.nsIn K mainGlobals "fraction" = some (some (.ref fFra)))
    (lFra : K.lookup fFra = some ⟨ocFra, odFra, .func (PySem.W.fnOf "fraction" "fraction" (defArgs sFra) (defBody sFra) (defScope sFra) .none kVFra dcFra pmFra anFra cdFra ctFra), slFra⟩)
    (cFra : PySem.W.codeIn K cdFra "fraction" = true)
    (kFra : PySem.W.keepIn K (.ref fFra) = true)
    (aMin : PySem.W.nsIn K mainGlobals "minus" = some (some (.ref fMin)))
    (lMin : K.lookup fMin = some ⟨ocMin, odMin, .func (PySem.W.fnOf "minus" "minus" (defArgs sMin) (defBody sMin) (defScope sMin) .none kVMin dcMin pmMin anMin cdMin ctMin), slMin⟩)
    (cMin : PySem.W.codeIn K cdMin "minus" = true)
    (kMin : PySem.W.keepIn K (.ref fMin) = true)
    (aTim : PySem.W.nsIn K mainGlobals "times" = some (some (.ref fTim)))
    (lTim : K.lookup fTim = some ⟨ocTim, odTim, .func (PySem.W.fnOf "times" "times" (defArgs sTim) (defBody sTim) (defScope sTim) .none kVTim dcTim pmTim anTim cdTim ctTim), slTim⟩)
    (cTim : PySem.W.codeIn K cdTim "times" = true)
    (kTim : PySem.W.keepIn K (.ref fTim) = true)
    (aThn : PySem.W.nsIn K mainGlobals "_is_thing_name" = some (some (.ref fThn)))
    (lThn : K.lookup fThn = some ⟨ocThn, odThn, .func (PySem.W.fnOf "_is_thing_name" "_is_thing_name" (defArgs sThn) (defBody sThn) (defScope sThn) .none kVThn dcThn pmThn anThn cdThn ctThn), slThn⟩)
    (cThn : PySem.W.codeIn K cdThn "_is_thing_name" = true)
    (kThn : PySem.W.keepIn K (.ref fThn) = true)
    (aThi : PySem.W.nsIn K mainGlobals "_is_thing" = some (some (.ref fThi)))
    (lThi : K.lookup fThi = some ⟨ocThi, odThi, .func (PySem.W.fnOf "_is_thing" "_is_thing" (defArgs sThi) (defBody sThi) (defScope sThi) .none kVThi dcThi pmThi anThi cdThi ctThi), slThi⟩)
    (cThi : PySem.W.codeIn K cdThi "_is_thing" = true)
    (kThi : PySem.W.keepIn K (.ref fThi) = true)
    (aDeb : PySem.W.nsIn K mainGlobals "_is_debt" = some (some (.ref fDeb)))
    (lDeb : K.lookup fDeb = some ⟨ocDeb, odDeb, .func (PySem.W.fnOf "_is_debt" "_is_debt" (defArgs sDeb) (defBody sDeb) (defScope sDeb) .none kVDeb dcDeb pmDeb anDeb cdDeb ctDeb), slDeb⟩)
    (cDeb : PySem.W.codeIn K cdDeb "_is_debt" = true)
    (kDeb : PySem.W.keepIn K (.ref fDeb) = true)
    (aTks : PySem.W.nsIn K mainGlobals "_are_takers" = some (some (.ref fTks)))
    (lTks : K.lookup fTks = some ⟨ocTks, odTks, .func (PySem.W.fnOf "_are_takers" "_are_takers" (defArgs sTks) (defBody sTks) (defScope sTks) .none kVTks dcTks pmTks anTks cdTks ctTks), slTks⟩)
    (cTks : PySem.W.codeIn K cdTks "_are_takers" = true)
    (kTks : PySem.W.keepIn K (.ref fTks) = true)
    (aGiv : PySem.W.nsIn K mainGlobals "_is_given" = some (some (.ref fGiv)))
    (lGiv : K.lookup fGiv = some ⟨ocGiv, odGiv, .func (PySem.W.fnOf "_is_given" "_is_given" (defArgs sGiv) (defBody sGiv) (defScope sGiv) .none kVGiv dcGiv pmGiv anGiv cdGiv ctGiv), slGiv⟩)
    (cGiv : PySem.W.codeIn K cdGiv "_is_given" = true)
    (kGiv : PySem.W.keepIn K (.ref fGiv) = true)
    (aLin : PySem.W.nsIn K mainGlobals "_is_line" = some (some (.ref fLin)))
    (lLin : K.lookup fLin = some ⟨ocLin, odLin, .func (PySem.W.fnOf "_is_line" "_is_line" (defArgs sLin) (defBody sLin) (defScope sLin) .none kVLin dcLin pmLin anLin cdLin ctLin), slLin⟩)
    (cLin : PySem.W.codeIn K cdLin "_is_line" = true)
    (kLin : PySem.W.keepIn K (.ref fLin) = true)
    (aTaw : PySem.W.nsIn K mainGlobals "_takes_away" = some (some (.ref fTaw)))
    (lTaw : K.lookup fTaw = some ⟨ocTaw, odTaw, .func (PySem.W.fnOf "_takes_away" "_takes_away" (defArgs sTaw) (defBody sTaw) (defScope sTaw) .none kVTaw dcTaw pmTaw anTaw cdTaw ctTaw), slTaw⟩)
    (cTaw : PySem.W.codeIn K cdTaw "_takes_away" = true)
    (kTaw : PySem.W.keepIn K (.ref fTaw) = true)
    (aSta : PySem.W.nsIn K mainGlobals "standing" = some (some (.ref fSta)))
    (lSta : K.lookup fSta = some ⟨ocSta, odSta, .func (PySem.W.fnOf "standing" "standing" (defArgs sSta) (defBody sSta) (defScope sSta) .none kVSta dcSta pmSta anSta cdSta ctSta), slSta⟩)
    (cSta : PySem.W.codeIn K cdSta "standing" = true)
    (kSta : PySem.W.keepIn K (.ref fSta) = true)
    (aPdp : PySem.W.nsIn K mainGlobals "_paid_parts" = some (some (.ref fPdp)))
    (lPdp : K.lookup fPdp = some ⟨ocPdp, odPdp, .func (PySem.W.fnOf "_paid_parts" "_paid_parts" (defArgs sPdp) (defBody sPdp) (defScope sPdp) .none kVPdp dcPdp pmPdp anPdp cdPdp ctPdp), slPdp⟩)
    (cPdp : PySem.W.codeIn K cdPdp "_paid_parts" = true)
    (kPdp : PySem.W.keepIn K (.ref fPdp) = true)
    (aPdd : PySem.W.nsIn K mainGlobals "paid_debts" = some (some (.ref fPdd)))
    (lPdd : K.lookup fPdd = some ⟨ocPdd, odPdd, .func (PySem.W.fnOf "paid_debts" "paid_debts" (defArgs sPdd) (defBody sPdd) (defScope sPdd) .none kVPdd dcPdd pmPdd anPdd cdPdd ctPdd), slPdd⟩)
    (cPdd : PySem.W.codeIn K cdPdd "paid_debts" = true)
    (kPdd : PySem.W.keepIn K (.ref fPdd) = true)
    (aUpt : PySem.W.nsIn K mainGlobals "_is_up_to" = some (some (.ref fUpt)))
    (lUpt : K.lookup fUpt = some ⟨ocUpt, odUpt, .func (PySem.W.fnOf "_is_up_to" "_is_up_to" (defArgs sUpt) (defBody sUpt) (defScope sUpt) .none kVUpt dcUpt pmUpt anUpt cdUpt ctUpt), slUpt⟩)
    (cUpt : PySem.W.codeIn K cdUpt "_is_up_to" = true)
    (kUpt : PySem.W.keepIn K (.ref fUpt) = true)
    (aPar : PySem.W.nsIn K mainGlobals "_is_part" = some (some (.ref fPar)))
    (lPar : K.lookup fPar = some ⟨ocPar, odPar, .func (PySem.W.fnOf "_is_part" "_is_part" (defArgs sPar) (defBody sPar) (defScope sPar) .none kVPar dcPar pmPar anPar cdPar ctPar), slPar⟩)
    (cPar : PySem.W.codeIn K cdPar "_is_part" = true)
    (kPar : PySem.W.keepIn K (.ref fPar) = true)
    (aPas : PySem.W.nsIn K mainGlobals "_are_parts" = some (some (.ref fPas)))
    (lPas : K.lookup fPas = some ⟨ocPas, odPas, .func (PySem.W.fnOf "_are_parts" "_are_parts" (defArgs sPas) (defBody sPas) (defScope sPas) .none kVPas dcPas pmPas anPas cdPas ctPas), slPas⟩)
    (cPas : PySem.W.codeIn K cdPas "_are_parts" = true)
    (kPas : PySem.W.keepIn K (.ref fPas) = true)
    (aCel : PySem.W.nsIn K mainGlobals "_law_cell" = some (some (.ref fCel)))
    (lCel : K.lookup fCel = some ⟨ocCel, odCel, .func (PySem.W.fnOf "_law_cell" "_law_cell" (defArgs sCel) (defBody sCel) (defScope sCel) .none kVCel dcCel pmCel anCel cdCel ctCel), slCel⟩)
    (cCel : PySem.W.codeIn K cdCel "_law_cell" = true)
    (kCel : PySem.W.keepIn K (.ref fCel) = true)
    (aNum : PySem.W.nsIn K mainGlobals "_law_numbers" = some (some (.ref fNum)))
    (lNum : K.lookup fNum = some ⟨ocNum, odNum, .func (PySem.W.fnOf "_law_numbers" "_law_numbers" (defArgs sNum) (defBody sNum) (defScope sNum) .none kVNum dcNum pmNum anNum cdNum ctNum), slNum⟩)
    (cNum : PySem.W.codeIn K cdNum "_law_numbers" = true)
    (kNum : PySem.W.keepIn K (.ref fNum) = true)
    (aFee : PySem.W.nsIn K mainGlobals "_law_feed" = some (some (.ref fFee)))
    (lFee : K.lookup fFee = some ⟨ocFee, odFee, .func (PySem.W.fnOf "_law_feed" "_law_feed" (defArgs sFee) (defBody sFee) (defScope sFee) .none kVFee dcFee pmFee anFee cdFee ctFee), slFee⟩)
    (cFee : PySem.W.codeIn K cdFee "_law_feed" = true)
    (kFee : PySem.W.keepIn K (.ref fFee) = true)
    (aTak : PySem.W.nsIn K mainGlobals "_law_take" = some (some (.ref fTak)))
    (lTak : K.lookup fTak = some ⟨ocTak, odTak, .func (PySem.W.fnOf "_law_take" "_law_take" (defArgs sTak) (defBody sTak) (defScope sTak) .none kVTak dcTak pmTak anTak cdTak ctTak), slTak⟩)
    (cTak : PySem.W.codeIn K cdTak "_law_take" = true)
    (kTak : PySem.W.keepIn K (.ref fTak) = true)
    (aLru : PySem.W.nsIn K mainGlobals "_law_rules" = some (some (.ref fLru)))
    (lLru : K.lookup fLru = some ⟨ocLru, odLru, .func (PySem.W.fnOf "_law_rules" "_law_rules" (defArgs sLru) (defBody sLru) (defScope sLru) .none kVLru dcLru pmLru anLru cdLru ctLru), slLru⟩)
    (cLru : PySem.W.codeIn K cdLru "_law_rules" = true)
    (kLru : PySem.W.keepIn K (.ref fLru) = true)
    (aLwi : PySem.W.nsIn K mainGlobals "_law_will" = some (some (.ref fLwi)))
    (lLwi : K.lookup fLwi = some ⟨ocLwi, odLwi, .func (PySem.W.fnOf "_law_will" "_law_will" (defArgs sLwi) (defBody sLwi) (defScope sLwi) .none kVLwi dcLwi pmLwi anLwi cdLwi ctLwi), slLwi⟩)
    (cLwi : PySem.W.codeIn K cdLwi "_law_will" = true)
    (kLwi : PySem.W.keepIn K (.ref fLwi) = true)
    (aLes : PySem.W.nsIn K mainGlobals "_law_estate" = some (some (.ref fLes)))
    (lLes : K.lookup fLes = some ⟨ocLes, odLes, .func (PySem.W.fnOf "_law_estate" "_law_estate" (defArgs sLes) (defBody sLes) (defScope sLes) .none kVLes dcLes pmLes anLes cdLes ctLes), slLes⟩)
    (cLes : PySem.W.codeIn K cdLes "_law_estate" = true)
    (kLes : PySem.W.keepIn K (.ref fLes) = true)
    (aEuc : PySem.W.nsIn K mainGlobals "_law_common" = some (some (.ref fEuc)))
    (lEuc : K.lookup fEuc = some ⟨ocEuc, odEuc, .func (PySem.W.fnOf "_law_common" "_law_common" (defArgs sEuc) (defBody sEuc) (defScope sEuc) .none kVEuc dcEuc pmEuc anEuc cdEuc ctEuc), slEuc⟩)
    (cEuc : PySem.W.codeIn K cdEuc "_law_common" = true)
    (kEuc : PySem.W.keepIn K (.ref fEuc) = true)
    (aLow : PySem.W.nsIn K mainGlobals "_law_fraction" = some (some (.ref fLow)))
    (lLow : K.lookup fLow = some ⟨ocLow, odLow, .func (PySem.W.fnOf "_law_fraction" "_law_fraction" (defArgs sLow) (defBody sLow) (defScope sLow) .none kVLow dcLow pmLow anLow cdLow ctLow), slLow⟩)
    (cLow : PySem.W.codeIn K cdLow "_law_fraction" = true)
    (kLow : PySem.W.keepIn K (.ref fLow) = true)
    (aLst : PySem.W.nsIn K mainGlobals "_law_standing" = some (some (.ref fLst)))
    (lLst : K.lookup fLst = some ⟨ocLst, odLst, .func (PySem.W.fnOf "_law_standing" "_law_standing" (defArgs sLst) (defBody sLst) (defScope sLst) .none kVLst dcLst pmLst anLst cdLst ctLst), slLst⟩)
    (cLst : PySem.W.codeIn K cdLst "_law_standing" = true)
    (kLst : PySem.W.keepIn K (.ref fLst) = true)
    (aLde : PySem.W.nsIn K mainGlobals "_law_debts" = some (some (.ref fLde)))
    (lLde : K.lookup fLde = some ⟨ocLde, odLde, .func (PySem.W.fnOf "_law_debts" "_law_debts" (defArgs sLde) (defBody sLde) (defScope sLde) .none kVLde dcLde pmLde anLde cdLde ctLde), slLde⟩)
    (cLde : PySem.W.codeIn K cdLde "_law_debts" = true)
    (kLde : PySem.W.keepIn K (.ref fLde) = true)
    (aRuw : PySem.W.nsIn K mainGlobals "_law_rules_word" = some (some (.ref fRuw)))
    (lRuw : K.lookup fRuw = some ⟨ocRuw, odRuw, .func (PySem.W.fnOf "_law_rules_word" "_law_rules_word" (defArgs sRuw) (defBody sRuw) (defScope sRuw) .none kVRuw dcRuw pmRuw anRuw cdRuw ctRuw), slRuw⟩)
    (cRuw : PySem.W.codeIn K cdRuw "_law_rules_word" = true)
    (kRuw : PySem.W.keepIn K (.ref fRuw) = true)
    (aEsw : PySem.W.nsIn K mainGlobals "_law_estate_word" = some (some (.ref fEsw)))
    (lEsw : K.lookup fEsw = some ⟨ocEsw, odEsw, .func (PySem.W.fnOf "_law_estate_word" "_law_estate_word" (defArgs sEsw) (defBody sEsw) (defScope sEsw) .none kVEsw dcEsw pmEsw anEsw cdEsw ctEsw), slEsw⟩)
    (cEsw : PySem.W.codeIn K cdEsw "_law_estate_word" = true)
    (kEsw : PySem.W.keepIn K (.ref fEsw) = true)
    (aWat : PySem.W.nsIn K mainGlobals "_law_will_at" = some (some (.ref fWat)))
    (lWat : K.lookup fWat = some ⟨ocWat, odWat, .func (PySem.W.fnOf "_law_will_at" "_law_will_at" (defArgs sWat) (defBody sWat) (defScope sWat) .none kVWat dcWat pmWat anWat cdWat ctWat), slWat⟩)
    (cWat : PySem.W.codeIn K cdWat "_law_will_at" = true)
    (kWat : PySem.W.keepIn K (.ref fWat) = true)
    (aBru : PySem.W.nsIn K mainGlobals "_law_bad_rules" = some (some (.ref fBru)))
    (lBru : K.lookup fBru = some ⟨ocBru, odBru, .func (PySem.W.fnOf "_law_bad_rules" "_law_bad_rules" (defArgs sBru) (defBody sBru) (defScope sBru) .none kVBru dcBru pmBru anBru cdBru ctBru), slBru⟩)
    (cBru : PySem.W.codeIn K cdBru "_law_bad_rules" = true)
    (kBru : PySem.W.keepIn K (.ref fBru) = true)
    (aBes : PySem.W.nsIn K mainGlobals "_law_bad_estate" = some (some (.ref fBes)))
    (lBes : K.lookup fBes = some ⟨ocBes, odBes, .func (PySem.W.fnOf "_law_bad_estate" "_law_bad_estate" (defArgs sBes) (defBody sBes) (defScope sBes) .none kVBes dcBes pmBes anBes cdBes ctBes), slBes⟩)
    (cBes : PySem.W.codeIn K cdBes "_law_bad_estate" = true)
    (kBes : PySem.W.keepIn K (.ref fBes) = true)
    (aBli : PySem.W.nsIn K mainGlobals "_law_bad_line" = some (some (.ref fBli)))
    (lBli : K.lookup fBli = some ⟨ocBli, odBli, .func (PySem.W.fnOf "_law_bad_line" "_law_bad_line" (defArgs sBli) (defBody sBli) (defScope sBli) .none kVBli dcBli pmBli anBli cdBli ctBli), slBli⟩)
    (cBli : PySem.W.codeIn K cdBli "_law_bad_line" = true)
    (kBli : PySem.W.keepIn K (.ref fBli) = true)
    (aLaw : PySem.W.nsIn K mainGlobals "law" = some (some (.ref fLaw)))
    (lLaw : K.lookup fLaw = some ⟨ocLaw, odLaw, .func (PySem.W.fnOf "law" "law" (defArgs sLaw) (defBody sLaw) (defScope sLaw) .none kVLaw dcLaw pmLaw anLaw cdLaw ctLaw), slLaw⟩)
    (cLaw : PySem.W.codeIn K cdLaw "law" = true)
    (kLaw : PySem.W.keepIn K (.ref fLaw) = true)
    (aCE : PySem.W.nsIn K mainGlobals "Estate" = some (some (.ref CE)))
    (aHas : PySem.W.findIn K (.ref CE) "has" = some (some (.ref fHas)))
    (iHas : PySem.W.isFn K (.ref fHas) = true)
    (lHas : K.lookup fHas = some ⟨ocHas, odHas, .func (PySem.W.fnOf "has" "Estate.has" (defArgs sHas) (defBody sHas) (defScope sHas) .none kVHas dcHas pmHas anHas cdHas ctHas), slHas⟩)
    (cHas : PySem.W.codeIn K cdHas "Estate.has" = true)
    (kHas : PySem.W.keepIn K (.ref fHas) = true)
    (aWor : PySem.W.findIn K (.ref CE) "worth" = some (some (.ref fWor)))
    (iWor : PySem.W.isFn K (.ref fWor) = true)
    (lWor : K.lookup fWor = some ⟨ocWor, odWor, .func (PySem.W.fnOf "worth" "Estate.worth" (defArgs sWor) (defBody sWor) (defScope sWor) .none kVWor dcWor pmWor anWor cdWor ctWor), slWor⟩)
    (cWor : PySem.W.codeIn K cdWor "Estate.worth" = true)
    (kWor : PySem.W.keepIn K (.ref fWor) = true)
    (aThs : PySem.W.findIn K (.ref CE) "things" = some (some (.ref fThs)))
    (iThs : PySem.W.isFn K (.ref fThs) = true)
    (lThs : K.lookup fThs = some ⟨ocThs, odThs, .func (PySem.W.fnOf "things" "Estate.things" (defArgs sThs) (defBody sThs) (defScope sThs) .none kVThs dcThs pmThs anThs cdThs ctThs), slThs⟩)
    (cThs : PySem.W.codeIn K cdThs "Estate.things" = true)
    (kThs : PySem.W.keepIn K (.ref fThs) = true)
    (aDbs : PySem.W.findIn K (.ref CE) "debts" = some (some (.ref fDbs)))
    (iDbs : PySem.W.isFn K (.ref fDbs) = true)
    (lDbs : K.lookup fDbs = some ⟨ocDbs, odDbs, .func (PySem.W.fnOf "debts" "Estate.debts" (defArgs sDbs) (defBody sDbs) (defScope sDbs) .none kVDbs dcDbs pmDbs anDbs cdDbs ctDbs), slDbs⟩)
    (cDbs : PySem.W.codeIn K cdDbs "Estate.debts" = true)
    (kDbs : PySem.W.keepIn K (.ref fDbs) = true)
    (aAll : PySem.W.findIn K (.ref CE) "all_worth" = some (some (.ref fAll)))
    (iAll : PySem.W.isFn K (.ref fAll) = true)
    (lAll : K.lookup fAll = some ⟨ocAll, odAll, .func (PySem.W.fnOf "all_worth" "Estate.all_worth" (defArgs sAll) (defBody sAll) (defScope sAll) .none kVAll dcAll pmAll anAll cdAll ctAll), slAll⟩)
    (cAll : PySem.W.codeIn K cdAll "Estate.all_worth" = true)
    (kAll : PySem.W.keepIn K (.ref fAll) = true)
    (aEstI : PySem.W.findIn K (.ref CE) "__init__" = some (some (.ref fEstI)))
    (iEstI : PySem.W.isFn K (.ref fEstI) = true)
    (lEstI : K.lookup fEstI = some ⟨ocEstI, odEstI, .func (PySem.W.fnOf "__init__" "Estate.__init__" (defArgs sEstI) (defBody sEstI) (defScope sEstI) .none (.ref DKE) dcEstI pmEstI anEstI cdEstI ctEstI), slEstI⟩)
    (cEstI : PySem.W.codeIn K cdEstI "Estate.__init__" = true)
    (kEstI : PySem.W.keepIn K (.ref fEstI) = true)
    (pgCE : PySem.W.plainGet K CE Str.empty = true)
    (hdCE : PySem.W.hasDictIn K CE = true)
    (poCE : PySem.W.plainOver K CE = true)
    (saCE : PySem.W.findIn K (.ref CE) "__setattr__" = some (some (.builtin "object.__setattr__")))
    (mkCE : PySem.W.makesIn K CE = true)
    (kcCE : PySem.W.keepIn K (.ref CE) = true)
    (nCE1 : PySem.W.findIn K (.ref CE) "coins" = some none)
    (nCE2 : PySem.W.findIn K (.ref CE) "_worths" = some none)
    (nCE3 : PySem.W.findIn K (.ref CE) "_debts" = some none)
    (aCB : PySem.W.nsIn K mainGlobals "Rules" = some (some (.ref CB)))
    (aSpp : PySem.W.findIn K (.ref CB) "spouse_part" = some (some (.ref fSpp)))
    (iSpp : PySem.W.isFn K (.ref fSpp) = true)
    (lSpp : K.lookup fSpp = some ⟨ocSpp, odSpp, .func (PySem.W.fnOf "spouse_part" "Rules.spouse_part" (defArgs sSpp) (defBody sSpp) (defScope sSpp) .none kVSpp dcSpp pmSpp anSpp cdSpp ctSpp), slSpp⟩)
    (cSpp : PySem.W.codeIn K cdSpp "Rules.spouse_part" = true)
    (kSpp : PySem.W.keepIn K (.ref fSpp) = true)
    (aOtp : PySem.W.findIn K (.ref CB) "others_part" = some (some (.ref fOtp)))
    (iOtp : PySem.W.isFn K (.ref fOtp) = true)
    (lOtp : K.lookup fOtp = some ⟨ocOtp, odOtp, .func (PySem.W.fnOf "others_part" "Rules.others_part" (defArgs sOtp) (defBody sOtp) (defScope sOtp) .none kVOtp dcOtp pmOtp anOtp cdOtp ctOtp), slOtp⟩)
    (cOtp : PySem.W.codeIn K cdOtp "Rules.others_part" = true)
    (kOtp : PySem.W.keepIn K (.ref fOtp) = true)
    (aBokI : PySem.W.findIn K (.ref CB) "__init__" = some (some (.ref fBokI)))
    (iBokI : PySem.W.isFn K (.ref fBokI) = true)
    (lBokI : K.lookup fBokI = some ⟨ocBokI, odBokI, .func (PySem.W.fnOf "__init__" "Rules.__init__" (defArgs sBokI) (defBody sBokI) (defScope sBokI) .none (.ref DKB) dcBokI pmBokI anBokI cdBokI ctBokI), slBokI⟩)
    (cBokI : PySem.W.codeIn K cdBokI "Rules.__init__" = true)
    (kBokI : PySem.W.keepIn K (.ref fBokI) = true)
    (pgCB : PySem.W.plainGet K CB Str.empty = true)
    (hdCB : PySem.W.hasDictIn K CB = true)
    (poCB : PySem.W.plainOver K CB = true)
    (saCB : PySem.W.findIn K (.ref CB) "__setattr__" = some (some (.builtin "object.__setattr__")))
    (mkCB : PySem.W.makesIn K CB = true)
    (kcCB : PySem.W.keepIn K (.ref CB) = true)
    (nCB1 : PySem.W.findIn K (.ref CB) "days" = some none)
    (nCB2 : PySem.W.findIn K (.ref CB) "mode" = some none)
    (nCB3 : PySem.W.findIn K (.ref CB) "rows" = some none)
    (nCB4 : PySem.W.findIn K (.ref CB) "steps_in" = some none)
    (nCB5 : PySem.W.findIn K (.ref CB) "_spouse" = some none)
    (wDKEthings : PySem.W.nsIn K DKE "things" = some (some (.ref aT1)))
    (wDKEdebts : PySem.W.nsIn K DKE "debts" = some (some (.ref aT2)))
    (wDKBdays : PySem.W.nsIn K DKB "days" = some (some (.int 0 u0)))
    (wDKBmode : PySem.W.nsIn K DKB "mode" = some (some (.str "stocks" u1)))
    (wDKBspouse : PySem.W.nsIn K DKB "spouse" = some (some (.ref aS)))
    (wDKBrows : PySem.W.nsIn K DKB "rows" = some (some (.int 3 u2)))
    (wDKBsteps_in : PySem.W.nsIn K DKB "steps_in" = some (some (.bool true)))
    (lS : K.lookup aS = some ⟨.type "tuple", od0, .seq #[.ref aS1, .ref aS2, .ref aS3, .ref aS4] nn0, sl0⟩)
    (lS1 : K.lookup aS1 = some ⟨.type "tuple", od1, .seq #[.int 1 u3, .int 2 u4] nn1, sl1⟩)
    (lS2 : K.lookup aS2 = some ⟨.type "tuple", od2, .seq #[.int 3 u5, .int 4 u6] nn2, sl2⟩)
    (lS3 : K.lookup aS3 = some ⟨.type "tuple", od3, .seq #[.int 1 u7, .int 1 u8] nn3, sl3⟩)
    (lS4 : K.lookup aS4 = some ⟨.type "tuple", od4, .seq #[.int 1 u9, .int 1 u10] nn4, sl4⟩)
    (aMo : PySem.W.nsIn K mainGlobals "MODES" = some (some (.ref aM)))
    (lMo : K.lookup aM = some ⟨.type "tuple", od5, .seq #[.str "stocks" u11, .str "heads" u12] nn5, sl5⟩)
    (aOn : PySem.W.nsIn K mainGlobals "ONE" = some (some (.ref aO)))
    (lOn : K.lookup aO = some ⟨.type "tuple", od6, .seq #[.int 1 u13, .int 1 u14] nn6, sl6⟩)
    {nmR qR : _} {NR bsR snR subR abR colR ddR m0R m1R m2R m3R m5R : _}
    (aR : PySem.W.nsIn K mainGlobals "BadRules" = some (some (.ref CR)))
    (xR : K.lookup CR = some (excClassObj nmR qR CR NR bsR [.ref CRR, .type "ValueError", .type "Exception", .type "BaseException", .type "object"] true snR subR abR colR ddR m0R m1R m2R m3R m5R "ValueError.__new__"))
    (saR : PySem.W.findIn K (.ref CR) "__setattr__" = some (some (.builtin "object.__setattr__")))
    (exR : PySem.W.subIn K (.ref CR) (.type "BaseException") = some true)
    (tyR : PySem.W.typeIn K (.ref CR) = some (.type "type"))
    (kcR : PySem.W.keepIn K (.ref CR) = true)
    (noR : PySem.W.findIn K (.ref CR) "why" = some none)
    (inR : PySem.W.findIn K (.ref CR) "__init__" = some (some (.ref fRulI)))
    (tiR : PySem.W.typeIn K (.ref fRulI) = some (.type "function"))
    (lRulI : K.lookup fRulI = some ⟨ocRulI, odRulI, .func (PySem.W.fnOf "__init__" "BadRules.__init__" (defArgs sRulI) (defBody sRulI) (defScope sRulI) .none kVRulI dcRulI pmRulI anRulI cdRulI ctRulI), slRulI⟩)
    (cRulI : PySem.W.codeIn K cdRulI "BadRules.__init__" = true)
    (kRulI : PySem.W.keepIn K (.ref fRulI) = true)
    (gaR : PySem.W.findIn K (.ref CR) "__getattribute__" = some (some (.builtin "BaseException.__getattribute__")))
    (ggR : PySem.W.findIn K (.ref CR) "__getattr__" = some none)
    (hdR : PySem.W.hasDictIn K CR = true)
    (suR : PySem.W.subIn K (.ref CR) (.ref CR) = some true)
    {nmW qW : _} {NW bsW snW subW abW colW ddW m0W m1W m2W m3W m5W : _}
    (aW : PySem.W.nsIn K mainGlobals "BadWill" = some (some (.ref CW)))
    (xW : K.lookup CW = some (excClassObj nmW qW CW NW bsW [.ref CRW, .type "ValueError", .type "Exception", .type "BaseException", .type "object"] true snW subW abW colW ddW m0W m1W m2W m3W m5W "ValueError.__new__"))
    (saW : PySem.W.findIn K (.ref CW) "__setattr__" = some (some (.builtin "object.__setattr__")))
    (exW : PySem.W.subIn K (.ref CW) (.type "BaseException") = some true)
    (tyW : PySem.W.typeIn K (.ref CW) = some (.type "type"))
    (kcW : PySem.W.keepIn K (.ref CW) = true)
    (noW : PySem.W.findIn K (.ref CW) "at" = some none)
    (inW : PySem.W.findIn K (.ref CW) "__init__" = some (some (.ref fWilI)))
    (tiW : PySem.W.typeIn K (.ref fWilI) = some (.type "function"))
    (lWilI : K.lookup fWilI = some ⟨ocWilI, odWilI, .func (PySem.W.fnOf "__init__" "BadWill.__init__" (defArgs sWilI) (defBody sWilI) (defScope sWilI) .none kVWilI dcWilI pmWilI anWilI cdWilI ctWilI), slWilI⟩)
    (cWilI : PySem.W.codeIn K cdWilI "BadWill.__init__" = true)
    (kWilI : PySem.W.keepIn K (.ref fWilI) = true)
    (gaW : PySem.W.findIn K (.ref CW) "__getattribute__" = some (some (.builtin "BaseException.__getattribute__")))
    (ggW : PySem.W.findIn K (.ref CW) "__getattr__" = some none)
    (hdW : PySem.W.hasDictIn K CW = true)
    (suW : PySem.W.subIn K (.ref CW) (.ref CW) = some true)
    {nmF qF : _} {NF bsF snF subF abF colF ddF m0F m1F m2F m3F m5F : _}
    (aF : PySem.W.nsIn K mainGlobals "BadEstate" = some (some (.ref CF)))
    (xF : K.lookup CF = some (excClassObj nmF qF CF NF bsF [.ref CRF, .type "ValueError", .type "Exception", .type "BaseException", .type "object"] true snF subF abF colF ddF m0F m1F m2F m3F m5F "ValueError.__new__"))
    (saF : PySem.W.findIn K (.ref CF) "__setattr__" = some (some (.builtin "object.__setattr__")))
    (exF : PySem.W.subIn K (.ref CF) (.type "BaseException") = some true)
    (tyF : PySem.W.typeIn K (.ref CF) = some (.type "type"))
    (kcF : PySem.W.keepIn K (.ref CF) = true)
    (noF : PySem.W.findIn K (.ref CF) "why" = some none)
    (inF : PySem.W.findIn K (.ref CF) "__init__" = some (some (.ref fEsxI)))
    (tiF : PySem.W.typeIn K (.ref fEsxI) = some (.type "function"))
    (lEsxI : K.lookup fEsxI = some ⟨ocEsxI, odEsxI, .func (PySem.W.fnOf "__init__" "BadEstate.__init__" (defArgs sEsxI) (defBody sEsxI) (defScope sEsxI) .none kVEsxI dcEsxI pmEsxI anEsxI cdEsxI ctEsxI), slEsxI⟩)
    (cEsxI : PySem.W.codeIn K cdEsxI "BadEstate.__init__" = true)
    (kEsxI : PySem.W.keepIn K (.ref fEsxI) = true)
    (gaF : PySem.W.findIn K (.ref CF) "__getattribute__" = some (some (.builtin "BaseException.__getattribute__")))
    (ggF : PySem.W.findIn K (.ref CF) "__getattr__" = some none)
    (hdF : PySem.W.hasDictIn K CF = true)
    (suF : PySem.W.subIn K (.ref CF) (.ref CF) = some true)
    (vSg : PySem.W.nsIn K mainGlobals "NAME_SIGNS" = some (some (.str signs tSg)))
    (vLn : PySem.W.nsIn K mainGlobals "LONGEST_NAME" = some (some (.int 12 tLn)))
    (vCr : PySem.W.nsIn K mainGlobals "CROWN" = some (some (.str "crown" tCr)))
    (vGr : PySem.W.nsIn K mainGlobals "GREATEST_AMOUNT" = some (some (.int 1000000000 tGr)))
    (vTs : PySem.W.nsIn K mainGlobals "THING_SIGNS" = some (some (.str tsigns tTs)))
    (vLt : PySem.W.nsIn K mainGlobals "LONGEST_THING" = some (some (.int 12 tLt)))
    (vLi : PySem.W.nsIn K mainGlobals "MOST_LINES" = some (some (.int 60 tLi)))
    (vTk : PySem.W.nsIn K mainGlobals "MOST_TAKERS" = some (some (.int 5 tTk)))
    (vMd : PySem.W.nsIn K mainGlobals "MOST_DAYS" = some (some (.int 1000 tMd)))
    (vMr : PySem.W.nsIn K mainGlobals "MOST_ROWS" = some (some (.int 3 tMr)))
    (vGp : PySem.W.nsIn K mainGlobals "GREATEST_PART" = some (some (.int 1000 tGp)))
    (zisinstance : PySem.W.nsIn K mainGlobals "isinstance" = some none)
    (zstr : PySem.W.nsIn K mainGlobals "str" = some none)
    (zint : PySem.W.nsIn K mainGlobals "int" = some none)
    (zbool : PySem.W.nsIn K mainGlobals "bool" = some none)
    (ztuple : PySem.W.nsIn K mainGlobals "tuple" = some none)
    (zlen : PySem.W.nsIn K mainGlobals "len" = some none)
    (zall : PySem.W.nsIn K mainGlobals "all" = some none)
    (zsorted : PySem.W.nsIn K mainGlobals "sorted" = some none)
    (zlist : PySem.W.nsIn K mainGlobals "list" = some none)
    (zenumerate : PySem.W.nsIn K mainGlobals "enumerate" = some none)
    (zabs : PySem.W.nsIn K mainGlobals "abs" = some none)
    (zrange : PySem.W.nsIn K mainGlobals "range" = some none)
    (zsum : PySem.W.nsIn K mainGlobals "sum" = some none)
    (zmin : PySem.W.nsIn K mainGlobals "min" = some none)
    (zrepr : PySem.W.nsIn K mainGlobals "repr" = some none)
    (gcd : PySem.W.nsIn K mainGlobals "gcd" = some (some (.builtin "math.gcd"))) :
    ∃ fd : FuncData, (∀ (s : Shared) (v : Value), BindsTo s fd ⟨[v], []⟩ [("script", v)]) ∧ ∀ base : Heap, K.In base → base.Ns mainGlobals mg → FnG l.prog w K mg base CX0 9 fa fd ["script"] (spLaw K) := by
  cases hfa.symm.trans (PySem.W.mg_of X G aLaw)
  have FNam := fun_mk (st := sNam) lNam cNam kNam
  have FAmt := fun_mk (st := sAmt) lAmt cAmt kAmt
  have FFra := fun_mk (st := sFra) lFra cFra kFra
  have FMin := fun_mk (st := sMin) lMin cMin kMin
  have FTim := fun_mk (st := sTim) lTim cTim kTim
  have FThn := fun_mk (st := sThn) lThn cThn kThn
  have FThi := fun_mk (st := sThi) lThi cThi kThi
  have FDeb := fun_mk (st := sDeb) lDeb cDeb kDeb
  have FTks := fun_mk (st := sTks) lTks cTks kTks
  have FGiv := fun_mk (st := sGiv) lGiv cGiv kGiv
  have FLin := fun_mk (st := sLin) lLin cLin kLin
  have FTaw := fun_mk (st := sTaw) lTaw cTaw kTaw
  have FSta := fun_mk (st := sSta) lSta cSta kSta
  have FPdp := fun_mk (st := sPdp) lPdp cPdp kPdp
  have FPdd := fun_mk (st := sPdd) lPdd cPdd kPdd
  have FUpt := fun_mk (st := sUpt) lUpt cUpt kUpt
  have FPar := fun_mk (st := sPar) lPar cPar kPar
  have FPas := fun_mk (st := sPas) lPas cPas kPas
  have FCel := fun_mk (st := sCel) lCel cCel kCel
  have FNum := fun_mk (st := sNum) lNum cNum kNum
  have FFee := fun_mk (st := sFee) lFee cFee kFee
  have FTak := fun_mk (st := sTak) lTak cTak kTak
  have FLru := fun_mk (st := sLru) lLru cLru kLru
  have FLwi := fun_mk (st := sLwi) lLwi cLwi kLwi
  have FLes := fun_mk (st := sLes) lLes cLes kLes
  have FEuc := fun_mk (st := sEuc) lEuc cEuc kEuc
  have FLow := fun_mk (st := sLow) lLow cLow kLow
  have FLst := fun_mk (st := sLst) lLst cLst kLst
  have FLde := fun_mk (st := sLde) lLde cLde kLde
  have FRuw := fun_mk (st := sRuw) lRuw cRuw kRuw
  have FEsw := fun_mk (st := sEsw) lEsw cEsw kEsw
  have FWat := fun_mk (st := sWat) lWat cWat kWat
  have FBru := fun_mk (st := sBru) lBru cBru kBru
  have FBes := fun_mk (st := sBes) lBes cBes kBes
  have FBli := fun_mk (st := sBli) lBli cBli kBli
  have FLaw := fun_mk (st := sLaw) lLaw cLaw kLaw
  have FHas := fun_mk (st := sHas) lHas cHas kHas
  have FWor := fun_mk (st := sWor) lWor cWor kWor
  have FThs := fun_mk (st := sThs) lThs cThs kThs
  have FDbs := fun_mk (st := sDbs) lDbs cDbs kDbs
  have FAll := fun_mk (st := sAll) lAll cAll kAll
  have FSpp := fun_mk (st := sSpp) lSpp cSpp kSpp
  have FOtp := fun_mk (st := sOtp) lOtp cOtp kOtp
  have FRulI := fun_mk (st := sRulI) lRulI cRulI kRulI
  have FWilI := fun_mk (st := sWilI) lWilI cWilI kWilI
  have FEsxI := fun_mk (st := sEsxI) lEsxI cEsxI kEsxI
  have bNam := FNam.binds (ps := ["value"]) fun _ _ _ _ _ _ us hl => match us, hl with | [_], _ => rfl
  have bAmt := FAmt.binds (ps := ["value"]) fun _ _ _ _ _ _ us hl => match us, hl with | [_], _ => rfl
  have bFra := FFra.binds (ps := ["top", "bottom"]) fun _ _ _ _ _ _ us hl => match us, hl with | [_, _], _ => rfl
  have bMin := FMin.binds (ps := ["one", "two"]) fun _ _ _ _ _ _ us hl => match us, hl with | [_, _], _ => rfl
  have bTim := FTim.binds (ps := ["one", "two"]) fun _ _ _ _ _ _ us hl => match us, hl with | [_, _], _ => rfl
  have bThn := FThn.binds (ps := ["value"]) fun _ _ _ _ _ _ us hl => match us, hl with | [_], _ => rfl
  have bThi := FThi.binds (ps := ["value"]) fun _ _ _ _ _ _ us hl => match us, hl with | [_], _ => rfl
  have bDeb := FDeb.binds (ps := ["value"]) fun _ _ _ _ _ _ us hl => match us, hl with | [_], _ => rfl
  have bTks := FTks.binds (ps := ["value"]) fun _ _ _ _ _ _ us hl => match us, hl with | [_], _ => rfl
  have bGiv := FGiv.binds (ps := ["word", "value"]) fun _ _ _ _ _ _ us hl => match us, hl with | [_, _], _ => rfl
  have bLin := FLin.binds (ps := ["value"]) fun _ _ _ _ _ _ us hl => match us, hl with | [_], _ => rfl
  have bTaw := FTaw.binds (ps := ["line", "gift"]) fun _ _ _ _ _ _ us hl => match us, hl with | [_, _], _ => rfl
  have bSta := FSta.binds (ps := ["will"]) fun _ _ _ _ _ _ us hl => match us, hl with | [_], _ => rfl
  have bPdp := FPdp.binds (ps := ["dues", "left"]) fun _ _ _ _ _ _ us hl => match us, hl with | [_, _], _ => rfl
  have bPdd := FPdd.binds (ps := ["estate"]) fun _ _ _ _ _ _ us hl => match us, hl with | [_], _ => rfl
  have bUpt := FUpt.binds (ps := ["value", "most"]) fun _ _ _ _ _ _ us hl => match us, hl with | [_, _], _ => rfl
  have bPar := FPar.binds (ps := ["value"]) fun _ _ _ _ _ _ us hl => match us, hl with | [_], _ => rfl
  have bPas := FPas.binds (ps := ["value", "many"]) fun _ _ _ _ _ _ us hl => match us, hl with | [_, _], _ => rfl
  have bCel := FCel.binds (ps := ["script", "k"]) fun _ _ _ _ _ _ us hl => match us, hl with | [_, _], _ => rfl
  have bNum := FNum.binds (ps := ["cell", "many"]) fun _ _ _ _ _ _ us hl => match us, hl with | [_, _], _ => rfl
  have bFee := FFee.binds (ps := ["cell", "many"]) fun _ _ _ _ _ _ us hl => match us, hl with | [_, _], _ => rfl
  have bTak := FTak.binds (ps := ["feed", "limit"]) fun _ _ _ _ _ _ us hl => match us, hl with | [_, _], _ => rfl
  have bLru := FLru.binds (ps := ["feed"]) fun _ _ _ _ _ _ us hl => match us, hl with | [_], _ => rfl
  have bLwi := FLwi.binds (ps := ["feed", "names"]) fun _ _ _ _ _ _ us hl => match us, hl with | [_, _], _ => rfl
  have bLes := FLes.binds (ps := ["feed"]) fun _ _ _ _ _ _ us hl => match us, hl with | [_], _ => rfl
  have bEuc := FEuc.binds (ps := ["one", "two"]) fun _ _ _ _ _ _ us hl => match us, hl with | [_, _], _ => rfl
  have bLow := FLow.binds (ps := ["top", "bottom"]) fun _ _ _ _ _ _ us hl => match us, hl with | [_, _], _ => rfl
  have bLst := FLst.binds (ps := ["will"]) fun _ _ _ _ _ _ us hl => match us, hl with | [_], _ => rfl
  have bLde := FLde.binds (ps := ["estate"]) fun _ _ _ _ _ _ us hl => match us, hl with | [_], _ => rfl
  have bRuw := FRuw.binds (ps := ["days", "mode", "spouse", "rows"]) fun _ _ _ _ _ _ us hl => match us, hl with | [_, _, _, _], _ => rfl
  have bEsw := FEsw.binds (ps := ["coins", "things", "debts"]) fun _ _ _ _ _ _ us hl => match us, hl with | [_, _, _], _ => rfl
  have bWat := FWat.binds (ps := ["will"]) fun _ _ _ _ _ _ us hl => match us, hl with | [_], _ => rfl
  have bBru := FBru.binds (ps := ["rules", "kind"]) fun _ _ _ _ _ _ us hl => match us, hl with | [_, _], _ => rfl
  have bBes := FBes.binds (ps := ["estate", "kind"]) fun _ _ _ _ _ _ us hl => match us, hl with | [_, _], _ => rfl
  have bBli := FBli.binds (ps := ["kind"]) fun _ _ _ _ _ _ us hl => match us, hl with | [_], _ => rfl
  have bHas := FHas.binds (ps := ["self", "thing"]) fun _ _ _ _ _ _ us hl => match us, hl with | [_, _], _ => rfl
  have bWor := FWor.binds (ps := ["self", "thing"]) fun _ _ _ _ _ _ us hl => match us, hl with | [_, _], _ => rfl
  have bThs := FThs.binds (ps := ["self"]) fun _ _ _ _ _ _ us hl => match us, hl with | [_], _ => rfl
  have bDbs := FDbs.binds (ps := ["self"]) fun _ _ _ _ _ _ us hl => match us, hl with | [_], _ => rfl
  have bAll := FAll.binds (ps := ["self"]) fun _ _ _ _ _ _ us hl => match us, hl with | [_], _ => rfl
  have bSpp := FSpp.binds (ps := ["self", "row"]) fun _ _ _ _ _ _ us hl => match us, hl with | [_, _], _ => rfl
  have bOtp := FOtp.binds (ps := ["self", "row"]) fun _ _ _ _ _ _ us hl => match us, hl with | [_, _], _ => rfl
  have bRulI := FRulI.binds (ps := ["self", "why"]) fun _ _ _ _ _ _ us hl => match us, hl with | [_, _], _ => rfl
  have bWilI := FWilI.binds (ps := ["self", "at"]) fun _ _ _ _ _ _ us hl => match us, hl with | [_, _], _ => rfl
  have bEsxI := FEsxI.binds (ps := ["self", "why"]) fun _ _ _ _ _ _ us hl => match us, hl with | [_, _], _ => rfl
  have misinstance := PySem.W.mg_none_of X G zisinstance
  have mstr := PySem.W.mg_none_of X G zstr
  have mint := PySem.W.mg_none_of X G zint
  have mbool := PySem.W.mg_none_of X G zbool
  have mtuple := PySem.W.mg_none_of X G ztuple
  have mlen := PySem.W.mg_none_of X G zlen
  have mall := PySem.W.mg_none_of X G zall
  have msorted := PySem.W.mg_none_of X G zsorted
  have mlist := PySem.W.mg_none_of X G zlist
  have menumerate := PySem.W.mg_none_of X G zenumerate
  have mabs := PySem.W.mg_none_of X G zabs
  have mrange := PySem.W.mg_none_of X G zrange
  have msum := PySem.W.mg_none_of X G zsum
  have mmin := PySem.W.mg_none_of X G zmin
  have mrepr := PySem.W.mg_none_of X G zrepr
  have FEstI : FunD K "__init__" "Estate.__init__" (defArgs sEstI) (defBody sEstI) (defScope sEstI) [] [("things", .ref aT1), ("debts", .ref aT2)] fEstI _ := ⟨⟨_, _, _, _, _, _, _, _, _, _, rfl, lEstI, cEstI, .inl ⟨rfl, rfl⟩, .inr ⟨DKE, rfl, fun z hz => by
    simp only [List.mem_cons, List.not_mem_nil, or_false] at hz
    rcases hz with rfl | rfl
    · exact ⟨_, wDKEthings, rfl⟩
    · exact ⟨_, wDKEdebts, rfl⟩⟩⟩, kEstI⟩
  have FBokI : FunD K "__init__" "Rules.__init__" (defArgs sBokI) (defBody sBokI) (defScope sBokI) [] (kwR aS) fBokI _ := ⟨⟨_, _, _, _, _, _, _, _, _, _, rfl, lBokI, cBokI, .inl ⟨rfl, rfl⟩, .inr ⟨DKB, rfl, fun z hz => by
    simp only [List.mem_cons, List.not_mem_nil, or_false] at hz
    rcases hz with rfl | rfl | rfl | rfl | rfl
    · exact ⟨_, wDKBdays, ⟨_, rfl⟩⟩
    · exact ⟨_, wDKBmode, ⟨_, rfl⟩⟩
    · exact ⟨_, wDKBspouse, rfl⟩
    · exact ⟨_, wDKBrows, ⟨_, rfl⟩⟩
    · exact ⟨_, wDKBsteps_in, rfl⟩⟩⟩, kBokI⟩
  have hM : ∀ H, SqT K H aM [.str "stocks", .str "heads"] := tup_of (its := [_, _]) lMo rfl rfl (by show (2 : Nat) ≤ 1000; decide) (.cons ⟨_, rfl⟩ (.cons ⟨_, rfl⟩ .nil))
  have hO : ∀ H, SqT K H aO (fv 1) := by
    have e : fv (1 : Rat) = [.int 1, .int 1] := fv_int 1
    rw [e]
    exact tup_of (its := [_, _]) lOn rfl rfl (by show (2 : Nat) ≤ 1000; decide) (.cons ⟨_, rfl⟩ (.cons ⟨_, rfl⟩ .nil))
  have i2 {a : Addr} {x y : Int} {od : Option Addr} {u v : Tok} {n : Nat} {sl : Array (Option Value)} (h : K.lookup a = some ⟨.type "tuple", od, .seq #[.int x u, .int y v] n, sl⟩) : ∀ H, SqT K H a [.int x, .int y] := tup_of (its := [_, _]) h rfl rfl (by show (2 : Nat) ≤ 1000; decide) (.cons ⟨_, rfl⟩ (.cons ⟨_, rfl⟩ .nil))
  have hS : ∀ H, PrsAt K H aS [(1, 2), (3, 4), (1, 1), (1, 1)] := fun H => ⟨[aS1, aS2, aS3, aS4], tup_of (xs := [aS1, aS2, aS3, aS4].map V.ref) (its := [.ref aS1, .ref aS2, .ref aS3, .ref aS4]) lS rfl rfl (by show (4 : Nat) ≤ 1000; decide) (.cons (show RelV (.ref aS1) (.ref aS1) from rfl) (.cons (show RelV (.ref aS2) (.ref aS2) from rfl) (.cons (show RelV (.ref aS3) (.ref aS3) from rfl) (.cons (show RelV (.ref aS4) (.ref aS4) from rfl) .nil)))) H, rfl, fun i q p h1 h2 => by
    match i, h1, h2 with
    | 0, h1, h2 => cases h1; cases h2; exact i2 lS1 H
    | 1, h1, h2 => cases h1; cases h2; exact i2 lS2 H
    | 2, h1, h2 => cases h1; cases h2; exact i2 lS3 H
    | 3, h1, h2 => cases h1; cases h2; exact i2 lS4 H
    | _ + 4, h1, h2 => cases h1⟩
  obtain ⟨_, kR5⟩ := kb5 FBokI
  obtain ⟨_, kR4⟩ := kb4 FBokI
  obtain ⟨_, vR0, kR0⟩ := kb0 FBokI
  obtain ⟨_, kE2⟩ := kbE FEstI
  refine ⟨PySem.W.fnOf "law" "law" (defArgs sLaw) (defBody sLaw) (defScope sLaw) .none kVLaw dcLaw pmLaw anLaw cdLaw ctLaw, fun s v => .of_eq rfl, fun base _ _ => ?_⟩
  have T : Txt mg := ⟨⟨tSg, PySem.W.mg_of X G vSg⟩, ⟨tLn, PySem.W.mg_of X G vLn⟩, ⟨tCr, PySem.W.mg_of X G vCr⟩, ⟨tGr, PySem.W.mg_of X G vGr⟩, ⟨tTs, PySem.W.mg_of X G vTs⟩, ⟨tLt, PySem.W.mg_of X G vLt⟩, ⟨tLi, PySem.W.mg_of X G vLi⟩, ⟨tTk, PySem.W.mg_of X G vTk⟩, ⟨tMd, PySem.W.mg_of X G vMd⟩, ⟨tMr, PySem.W.mg_of X G vMr⟩, ⟨tGp, PySem.W.mg_of X G vGp⟩, misinstance, mstr, mint, mbool, mtuple, mlen, mall, msorted, mlist, menumerate⟩
  have DE : ET K CE := ⟨⟨pgCE, hdCE, poCE, saCE⟩, nCE1, nCE2, nCE3⟩
  have DB : BT K CB := ⟨⟨pgCB, hdCB, poCB, saCB⟩, nCB1, nCB2, nCB3, nCB4, nCB5⟩
  have hNam : Has l.prog w K mg base (CX0) "is_name" ["value"] 1 (spNam) := ⟨_, _, PySem.W.mg_of X G aNam, kNam, bNam, ok_name FNam T⟩
  have hAmt : Has l.prog w K mg base (CX0) "is_amount" ["value"] 1 (spAmt) := ⟨_, _, PySem.W.mg_of X G aAmt, kAmt, bAmt, ok_amount FAmt T⟩
  have hThn : Has l.prog w K mg base (CX0) "_is_thing_name" ["value"] 1 (spTn) := ⟨_, _, PySem.W.mg_of X G aThn, kThn, bThn, ok_tname FThn T⟩
  have hThi : Has l.prog w K mg base (CX0) "_is_thing" ["value"] 2 (spIt K thingV) := ⟨_, _, PySem.W.mg_of X G aThi, kThi, bThi, ok_thing FThi T hThn hAmt⟩
  have hDeb : Has l.prog w K mg base (CX0) "_is_debt" ["value"] 2 (spIt K debtV) := ⟨_, _, PySem.W.mg_of X G aDeb, kDeb, bDeb, ok_debt FDeb T hNam hAmt⟩
  have hUpt : Has l.prog w K mg base (CX0) "_is_up_to" ["value", "most"] 2 (spUpt) := ⟨_, _, PySem.W.mg_of X G aUpt, kUpt, bUpt, ok_upto FUpt hAmt⟩
  have hPar : Has l.prog w K mg base (CX0) "_is_part" ["value"] 3 (spIt K partV) := ⟨_, _, PySem.W.mg_of X G aPar, kPar, bPar, ok_part FPar T hUpt⟩
  have hPas : Has l.prog w K mg base (CX0) "_are_parts" ["value", "many"] 4 (spPas K) := ⟨_, _, PySem.W.mg_of X G aPas, kPas, bPas, ok_parts FPas T hPar⟩
  have hTks : Has l.prog w K mg base (CX0) "_are_takers" ["value"] 2 (spTks K) := ⟨_, _, PySem.W.mg_of X G aTks, kTks, bTks, ok_takers FTks T hNam⟩
  have hGiv : Has l.prog w K mg base (CX0) "_is_given" ["word", "value"] 2 (spGiv) := ⟨_, _, PySem.W.mg_of X G aGiv, kGiv, bGiv, ok_given FGiv T hThn hAmt⟩
  have hLin : Has l.prog w K mg base (CX0) "_is_line" ["value"] 3 (spLin K) := ⟨_, _, PySem.W.mg_of X G aLin, kLin, bLin, ok_line FLin T hAmt hGiv hTks⟩
  have hTaw : Has l.prog w K mg base (CX0) "_takes_away" ["line", "gift"] 1 (spTaw K) := ⟨_, _, PySem.W.mg_of X G aTaw, kTaw, bTaw, ok_away FTaw T⟩
  have xRt : XT l.prog w K mg base "BadRules" "why" CR := ⟨⟨⟨nmR, qR, NR, bsR, _, snR, subR, abR, colR, ddR, m0R, m1R, m2R, m3R, m5R, xR, rfl⟩, saR, exR, tyR, kcR⟩, PySem.W.mg_of X G aR, noR, ⟨_, _, inR, tiR, bRulI, ok_RulI FRulI⟩⟩
  have catR : Cat K mg "BadRules" "why" CR := ⟨PySem.W.mg_of X G aR, ⟨gaR, ggR, exR, hdR⟩, noR, PySem.W.exm_ref exR hdR tyR suR⟩
  have xWt : XT l.prog w K mg base "BadWill" "at" CW := ⟨⟨⟨nmW, qW, NW, bsW, _, snW, subW, abW, colW, ddW, m0W, m1W, m2W, m3W, m5W, xW, rfl⟩, saW, exW, tyW, kcW⟩, PySem.W.mg_of X G aW, noW, ⟨_, _, inW, tiW, bWilI, ok_WilI FWilI⟩⟩
  have catW : Cat K mg "BadWill" "at" CW := ⟨PySem.W.mg_of X G aW, ⟨gaW, ggW, exW, hdW⟩, noW, PySem.W.exm_ref exW hdW tyW suW⟩
  have xFt : XT l.prog w K mg base "BadEstate" "why" CF := ⟨⟨⟨nmF, qF, NF, bsF, _, snF, subF, abF, colF, ddF, m0F, m1F, m2F, m3F, m5F, xF, rfl⟩, saF, exF, tyF, kcF⟩, PySem.W.mg_of X G aF, noF, ⟨_, _, inF, tiF, bEsxI, ok_EsxI FEsxI⟩⟩
  have catF : Cat K mg "BadEstate" "why" CF := ⟨PySem.W.mg_of X G aF, ⟨gaF, ggF, exF, hdF⟩, noF, PySem.W.exm_ref exF hdF tyF suF⟩
  have hSta : Has l.prog w K mg base (L2.CX l.prog w) "standing" ["will"] 4 (spSta K CW) := ⟨_, _, PySem.W.mg_of X G aSta, kSta, bSta, ok_standing FSta T xWt hLin hTaw⟩
  have GEi := ok_estI (P := l.prog) (w := w) (base := base) FEstI T DE xFt hAmt hThi hDeb
  have GRi := ok_rulI (P := l.prog) (w := w) (base := base) FBokI T DB xRt (PySem.W.mg_of X G aMo) hM hUpt hPas
  have hHas : HasM l.prog w K mg base CX0 CE "has" ["self", "thing"] 1 (spHas CE) := ⟨_, _, ⟨aHas, iHas, kHas⟩, bHas, ok_has FHas DE⟩
  have hWor : HasM l.prog w K mg base CX0 CE "worth" ["self", "thing"] 1 (spWor CE) := ⟨_, _, ⟨aWor, iWor, kWor⟩, bWor, ok_worth FWor DE⟩
  have hThs : HasM l.prog w K mg base CX0 CE "things" ["self"] 1 (spThs CE) := ⟨_, _, ⟨aThs, iThs, kThs⟩, bThs, ok_things FThs DE T⟩
  have hDbs : HasM l.prog w K mg base CX0 CE "debts" ["self"] 1 (spDbs CE) := ⟨_, _, ⟨aDbs, iDbs, kDbs⟩, bDbs, ok_debts FDbs DE T⟩
  have hAll : HasM l.prog w K mg base CX0 CE "all_worth" ["self"] 1 (spAll CE) := ⟨_, _, ⟨aAll, iAll, kAll⟩, bAll, ok_all FAll DE msum⟩
  have TF : TFra l.prog w K mg base := ⟨⟨_, _, PySem.W.mg_of X G aFra, kFra, bFra, ok_fra FFra (PySem.W.mg_of X G gcd)⟩⟩
  have hMin : Has l.prog w K mg base (CX0) "minus" ["one", "two"] 2 (spAr K C2 (fun p q => p - q)) := ⟨_, _, PySem.W.mg_of X G aMin, kMin, bMin, ok_minus FMin TF⟩
  have hTim : Has l.prog w K mg base (CX0) "times" ["one", "two"] 2 (spAr K C2m (fun p q => p * q)) := ⟨_, _, PySem.W.mg_of X G aTim, kTim, bTim, ok_times FTim TF⟩
  have hPdp : Has l.prog w K mg base (CX0) "_paid_parts" ["dues", "left"] 2 (spPdp K) := ⟨_, _, PySem.W.mg_of X G aPdp, kPdp, bPdp, ok_paidparts FPdp TF (PySem.W.mg_of X G aOn) hO msorted mmin⟩
  have hPdd : Has l.prog w K mg base (CX0) "paid_debts" ["estate"] 4 (spPdd K CE) := ⟨_, _, PySem.W.mg_of X G aPdd, kPdd, bPdd, ok_paid FPdd DE hDbs hAll hPdp hTim⟩
  have hSpp : HasM l.prog w K mg base CX0 CB "spouse_part" ["self", "row"] 2 (spSpp K CB) := ⟨_, _, ⟨aSpp, iSpp, kSpp⟩, bSpp, ok_spp FSpp DB TF⟩
  have hOtp : HasM l.prog w K mg base CX0 CB "others_part" ["self", "row"] 3 (spOtp K CB) := ⟨_, _, ⟨aOtp, iOtp, kOtp⟩, bOtp, ok_otp FOtp DB hSpp hMin (PySem.W.mg_of X G aOn) hO⟩
  have hCel : Has l.prog w K mg base (CX0) "_law_cell" ["script", "k"] 1 (spCel K) := ⟨_, _, PySem.W.mg_of X G aCel, kCel, bCel, ok_cell FCel mlen mint⟩
  have hTak : Has l.prog w K mg base (CX0) "_law_take" ["feed", "limit"] 1 (spTak) := ⟨_, _, PySem.W.mg_of X G aTak, kTak, bTak, ok_take FTak mint mlen⟩
  have hFee : Has l.prog w K mg base (CX0) "_law_feed" ["cell", "many"] 2 (spFee) := ⟨_, _, PySem.W.mg_of X G aFee, kFee, bFee, ok_feed FFee (ok_numbers FNum mabs mint mrange) (PySem.W.mg_of X G aNum) kNum bNum⟩
  have hLru : Has l.prog w K mg base (CX0) "_law_rules" ["feed"] 2 (spLru) := ⟨_, _, PySem.W.mg_of X G aLru, kLru, bLru, ok_lru FLru mrange mtuple hTak⟩
  have hLes : Has l.prog w K mg base (CX0) "_law_estate" ["feed"] 2 (spLes) := ⟨_, _, PySem.W.mg_of X G aLes, kLes, bLes, ok_les FLes mrange mtuple hTak⟩
  have hLwi : Has l.prog w K mg base (CX0) "_law_will" ["feed", "names"] 2 (spLwi K) := ⟨_, _, PySem.W.mg_of X G aLwi, kLwi, bLwi, ok_lwi FLwi mrange mtuple mlen hTak⟩
  have hEuc : Has l.prog w K mg base (CX0) "_law_common" ["one", "two"] 1 (spEuc) := ⟨_, _, PySem.W.mg_of X G aEuc, kEuc, bEuc, ok_euclid FEuc mint mrange⟩
  have hLow : Has l.prog w K mg base (CX0) "_law_fraction" ["top", "bottom"] 2 (spLow) := ⟨_, _, PySem.W.mg_of X G aLow, kLow, bLow, ok_low FLow hEuc mabs⟩
  have hLst : Has l.prog w K mg base (CX0) "_law_standing" ["will"] 1 (spLst K) := ⟨_, _, PySem.W.mg_of X G aLst, kLst, bLst, ok_lst FLst⟩
  have hLde : Has l.prog w K mg base (CX0) "_law_debts" ["estate"] 3 (spLde K) := ⟨_, _, PySem.W.mg_of X G aLde, kLde, bLde, ok_lde FLde T msum mmin msorted mrange hLow⟩
  have hBru : Has l.prog w K mg base (CX0) "_law_bad_rules" ["rules", "kind"] 1 (spBru K) := ⟨_, _, PySem.W.mg_of X G aBru, kBru, bBru, ok_bru FBru T mint mlist⟩
  have hBes : Has l.prog w K mg base (CX0) "_law_bad_estate" ["estate", "kind"] 1 (spBes K) := ⟨_, _, PySem.W.mg_of X G aBes, kBes, bBes, ok_bes FBes T mint⟩
  have hBli : Has l.prog w K mg base (CX0) "_law_bad_line" ["kind"] 1 (spBli K) := ⟨_, _, PySem.W.mg_of X G aBli, kBli, bBli, ok_bli FBli T⟩
  obtain ⟨fS', fdS', mS', kS', bS', GS'⟩ := hSta.ok
  have hWat : Has l.prog w K mg base (CX0) "_law_will_at" ["will"] 6 (spWat K) := ⟨_, _, PySem.W.mg_of X G aWat, kWat, bWat, ok_wat FWat catW mS' kS' bS' GS'⟩
  have hRuw : Has l.prog w K mg base (CX0) "_law_rules_word" ["days", "mode", "spouse", "rows"] 7 (spRuw K) := ⟨_, _, PySem.W.mg_of X G aRuw, kRuw, bRuw, ok_ruw FRuw catR (PySem.W.mg_of X G aCB) ⟨mkCB, aBokI, iBokI, kcCB⟩ kR4 GRi⟩
  have hEsw : Has l.prog w K mg base (CX0) "_law_estate_word" ["coins", "things", "debts"] 7 (spEsw K) := ⟨_, _, PySem.W.mg_of X G aEsw, kEsw, bEsw, ok_esw FEsw catF (PySem.W.mg_of X G aCE) ⟨mkCE, aEstI, iEstI, kcCE⟩ kE2 GEi⟩
  exact law_terms FLaw ⟨mabs, mlen, mint, mrange, msorted, msum, mlist, mrepr⟩ DB DE hCel hFee hLru hLwi hLes hLow hLde hPdd hLst hBru hRuw hBes hEsw hWat hBli hSta hSpp hOtp hThs hDbs hAll hHas hWor (PySem.W.mg_of X G aCB) ⟨mkCB, aBokI, iBokI, kcCB⟩ GRi kR5 kR0 vR0 hS (PySem.W.mg_of X G aCE) ⟨mkCE, aEstI, iEstI, kcCE⟩ GEi kE2
end K2
open PySem PySem.W PyProof.Rows
set_option maxRecDepth 100000 in
set_option maxHeartbeats 0 in
theorem PySem.Challenge.cw_parcener_k02_rules_estates_and_wills_holds : PySem.Challenge.rw_parcener_k02_rules_estates_and_wills.Holds := by
  w_on; o_law; k_head; (case hw => w_witness2)
  k_fill
  refine G.walk_ofBG (l := PySem.Challenge.rw_parcener_k02_rules_estates_and_wills) (n := 63) (k := 9) (x := "script") (CX := fun _ => L2.CX0) (sp := fun w => K2.spLaw _) rfl (by decide) rfl ⟨rfl, by decide, by decide⟩ (fun w h Y => PySem.W.kIn_of Y) ?F (fun _ _ a ns hl hb _ hS => ⟨a, ns, rfl, hS, hl, hb, fun _ => rfl⟩) (fun _ _ _ _ _ h => h)
  case F =>
    intro w mg fa h KX G hmg
    refine' K2.all_mk KX G hmg ?aNam ?lNam ?cNam ?kNam ?aAmt ?lAmt ?cAmt ?kAmt ?aFra ?lFra ?cFra ?kFra ?aMin ?lMin ?cMin ?kMin ?aTim ?lTim ?cTim ?kTim ?aThn ?lThn ?cThn ?kThn ?aThi ?lThi ?cThi ?kThi ?aDeb ?lDeb ?cDeb ?kDeb ?aTks ?lTks ?cTks ?kTks ?aGiv ?lGiv ?cGiv ?kGiv ?aLin ?lLin ?cLin ?kLin ?aTaw ?lTaw ?cTaw ?kTaw ?aSta ?lSta ?cSta ?kSta ?aPdp ?lPdp ?cPdp ?kPdp ?aPdd ?lPdd ?cPdd ?kPdd ?aUpt ?lUpt ?cUpt ?kUpt ?aPar ?lPar ?cPar ?kPar ?aPas ?lPas ?cPas ?kPas ?aCel ?lCel ?cCel ?kCel ?aNum ?lNum ?cNum ?kNum ?aFee ?lFee ?cFee ?kFee ?aTak ?lTak ?cTak ?kTak ?aLru ?lLru ?cLru ?kLru ?aLwi ?lLwi ?cLwi ?kLwi ?aLes ?lLes ?cLes ?kLes ?aEuc ?lEuc ?cEuc ?kEuc ?aLow ?lLow ?cLow ?kLow ?aLst ?lLst ?cLst ?kLst ?aLde ?lLde ?cLde ?kLde ?aRuw ?lRuw ?cRuw ?kRuw ?aEsw ?lEsw ?cEsw ?kEsw ?aWat ?lWat ?cWat ?kWat ?aBru ?lBru ?cBru ?kBru ?aBes ?lBes ?cBes ?kBes ?aBli ?lBli ?cBli ?kBli ?aLaw ?lLaw ?cLaw ?kLaw ?aCE ?aHas ?iHas ?lHas ?cHas ?kHas ?aWor ?iWor ?lWor ?cWor ?kWor ?aThs ?iThs ?lThs ?cThs ?kThs ?aDbs ?iDbs ?lDbs ?cDbs ?kDbs ?aAll ?iAll ?lAll ?cAll ?kAll ?aEstI ?iEstI ?lEstI ?cEstI ?kEstI ?pgCE ?hdCE ?poCE ?saCE ?mkCE ?kcCE ?nCE1 ?nCE2 ?nCE3 ?aCB ?aSpp ?iSpp ?lSpp ?cSpp ?kSpp ?aOtp ?iOtp ?lOtp ?cOtp ?kOtp ?aBokI ?iBokI ?lBokI ?cBokI ?kBokI ?pgCB ?hdCB ?poCB ?saCB ?mkCB ?kcCB ?nCB1 ?nCB2 ?nCB3 ?nCB4 ?nCB5 ?wDKEthings ?wDKEdebts ?wDKBdays ?wDKBmode ?wDKBspouse ?wDKBrows ?wDKBsteps_in ?lS ?lS1 ?lS2 ?lS3 ?lS4 ?aMo ?lMo ?aOn ?lOn ?aR ?xR ?saR ?exR ?tyR ?kcR ?noR ?inR ?tiR ?lRulI ?cRulI ?kRulI ?gaR ?ggR ?hdR ?suR ?aW ?xW ?saW ?exW ?tyW ?kcW ?noW ?inW ?tiW ?lWilI ?cWilI ?kWilI ?gaW ?ggW ?hdW ?suW ?aF ?xF ?saF ?exF ?tyF ?kcF ?noF ?inF ?tiF ?lEsxI ?cEsxI ?kEsxI ?gaF ?ggF ?hdF ?suF ?vSg ?vLn ?vCr ?vGr ?vTs ?vLt ?vLi ?vTk ?vMd ?vMr ?vGp ?zisinstance ?zstr ?zint ?zbool ?ztuple ?zlen ?zall ?zsorted ?zlist ?zenumerate ?zabs ?zrange ?zsum ?zmin ?zrepr ?gcd
    (case aNam => k_is)
    (case lNam => k_is)
    (case cNam => k_is)
    (case kNam => k_is)
    (case aAmt => k_is)
    (case lAmt => k_is)
    (case cAmt => k_is)
    (case kAmt => k_is)
    (case aFra => k_is)
    (case lFra => k_is)
    (case cFra => k_is)
    (case kFra => k_is)
    (case aMin => k_is)
    (case lMin => k_is)
    (case cMin => k_is)
    (case kMin => k_is)
    (case aTim => k_is)
    (case lTim => k_is)
    (case cTim => k_is)
    (case kTim => k_is)
    (case aThn => k_is)
    (case lThn => k_is)
    (case cThn => k_is)
    (case kThn => k_is)
    (case aThi => k_is)
    (case lThi => k_is)
    (case cThi => k_is)
    (case kThi => k_is)
    (case aDeb => k_is)
    (case lDeb => k_is)
    (case cDeb => k_is)
    (case kDeb => k_is)
    (case aTks => k_is)
    (case lTks => k_is)
    (case cTks => k_is)
    (case kTks => k_is)
    (case aGiv => k_is)
    (case lGiv => k_is)
    (case cGiv => k_is)
    (case kGiv => k_is)
    (case aLin => k_is)
    (case lLin => k_is)
    (case cLin => k_is)
    (case kLin => k_is)
    (case aTaw => k_is)
    (case lTaw => k_is)
    (case cTaw => k_is)
    (case kTaw => k_is)
    (case aSta => k_is)
    (case lSta => k_is)
    (case cSta => k_is)
    (case kSta => k_is)
    (case aPdp => k_is)
    (case lPdp => k_is)
    (case cPdp => k_is)
    (case kPdp => k_is)
    (case aPdd => k_is)
    (case lPdd => k_is)
    (case cPdd => k_is)
    (case kPdd => k_is)
    (case aUpt => k_is)
    (case lUpt => k_is)
    (case cUpt => k_is)
    (case kUpt => k_is)
    (case aPar => k_is)
    (case lPar => k_is)
    (case cPar => k_is)
    (case kPar => k_is)
    (case aPas => k_is)
    (case lPas => k_is)
    (case cPas => k_is)
    (case kPas => k_is)
    (case aCel => k_is)
    (case lCel => k_is)
    (case cCel => k_is)
    (case kCel => k_is)
    (case aNum => k_is)
    (case lNum => k_is)
    (case cNum => k_is)
    (case kNum => k_is)
    (case aFee => k_is)
    (case lFee => k_is)
    (case cFee => k_is)
    (case kFee => k_is)
    (case aTak => k_is)
    (case lTak => k_is)
    (case cTak => k_is)
    (case kTak => k_is)
    (case aLru => k_is)
    (case lLru => k_is)
    (case cLru => k_is)
    (case kLru => k_is)
    (case aLwi => k_is)
    (case lLwi => k_is)
    (case cLwi => k_is)
    (case kLwi => k_is)
    (case aLes => k_is)
    (case lLes => k_is)
    (case cLes => k_is)
    (case kLes => k_is)
    (case aEuc => k_is)
    (case lEuc => k_is)
    (case cEuc => k_is)
    (case kEuc => k_is)
    (case aLow => k_is)
    (case lLow => k_is)
    (case cLow => k_is)
    (case kLow => k_is)
    (case aLst => k_is)
    (case lLst => k_is)
    (case cLst => k_is)
    (case kLst => k_is)
    (case aLde => k_is)
    (case lLde => k_is)
    (case cLde => k_is)
    (case kLde => k_is)
    (case aRuw => k_is)
    (case lRuw => k_is)
    (case cRuw => k_is)
    (case kRuw => k_is)
    (case aEsw => k_is)
    (case lEsw => k_is)
    (case cEsw => k_is)
    (case kEsw => k_is)
    (case aWat => k_is)
    (case lWat => k_is)
    (case cWat => k_is)
    (case kWat => k_is)
    (case aBru => k_is)
    (case lBru => k_is)
    (case cBru => k_is)
    (case kBru => k_is)
    (case aBes => k_is)
    (case lBes => k_is)
    (case cBes => k_is)
    (case kBes => k_is)
    (case aBli => k_is)
    (case lBli => k_is)
    (case cBli => k_is)
    (case kBli => k_is)
    (case aLaw => k_is)
    (case lLaw => k_is)
    (case cLaw => k_is)
    (case kLaw => k_is)
    (case aCE => k_is)
    (case aHas => k_is)
    (case iHas => k_is)
    (case lHas => k_is)
    (case cHas => k_is)
    (case kHas => k_is)
    (case aWor => k_is)
    (case iWor => k_is)
    (case lWor => k_is)
    (case cWor => k_is)
    (case kWor => k_is)
    (case aThs => k_is)
    (case iThs => k_is)
    (case lThs => k_is)
    (case cThs => k_is)
    (case kThs => k_is)
    (case aDbs => k_is)
    (case iDbs => k_is)
    (case lDbs => k_is)
    (case cDbs => k_is)
    (case kDbs => k_is)
    (case aAll => k_is)
    (case iAll => k_is)
    (case lAll => k_is)
    (case cAll => k_is)
    (case kAll => k_is)
    (case aEstI => k_is)
    (case iEstI => k_is)
    (case lEstI => k_is)
    (case cEstI => k_is)
    (case kEstI => k_is)
    (case pgCE => k_is)
    (case hdCE => k_is)
    (case poCE => k_is)
    (case saCE => k_is)
    (case mkCE => k_is)
    (case kcCE => k_is)
    (case nCE1 => k_is)
    (case nCE2 => k_is)
    (case nCE3 => k_is)
    (case aCB => k_is)
    (case aSpp => k_is)
    (case iSpp => k_is)
    (case lSpp => k_is)
    (case cSpp => k_is)
    (case kSpp => k_is)
    (case aOtp => k_is)
    (case iOtp => k_is)
    (case lOtp => k_is)
    (case cOtp => k_is)
    (case kOtp => k_is)
    (case aBokI => k_is)
    (case iBokI => k_is)
    (case lBokI => k_is)
    (case cBokI => k_is)
    (case kBokI => k_is)
    (case pgCB => k_is)
    (case hdCB => k_is)
    (case poCB => k_is)
    (case saCB => k_is)
    (case mkCB => k_is)
    (case kcCB => k_is)
    (case nCB1 => k_is)
    (case nCB2 => k_is)
    (case nCB3 => k_is)
    (case nCB4 => k_is)
    (case nCB5 => k_is)
    (case wDKEthings => k_is)
    (case wDKEdebts => k_is)
    (case wDKBdays => k_is)
    (case wDKBmode => k_is)
    (case wDKBspouse => k_is)
    (case wDKBrows => k_is)
    (case wDKBsteps_in => k_is)
    (case lS => k_is)
    (case lS1 => k_is)
    (case lS2 => k_is)
    (case lS3 => k_is)
    (case lS4 => k_is)
    (case aMo => k_is)
    (case lMo => k_is)
    (case aOn => k_is)
    (case lOn => k_is)
    (case aR => k_is)
    (case xR => k_is)
    (case saR => k_is)
    (case exR => k_is)
    (case tyR => k_is)
    (case kcR => k_is)
    (case noR => k_is)
    (case inR => k_is)
    (case tiR => k_is)
    (case lRulI => k_is)
    (case cRulI => k_is)
    (case kRulI => k_is)
    (case gaR => k_is)
    (case ggR => k_is)
    (case hdR => k_is)
    (case suR => first | rfl | k_is)
    (case aW => k_is)
    (case xW => k_is)
    (case saW => k_is)
    (case exW => k_is)
    (case tyW => k_is)
    (case kcW => k_is)
    (case noW => k_is)
    (case inW => k_is)
    (case tiW => k_is)
    (case lWilI => k_is)
    (case cWilI => k_is)
    (case kWilI => k_is)
    (case gaW => k_is)
    (case ggW => k_is)
    (case hdW => k_is)
    (case suW => first | rfl | k_is)
    (case aF => k_is)
    (case xF => k_is)
    (case saF => k_is)
    (case exF => k_is)
    (case tyF => k_is)
    (case kcF => k_is)
    (case noF => k_is)
    (case inF => k_is)
    (case tiF => k_is)
    (case lEsxI => k_is)
    (case cEsxI => k_is)
    (case kEsxI => k_is)
    (case gaF => k_is)
    (case ggF => k_is)
    (case hdF => k_is)
    (case suF => first | rfl | k_is)
    (case vSg => k_is)
    (case vLn => k_is)
    (case vCr => k_is)
    (case vGr => k_is)
    (case vTs => k_is)
    (case vLt => k_is)
    (case vLi => k_is)
    (case vTk => k_is)
    (case vMd => k_is)
    (case vMr => k_is)
    (case vGp => k_is)
    (case zisinstance => k_is)
    (case zstr => k_is)
    (case zint => k_is)
    (case zbool => k_is)
    (case ztuple => k_is)
    (case zlen => k_is)
    (case zall => k_is)
    (case zsorted => k_is)
    (case zlist => k_is)
    (case zenumerate => k_is)
    (case zabs => k_is)
    (case zrange => k_is)
    (case zsum => k_is)
    (case zmin => k_is)
    (case zrepr => k_is)
    (case gcd => k_is)
