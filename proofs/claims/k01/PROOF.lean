import PyProof.Rows.All
import Wide.All
import OpenK.AllK
import Wide.FinOn
import HandS.ForMost
import HandS.Wide
import HandS.SortOrd
import HandS.DictComp
import HandS.More
import HandS.EndBits
import HandS.Walk
import HandS.TupLe
import HandS.NoneIn
import KE.KDictList
import KE.KDictSum
import HandS.SortInts
import HandS.IsInst
import HandS.ExcInit
import HandS.ExcField
import HandS.TryMany
import HandS.CallSlots
import HandS.WordsExc
import HandS.ExcOwn
import HandS.Deep
import HandS.Style
import HandS.ExcIs
import PySem.Challenge.RW_parcener_k01_families_of_facts
set_option Elab.async false
set_option maxRecDepth 100000
set_option maxHeartbeats 8000000
namespace G
open PySem L2 PyProof.Rows PySem.Spec SrtO
/-- a number of at most k bits -/
structure Bt (k : Nat) (x : Int) : Prop where
  lt : x.natAbs < 2 ^ k
theorem Bt.mono {k m : Nat} {x : Int} (h : Bt k x) (l : k ≤ m) : Bt m x := ⟨Nat.lt_of_lt_of_le h.lt (Nat.pow_le_pow_right (by decide) l)⟩
theorem Bt.mul {k m : Nat} {x y : Int} (h : Bt k x) (g : Bt m y) : Bt (k + m) (x * y) := ⟨wide_lt h.lt g.lt⟩
theorem Bt.neg {k : Nat} {x : Int} (h : Bt k x) : Bt k (-x) := ⟨by rw [Int.natAbs_neg]; exact h.lt⟩
theorem Bt.add {k : Nat} {x y : Int} (h : Bt k x) (g : Bt k y) : Bt (k + 1) (x + y) := ⟨by
  have a := h.lt
  have b := g.lt
  have c := Int.natAbs_add_le x y
  rw [Nat.pow_succ]
  generalize 2 ^ k = z at *
  omega⟩
theorem Bt.sub {k : Nat} {x y : Int} (h : Bt k x) (g : Bt k y) : Bt (k + 1) (x - y) := by
  rw [Int.sub_eq_add_neg]
  exact h.add g.neg
theorem Bt.le {k : Nat} {x y : Int} (h : Bt k y) (l : x.natAbs ≤ y.natAbs) : Bt k x := ⟨Nat.lt_of_le_of_lt l h.lt⟩
theorem Bt.log {k : Nat} {x : Int} (h : Bt k x) (hk : 0 < k) : x.natAbs.log2 < k := PySem.Flt.log2_lt_of hk h.lt
theorem Bt.ok {k m : Nat} {x y : Int} (h : Bt k x) (g : Bt m y) (hk : 0 < k) (hm : 0 < m) (l : k + m ≤ 100000000) : IntMulOk x y := by
  have bits : ∀ z : Int, Builtin.Int.intBits z ≤ z.natAbs.log2 + 1 := fun z => by
    unfold Builtin.Int.intBits
    split <;> omega
  have b1 := bits x
  have b2 := bits y
  have l1 := h.log hk
  have l2 := g.log hm
  have e : bitsLine = 134217728 := by decide
  unfold IntMulOk
  intro z
  have z2 := (Bool.and_eq_true _ _ ▸ z).2
  unfold Builtin.Int.intTooBig at z2
  have z3 := of_decide_eq_true z2
  rw [e] at z3
  omega
theorem Bt.of_bits {k : Nat} {x : Int} (h : Builtin.Int.intBits x ≤ k) : Bt k x := by
  unfold Builtin.Int.intBits at h
  split at h
  · next e =>
    have e' : x = 0 := by simpa using e
    subst e'
    exact ⟨Nat.two_pow_pos _⟩
  · exact ⟨Nat.lt_of_lt_of_le Nat.lt_log2_self (Nat.pow_le_pow_right (by decide) h)⟩
theorem Bt.small {x : Int} (h : -1073741824 < x) (g : x < 1073741824) : Bt 30 x := ⟨by show x.natAbs < 1073741824; omega⟩
theorem same_upd {H : Hp} {p : Addr} {o : HO} (h : H p = none) : Same H (upd H p o) := fun b x e => by
  rw [upd_ne (ne_of_none e h)]
  exact e
theorem sameT {K : PySem.W.Frag} {H H' : Hp} {a : Addr} {xs : List V} (e : Same H H') (h : SqT K H a xs) : SqT K H' a xs := by
  rcases h with (h | ⟨o, h⟩) | h
  · exact .inl (.inl (e _ _ h))
  · exact .inl (.inr ⟨o, e _ _ h⟩)
  · exact .inr h
theorem valV_nth {kvs : List (Key × V)} (nd : (kvs.map (·.1)).Nodup) {i : Nat} {k : Key} {v : V} (h : kvs[i]? = some (k, v)) : valV kvs k = some v := by
  induction kvs generalizing i with
  | nil => cases h
  | cons p r ih =>
    rw [List.map_cons, List.nodup_cons] at nd
    cases i with
    | zero =>
      have e : p = (k, v) := Option.some.inj h
      rw [e]
      exact valV_pos rfl
    | succ i =>
      have h' : r[i]? = some (k, v) := h
      have ne : ¬ p.1 = k := fun e => nd.1 (by
        rw [e]
        exact List.mem_map.mpr ⟨(k, v), List.mem_of_getElem? h', rfl⟩)
      rw [valV_neg ne]
      exact ih nd.2 h'
def dig (i : Int) : Str := toString i
def mk (a j : Int) : Str := ((("k" : Str) ++ dig a) ++ ("x" : Str)) ++ dig j
theorem len_app (a b : Str) : (a ++ b).length = a.length + b.length := by
  show (a.cps ++ b.cps).size = _
  rw [Array.size_append]
  rfl
theorem cps_app (a b : Str) : (a ++ b).cps.toList = a.cps.toList ++ b.cps.toList := by
  show (a.cps ++ b.cps).toList = _
  rw [Array.toList_append]
theorem dig_fin : ∀ i : _root_.Fin 50, (dig ((i.val : Nat) : Int)).length ≤ 2 := by decide +kernel
theorem dig_len {i : Int} (h0 : 0 ≤ i) (h : i < 50) : (dig i).length ≤ 2 := by
  have := dig_fin ⟨i.toNat, by omega⟩
  rw [show i = ((i.toNat : Nat) : Int) by omega]
  exact this
theorem end_fin : ∀ i j : _root_.Fin 20, ((dig ((i.val : Nat) : Int)).cps.toList.reverse ++ [120]).take 2 = ((dig ((j.val : Nat) : Int)).cps.toList.reverse ++ [120]).take 2 → i = j := by decide +kernel
theorem dig_pos : ∀ i : _root_.Fin 20, 1 ≤ (dig ((i.val : Nat) : Int)).cps.toList.length := by decide +kernel
theorem mk_end (a : Int) (j : _root_.Fin 20) : (mk a ((j.val : Nat) : Int)).cps.toList.reverse.take 2 = ((dig ((j.val : Nat) : Int)).cps.toList.reverse ++ [120]).take 2 := by
  unfold mk
  rw [cps_app, cps_app, List.reverse_append, List.reverse_append, ← List.append_assoc]
  rw [List.take_append_of_le_length]
  · rfl
  · have := dig_pos j
    rw [List.length_append, List.length_reverse]
    show 2 ≤ _ + 1
    omega
theorem mk_inj {a b i j : Int} (i0 : 0 ≤ i) (i1 : i < 20) (j0 : 0 ≤ j) (j1 : j < 20) (h : mk a i = mk b j) : i = j := by
  have e1 := mk_end a ⟨i.toNat, by omega⟩
  have e2 := mk_end b ⟨j.toNat, by omega⟩
  rw [show (((⟨i.toNat, by omega⟩ : _root_.Fin 20).val : Nat) : Int) = i from Int.toNat_of_nonneg i0] at e1
  rw [show (((⟨j.toNat, by omega⟩ : _root_.Fin 20).val : Nat) : Int) = j from Int.toNat_of_nonneg j0] at e2
  rw [h] at e1
  have e3 := end_fin ⟨i.toNat, by omega⟩ ⟨j.toNat, by omega⟩ (by
    show List.take 2 ((dig ((i.toNat : Nat) : Int)).cps.toList.reverse ++ [120]) = List.take 2 ((dig ((j.toNat : Nat) : Int)).cps.toList.reverse ++ [120])
    rw [Int.toNat_of_nonneg i0, Int.toNat_of_nonneg j0]
    exact e1.symm.trans e2)
  have e4 : i.toNat = j.toNat := congrArg _root_.Fin.val e3
  omega
theorem rising_pw : ∀ (l : List Str) (p : Str), risingS p l = true → (p :: l).Pairwise fun a b => ¬ b.cps.toList < a.cps.toList
  | [], p, _ => List.pairwise_singleton _ _
  | x :: r, p, h => by
    unfold risingS at h
    rw [Bool.and_eq_true, ltCps_eq] at h
    have h1 : ¬ x.cps.toList < p.cps.toList := by
      have := h.1
      simpa using this
    have ih := rising_pw r x h.2
    refine List.pairwise_cons.mpr ⟨fun y hy => ?_, ih⟩
    rcases List.mem_cons.mp hy with e | hy
    · rw [e]
      exact h1
    · have h2 := (List.pairwise_cons.mp ih).1 y hy
      exact List.not_lt.mpr (List.le_trans (List.not_lt.mp h1) (List.not_lt.mp h2))
theorem sortedS_pw {l : List Str} (h : sortedS l = true) : l.Pairwise fun a b => ¬ b.cps.toList < a.cps.toList := by
  cases l with
  | nil => exact .nil
  | cons x r => exact rising_pw r x h
theorem str_ext {a b : Str} (h : a.cps.toList = b.cps.toList) : a = b := by
  cases a
  cases b
  exact congrArg PySem.Str.mk (Array.toList_inj.mp h)
theorem sortedS_one {l m : List Str} (h : sortedS l = true) (g : sortedS m = true) (p : l.Perm m) : l = m :=
  p.eq_of_pairwise (fun a b _ _ h1 h2 => str_ext (List.le_antisymm (List.not_lt.mp h1) (List.not_lt.mp h2))) (sortedS_pw h) (sortedS_pw g)
theorem dig_ok_fin : ∀ i : _root_.Fin 50, PyData.strOk (dig ((i.val : Nat) : Int)) = true := by decide +kernel
theorem dig_ok {i : Int} (h0 : 0 ≤ i) (h : i < 50) : PyData.strOk (dig i) = true := by
  have := dig_ok_fin ⟨i.toNat, by omega⟩
  rw [show i = ((i.toNat : Nat) : Int) by omega]
  exact this
theorem ok_app {a b : Str} (h : PyData.strOk a = true) (g : PyData.strOk b = true) : PyData.strOk (a ++ b) = true := by
  show (a.cps ++ b.cps).all (· < 0x110000) = true
  rw [Array.all_append]
  exact Bool.and_eq_true_iff.mpr ⟨h, g⟩
theorem mk_ok {a i : Int} (a0 : 0 ≤ a) (a1 : a < 50) (i0 : 0 ≤ i) (i1 : i < 50) : PyData.strOk (mk a i) = true :=
  ok_app (ok_app (ok_app (by decide +kernel) (dig_ok a0 a1)) (by decide +kernel)) (dig_ok i0 i1)
theorem nat_num {xs : List Int} {i : Nat} (h : i < xs.length) : atI (xs.map V.int) ((i : Nat) : Int) = some (.int xs[i]) := atI_nat (by rw [List.getElem?_map, List.getElem?_eq_getElem h]; rfl)
theorem lg {x : Int} (h0 : 0 ≤ x) (h1 : x < 1000) : x.natAbs.log2 < 1920 := Nat.lt_trans ((Bt.small (x := x) (by omega) (by omega)).log (by decide)) (by decide)
def cell (ns : List Int) (k : Int) : Int := (ns[k.toNat]?).getD 0
def Nums (xs : List Int) : Prop := ∀ x ∈ xs, 0 ≤ x ∧ x < 1048576
theorem Nums.snoc {xs : List Int} {x : Int} (h : Nums xs) (a : 0 ≤ x) (b : x < 1048576) : Nums (xs ++ [x]) := fun y hy => by
  rcases List.mem_append.mp hy with z | z
  · exact h y z
  · rw [List.mem_singleton.mp z]
    exact ⟨a, b⟩
end G
namespace G
open PySem L2 PyProof.Rows PySem.Spec SrtO
/-! texts in order, any number of them -/
def leT (a b : Str) : Bool := !decide (b.cps.toList < a.cps.toList)
/-- the texts of a list, ascending -/
def srt (l : List Str) : List Str := l.mergeSort leT
theorem leT_iff {a b : Str} : leT a b = true ↔ ¬ b.cps.toList < a.cps.toList := by
  unfold leT
  simp
theorem leT_trans (a b c : Str) (h : leT a b = true) (g : leT b c = true) : leT a c = true :=
  leT_iff.mpr (List.not_lt.mpr (List.le_trans (List.not_lt.mp (leT_iff.mp h)) (List.not_lt.mp (leT_iff.mp g))))
theorem leT_total (a b : Str) : (leT a b || leT b a) = true := by
  by_cases h : b.cps.toList < a.cps.toList
  · rw [leT_iff.mpr (List.lt_asymm h), Bool.or_true]
  · rw [leT_iff.mpr h, Bool.true_or]
theorem leT_anti {a b : Str} (h : leT a b = true) (g : leT b a = true) : a = b :=
  str_ext (List.le_antisymm (List.not_lt.mp (leT_iff.mp h)) (List.not_lt.mp (leT_iff.mp g)))
theorem srt_perm (l : List Str) : (srt l).Perm l := List.mergeSort_perm l leT
theorem srt_pw (l : List Str) : (srt l).Pairwise fun a b => leT a b = true := List.pairwise_mergeSort leT_trans leT_total l
theorem srt_one {l m : List Str} (p : m.Perm l) (s : m.Pairwise fun a b => leT a b = true) : m = srt l :=
  (p.trans (srt_perm l).symm).eq_of_pairwise (fun _ _ _ _ h g => leT_anti h g) s (srt_pw l)
theorem srt_mem {l : List Str} {x : Str} : x ∈ srt l ↔ x ∈ l := (srt_perm l).mem_iff
theorem srt_len (l : List Str) : (srt l).length = l.length := (srt_perm l).length_eq
/-- the text of a value -/
def tx : Value → Str
  | .str x _ => x
  | _ => Str.empty
def ltTv (v u : Value) : Bool := decide ((tx v).cps.toList < (tx u).cps.toList)
theorem swoT : Swo ltTv := by
  refine ⟨fun x y h => ?_, fun x y z h1 h2 => ?_⟩
  · exact decide_eq_false (List.lt_asymm (of_decide_eq_true h))
  · have a : ¬ (tx y).cps.toList < (tx x).cps.toList := of_decide_eq_false h1
    have b : ¬ (tx z).cps.toList < (tx y).cps.toList := of_decide_eq_false h2
    exact decide_eq_false (List.not_lt.mpr (List.le_trans (List.not_lt.mp a) (List.not_lt.mp b)))
section
variable {prog : Program} {w : World} {A : Around} {s : Shared}
theorem cmpT {vs : List Value} (hT : ∀ v ∈ vs, ∃ x t, v = Value.str x t) : Cmp prog w A s oneType' (fun p => p.1 ∈ vs) (lt2 ltTv) := by
  intro p q hm hm'
  obtain ⟨x, t, e⟩ := hT _ hm
  obtain ⟨y, u, e'⟩ := hT _ hm'
  show wpAny (model prog w) A (keyLt' oneType' p.1 q.1) (fun r s' => s' = s ∧ r = ltTv p.1 q.1) (fun _ _ => False) s
  rw [e, e']
  exact PySem.W.kas_lt_str ⟨rfl, rfl⟩
theorem sortableT {a : Addr} {vs : List Value} {ss : List Str} (hT : StrsAre vs ss) (h2 : 2 ≤ vs.length) : SortableO prog w A s a vs ltTv := by
  intro h' _
  refine ⟨oneType', fun Q E hq => ?_, cmpT fun v hv => hT.all v hv⟩
  match vs, hT, h2 with
  | v1 :: v2 :: rest, hT, _ =>
    rw [keyKind_strs hT]
    exact wpAny_pure hq
  | [], _, h => exact absurd h (by decide)
  | [v], _, h => exact absurd h (by simp)
end
theorem tx_strs : ∀ {vs : List Value} {ss : List Str}, StrsAre vs ss → vs.map tx = ss
  | _, _, .nil => rfl
  | _, _, .cons x t r => congrArg (x :: ·) (tx_strs r)
theorem tx_vals : ∀ {vs : List Value}, (∀ v ∈ vs, ∃ x t, v = Value.str x t) → Vals ((vs.map tx).map V.str) vs
  | [], _ => .nil
  | v :: vs, h => by
    obtain ⟨x, t, rfl⟩ := h v List.mem_cons_self
    exact .cons ⟨t, rfl⟩ (tx_vals fun u hu => h u (List.mem_cons_of_mem _ hu))
theorem strs_vals : ∀ {zs : List Str} {vs : List Value}, Vals (zs.map V.str) vs → StrsAre vs zs
  | [], _, .nil => .nil
  | z :: zs, _, .cons ⟨t, e⟩ r => by
    subst e
    exact .cons z t (strs_vals r)
theorem srt_out {vs out : List Value} {zs : List Str} (hT : StrsAre vs zs) (hs : Srtd ltTv out) (hb : Stb ltTv out vs) : out.map tx = srt zs ∧ Vals ((srt zs).map V.str) out := by
  have e : out.map tx = srt zs := by
    refine srt_one ?_ ?_
    · rw [← tx_strs hT]
      exact hb.perm.map tx
    · refine List.pairwise_map.mpr (hs.imp fun {a b} h => ?_)
      exact leT_iff.mpr (of_decide_eq_false h)
  refine ⟨e, ?_⟩
  rw [← e]
  exact tx_vals fun v hv => hT.all v (hb.perm.mem_iff.mp hv)
/-- sorted(xs), xs a list of texts -/
def rSortTx (K : PySem.W.Frag) : List V → Hp → VK → Prop := fun vs H Q => ∃ (a : Addr) (zs : List Str), vs = [V.ref a] ∧ SqL K H a (zs.map V.str) ∧ ∀ p, H p = none → Q (.ref p) (upd H p (.lst ((srt zs).map V.str)))
section
variable {X : Cx}
theorem cr_sortTx : CallR X (.builtin "sorted") (rSortTx X.K) := by
  intro pins s σ H vs us Q I r h
  obtain ⟨a, zs, rfl, hs, go⟩ := h
  obtain ⟨its, rv, hl, hz⟩ := I.list hs
  obtain ⟨u, rfl, ru⟩ := vals1 r
  obtain rfl : u = Value.ref a := ru
  have hT := strs_vals rv
  refine sorted_ord swoT hl.isList (by rw [← rv.length]; exact hz) (fun h2 h₁ b _ _ => sortableT hT h2) fun out h1 h2 => ?_
  obtain ⟨e1, e2⟩ := srt_out hT h1 h2
  obtain ⟨ep, he⟩ := sortedAll_at s.heap its out.toArray
  refine ⟨.ref _, upd H (s.heap.objs.size + 1) (.lst ((srt zs).map V.str)), I.laid (t' := s.toks) (fun _ _ => sortedAll_old) (Nat.le_succ _) ⟨?_, out, ep, e2, he⟩, rfl, go _ (I.hok.fresh (Nat.le_succ _))⟩
  rw [List.length_map, srt_len]
  rw [List.length_map] at hz
  exact hz
/-- sorted(d), d a dict of texts -/
def rSortTxD : List V → Hp → VK → Prop := fun vs H Q => ∃ (a : Addr) (kvs : List (Key × V)) (ks : List Str), vs = [V.ref a] ∧ Rd H a (.dK kvs) ∧ kvs.map (·.1) = ks.map Sum.inr ∧ ∀ p, H p = none → Q (.ref p) (upd H p (.lst ((srt ks).map V.str)))
theorem cr_sortTxD (calm : X.calm = true) : CallR X (.builtin "sorted") rSortTxD := by
  intro pins s σ H xs us Q I r h
  obtain ⟨a, kvs, ks, rfl, hd, hks, go⟩ := h
  obtain ⟨u, rfl, ru⟩ := vals1 r
  obtain rfl : u = Value.ref a := ru
  obtain ⟨z, lo, vs, rel, dd⟩ := dk_rd I.hok hd
  obtain ⟨ep, hat⟩ := dd.dictAt
  have hkeys : vs.map (·.1) = ks.map Sum.inr := rel.keys.symm.trans hks
  have hl : vs.length = ks.length := by
    have e := congrArg List.length hkeys
    rwa [List.length_map, List.length_map] at e
  have hz : vs.length ≤ sizeLine := by
    rw [← (Paired.length rel)]
    exact z
  refine Calls.call_function_entry PyProof.Rows.kind_sorted PyProof.Rows.plain_sorted PyProof.Rows.entry_sorted (PyProof.Rows.args_sorted1 _) ?_
  unfold Builtin.«sorted»
  refine wpAny_bind (m := checkCount "sorted" 1 1 _) (wpAny_pure ?_)
  refine wpAny_bind (PySem.W.kdu_collect (A := X.A.in1) (PySem.W.kdl_dict (knd := mixKind X.prog X.w) (kvs := vs) (ep := ep) lo) (I.ok.hd calm) hat hz fun h' tk acc keep items => ?_)
  have hal : acc.toList.length = ks.length := by rw [Array.length_toList, items.1, hl]
  have hT : StrsAre acc.toList ks := strs_at hal fun j v e => by
    obtain ⟨k, x, g1, g2⟩ := items.2 j v (by rw [← Array.getElem?_toList]; exact e)
    have g3 : (vs.map (·.1))[j]? = some k := by rw [List.getElem?_map, g1] <;> rfl
    rw [hkeys, List.getElem?_map] at g3
    cases g4 : ks[j]? with
    | none =>
      rw [g4] at g3
      cases g3
    | some y =>
      rw [g4] at g3
      obtain rfl : Sum.inr y = k := Option.some.inj g3
      obtain ⟨t, ev⟩ := Value.isStrOf_shape (x := y) (v := v) g2
      exact ⟨y, t, rfl, ev⟩
  have I1 : Inv X pins σ H { s with heap := h', toks := tk } := I.kept keep
  refine wpAny_bind (wpAny_newList ?_ (by rw [hal, ← hl]; exact hz))
  have there : (h'.push (seqObj "list" acc.toList.toArray 0)).get? h'.objs.size = some (seqObj "list" acc.toList.toArray 0) := Heap.get?_push_size _ rfl
  show wpAny _ _ _ _ _ { s with heap := h'.push (seqObj "list" acc.toList.toArray 0), toks := tk }
  refine wpAny_bind (wpAny_holding (wpAny_call_entry PyProof.Rows.slot_list_sort ⟨_, there, rfl⟩ PyProof.Rows.entry_list_sort
    (list_sort_ord (s := { s with heap := h'.push (seqObj "list" acc.toList.toArray 0), toks := tk }) swoT there (by rw [hal, ← hl]; exact hz) (fun h2 => sortableT hT h2) fun out h1 h2 => ⟨_, rfl, ?_⟩) (PyProof.Rows.args_list_sort _)))
  obtain ⟨e1, e2⟩ := srt_out hT h1 h2
  obtain ⟨e', he'⟩ := PyProof.Rows.sortedHeap_at (vs := acc.toList) (out := out.toArray) there
  refine wpAny_pure ⟨_, rfl, .ref h'.objs.size, upd H h'.objs.size (.lst ((srt ks).map V.str)), I1.laid (t' := tk) (fun b u e => ?_) (Nat.le_refl _) ⟨?_, out, e', e2, he'⟩, rfl, go _ (I1.hok.fresh (Nat.le_refl _))⟩
  · have hb : b < h'.objs.size := Heap.lt_size e
    rw [PyProof.Rows.sortedHeap_old (Nat.ne_of_lt hb) (by rw [size_push']; exact Nat.lt_succ_of_lt hb)]
    exact Heap.get?_push_of_some _ e
  · rw [List.length_map, srt_len, ← hl]
    exact hz
end
end G
namespace G
open PySem L2 PyProof.Rows PySem.Spec
/-! what a family knows -/
structure Fm where
  ch : Str → List Str
  pa : Str → List Str
  we : Str → List Str
  pt : Str → List Str
  dy : Str → Option Int
  rn : Str → Bool
  ad : Str → Option Int
def Fm.none : Fm := ⟨fun _ => [], fun _ => [], fun _ => [], fun _ => [], fun _ => Option.none, fun _ => false, fun _ => Option.none⟩
/-- one more name, if it is not there -/
def jn (zs : List Str) (x : Str) : List Str := if x ∈ zs then zs else srt (zs ++ [x])
def up {α : Type} (f : Str → α) (k : Str) (y : α) : Str → α := fun j => if j = k then y else f j
theorem up_same {α : Type} {f : Str → α} {k : Str} {y : α} : up f k y k = y := if_pos rfl
theorem up_ne {α : Type} {f : Str → α} {k j : Str} {y : α} (h : j ≠ k) : up f k y j = f j := if_neg h
inductive Fct where
  | child (c p : Str) | wed (a b : Str) | parted (a b : Str) | died (a : Str) (d : Int) | renounced (a : Str) | advance (a : Str) (n : Int)
  deriving DecidableEq
/-- what a fact's tuple holds -/
def Fct.vs : Fct → List V
  | .child c p => [.str "child", .str c, .str p]
  | .wed a b => [.str "wed", .str a, .str b]
  | .parted a b => [.str "parted", .str a, .str b]
  | .died a d => [.str "died", .str a, .int d]
  | .renounced a => [.str "renounced", .str a]
  | .advance a n => [.str "advance", .str a, .int n]
def both (f : Str → List Str) (a b : Str) : Str → List Str := up (up f a (jn (f a) b)) b (jn (up f a (jn (f a) b) b) a)
def Fm.learn (F : Fm) : Fct → Fm
  | .child c p => { F with pa := up F.pa c (jn (F.pa c) p), ch := up F.ch p (jn (F.ch p) c) }
  | .wed a b => { F with we := both F.we a b }
  | .parted a b => { F with pt := both F.pt a b }
  | .died a d => { F with dy := up F.dy a (some d) }
  | .renounced a => { F with rn := up F.rn a true }
  | .advance a n => { F with ad := up F.ad a (some ((F.ad a).getD 0 + n)) }
/-- a third parent, another day of death -/
def Fm.bad (F : Fm) : Fct → Bool
  | .child c p => decide ((F.pa c).length = 2) && !decide (p ∈ F.pa c)
  | .died a d => !decide ((F.dy a).getD d = d)
  | _ => false
theorem jn_len (zs : List Str) (x : Str) : (jn zs x).length ≤ zs.length + 1 := by
  unfold jn
  split
  · omega
  · rw [srt_len, List.length_append]
    exact Nat.le_refl _
theorem jn_mem {zs : List Str} {x y : Str} : y ∈ jn zs x ↔ y ∈ zs ∨ y = x := by
  unfold jn
  split
  · next h => exact ⟨.inl, fun g => g.elim id fun e => e ▸ h⟩
  · rw [srt_mem, List.mem_append, List.mem_singleton]
theorem jn_ne {zs : List Str} {x : Str} : jn zs x ≠ [] := fun e => by
  have : x ∈ jn zs x := jn_mem.mpr (.inr rfl)
  rw [e] at this
  cases this
/-! tables of texts -/
/-- a dict of texts: its pairs, few of them -/
structure Dt (H : Hp) (d : Addr) (n : Nat) (kvs : List (Key × V)) : Prop where
  dk : H d = some (.dK kvs)
  ks : ∃ l : List Str, kvs.map (·.1) = l.map Sum.inr ∧ l.Nodup
  ln : kvs.length ≤ n
theorem putK_len (kvs : List (Key × V)) (k : Key) (v : V) : (putK kvs k v).length ≤ kvs.length + 1 := by
  unfold putK
  split
  · rw [List.length_map]
    omega
  · rw [List.length_append]
    exact Nat.le_refl _
theorem putK_keys (kvs : List (Key × V)) (k : Str) (v : V) {l : List Str} (h : kvs.map (·.1) = l.map Sum.inr) (nd : l.Nodup) : ∃ m : List Str, (putK kvs (Sum.inr k) v).map (·.1) = m.map Sum.inr ∧ m.Nodup := by
  cases e : valV kvs (Sum.inr k : Key) with
  | none =>
    refine ⟨l ++ [k], ?_, List.nodup_append.mpr ⟨nd, List.pairwise_singleton _ _, fun a ha b hb z => ?_⟩⟩
    · rw [putK_new v e, List.map_append, List.map_append, h]
      rfl
    · rw [List.mem_singleton.mp hb] at z
      have m := valV_not e
      rw [h] at m
      exact m (List.mem_map.mpr ⟨a, ha, congrArg Sum.inr z⟩)
  | some x =>
    refine ⟨l, ?_, nd⟩
    have e2 : putK kvs (Sum.inr k : Key) v = kvs.map fun kv => if kv.1 = (Sum.inr k : Key) then (kv.1, v) else kv := by
      unfold putK
      rw [valV_any, e]
      rfl
    rw [← h, e2, List.map_map]
    refine List.map_congr_left fun p _ => ?_
    show (if p.1 = Sum.inr k then (p.1, v) else p).1 = p.1
    split <;> rfl
theorem Dt.put {H H' : Hp} {d : Addr} {n : Nat} {kvs : List (Key × V)} (D : Dt H d n kvs) {k : Str} {v : V} (h : H' d = some (.dK (putK kvs (Sum.inr k) v))) : Dt H' d (n + 1) (putK kvs (Sum.inr k) v) := by
  obtain ⟨l, e, nd⟩ := D.ks
  exact ⟨h, putK_keys kvs k v e nd, Nat.le_trans (putK_len _ _ _) (Nat.succ_le_succ D.ln)⟩
/-- a table of lists of texts -/
structure TabL (H : Hp) (d : Addr) (n : Nat) (f : Str → List Str) : Prop where
  ex : ∃ kvs, Dt H d n kvs ∧ ∀ k, (f k = [] ∧ valV kvs (Sum.inr k : Key) = Option.none) ∨ (f k ≠ [] ∧ ∃ l, valV kvs (Sum.inr k : Key) = some (.ref l) ∧ H l = some (.lst ((f k).map V.str)))
/-- a table of plain values -/
structure TabV (H : Hp) (d : Addr) (n : Nat) (f : Str → Option V) : Prop where
  ex : ∃ kvs, Dt H d n kvs ∧ ∀ k, valV kvs (Sum.inr k : Key) = f k
theorem Dt.keep {H H' : Hp} {d : Addr} {n : Nat} {kvs : List (Key × V)} (D : Dt H d n kvs) (h : H' d = some (.dK kvs)) : Dt H' d n kvs := ⟨h, D.ks, D.ln⟩
theorem Dt.mono {H : Hp} {d : Addr} {n m : Nat} {kvs : List (Key × V)} (D : Dt H d n kvs) (h : n ≤ m) : Dt H d m kvs := ⟨D.dk, D.ks, Nat.le_trans D.ln h⟩
theorem TabL.mono {H : Hp} {d : Addr} {n m : Nat} {f : Str → List Str} (T : TabL H d n f) (h : n ≤ m) : TabL H d m f := by
  obtain ⟨kvs, D, g⟩ := T.ex
  exact ⟨kvs, D.mono h, g⟩
theorem TabV.mono {H : Hp} {d : Addr} {n m : Nat} {f : Str → Option V} (T : TabV H d n f) (h : n ≤ m) : TabV H d m f := by
  obtain ⟨kvs, D, g⟩ := T.ex
  exact ⟨kvs, D.mono h, g⟩
/-- all but the dict at a stays -/
def But (a : Addr) (H H' : Hp) : Prop := ∀ b o, H b = some o → b ≠ a → H' b = some o
theorem But.of_same {a : Addr} {H H' : Hp} (s : Same H H') : But a H H' := fun b o h _ => s b o h
theorem But.trans {a : Addr} {H H1 H2 : Hp} (s : But a H H1) (t : But a H1 H2) : But a H H2 := fun b o h g => t b o (s b o h g) g
theorem TabL.keep {H H' : Hp} {a d : Addr} {n : Nat} {f : Str → List Str} {ks : List (Key × V)} (T : TabL H d n f) (s : But a H H') (ha : H a = some (.dK ks)) (h : d ≠ a) : TabL H' d n f := by
  obtain ⟨kvs, D, g⟩ := T.ex
  refine ⟨kvs, D.keep (s _ _ D.dk h), fun k => ?_⟩
  rcases g k with g | ⟨g1, l, g2, g3⟩
  · exact .inl g
  · exact .inr ⟨g1, l, g2, s _ _ g3 (ne_of g3 ha (by intro e; cases e))⟩
theorem TabL.same {H H' : Hp} {d : Addr} {n : Nat} {f : Str → List Str} (T : TabL H d n f) (s : Same H H') : TabL H' d n f := by
  obtain ⟨kvs, D, g⟩ := T.ex
  refine ⟨kvs, D.keep (s _ _ D.dk), fun k => ?_⟩
  rcases g k with g | ⟨g1, l, g2, g3⟩
  · exact .inl g
  · exact .inr ⟨g1, l, g2, s _ _ g3⟩
theorem TabV.same {H H' : Hp} {d : Addr} {n : Nat} {f : Str → Option V} (T : TabV H d n f) (s : Same H H') : TabV H' d n f := by
  obtain ⟨kvs, D, g⟩ := T.ex
  exact ⟨kvs, D.keep (s _ _ D.dk), g⟩
theorem TabV.keep {H H' : Hp} {a d : Addr} {n : Nat} {f : Str → Option V} (T : TabV H d n f) (s : But a H H') (h : d ≠ a) : TabV H' d n f := by
  obtain ⟨kvs, D, g⟩ := T.ex
  exact ⟨kvs, D.keep (s _ _ D.dk h), g⟩
/-- d[k] = the list at l -/
theorem TabL.put {H H' : Hp} {d l : Addr} {n : Nat} {f : Str → List Str} {kvs : List (Key × V)} {k : Str} {zs : List Str} (D : Dt H d n kvs) (g : ∀ k, (f k = [] ∧ valV kvs (Sum.inr k : Key) = Option.none) ∨ (f k ≠ [] ∧ ∃ l, valV kvs (Sum.inr k : Key) = some (.ref l) ∧ H l = some (.lst ((f k).map V.str))))
    (s : But d H H') (hd : H' d = some (.dK (putK kvs (Sum.inr k) (.ref l)))) (hl : H' l = some (.lst (zs.map V.str))) (ne : zs ≠ []) : TabL H' d (n + 1) (up f k zs) := by
  refine ⟨_, D.put hd, fun j => ?_⟩
  rw [valV_put]
  by_cases e : j = k
  · subst e
    rw [up_same, if_pos rfl]
    exact .inr ⟨ne, l, rfl, hl⟩
  · rw [up_ne e, if_neg fun z => e (Sum.inr.inj z)]
    rcases g j with g | ⟨g1, m, g2, g3⟩
    · exact .inl g
    · exact .inr ⟨g1, m, g2, s _ _ g3 (ne_of g3 D.dk (by intro e; cases e))⟩
theorem TabV.put {H H' : Hp} {d : Addr} {n : Nat} {f : Str → Option V} {kvs : List (Key × V)} {k : Str} {v : V} (D : Dt H d n kvs) (g : ∀ k, valV kvs (Sum.inr k : Key) = f k) (hd : H' d = some (.dK (putK kvs (Sum.inr k) v))) : TabV H' d (n + 1) (up f k (some v)) := by
  refine ⟨_, D.put hd, fun j => ?_⟩
  rw [valV_put]
  by_cases e : j = k
  · subst e
    rw [up_same, if_pos rfl]
  · rw [up_ne e, if_neg fun z => e (Sum.inr.inj z)]
    exact g j
/-! the object -/
def flds (a1 a2 a3 a4 a5 a6 a7 : Addr) : List (Str × V) := [("_children", .ref a1), ("_parents", .ref a2), ("_wed", .ref a3), ("_parted", .ref a4), ("_days", .ref a5), ("_renounced", .ref a6), ("_advances", .ref a7)]
section
variable {a1 a2 a3 a4 a5 a6 a7 : Addr}
theorem fl_1 : (flds a1 a2 a3 a4 a5 a6 a7).lookup ("_children" : Str) = some (.ref a1) := by kernel_rfl
theorem fl_2 : (flds a1 a2 a3 a4 a5 a6 a7).lookup ("_parents" : Str) = some (.ref a2) := by kernel_rfl
theorem fl_3 : (flds a1 a2 a3 a4 a5 a6 a7).lookup ("_wed" : Str) = some (.ref a3) := by kernel_rfl
theorem fl_4 : (flds a1 a2 a3 a4 a5 a6 a7).lookup ("_parted" : Str) = some (.ref a4) := by kernel_rfl
theorem fl_5 : (flds a1 a2 a3 a4 a5 a6 a7).lookup ("_days" : Str) = some (.ref a5) := by kernel_rfl
theorem fl_6 : (flds a1 a2 a3 a4 a5 a6 a7).lookup ("_renounced" : Str) = some (.ref a6) := by kernel_rfl
theorem fl_7 : (flds a1 a2 a3 a4 a5 a6 a7).lookup ("_advances" : Str) = some (.ref a7) := by kernel_rfl
end
/-- a family stands at p: its class C, what it knows F, in tables of at most n pairs -/
structure FamAt (C : Addr) (H : Hp) (p : Addr) (n : Nat) (F : Fm) : Prop where
  ex : ∃ dx a1 a2 a3 a4 a5 a6 a7, H p = some (.ins C dx (flds a1 a2 a3 a4 a5 a6 a7)) ∧ TabL H a1 n F.ch ∧ TabL H a2 n F.pa ∧ TabL H a3 n F.we ∧ TabL H a4 n F.pt ∧ TabV H a5 n (fun k => (F.dy k).map V.int) ∧
    TabV H a6 n (fun k => if F.rn k = true then some (.bl true) else Option.none) ∧ TabV H a7 n (fun k => (F.ad k).map V.int) ∧ [a1, a2, a3, a4, a5, a6, a7].Nodup
theorem FamAt.same {C : Addr} {H H' : Hp} {p : Addr} {n : Nat} {F : Fm} (T : FamAt C H p n F) (s : Same H H') : FamAt C H' p n F := by
  obtain ⟨dx, a1, a2, a3, a4, a5, a6, a7, hp, t1, t2, t3, t4, t5, t6, t7, nd⟩ := T.ex
  exact ⟨dx, a1, a2, a3, a4, a5, a6, a7, s _ _ hp, t1.same s, t2.same s, t3.same s, t4.same s, t5.same s, t6.same s, t7.same s, nd⟩
theorem FamAt.mono {C : Addr} {H : Hp} {p : Addr} {n m : Nat} {F : Fm} (T : FamAt C H p n F) (h : n ≤ m) : FamAt C H p m F := by
  obtain ⟨dx, a1, a2, a3, a4, a5, a6, a7, hp, t1, t2, t3, t4, t5, t6, t7, nd⟩ := T.ex
  exact ⟨dx, a1, a2, a3, a4, a5, a6, a7, hp, t1.mono h, t2.mono h, t3.mono h, t4.mono h, t5.mono h, t6.mono h, t7.mono h, nd⟩
end G
namespace K1
open PySem L2 PyProof.Rows G
def topS (i : Nat) : Stmt := PySem.Challenge.pw_parcener_k01_families_of_facts.main.body.getD i (.Pass ⟨0, 0, 0, 0⟩)
abbrev sBadI : Stmt := inClass (topS 2) 0
abbrev sCirI : Stmt := inClass (topS 3) 0
abbrev sNam : Stmt := topS 11
abbrev sAmt : Stmt := topS 12
abbrev sFac : Stmt := topS 13
abbrev sJoi : Stmt := topS 14
abbrev sFamI : Stmt := inClass (topS 15) 0
abbrev sCon : Stmt := inClass (topS 15) 1
abbrev sLea : Stmt := inClass (topS 15) 2
abbrev sChi : Stmt := inClass (topS 15) 3
abbrev sPar : Stmt := inClass (topS 15) 4
abbrev sSpo : Stmt := inClass (topS 15) 5
abbrev sDay : Stmt := inClass (topS 15) 6
abbrev sRen : Stmt := inClass (topS 15) 7
abbrev sAdv : Stmt := inClass (topS 15) 8
abbrev sRea : Stmt := inClass (topS 15) 9
abbrev sCel : Stmt := topS 17
abbrev sNum : Stmt := topS 18
abbrev sFee : Stmt := topS 19
abbrev sTak : Stmt := topS 20
abbrev sFts : Stmt := topS 21
abbrev sOnc : Stmt := topS 22
abbrev sBel : Stmt := topS 23
abbrev sRef : Stmt := topS 24
abbrev sWro : Stmt := topS 25
abbrev sTol : Stmt := topS 26
abbrev sLaw : Stmt := topS 27
/-! the mirror of names, amounts and facts -/
def signs : Str := "abcdefghijklmnopqrstuvwxyz0123456789"
def isNm (x : Str) : Bool := !decide (x = ("crown" : Str)) && (decide (1 ≤ x.length) && decide (x.length ≤ 12)) && x.cps.toList.all fun c => decide (c ∈ signs.cps.toList)
def nameV : V → Bool
  | .str x => isNm x
  | _ => false
def amtV : V → Bool
  | .int i => decide (0 ≤ i) && decide (i ≤ 1000000000)
  | _ => false
def threeV (w n z : V) : Bool := if w = .str "child" ∨ w = .str "wed" ∨ w = .str "parted" then nameV z && !decide (n = z) else (decide (w = .str "died") || decide (w = .str "advance")) && amtV z
def isStr : V → Bool
  | .str _ => true
  | _ => false
def factV : List V → Bool
  | [w, n] => isStr w && nameV n && decide (w = .str "renounced")
  | [w, n, z] => isStr w && nameV n && threeV w n z
  | _ => false
/-- a built-in's kind, of a plain value -/
def tyV : V → String
  | .non => "NoneType"
  | .bl _ => "bool"
  | .int _ => "int"
  | .str _ => "str"
  | _ => "?"
theorem ty_flat {K : PySem.W.Frag} {H : Hp} {v : V} (h : flatV v = true) : TyX K H v (.type (tyV v)) := by
  cases v with
  | non => exact .base .non
  | bl b => exact .base (.bl b)
  | int i => exact .base (.int i)
  | str x => exact .base (.str x)
  | byt b => cases h
  | flt b => cases h
  | ref a => cases h
  | ty n => cases h
theorem kit_str {K : PySem.W.Frag} {v : V} (h : flatV v = true) : PySem.W.kitOne K (.type (tyV v)) (.type "str") = some (isStr v) := by
  cases v with
  | non => exact kit_ty (show kitB "NoneType" "str" = some false by decide +kernel)
  | bl b => exact kit_ty (show kitB "bool" "str" = some false by decide +kernel)
  | int i => exact kit_ty (show kitB "int" "str" = some false by decide +kernel)
  | str x => exact kit_ty (show kitB "str" "str" = some true by decide +kernel)
  | byt b => cases h
  | flt b => cases h
  | ref a => cases h
  | ty n => cases h
def isIntV : V → Bool
  | .int _ => true
  | .bl _ => true
  | _ => false
theorem kit_int {K : PySem.W.Frag} {v : V} (h : flatV v = true) : PySem.W.kitOne K (.type (tyV v)) (.type "int") = some (isIntV v) := by
  cases v with
  | non => exact kit_ty (show kitB "NoneType" "int" = some false by decide +kernel)
  | bl b => exact kit_ty (show kitB "bool" "int" = some true by decide +kernel)
  | int i => exact kit_ty (show kitB "int" "int" = some true by decide +kernel)
  | str x => exact kit_ty (show kitB "str" "int" = some false by decide +kernel)
  | byt b => cases h
  | flt b => cases h
  | ref a => cases h
  | ty n => cases h
def isBlV : V → Bool
  | .bl _ => true
  | _ => false
theorem kit_bl {K : PySem.W.Frag} {v : V} (h : flatV v = true) : PySem.W.kitOne K (.type (tyV v)) (.type "bool") = some (isBlV v) := by
  cases v with
  | non => exact kit_ty (show kitB "NoneType" "bool" = some false by decide +kernel)
  | bl b => exact kit_ty (show kitB "bool" "bool" = some true by decide +kernel)
  | int i => exact kit_ty (show kitB "int" "bool" = some false by decide +kernel)
  | str x => exact kit_ty (show kitB "str" "bool" = some false by decide +kernel)
  | byt b => cases h
  | flt b => cases h
  | ref a => cases h
  | ty n => cases h
/-- a def of the top that stands: its promise kept at a level -/
structure Has (P : Program) (w : World) (K : PySem.W.Frag) (mg : Str → Option Value) (base : Heap) (CX : CXT) (x : Str) (ps : List Str) (k : Nat) (sp : Sp) : Prop where
  ok : ∃ (f : Addr) (fd : FuncData), mg x = some (.ref f) ∧ PySem.W.keepIn K (.ref f) = true ∧ Binds K fd ps [] ∧ FnOk P w K mg base CX k f fd ps sp
/-- the module's constants and built-ins that the family's text asks -/
structure Txt (mg : Str → Option Value) : Prop where
  signs : ∃ t, mg "NAME_SIGNS" = some (.str signs t)
  longest : ∃ t, mg "LONGEST_NAME" = some (.int 12 t)
  crown : ∃ t, mg "CROWN" = some (.str "crown" t)
  great : ∃ t, mg "GREATEST_AMOUNT" = some (.int 1000000000 t)
  most : ∃ t, mg "MOST_FACTS" = some (.int 120 t)
  two : ∃ t, mg "MOST_PARENTS" = some (.int 2 t)
  isi : mg "isinstance" = none
  str : mg "str" = none
  int : mg "int" = none
  bool : mg "bool" = none
  tuple : mg "tuple" = none
  len : mg "len" = none
  all : mg "all" = none
  sorted : mg "sorted" = none
  list : mg "list" = none
  enum : mg "enumerate" = none
section
variable {P : Program} {w : World} {K : PySem.W.Frag} {mg : Str → Option Value} {base : Heap}
theorem scNam : FnScope ["value", "sign"] ["value"] (defScope sNam) := ⟨rfl, rfl, rfl, by decide +kernel, rfl, by decide +kernel, by decide +kernel⟩
/-- a plain value, its text short -/
structure OkV (v : V) : Prop where
  fl : flatV v = true
  sh : ∀ x, v = .str x → x.length ≤ 1000
/-- is_name, of a plain value -/
def spNam : Sp := fun vs H Q _ => ∃ v : V, vs = [v] ∧ OkV v ∧ ∀ H', Same H H' → Q (.bl (nameV v)) H'
theorem ok_name {f : Addr} {fd : FuncData} (F : Fun K "is_name" "is_name" sNam f fd) (T : Txt mg) : FnOk P w K mg base CX0 1 f fd ["value"] spNam := by
  obtain ⟨t1, m1⟩ := T.signs
  obtain ⟨t2, m2⟩ := T.longest
  obtain ⟨t3, m3⟩ := T.crown
  refine F.ok scNam (fun vs H Q E h => ?_) (fun cdv A outer s H vs Q E hr h => ?_)
  · obtain ⟨v, rfl, _⟩ := h
    rfl
  · obtain ⟨v, rfl, hv, go⟩ := h
    refine ⟨_, pss_cons (ps_if (PW.pt (pw_or (pt_not (pt_val (pe_callB call_isi (by rfl) T.isi (by decide +kernel) (pa_cons (pv 0) (pa_cons (pe_bltn (v := .ty "str") (u := .type "str") (by rfl) T.str (by decide +kernel) rfl) pa_nil))))) (pw_or1 (pt_cmpR op_eq (pv 0) (pe_glob (v := .str "crown") (by rfl) m3 ⟨_, rfl⟩) (nomark _))))) (pss_one (ps_ret pe_bl)) pss_nil)
      (pss_cons (ps_if (pt_not (pt_chain op_le op_le pe_int (pe_callB call_len_str (by rfl) T.len PySem.boot_len (pa_cons (pv 0) pa_nil)) (pe_glob (v := .int 12) (by rfl) m2 ⟨_, rfl⟩))) (pss_one (ps_ret pe_bl)) pss_nil)
      (pss_one (ps_ret (pe_callB (cr_all rfl) (by rfl) T.all (by decide +kernel) (pa_cons (pe_lc (own := [("sign", 1)]) (g := gName 1) (tt := tYes) rfl scNam.nd (pi_str (pv 0)) (blkOk_by (N := ["value", "sign"]) (sc := defScope sNam) (by decide +kernel))
        (fun _ _ _ _ _ => pg_name (i := 1) scNam.nd rfl (.inl rfl) (.inr rfl)) (fun _ _ _ _ _ => pts_nil) (fun _ _ _ _ _ => pe_cmpR op_in_sign (pv 1) (pe_glob (v := .str signs) (by rfl) m1 ⟨_, rfl⟩) rfl)) pa_nil))))), ?_⟩
    have tail (Y : Prop) (h1 : isStr v = false → Y) (h2 : ∀ x, v = .str x → Y) : Y := by
      cases v with
      | str x => exact h2 x rfl
      | non => exact h1 rfl
      | bl b => exact h1 rfl
      | int i => exact h1 rfl
      | byt b => exact h1 rfl
      | flt b => exact h1 rfl
      | ref b => exact h1 rfl
      | ty b => exact h1 rfl
    refine ⟨_, rfl, v, .ty "str", _, _, _, rfl, .ty _, ty_flat hv.fl, kit_str hv.fl, _, rfl, ?_⟩
    refine tail _ (fun e => ?_) (fun x e => ?_)
    · have en : nameV v = false := by
        cases v <;> first | rfl | cases e
      rw [en] at go
      rw [e]
      exact go H (Same.refl H)
    · subst e
      refine iteF ⟨_, rfl, rfl, _, rfl, ite2 (fun ec => ?_) (fun ec => ?_)⟩
      · have en : nameV (.str x) = false := by
          have e2 := V.str.inj (of_decide_eq_true ec)
          show isNm x = false
          unfold isNm
          rw [e2]
          rfl
        rw [en] at go
        exact go H (Same.refl H)
      · have ec' : ¬ x = ("crown" : Str) := fun z => ec (decide_eq_true (congrArg V.str z))
        have xl := hv.sh x rfl
        refine ⟨_, rfl, x, rfl, Nat.le_trans xl (by decide), ?_⟩
        have no (hb : ¬ (1 ≤ x.length ∧ x.length ≤ 12)) : Q (.bl false) H := by
          have en : nameV (.str x) = false := by
            show isNm x = false
            unfold isNm
            have : (decide (1 ≤ x.length) && decide (x.length ≤ 12)) = false := by
              rw [Bool.eq_false_iff]
              intro z
              rw [Bool.and_eq_true, decide_eq_true_eq, decide_eq_true_eq] at z
              exact hb z
            rw [this, Bool.and_false, Bool.false_and]
          rw [en] at go
          exact go H (Same.refl H)
        refine ⟨_, _, rfl, rfl, _, rfl, ite2 (fun a => ?_) (fun a => ?_)⟩
        · have a1 : (1 : Int) ≤ (x.length : Int) := of_decide_eq_true a
          refine ⟨_, _, rfl, rfl, _, rfl, ite2 (fun b => ?_) (fun b => ?_)⟩
          · refine no fun z => ?_
            have b1 : ¬ (x.length : Int) ≤ 12 := fun c => by
              rw [decide_eq_true c] at b
              cases b
            omega
          · have b1 : (x.length : Int) ≤ 12 := by
              by_cases c : (x.length : Int) ≤ 12
              · exact c
              · exact absurd (by rw [decide_eq_false c]; rfl) b
            refine ⟨_, rfl, x, rfl, fun D hD => lc_it walk_str (fun i Hy => (∀ b o, H b = some o → Hy b = some o) ∧ Hy D = some (.lst (((x.cps.toList.take i).map fun c => decide (c ∈ signs.cps.toList)).map V.bl))) ⟨fun b o hb => ?_, upd_same⟩ (fun _ _ _ _ => trivial) ?_ ?_⟩
            · rw [upd_ne (ne_of_none hb hD)]
              exact hb
            · rintro i y Hy H' hi ⟨k1, k2⟩ ⟨rfl, c, ec2, rfl⟩
              refine ⟨rfl, _, rfl, c, signs, rfl, rfl, _, k2, ?_, ?_, ?_⟩
              · rw [List.length_map, List.length_map, List.length_take]
                have : x.cps.toList.length = x.length := Array.length_toList
                exact small1000 (by omega)
              · intro b o hb
                rw [upd_ne (ne_of_none hb hD)]
                exact k1 b o hb
              · rw [upd_same, List.take_add_one, Array.getElem?_toList, ec2, List.map_append, List.map_append]
                rfl
            · rintro Hy ⟨k1, k2⟩
              rw [show x.cps.size = x.cps.toList.length from Array.length_toList.symm, List.take_length] at k2
              refine ⟨D, _, rfl, SqL.of k2, ?_⟩
              have en : nameV (.str x) = (x.cps.toList.map fun c => decide (c ∈ signs.cps.toList)).all id := by
                show isNm x = _
                unfold isNm
                rw [decide_eq_false ec', decide_eq_true (show 1 ≤ x.length by omega), decide_eq_true (show x.length ≤ 12 by omega), List.all_map]
                rfl
              rw [← en]
              exact go Hy k1
        · refine ⟨_, rfl, ?_⟩
          exact no fun z => a (decide_eq_true (show (1 : Int) ≤ (x.length : Int) by omega))
theorem scAmt : FnScope ["value"] ["value"] (defScope sAmt) := ⟨rfl, rfl, rfl, by decide +kernel, rfl, by decide +kernel, by decide +kernel⟩
def spAmt : Sp := fun vs H Q _ => ∃ v : V, vs = [v] ∧ flatV v = true ∧ Q (.bl (amtV v)) H
theorem ok_amount {f : Addr} {fd : FuncData} (F : Fun K "is_amount" "is_amount" sAmt f fd) (T : Txt mg) : FnOk P w K mg base CX0 1 f fd ["value"] spAmt := by
  obtain ⟨t1, m1⟩ := T.great
  refine F.ok scAmt (fun vs H Q E h => ?_) (fun cdv A outer s H vs Q E hr h => ?_)
  · obtain ⟨v, rfl, _⟩ := h
    rfl
  · obtain ⟨v, rfl, hv, go⟩ := h
    refine ⟨_, pss_cons (ps_if (PW.pt (pw_or (pt_not (pt_val (pe_callB call_isi (by rfl) T.isi (by decide +kernel) (pa_cons (pv 0) (pa_cons (pe_bltn (v := .ty "int") (u := .type "int") (by rfl) T.int (by decide +kernel) rfl) pa_nil))))) (pw_or1 (pt_val (pe_callB call_isi (by rfl) T.isi (by decide +kernel) (pa_cons (pv 0) (pa_cons (pe_bltn (v := .ty "bool") (u := .type "bool") (by rfl) T.bool (by decide +kernel) rfl) pa_nil))))))) (pss_one (ps_ret pe_bl)) pss_nil)
      (pss_one (ps_ret (pe_chain op_le op_le pe_int (pv 0) (pe_glob (v := .int 1000000000) (by rfl) m1 ⟨_, rfl⟩)))), ?_⟩
    refine ⟨_, rfl, v, .ty "int", _, _, _, rfl, .ty _, ty_flat hv, kit_int hv, _, rfl, ?_⟩
    cases v with
    | int i =>
      refine iteF ⟨_, rfl, _, .ty "bool", _, _, _, rfl, .ty _, ty_flat hv, kit_bl hv, _, rfl, iteF ?_⟩
      refine ⟨_, rfl, _, _, rfl, rfl, _, rfl, ite2 (fun a => ?_) (fun a => ?_)⟩
      · have a1 : (0 : Int) ≤ i := of_decide_eq_true a
        refine ⟨_, _, rfl, rfl, ?_⟩
        have en : amtV (.int i) = decide (i ≤ 1000000000) := by
          show (decide (0 ≤ i) && decide (i ≤ 1000000000)) = _
          rw [decide_eq_true a1]
          rfl
        rw [en] at go
        exact go
      · have a1 : ¬ (0 : Int) ≤ i := fun z => a (decide_eq_true z)
        have en : amtV (.int i) = false := by
          show (decide (0 ≤ i) && decide (i ≤ 1000000000)) = _
          rw [decide_eq_false a1]
          rfl
        rw [en] at go
        exact go
    | bl b => exact iteF ⟨_, rfl, _, .ty "bool", _, _, _, rfl, .ty _, ty_flat hv, kit_bl hv, _, rfl, iteT go⟩
    | non => exact go
    | str x => exact go
    | byt b => cases hv
    | flt b => cases hv
    | ref b => cases hv
    | ty b => cases hv
end
end K1
namespace K1
open PySem L2 PyProof.Rows G
theorem kit_tup {K : PySem.W.Frag} {v : V} (h : flatV v = true) : PySem.W.kitOne K (.type (tyV v)) (.type "tuple") = some false := by
  cases v with
  | non => exact kit_ty (show kitB "NoneType" "tuple" = some false by decide +kernel)
  | bl b => exact kit_ty (show kitB "bool" "tuple" = some false by decide +kernel)
  | int i => exact kit_ty (show kitB "int" "tuple" = some false by decide +kernel)
  | str x => exact kit_ty (show kitB "str" "tuple" = some false by decide +kernel)
  | byt b => cases h
  | flt b => cases h
  | ref a => cases h
  | ty n => cases h
/-- no tuple: a plain value or a list -/
def NoTup (H : Hp) (v : V) : Prop := flatV v = true ∨ ∃ a xs, v = .ref a ∧ H a = some (.lst xs)
theorem NoTup.kit {K : PySem.W.Frag} {H : Hp} {v : V} (h : NoTup H v) : ∃ t, TyX K H v t ∧ PySem.W.kitOne K t (.type "tuple") = some false := by
  rcases h with h | ⟨a, xs, rfl, h⟩
  · exact ⟨_, ty_flat h, kit_tup h⟩
  · exact ⟨_, .base (.lst h), kit_ty (show kitB "list" "tuple" = some false by decide +kernel)⟩
theorem factV_len {xs : List V} (h : xs.length ≠ 2) (g : xs.length ≠ 3) : factV xs = false := by
  match xs, h, g with
  | [], _, _ => rfl
  | [_], _, _ => rfl
  | [_, _], h, _ => exact absurd rfl h
  | [_, _, _], _, g => exact absurd rfl g
  | _ :: _ :: _ :: _ :: _, _, _ => rfl
theorem in23 (n : Int) : inV (.int n) [.int 2, .int 3] = decide (n = 2 ∨ n = 3) := by
  show ((2 == n) || ((3 == n) || false)) = _
  rw [Bool.or_false, Bool.eq_iff_iff, Bool.or_eq_true, decide_eq_true_eq, beq_iff_eq, beq_iff_eq]
  constructor <;> rintro (h | h) <;> omega
theorem in3s (w a b c : Str) : inV (.str w) [.str a, .str b, .str c] = decide (V.str w = .str a ∨ V.str w = .str b ∨ V.str w = .str c) := by
  show ((a == w) || ((b == w) || ((c == w) || false))) = _
  rw [Bool.or_false, Bool.eq_iff_iff, Bool.or_eq_true, Bool.or_eq_true, decide_eq_true_eq, beq_iff_eq, beq_iff_eq, beq_iff_eq]
  exact ⟨fun h => h.imp (fun z => congrArg V.str z.symm) fun h => h.imp (fun z => congrArg V.str z.symm) fun z => congrArg V.str z.symm, fun h => h.imp (fun z => (V.str.inj z).symm) fun h => h.imp (fun z => (V.str.inj z).symm) fun z => (V.str.inj z).symm⟩
theorem in2s (w a b : Str) : inV (.str w) [.str a, .str b] = (decide (V.str w = .str a) || decide (V.str w = .str b)) := by
  show ((a == w) || ((b == w) || false)) = _
  rw [Bool.or_false, Bool.eq_iff_iff, Bool.or_eq_true, Bool.or_eq_true, decide_eq_true_eq, decide_eq_true_eq, beq_iff_eq, beq_iff_eq]
  exact ⟨fun h => h.imp (fun z => congrArg V.str z.symm) fun z => congrArg V.str z.symm, fun h => h.imp (fun z => (V.str.inj z).symm) fun z => (V.str.inj z).symm⟩
theorem str_of {v : V} (h : isStr v = true) : ∃ x, v = .str x := by
  cases v <;> first | exact ⟨_, rfl⟩ | cases h
theorem name_str {v : V} (h : nameV v = true) : ∃ x, v = .str x := by
  cases v <;> first | exact ⟨_, rfl⟩ | cases h
section
variable {P : Program} {w : World} {K : PySem.W.Frag} {mg : Str → Option Value} {base : Heap}
theorem scFac : FnScope ["fact", "word"] ["fact"] (defScope sFac) := ⟨rfl, rfl, rfl, by decide +kernel, rfl, by decide +kernel, by decide +kernel⟩
/-- is_fact, of a tuple of plain values or of something else -/
def spFac : Sp := fun vs H Q _ => ∃ v : V, vs = [v] ∧ ((∃ a xs, v = .ref a ∧ H a = some (.tup xs) ∧ (∀ x ∈ xs, OkV x) ∧ ∀ H', Same H H' → Q (.bl (factV xs)) H') ∨ (NoTup H v ∧ ∀ H', Same H H' → Q (.bl false) H'))
theorem ok_fact {f : Addr} {fd : FuncData} (F : Fun K "is_fact" "is_fact" sFac f fd) (T : Txt mg) (TN : Has P w K mg base CX0 "is_name" ["value"] 1 spNam) (TA : Has P w K mg base CX0 "is_amount" ["value"] 1 spAmt) : FnOk P w K mg base CX0 2 f fd ["fact"] spFac := by
  obtain ⟨fN, fdN, mN, kN, bN, GN⟩ := TN.ok
  obtain ⟨fA, fdA, mA, kA, bA, GA⟩ := TA.ok
  refine F.ok scFac (fun vs H Q E h => ?_) (fun cdv A outer s H vs Q E hr h => ?_)
  · obtain ⟨v, rfl, _⟩ := h
    rfl
  · obtain ⟨v, rfl, h⟩ := h
    have ix (j : Int) : True := trivial
    refine ⟨_, pss_cons (ps_if (PW.pt (pw_or (pt_not (pt_val (pe_callB call_isi (by rfl) T.isi (by decide +kernel) (pa_cons (pv 0) (pa_cons (pe_bltn (v := .ty "tuple") (u := .type "tuple") (by rfl) T.tuple (by decide +kernel) rfl) pa_nil)))))
          (pw_or1 (pt_cmpR op_notIn_seq (pe_callB call_len_seq (by rfl) T.len PySem.boot_len (pa_cons (pv 0) pa_nil)) (pe_tup (pa_cons pe_int (pa_cons pe_int pa_nil))) (by rfl))))) (pss_one (ps_ret pe_bl)) pss_nil)
      (pss_cons (ps_set (i := 1) scFac.nd rfl (.inl rfl) (pe_ix ix_tup (pv 0) pe_int (fun _ _ => rfl)))
      (pss_cons (ps_if (PW.pt (pw_or (pt_not (pt_val (pe_callB call_isi (by rfl) T.isi (by decide +kernel) (pa_cons (pv 1) (pa_cons (pe_bltn (v := .ty "str") (u := .type "str") (by rfl) T.str (by decide +kernel) rfl) pa_nil)))))
          (pw_or1 (pt_not (pt_val (pe_call GN hr (by rfl) mN kN bN .nil pass0 (pa_cons (pe_ix ix_tup (pv 0) pe_int (fun _ _ => rfl)) pa_nil))))))) (pss_one (ps_ret pe_bl)) pss_nil)
      (pss_cons (ps_if (pt_cmpR op_eq (pe_callB call_len_seq (by rfl) T.len PySem.boot_len (pa_cons (pv 0) pa_nil)) pe_int (nomark _)) (pss_one (ps_ret (pe_cmpR op_eq (pv 1) pe_str (nomark _)))) pss_nil)
      (pss_cons (ps_if (pt_cmpR op_in_seq (pv 1) (pe_tup (pa_cons pe_str (pa_cons pe_str (pa_cons pe_str pa_nil)))) (by rfl))
          (pss_one (ps_ret (pe_and (pe_call GN hr (by rfl) mN kN bN .nil pass0 (pa_cons (pe_ix ix_tup (pv 0) pe_int (fun _ _ => rfl)) pa_nil)) (pe_one (pe_cmpR op_ne (pe_ix ix_tup (pv 0) pe_int (fun _ _ => rfl)) (pe_ix ix_tup (pv 0) pe_int (fun _ _ => rfl)) (nomark _)))))) pss_nil)
      (pss_one (ps_ret (pe_and (pe_cmpR op_in_seq (pv 1) (pe_tup (pa_cons pe_str (pa_cons pe_str pa_nil))) (by rfl)) (pe_one (pe_call GA hr (by rfl) mA kA bA .nil pass0 (pa_cons (pe_ix ix_tup (pv 0) pe_int (fun _ _ => rfl)) pa_nil)))))))))), ?_⟩
    rcases h with ⟨a, xs, rfl, ha, hok, go⟩ | ⟨hv, go⟩
    · refine ⟨_, rfl, _, .ty "tuple", _, _, true, rfl, .ty _, .base (.tup ha), kit_ty (show kitB "tuple" "tuple" = some true by decide +kernel), _, rfl, iteF ?_⟩
      refine ⟨_, rfl, a, xs, rfl, .inr (SqT.of ha), by show 2 ≤ sizeLine; decide, fun T2 n2 => ⟨T2, _, rfl, .inr (SqT.of upd_same), rfl, rfl, _, rfl, ?_⟩⟩
      rw [show (if true = true then !inV (V.int (xs.length : Int)) [V.int 2, V.int 3] else inV (V.int (xs.length : Int)) [V.int 2, V.int 3]) = !inV (V.int (xs.length : Int)) [V.int 2, V.int 3] from if_pos rfl, in23]
      by_cases h23 : xs.length = 2 ∨ xs.length = 3
      · rw [decide_eq_true (show (xs.length : Int) = 2 ∨ (xs.length : Int) = 3 by omega)]
        have s2 : ∀ o, Same H (upd H T2 o) := fun o => same_upd n2
        have a2 : ∀ o, SqT K (upd H T2 o) a xs := fun o => sameT (s2 o) (SqT.of ha)
        obtain ⟨wv, nv, r, rfl⟩ : ∃ wv nv r, xs = wv :: nv :: r := by
          match xs, h23 with
          | wv :: nv :: r, _ => exact ⟨wv, nv, r, rfl⟩
          | [], h => simp at h
          | [_], h => simp at h
        have okw := hok wv List.mem_cons_self
        have okn := hok nv (List.mem_cons_of_mem _ List.mem_cons_self)
        refine iteF ⟨_, rfl, a, _, 0, wv, rfl, rfl, a2 _, atI_nat (j := 0) rfl, ?_⟩
        refine ⟨_, rfl, wv, .ty "str", _, _, _, rfl, .ty _, ty_flat okw.fl, kit_str okw.fl, _, rfl, ?_⟩
        have dead (e : isStr wv = false ∨ nameV nv = false) : ∀ H', Same H H' → Q (.bl false) H' := fun H' sm => by
          have en : factV (wv :: nv :: r) = false := by
            match r, h23 with
            | [], _ =>
              show (isStr wv && nameV nv && _) = false
              rcases e with e | e <;> rw [e] <;> simp
            | [z], _ =>
              show (isStr wv && nameV nv && _) = false
              rcases e with e | e <;> rw [e] <;> simp
            | _ :: _ :: _, h => simp at h
          rw [en] at go
          exact go H' sm
        cases ew : isStr wv with
        | false => exact dead (.inl ew) _ (s2 _)
        | true =>
          obtain ⟨wx, rfl⟩ := str_of ew
          refine iteF ⟨_, rfl, a, _, 1, nv, rfl, rfl, a2 _, atI_nat (j := 1) rfl, nv, rfl, okn, fun H3 sm3 => ⟨_, rfl, ?_⟩⟩
          have sm3' : Same H H3 := (s2 _).trans sm3
          have a3 : SqT K H3 a (.str wx :: nv :: r) := sameT sm3 (a2 _)
          cases en : nameV nv with
          | false => exact dead (.inr en) _ sm3'
          | true =>
            obtain ⟨nx, rfl⟩ := name_str en
            refine iteF ⟨_, rfl, a, _, rfl, .inr a3, rfl, _, rfl, ?_⟩
            match r, h23 with
            | [], _ =>
              refine iteT ⟨_, rfl, rfl, ?_⟩
              have ev : factV [.str wx, .str nx] = decide (V.str wx = .str "renounced") := by
                show (isStr (.str wx) && nameV (.str nx) && _) = _
                rw [en]
                rfl
              rw [ev] at go
              exact go H3 sm3'
            | [z], _ =>
              have okz := hok z (List.mem_cons_of_mem _ (List.mem_cons_of_mem _ List.mem_cons_self))
              have ev : factV [.str wx, .str nx, z] = threeV (.str wx) (.str nx) z := by
                show (isStr (.str wx) && nameV (.str nx) && _) = _
                rw [en]
                rfl
              rw [ev] at go
              refine iteF ⟨_, rfl, by show 3 ≤ sizeLine; decide, fun T4 n4 => ⟨T4, _, rfl, .inr (SqT.of upd_same), rfl, rfl, _, rfl, ?_⟩⟩
              have sm4 : ∀ o, Same H3 (upd H3 T4 o) := fun o => same_upd n4
              have a4 : ∀ o, SqT K (upd H3 T4 o) a [.str wx, .str nx, z] := fun o => sameT (sm4 o) a3
              rw [show (if false = true then !inV (V.str wx) [V.str "child", V.str "wed", V.str "parted"] else inV (V.str wx) [V.str "child", V.str "wed", V.str "parted"]) = inV (V.str wx) [V.str "child", V.str "wed", V.str "parted"] from if_neg (by decide), in3s]
              by_cases c : V.str wx = .str "child" ∨ V.str wx = .str "wed" ∨ V.str wx = .str "parted"
              · rw [decide_eq_true c]
                have e3 : threeV (.str wx) (.str nx) z = (nameV z && !decide (V.str nx = z)) := by
                  unfold threeV
                  rw [if_pos c]
                rw [e3] at go
                refine iteT ⟨_, rfl, a, _, 2, z, rfl, rfl, a4 _, atI_nat (j := 2) rfl, z, rfl, okz, fun H5 sm5 => ⟨_, rfl, ?_⟩⟩
                have sm5' := sm3'.trans ((sm4 _).trans sm5)
                cases ez : nameV z with
                | false =>
                  rw [ez] at go
                  exact go H5 sm5'
                | true =>
                  rw [ez] at go
                  obtain ⟨zx, rfl⟩ := name_str ez
                  have a5 := sameT sm5 (a4 _)
                  exact iteT ⟨_, rfl, a, _, 1, _, rfl, rfl, a5, atI_nat (j := 1) rfl, _, rfl, a, _, 2, _, rfl, rfl, a5, atI_nat (j := 2) rfl, rfl, go H5 sm5'⟩
              · rw [decide_eq_false c]
                have e3 : threeV (.str wx) (.str nx) z = ((decide (V.str wx = .str "died") || decide (V.str wx = .str "advance")) && amtV z) := by
                  unfold threeV
                  rw [if_neg c]
                rw [e3] at go
                refine iteF ⟨_, rfl, by show 2 ≤ sizeLine; decide, fun T6 n6 => ⟨T6, _, rfl, .inr (SqT.of upd_same), rfl, rfl, _, rfl, ?_⟩⟩
                have sm6 : ∀ o', Same (upd H3 T4 (.tup [.str "child", .str "wed", .str "parted"])) (upd (upd H3 T4 (.tup [.str "child", .str "wed", .str "parted"])) T6 o') := fun o' => same_upd n6
                rw [show (if false = true then !inV (V.str wx) [V.str "died", V.str "advance"] else inV (V.str wx) [V.str "died", V.str "advance"]) = inV (V.str wx) [V.str "died", V.str "advance"] from if_neg (by decide), in2s]
                cases ed : (decide (V.str wx = .str "died") || decide (V.str wx = .str "advance")) with
                | false =>
                  rw [ed] at go
                  exact iteF (go _ (sm3'.trans ((sm4 _).trans (sm6 _))))
                | true =>
                  rw [ed] at go
                  exact iteT ⟨_, rfl, a, _, 2, z, rfl, rfl, sameT (sm6 _) (a4 _), atI_nat (j := 2) rfl, z, rfl, okz.fl, go _ (sm3'.trans ((sm4 _).trans (sm6 _)))⟩
            | _ :: _ :: _, h => simp at h
      · rw [decide_eq_false (show ¬ ((xs.length : Int) = 2 ∨ (xs.length : Int) = 3) by omega)]
        have en := factV_len (xs := xs) (fun z => h23 (.inl z)) fun z => h23 (.inr z)
        rw [en] at go
        exact iteT (go _ (same_upd n2))
    · obtain ⟨t, ht, hk⟩ := hv.kit (K := K)
      exact ⟨_, rfl, v, .ty "tuple", _, _, _, rfl, .ty _, ht, hk, _, rfl, iteT (go H (Same.refl H))⟩
end
end K1
namespace K1
open PySem L2 PyProof.Rows G
/-- the class Family as the top has made it -/
structure FT (K : PySem.W.Frag) (C : Addr) : Prop where
  cl : Cls K C
  n1 : NoAttr K C "_children"
  n2 : NoAttr K C "_parents"
  n3 : NoAttr K C "_wed"
  n4 : NoAttr K C "_parted"
  n5 : NoAttr K C "_days"
  n6 : NoAttr K C "_renounced"
  n7 : NoAttr K C "_advances"
/-- d.get(k, []) of a table of lists: what comes is a list of the texts -/
theorem tl_get {H : Hp} {a : Addr} {n : Nat} {f : Str → List Str} (T : TabL H a n f) (k : Str) {e : Addr} (he : H e = none) :
    ∃ o, DGet (upd H e (.lst [])) a (.str k) o ∧ ∃ l, o.getD (.ref e) = .ref l ∧ upd H e (.lst []) l = some (.lst ((f k).map V.str)) := by
  obtain ⟨kvs, D, g⟩ := T.ex
  have ae : a ≠ e := ne_of_none D.dk he
  have hd : upd H e (.lst []) a = some (.dK kvs) := by
    rw [upd_ne ae]
    exact D.dk
  rcases g k with ⟨g1, g2⟩ | ⟨g1, l, g2, g3⟩
  · refine ⟨none, .inl ⟨kvs, Sum.inr k, .inl hd, rfl, g2.symm⟩, e, rfl, ?_⟩
    rw [upd_same, g1]
    rfl
  · refine ⟨some (.ref l), .inl ⟨kvs, Sum.inr k, .inl hd, rfl, g2.symm⟩, l, rfl, ?_⟩
    rw [upd_ne (ne_of_none g3 he)]
    exact g3
theorem TabL.isD {H : Hp} {a : Addr} {n : Nat} {f : Str → List Str} (T : TabL H a n f) : IsD H a := by
  obtain ⟨kvs, D, g⟩ := T.ex
  exact .inl ⟨kvs, .inl D.dk⟩
theorem TabV.isD {H : Hp} {a : Addr} {n : Nat} {f : Str → Option V} (T : TabV H a n f) : IsD H a := by
  obtain ⟨kvs, D, g⟩ := T.ex
  exact .inl ⟨kvs, .inl D.dk⟩
theorem TabV.get {H : Hp} {a : Addr} {n : Nat} {f : Str → Option V} (T : TabV H a n f) (k : Str) : DGet H a (.str k) (f k) := by
  obtain ⟨kvs, D, g⟩ := T.ex
  exact .inl ⟨kvs, Sum.inr k, .inl D.dk, rfl, (g k).symm⟩
section
variable {P : Program} {w : World} {K : PySem.W.Frag} {mg : Str → Option Value} {base : Heap}
theorem scJoi : FnScope ["names", "name"] ["names", "name"] (defScope sJoi) := ⟨rfl, rfl, rfl, by decide +kernel, rfl, by decide +kernel, by decide +kernel⟩
theorem inV_str (x : Str) (zs : List Str) : inV (.str x) (zs.map V.str) = decide (x ∈ zs) := by
  unfold inV
  rw [List.any_map, Bool.eq_iff_iff, List.any_eq_true, decide_eq_true_eq]
  constructor
  · rintro ⟨y, hy, e⟩
    have e2 : (y == x) = true := e
    rw [← (beq_iff_eq.mp e2)]
    exact hy
  · intro h
    exact ⟨x, h, beq_self_eq_true x⟩
theorem flat_strs (zs : List Str) : (zs.map V.str).all flatV = true := by
  rw [List.all_map]
  exact List.all_eq_true.mpr fun _ _ => rfl
/-- _joined: the list itself, or a new one -/
def spJoi (K : PySem.W.Frag) : Sp := fun vs H Q _ => ∃ (l : Addr) (zs : List Str) (x : Str), vs = [.ref l, .str x] ∧ H l = some (.lst (zs.map V.str)) ∧ zs.length ≤ 900 ∧ ∀ p H', Same H H' → H' p = some (.lst ((jn zs x).map V.str)) → Q (.ref p) H'
theorem ok_joined {f : Addr} {fd : FuncData} (F : Fun K "_joined" "_joined" sJoi f fd) (T : Txt mg) : FnOk P w K mg base CX0 1 f fd ["names", "name"] (spJoi K) := by
  refine F.ok scJoi (fun vs H Q E h => ?_) (fun cdv A outer s H vs Q E hr h => ?_)
  · obtain ⟨l, zs, x, rfl, _⟩ := h
    rfl
  · obtain ⟨l, zs, x, rfl, hl, hz, go⟩ := h
    refine ⟨_, pss_cons (ps_if (pt_cmpR op_in_seq (pv 1) (pv 0) (by rfl)) (pss_one (ps_ret (pv 0))) pss_nil)
      (pss_one (ps_ret (pe_callB cr_sortTx (by rfl) T.sorted (by decide +kernel) (pa_cons (pe_op op_cat (pv 0) (pe_lst (pa_cons (pv 1) pa_nil))) pa_nil)))), ?_⟩
    refine ⟨_, rfl, _, rfl, l, _, rfl, .inl (SqL.of hl), rfl, flat_strs zs, _, rfl, ?_⟩
    rw [show (if false = true then !inV (V.str x) (zs.map V.str) else inV (V.str x) (zs.map V.str)) = inV (V.str x) (zs.map V.str) from if_neg (by decide), inV_str]
    by_cases h : x ∈ zs
    · rw [decide_eq_true h]
      refine iteT ⟨_, rfl, go l H (Same.refl H) ?_⟩
      unfold jn
      rw [if_pos h]
      exact hl
    · rw [decide_eq_false h]
      refine iteF ⟨_, rfl, _, rfl, by show 1 ≤ sizeLine; decide, fun e he => ?_⟩
      have hl2 : ∀ o, upd H e o l = some (.lst (zs.map V.str)) := fun o => by
        rw [upd_ne (ne_of_none hl he)]
        exact hl
      refine ⟨l, e, _, _, rfl, rfl, hl2 _, upd_same, ?_, fun c hc => ?_⟩
      · rw [List.length_map]
        exact Nat.le_of_lt (small1000 (by show zs.length + 1 ≤ 1000; omega))
      · refine ⟨c, zs ++ [x], rfl, SqL.of (by rw [upd_same, List.map_append]; rfl), fun p np => ?_⟩
        refine go p _ (((same_upd he).trans (same_upd hc)).trans (same_upd np)) ?_
        unfold jn
        rw [if_neg h, upd_same]
/-! the readers -/
/-- a method that hands out a new list of texts -/
def spLs (C : Addr) (g : Fm → Str → List Str) : Sp := fun vs H Q _ => ∃ (p : Addr) (k : Str) (n : Nat) (F : Fm), vs = [.ref p, .str k] ∧ FamAt C H p n F ∧ ∀ l H', Same H H' → H l = none → H' l = some (.lst ((g F k).map V.str)) → Q (.ref l) H'
theorem scChi : FnScope ["self", "name"] ["self", "name"] (defScope sChi) := ⟨rfl, rfl, rfl, by decide +kernel, rfl, by decide +kernel, by decide +kernel⟩
theorem scPar : FnScope ["self", "name"] ["self", "name"] (defScope sPar) := ⟨rfl, rfl, rfl, by decide +kernel, rfl, by decide +kernel, by decide +kernel⟩
theorem ok_children {f C : Addr} {fd : FuncData} (F : Fun K "children" "Family.children" sChi f fd) (T : Txt mg) (D : FT K C) : FnOk P w K mg base CX0 1 f fd ["self", "name"] (spLs C fun F k => F.ch k) := by
  refine F.ok scChi (fun vs H Q E h => ?_) (fun cdv A outer s H vs Q E hr h => ?_)
  · obtain ⟨p, k, n, F, rfl, _⟩ := h
    rfl
  · obtain ⟨p, k, n, F, rfl, hF, go⟩ := h
    obtain ⟨dx, a1, a2, a3, a4, a5, a6, a7, hp, t1, t2, t3, t4, t5, t6, t7, nd⟩ := hF.ex
    have hu := hu_of hr
    refine ⟨_, pss_one (ps_ret (pe_callTy call_list_of (by rfl) T.list (by decide +kernel) (pa_cons (pe_dget2 hu (pe_fld (pv 0) rfl) (pv 1) (pe_lst pa_nil) ⟨rfl, rfl, rfl, rfl⟩) pa_nil))), ?_⟩
    refine ⟨_, rfl, p, C, dx, _, _, rfl, hp, D.cl, D.n1, fl_1, a1, rfl, TabL.isD t1, _, rfl, Nat.zero_le _, fun e he => ?_⟩
    obtain ⟨o, g1, l, g2, g3⟩ := tl_get t1 k he
    refine ⟨o, g1, l, _, by rw [g2], .inl (SqL.of g3), fun q nq => ?_⟩
    exact go q _ ((same_upd he).trans (same_upd nq)) ((same_upd he).free nq) upd_same
theorem ok_parents {f C : Addr} {fd : FuncData} (F : Fun K "parents" "Family.parents" sPar f fd) (T : Txt mg) (D : FT K C) : FnOk P w K mg base CX0 1 f fd ["self", "name"] (spLs C fun F k => F.pa k) := by
  refine F.ok scPar (fun vs H Q E h => ?_) (fun cdv A outer s H vs Q E hr h => ?_)
  · obtain ⟨p, k, n, F, rfl, _⟩ := h
    rfl
  · obtain ⟨p, k, n, F, rfl, hF, go⟩ := h
    obtain ⟨dx, a1, a2, a3, a4, a5, a6, a7, hp, t1, t2, t3, t4, t5, t6, t7, nd⟩ := hF.ex
    have hu := hu_of hr
    refine ⟨_, pss_one (ps_ret (pe_callTy call_list_of (by rfl) T.list (by decide +kernel) (pa_cons (pe_dget2 hu (pe_fld (pv 0) rfl) (pv 1) (pe_lst pa_nil) ⟨rfl, rfl, rfl, rfl⟩) pa_nil))), ?_⟩
    refine ⟨_, rfl, p, C, dx, _, _, rfl, hp, D.cl, D.n2, fl_2, a2, rfl, TabL.isD t2, _, rfl, Nat.zero_le _, fun e he => ?_⟩
    obtain ⟨o, g1, l, g2, g3⟩ := tl_get t2 k he
    refine ⟨o, g1, l, _, by rw [g2], .inl (SqL.of g3), fun q nq => ?_⟩
    exact go q _ ((same_upd he).trans (same_upd nq)) ((same_upd he).free nq) upd_same
theorem scDay : FnScope ["self", "name"] ["self", "name"] (defScope sDay) := ⟨rfl, rfl, rfl, by decide +kernel, rfl, by decide +kernel, by decide +kernel⟩
def dayV (F : Fm) (k : Str) : V := ((F.dy k).map V.int).getD .non
def spVal (C : Addr) (g : Fm → Str → V) : Sp := fun vs H Q _ => ∃ (p : Addr) (k : Str) (n : Nat) (F : Fm), vs = [.ref p, .str k] ∧ FamAt C H p n F ∧ Q (g F k) H
theorem ok_day {f C : Addr} {fd : FuncData} (F : Fun K "day" "Family.day" sDay f fd) (D : FT K C) : FnOk P w K mg base CX0 1 f fd ["self", "name"] (spVal C dayV) := by
  refine F.ok scDay (fun vs H Q E h => ?_) (fun cdv A outer s H vs Q E hr h => ?_)
  · obtain ⟨p, k, n, F, rfl, _⟩ := h
    rfl
  · obtain ⟨p, k, n, F, rfl, hF, go⟩ := h
    obtain ⟨dx, a1, a2, a3, a4, a5, a6, a7, hp, t1, t2, t3, t4, t5, t6, t7, nd⟩ := hF.ex
    have hu := hu_of hr
    refine ⟨_, pss_one (ps_ret (pe_dget1 hu (pe_fld (pv 0) rfl) (pv 1) ⟨rfl, rfl, rfl, rfl⟩)), ?_⟩
    exact ⟨_, rfl, p, C, dx, _, _, rfl, hp, D.cl, D.n5, fl_5, a5, rfl, TabV.isD t5, _, rfl, _, TabV.get t5 k, go⟩
theorem scRen : FnScope ["self", "name"] ["self", "name"] (defScope sRen) := ⟨rfl, rfl, rfl, by decide +kernel, rfl, by decide +kernel, by decide +kernel⟩
theorem ok_renounced {f C : Addr} {fd : FuncData} (F : Fun K "has_renounced" "Family.has_renounced" sRen f fd) (D : FT K C) : FnOk P w K mg base CX0 1 f fd ["self", "name"] (spVal C fun F k => .bl (F.rn k)) := by
  refine F.ok scRen (fun vs H Q E h => ?_) (fun cdv A outer s H vs Q E hr h => ?_)
  · obtain ⟨p, k, n, F, rfl, _⟩ := h
    rfl
  · obtain ⟨p, k, n, F, rfl, hF, go⟩ := h
    obtain ⟨dx, a1, a2, a3, a4, a5, a6, a7, hp, t1, t2, t3, t4, t5, t6, t7, nd⟩ := hF.ex
    have hu := hu_of hr
    refine ⟨_, pss_one (ps_ret (pe_cmp (pc_din hu (pv 1) (pe_fld (pv 0) rfl)) rfl)), ?_⟩
    refine ⟨_, rfl, _, rfl, p, C, dx, _, _, rfl, hp, D.cl, D.n6, fl_6, a6, _, rfl, TabV.get t6 k, ?_⟩
    replace go : Q (.bl (F.rn k)) H := go
    cases e : F.rn k with
    | true =>
      rw [e] at go
      rw [if_pos rfl]
      exact go
    | false =>
      rw [e] at go
      rw [if_neg (by decide)]
      exact go
theorem scAdv : FnScope ["self", "name"] ["self", "name"] (defScope sAdv) := ⟨rfl, rfl, rfl, by decide +kernel, rfl, by decide +kernel, by decide +kernel⟩
theorem ok_advance {f C : Addr} {fd : FuncData} (F : Fun K "advance" "Family.advance" sAdv f fd) (D : FT K C) : FnOk P w K mg base CX0 1 f fd ["self", "name"] (spVal C fun F k => .int ((F.ad k).getD 0)) := by
  refine F.ok scAdv (fun vs H Q E h => ?_) (fun cdv A outer s H vs Q E hr h => ?_)
  · obtain ⟨p, k, n, F, rfl, _⟩ := h
    rfl
  · obtain ⟨p, k, n, F, rfl, hF, go⟩ := h
    obtain ⟨dx, a1, a2, a3, a4, a5, a6, a7, hp, t1, t2, t3, t4, t5, t6, t7, nd⟩ := hF.ex
    have hu := hu_of hr
    refine ⟨_, pss_one (ps_ret (pe_dget2 hu (pe_fld (pv 0) rfl) (pv 1) pe_int ⟨rfl, rfl, rfl, rfl⟩)), ?_⟩
    refine ⟨_, rfl, p, C, dx, _, _, rfl, hp, D.cl, D.n7, fl_7, a7, rfl, TabV.isD t7, _, rfl, _, TabV.get t7 k, ?_⟩
    replace go : Q (.int ((F.ad k).getD 0)) H := go
    cases e : F.ad k with
    | none =>
      rw [e] at go
      exact go
    | some z =>
      rw [e] at go
      exact go
end
end K1
namespace K1
open PySem L2 PyProof.Rows G
/-- the seven dicts of a family -/
structure FA where
  a1 : Addr
  a2 : Addr
  a3 : Addr
  a4 : Addr
  a5 : Addr
  a6 : Addr
  a7 : Addr
abbrev FA.all (A : FA) : List Addr := [A.a1, A.a2, A.a3, A.a4, A.a5, A.a6, A.a7]
abbrev FA.fl (A : FA) : List (Str × V) := flds A.a1 A.a2 A.a3 A.a4 A.a5 A.a6 A.a7
structure FamX (C : Addr) (H : Hp) (p dx : Addr) (A : FA) (n : Nat) (F : Fm) : Prop where
  hp : H p = some (.ins C dx A.fl)
  t1 : TabL H A.a1 n F.ch
  t2 : TabL H A.a2 n F.pa
  t3 : TabL H A.a3 n F.we
  t4 : TabL H A.a4 n F.pt
  t5 : TabV H A.a5 n fun k => (F.dy k).map V.int
  t6 : TabV H A.a6 n fun k => if F.rn k = true then some (.bl true) else none
  t7 : TabV H A.a7 n fun k => (F.ad k).map V.int
  nd : A.all.Nodup
theorem FamX.at' {C : Addr} {H : Hp} {p dx : Addr} {A : FA} {n : Nat} {F : Fm} (X : FamX C H p dx A n F) : FamAt C H p n F := ⟨dx, A.a1, A.a2, A.a3, A.a4, A.a5, A.a6, A.a7, X.hp, X.t1, X.t2, X.t3, X.t4, X.t5, X.t6, X.t7, X.nd⟩
theorem FamX.same {C : Addr} {H H' : Hp} {p dx : Addr} {A : FA} {n : Nat} {F : Fm} (X : FamX C H p dx A n F) (s : Same H H') : FamX C H' p dx A n F :=
  ⟨s _ _ X.hp, X.t1.same s, X.t2.same s, X.t3.same s, X.t4.same s, X.t5.same s, X.t6.same s, X.t7.same s, X.nd⟩
theorem FamX.mono {C : Addr} {H : Hp} {p dx : Addr} {A : FA} {n m : Nat} {F : Fm} (X : FamX C H p dx A n F) (h : n ≤ m) : FamX C H p dx A m F :=
  ⟨X.hp, X.t1.mono h, X.t2.mono h, X.t3.mono h, X.t4.mono h, X.t5.mono h, X.t6.mono h, X.t7.mono h, X.nd⟩
/-- all but the family's dicts stays -/
def Bar (A : FA) (H H' : Hp) : Prop := ∀ b o, H b = some o → b ∉ A.all → H' b = some o
theorem Bar.of_same {A : FA} {H H' : Hp} (s : Same H H') : Bar A H H' := fun b o h _ => s b o h
theorem Bar.of_but {A : FA} {a : Addr} {H H' : Hp} (s : But a H H') (m : a ∈ A.all) : Bar A H H' := fun b o h g => s b o h fun e => g (e ▸ m)
theorem Bar.trans {A : FA} {H H1 H2 : Hp} (s : Bar A H H1) (t : Bar A H1 H2) : Bar A H H2 := fun b o h g => t b o (s b o h g) g
/-- a change of one table: the others stand -/
theorem FamX.but {C : Addr} {H H' : Hp} {p dx a : Addr} {A : FA} {n : Nat} {F : Fm} {ks : List (Key × V)} (X : FamX C H p dx A n F) (s : But a H H') (ha : H a = some (.dK ks)) :
    H' p = some (.ins C dx A.fl) ∧ (A.a1 ≠ a → TabL H' A.a1 n F.ch) ∧ (A.a2 ≠ a → TabL H' A.a2 n F.pa) ∧ (A.a3 ≠ a → TabL H' A.a3 n F.we) ∧ (A.a4 ≠ a → TabL H' A.a4 n F.pt) ∧
    (A.a5 ≠ a → TabV H' A.a5 n fun k => (F.dy k).map V.int) ∧ (A.a6 ≠ a → TabV H' A.a6 n fun k => if F.rn k = true then some (.bl true) else none) ∧ (A.a7 ≠ a → TabV H' A.a7 n fun k => (F.ad k).map V.int) :=
  ⟨s _ _ X.hp (ne_of X.hp ha (by intro e; cases e)), fun h => X.t1.keep s ha h, fun h => X.t2.keep s ha h, fun h => X.t3.keep s ha h, fun h => X.t4.keep s ha h, fun h => X.t5.keep s h, fun h => X.t6.keep s h, fun h => X.t7.keep s h⟩
/-- the table at a1 changed -/
theorem FamX.set1 {C : Addr} {H H' : Hp} {p dx : Addr} {A : FA} {n : Nat} {F : Fm} {f : Str → List Str} (X : FamX C H p dx A n F) (s : But A.a1 H H') (t : TabL H' A.a1 (n + 1) f) : FamX C H' p dx A (n + 1) { F with ch := f } := by
  obtain ⟨kvs, D, _⟩ := X.t1.ex
  obtain ⟨h0, h1, h2, h3, h4, h5, h6, h7⟩ := X.but s D.dk
  have nd := X.nd
  simp only [FA.all, List.nodup_cons, List.mem_cons, not_or, List.not_mem_nil, not_false_eq_true, and_true] at nd
  obtain ⟨⟨e12, e13, e14, e15, e16, e17⟩, ⟨e23, e24, e25, e26, e27⟩, ⟨e34, e35, e36, e37⟩, ⟨e45, e46, e47⟩, ⟨e56, e57⟩, e67, _⟩ := nd
  exact ⟨h0, t, (h2 (Ne.symm e12)).mono (Nat.le_succ _), (h3 (Ne.symm e13)).mono (Nat.le_succ _), (h4 (Ne.symm e14)).mono (Nat.le_succ _), (h5 (Ne.symm e15)).mono (Nat.le_succ _), (h6 (Ne.symm e16)).mono (Nat.le_succ _), (h7 (Ne.symm e17)).mono (Nat.le_succ _), X.nd⟩
theorem FamX.set2 {C : Addr} {H H' : Hp} {p dx : Addr} {A : FA} {n : Nat} {F : Fm} {f : Str → List Str} (X : FamX C H p dx A n F) (s : But A.a2 H H') (t : TabL H' A.a2 (n + 1) f) : FamX C H' p dx A (n + 1) { F with pa := f } := by
  obtain ⟨kvs, D, _⟩ := X.t2.ex
  obtain ⟨h0, h1, h2, h3, h4, h5, h6, h7⟩ := X.but s D.dk
  have nd := X.nd
  simp only [FA.all, List.nodup_cons, List.mem_cons, not_or, List.not_mem_nil, not_false_eq_true, and_true] at nd
  obtain ⟨⟨e12, e13, e14, e15, e16, e17⟩, ⟨e23, e24, e25, e26, e27⟩, ⟨e34, e35, e36, e37⟩, ⟨e45, e46, e47⟩, ⟨e56, e57⟩, e67, _⟩ := nd
  exact ⟨h0, (h1 e12).mono (Nat.le_succ _), t, (h3 (Ne.symm e23)).mono (Nat.le_succ _), (h4 (Ne.symm e24)).mono (Nat.le_succ _), (h5 (Ne.symm e25)).mono (Nat.le_succ _), (h6 (Ne.symm e26)).mono (Nat.le_succ _), (h7 (Ne.symm e27)).mono (Nat.le_succ _), X.nd⟩
theorem FamX.set3 {C : Addr} {H H' : Hp} {p dx : Addr} {A : FA} {n : Nat} {F : Fm} {f : Str → List Str} (X : FamX C H p dx A n F) (s : But A.a3 H H') (t : TabL H' A.a3 (n + 1) f) : FamX C H' p dx A (n + 1) { F with we := f } := by
  obtain ⟨kvs, D, _⟩ := X.t3.ex
  obtain ⟨h0, h1, h2, h3, h4, h5, h6, h7⟩ := X.but s D.dk
  have nd := X.nd
  simp only [FA.all, List.nodup_cons, List.mem_cons, not_or, List.not_mem_nil, not_false_eq_true, and_true] at nd
  obtain ⟨⟨e12, e13, e14, e15, e16, e17⟩, ⟨e23, e24, e25, e26, e27⟩, ⟨e34, e35, e36, e37⟩, ⟨e45, e46, e47⟩, ⟨e56, e57⟩, e67, _⟩ := nd
  exact ⟨h0, (h1 e13).mono (Nat.le_succ _), (h2 e23).mono (Nat.le_succ _), t, (h4 (Ne.symm e34)).mono (Nat.le_succ _), (h5 (Ne.symm e35)).mono (Nat.le_succ _), (h6 (Ne.symm e36)).mono (Nat.le_succ _), (h7 (Ne.symm e37)).mono (Nat.le_succ _), X.nd⟩
theorem FamX.set4 {C : Addr} {H H' : Hp} {p dx : Addr} {A : FA} {n : Nat} {F : Fm} {f : Str → List Str} (X : FamX C H p dx A n F) (s : But A.a4 H H') (t : TabL H' A.a4 (n + 1) f) : FamX C H' p dx A (n + 1) { F with pt := f } := by
  obtain ⟨kvs, D, _⟩ := X.t4.ex
  obtain ⟨h0, h1, h2, h3, h4, h5, h6, h7⟩ := X.but s D.dk
  have nd := X.nd
  simp only [FA.all, List.nodup_cons, List.mem_cons, not_or, List.not_mem_nil, not_false_eq_true, and_true] at nd
  obtain ⟨⟨e12, e13, e14, e15, e16, e17⟩, ⟨e23, e24, e25, e26, e27⟩, ⟨e34, e35, e36, e37⟩, ⟨e45, e46, e47⟩, ⟨e56, e57⟩, e67, _⟩ := nd
  exact ⟨h0, (h1 e14).mono (Nat.le_succ _), (h2 e24).mono (Nat.le_succ _), (h3 e34).mono (Nat.le_succ _), t, (h5 (Ne.symm e45)).mono (Nat.le_succ _), (h6 (Ne.symm e46)).mono (Nat.le_succ _), (h7 (Ne.symm e47)).mono (Nat.le_succ _), X.nd⟩
theorem FamX.set5 {C : Addr} {H H' : Hp} {p dx : Addr} {A : FA} {n : Nat} {F : Fm} {f : Str → Option Int} (X : FamX C H p dx A n F) (s : But A.a5 H H') (t : TabV H' A.a5 (n + 1) fun k => (f k).map V.int) : FamX C H' p dx A (n + 1) { F with dy := f } := by
  obtain ⟨kvs, D, _⟩ := X.t5.ex
  obtain ⟨h0, h1, h2, h3, h4, h5, h6, h7⟩ := X.but s D.dk
  have nd := X.nd
  simp only [FA.all, List.nodup_cons, List.mem_cons, not_or, List.not_mem_nil, not_false_eq_true, and_true] at nd
  obtain ⟨⟨e12, e13, e14, e15, e16, e17⟩, ⟨e23, e24, e25, e26, e27⟩, ⟨e34, e35, e36, e37⟩, ⟨e45, e46, e47⟩, ⟨e56, e57⟩, e67, _⟩ := nd
  exact ⟨h0, (h1 e15).mono (Nat.le_succ _), (h2 e25).mono (Nat.le_succ _), (h3 e35).mono (Nat.le_succ _), (h4 e45).mono (Nat.le_succ _), t, (h6 (Ne.symm e56)).mono (Nat.le_succ _), (h7 (Ne.symm e57)).mono (Nat.le_succ _), X.nd⟩
theorem FamX.set6 {C : Addr} {H H' : Hp} {p dx : Addr} {A : FA} {n : Nat} {F : Fm} {f : Str → Bool} (X : FamX C H p dx A n F) (s : But A.a6 H H') (t : TabV H' A.a6 (n + 1) fun k => if f k = true then some (.bl true) else none) : FamX C H' p dx A (n + 1) { F with rn := f } := by
  obtain ⟨kvs, D, _⟩ := X.t6.ex
  obtain ⟨h0, h1, h2, h3, h4, h5, h6, h7⟩ := X.but s D.dk
  have nd := X.nd
  simp only [FA.all, List.nodup_cons, List.mem_cons, not_or, List.not_mem_nil, not_false_eq_true, and_true] at nd
  obtain ⟨⟨e12, e13, e14, e15, e16, e17⟩, ⟨e23, e24, e25, e26, e27⟩, ⟨e34, e35, e36, e37⟩, ⟨e45, e46, e47⟩, ⟨e56, e57⟩, e67, _⟩ := nd
  exact ⟨h0, (h1 e16).mono (Nat.le_succ _), (h2 e26).mono (Nat.le_succ _), (h3 e36).mono (Nat.le_succ _), (h4 e46).mono (Nat.le_succ _), (h5 e56).mono (Nat.le_succ _), t, (h7 (Ne.symm e67)).mono (Nat.le_succ _), X.nd⟩
theorem FamX.set7 {C : Addr} {H H' : Hp} {p dx : Addr} {A : FA} {n : Nat} {F : Fm} {f : Str → Option Int} (X : FamX C H p dx A n F) (s : But A.a7 H H') (t : TabV H' A.a7 (n + 1) fun k => (f k).map V.int) : FamX C H' p dx A (n + 1) { F with ad := f } := by
  obtain ⟨kvs, D, _⟩ := X.t7.ex
  obtain ⟨h0, h1, h2, h3, h4, h5, h6, h7⟩ := X.but s D.dk
  have nd := X.nd
  simp only [FA.all, List.nodup_cons, List.mem_cons, not_or, List.not_mem_nil, not_false_eq_true, and_true] at nd
  obtain ⟨⟨e12, e13, e14, e15, e16, e17⟩, ⟨e23, e24, e25, e26, e27⟩, ⟨e34, e35, e36, e37⟩, ⟨e45, e46, e47⟩, ⟨e56, e57⟩, e67, _⟩ := nd
  exact ⟨h0, (h1 e17).mono (Nat.le_succ _), (h2 e27).mono (Nat.le_succ _), (h3 e37).mono (Nat.le_succ _), (h4 e47).mono (Nat.le_succ _), (h5 e57).mono (Nat.le_succ _), (h6 e67).mono (Nat.le_succ _), t, X.nd⟩
end K1
namespace K1
open PySem L2 PyProof.Rows G
section
variable {P : Program} {w : World} {K : PySem.W.Frag} {mg : Str → Option Value} {base : Heap}
/-- a method of the family that stands -/
structure HasM (P : Program) (w : World) (K : PySem.W.Frag) (mg : Str → Option Value) (base : Heap) (CX : CXT) (C : Addr) (x : Str) (ps : List Str) (k : Nat) (sp : Sp) : Prop where
  ok : ∃ (f : Addr) (fd : FuncData), Meth K C x f ∧ Binds K fd ps [] ∧ FnOk P w K mg base CX k f fd ps sp
theorem scCon : FnScope ["self", "fact", "word", "parents"] ["self", "fact"] (defScope sCon) := ⟨rfl, rfl, rfl, by decide +kernel, rfl, by decide +kernel, by decide +kernel⟩
def spCon (C : Addr) : Sp := fun vs H Q _ => ∃ (p a : Addr) (n : Nat) (F : Fm) (fc : Fct), vs = [.ref p, .ref a] ∧ FamAt C H p n F ∧ H a = some (.tup fc.vs) ∧ ∀ H', Same H H' → Q (.bl (F.bad fc)) H'
theorem no_m1 (A : FA) : A.fl.lookup ("parents" : Str) = none := by kernel_rfl
theorem ok_contra {f C : Addr} {fd : FuncData} (F : Fun K "_contradicts" "Family._contradicts" sCon f fd) (T : Txt mg) (D : FT K C) (MP : HasM P w K mg base CX0 C "parents" ["self", "name"] 1 (spLs C fun F k => F.pa k)) : FnOk P w K mg base CX0 2 f fd ["self", "fact"] (spCon C) := by
  obtain ⟨fP, fdP, meP, bP, GP⟩ := MP.ok
  obtain ⟨t2, m2⟩ := T.two
  refine F.ok scCon (fun vs H Q E h => ?_) (fun cdv A outer s H vs Q E hr h => ?_)
  · obtain ⟨p, a, n, F, fc, rfl, _⟩ := h
    rfl
  · obtain ⟨p, a, n, F, fc, rfl, hF, ha, go⟩ := h
    obtain ⟨dx, a1, a2, a3, a4, a5, a6, a7, hp, q1, q2, q3, q4, q5, q6, q7, nd⟩ := id hF.ex
    have hu := hu_of hr
    have hT : SqT K H a fc.vs := SqT.of ha
    refine ⟨_, pss_cons (ps_set (i := 2) scCon.nd rfl (.inl rfl) (pe_ix ix_tup (pv 1) pe_int (fun _ _ => rfl)))
      (pss_cons (ps_if (pt_cmpR op_eq (pv 2) pe_str (nomark _)) (pss_cons (ps_set (i := 3) scCon.nd rfl (.inl rfl) (pe_meth (pv 0) D.cl meP GP hr bP .nil pass0 (pa_cons (pe_ix ix_tup (pv 1) pe_int (fun _ _ => rfl)) pa_nil)))
          (pss_one (ps_ret (pe_and (pe_cmpR op_eq (pe_callB call_len_seq (by rfl) T.len PySem.boot_len (pa_cons (pv 3) pa_nil)) (pe_glob (v := .int 2) (by rfl) m2 ⟨_, rfl⟩) (nomark _)) (pe_one (pe_cmpR op_notIn_seq (pe_ix ix_tup (pv 1) pe_int (fun _ _ => rfl)) (pv 3) (by rfl))))))) pss_nil)
      (pss_cons (ps_if (pt_cmpR op_eq (pv 2) pe_str (nomark _)) (pss_one (ps_ret (pe_cmpR op_ne (pe_dget2 hu (pe_fld (pv 0) rfl) (pe_ix ix_tup (pv 1) pe_int (fun _ _ => rfl)) (pe_ix ix_tup (pv 1) pe_int (fun _ _ => rfl)) ⟨rfl, rfl, rfl, rfl⟩) (pe_ix ix_tup (pv 1) pe_int (fun _ _ => rfl)) (nomark _)))) pss_nil)
      (pss_one (ps_ret pe_bl)))), ?_⟩
    have plain (wd : Str) (e0 : fc.vs[0]? = some (.str wd)) (h1 : ¬ wd = "child") (h2 : ¬ wd = "died") (eb : F.bad fc = false) : True := trivial
    cases fc with
    | child c q =>
      refine ⟨_, rfl, a, _, 0, .str "child", rfl, rfl, hT, atI_nat (j := 0) rfl, ?_⟩
      refine ⟨_, rfl, rfl, _, rfl, ?_⟩
      rw [decide_eq_true (rfl : V.str ("child" : Str) = .str ("child" : Str))]
      refine iteT ⟨_, rfl, p, dx, _, rfl, hp, no_m1 ⟨a1, a2, a3, a4, a5, a6, a7⟩, _, rfl, a, _, 1, .str c, rfl, rfl, hT, atI_nat (j := 1) rfl, p, c, n, F, rfl, hF, fun l H' sm nl el => ?_⟩
      have hT2 : SqT K H' a (Fct.child c q).vs := sameT sm hT
      refine ⟨_, rfl, l, _, rfl, .inl (SqL.of el), rfl, _, rfl, ?_⟩
      rw [List.length_map]
      have ebad : F.bad (.child c q) = (decide ((F.pa c).length = 2) && !decide (q ∈ F.pa c)) := rfl
      rw [ebad] at go
      by_cases h2 : (F.pa c).length = 2
      · rw [h2] at go ⊢
        rw [decide_eq_true rfl] at go
        rw [decide_eq_true (show V.int ((2 : Nat) : Int) = V.int 2 from rfl)]
        refine iteT ⟨_, rfl, a, _, 2, .str q, rfl, rfl, hT2, atI_nat (j := 2) rfl, _, rfl, l, _, rfl, .inl (SqL.of el), rfl, flat_strs _, ?_⟩
        rw [show (if true = true then !inV (V.str q) ((F.pa c).map V.str) else inV (V.str q) ((F.pa c).map V.str)) = !inV (V.str q) ((F.pa c).map V.str) from if_pos rfl, inV_str]
        exact go H' sm
      · rw [decide_eq_false h2] at go
        rw [decide_eq_false (show ¬ V.int ((F.pa c).length : Int) = .int 2 from fun z => h2 (by have := V.int.inj z; omega))]
        exact iteF (go H' sm)
    | died x d =>
      refine ⟨_, rfl, a, _, 0, .str "died", rfl, rfl, hT, atI_nat (j := 0) rfl, ?_⟩
      refine ⟨_, rfl, rfl, _, rfl, ?_⟩
      rw [decide_eq_false (show ¬ V.str ("died" : Str) = .str ("child" : Str) by decide +kernel)]
      refine iteF ⟨_, rfl, rfl, _, rfl, ?_⟩
      rw [decide_eq_true (rfl : V.str ("died" : Str) = .str ("died" : Str))]
      refine iteT ⟨_, rfl, p, C, dx, _, _, rfl, hp, D.cl, D.n5, fl_5, a5, rfl, TabV.isD q5, _, rfl, a, _, 1, .str x, rfl, rfl, hT, atI_nat (j := 1) rfl, _, rfl, a, _, 2, .int d, rfl, rfl, hT, atI_nat (j := 2) rfl, _, TabV.get q5 x, _, rfl, a, _, 2, .int d, rfl, rfl, hT, atI_nat (j := 2) rfl, ?_⟩
      have ebad : F.bad (.died x d) = !decide ((F.dy x).getD d = d) := rfl
      rw [ebad] at go
      cases e : F.dy x with
      | none =>
        rw [e] at go
        refine ⟨rfl, ?_⟩
        have := go H (Same.refl H)
        rw [decide_eq_true (show (none : Option Int).getD d = d from rfl)] at this
        show Q (.bl (!decide (V.int d = V.int d))) H
        rw [decide_eq_true rfl]
        exact this
      | some z =>
        rw [e] at go
        refine ⟨rfl, ?_⟩
        have := go H (Same.refl H)
        show Q (.bl (!decide (V.int z = V.int d))) H
        rw [show decide (V.int z = V.int d) = decide ((some z).getD d = d) from decide_eq_decide.mpr ⟨fun h => V.int.inj h, fun h => congrArg V.int h⟩]
        exact this
    | wed x y =>
      refine ⟨_, rfl, a, _, 0, .str "wed", rfl, rfl, hT, atI_nat (j := 0) rfl, ?_⟩
      refine ⟨_, rfl, rfl, _, rfl, ?_⟩
      rw [decide_eq_false (show ¬ V.str ("wed" : Str) = .str ("child" : Str) by decide +kernel)]
      refine iteF ⟨_, rfl, rfl, _, rfl, ?_⟩
      rw [decide_eq_false (show ¬ V.str ("wed" : Str) = .str ("died" : Str) by decide +kernel)]
      exact iteF (go H (Same.refl H))
    | parted x y =>
      refine ⟨_, rfl, a, _, 0, .str "parted", rfl, rfl, hT, atI_nat (j := 0) rfl, ?_⟩
      refine ⟨_, rfl, rfl, _, rfl, ?_⟩
      rw [decide_eq_false (show ¬ V.str ("parted" : Str) = .str ("child" : Str) by decide +kernel)]
      refine iteF ⟨_, rfl, rfl, _, rfl, ?_⟩
      rw [decide_eq_false (show ¬ V.str ("parted" : Str) = .str ("died" : Str) by decide +kernel)]
      exact iteF (go H (Same.refl H))
    | renounced x =>
      refine ⟨_, rfl, a, _, 0, .str "renounced", rfl, rfl, hT, atI_nat (j := 0) rfl, ?_⟩
      refine ⟨_, rfl, rfl, _, rfl, ?_⟩
      rw [decide_eq_false (show ¬ V.str ("renounced" : Str) = .str ("child" : Str) by decide +kernel)]
      refine iteF ⟨_, rfl, rfl, _, rfl, ?_⟩
      rw [decide_eq_false (show ¬ V.str ("renounced" : Str) = .str ("died" : Str) by decide +kernel)]
      exact iteF (go H (Same.refl H))
    | advance x y =>
      refine ⟨_, rfl, a, _, 0, .str "advance", rfl, rfl, hT, atI_nat (j := 0) rfl, ?_⟩
      refine ⟨_, rfl, rfl, _, rfl, ?_⟩
      rw [decide_eq_false (show ¬ V.str ("advance" : Str) = .str ("child" : Str) by decide +kernel)]
      refine iteF ⟨_, rfl, rfl, _, rfl, ?_⟩
      rw [decide_eq_false (show ¬ V.str ("advance" : Str) = .str ("died" : Str) by decide +kernel)]
      exact iteF (go H (Same.refl H))
end
end K1
namespace K1
open PySem L2 PyProof.Rows G
theorem up_int (f : Str → Option Int) (a : Str) (d : Int) : (fun k => ((up f a (some d)) k).map V.int) = up (fun k => (f k).map V.int) a (some (.int d)) := by
  funext k
  unfold up
  split <;> rfl
theorem up_bl (f : Str → Bool) (a : Str) : (fun k => if (up f a true) k = true then some (V.bl true) else none) = up (fun k => if f k = true then some (.bl true) else none) a (some (.bl true)) := by
  funext k
  unfold up
  by_cases e : k = a
  · rw [if_pos e, if_pos e]
    rfl
  · rw [if_neg e, if_neg e]
theorem but_upd {H : Hp} {a : Addr} {o : HO} : But a H (upd H a o) := fun b u h g => by
  rw [upd_ne g]
  exact h
theorem no_mc (A : FA) : A.fl.lookup ("children" : Str) = none := by kernel_rfl
theorem no_ma (A : FA) : A.fl.lookup ("advance" : Str) = none := by kernel_rfl
theorem dk_all {C : Addr} {H : Hp} {p dx : Addr} {A : FA} {n : Nat} {F : Fm} (X : FamX C H p dx A n F) {x : Addr} (hx : x ∈ A.all) : ∃ kv, H x = some (.dK kv) := by
  simp only [FA.all, List.mem_cons, List.not_mem_nil, or_false] at hx
  rcases hx with rfl | rfl | rfl | rfl | rfl | rfl | rfl
  · obtain ⟨kv, D, _⟩ := X.t1.ex; exact ⟨kv, D.dk⟩
  · obtain ⟨kv, D, _⟩ := X.t2.ex; exact ⟨kv, D.dk⟩
  · obtain ⟨kv, D, _⟩ := X.t3.ex; exact ⟨kv, D.dk⟩
  · obtain ⟨kv, D, _⟩ := X.t4.ex; exact ⟨kv, D.dk⟩
  · obtain ⟨kv, D, _⟩ := X.t5.ex; exact ⟨kv, D.dk⟩
  · obtain ⟨kv, D, _⟩ := X.t6.ex; exact ⟨kv, D.dk⟩
  · obtain ⟨kv, D, _⟩ := X.t7.ex; exact ⟨kv, D.dk⟩
/-- lists of at most m texts -/
structure LenOk (F : Fm) (m : Nat) : Prop where
  ch : ∀ k, (F.ch k).length ≤ m
  pa : ∀ k, (F.pa k).length ≤ m
  we : ∀ k, (F.we k).length ≤ m
  pt : ∀ k, (F.pt k).length ≤ m
section
variable {P : Program} {w : World} {K : PySem.W.Frag} {mg : Str → Option Value} {base : Heap}
theorem scLea : FnScope ["self", "fact", "word", "name"] ["self", "fact"] (defScope sLea) := ⟨rfl, rfl, rfl, by decide +kernel, rfl, by decide +kernel, by decide +kernel⟩
def spLea (C : Addr) : Sp := fun vs H Q _ => ∃ (p a dx : Addr) (A : FA) (n : Nat) (F : Fm) (fc : Fct), vs = [.ref p, .ref a] ∧ FamX C H p dx A n F ∧ H a = some (.tup fc.vs) ∧ n ≤ 800 ∧ LenOk F 800 ∧ ∀ H', FamX C H' p dx A (n + 2) (F.learn fc) → Bar A H H' → Q .non H'
theorem ok_learn {f C : Addr} {fd : FuncData} (F : Fun K "_learn" "Family._learn" sLea f fd) (D : FT K C) (TJ : Has P w K mg base CX0 "_joined" ["names", "name"] 1 (spJoi K))
    (MP : HasM P w K mg base CX0 C "parents" ["self", "name"] 1 (spLs C fun F k => F.pa k)) (MC : HasM P w K mg base CX0 C "children" ["self", "name"] 1 (spLs C fun F k => F.ch k)) (MA : HasM P w K mg base CX0 C "advance" ["self", "name"] 1 (spVal C fun F k => .int ((F.ad k).getD 0))) :
    FnOk P w K mg base CX0 2 f fd ["self", "fact"] (spLea C) := by
  obtain ⟨fJ, fdJ, mJ, kJ, bJ, GJ⟩ := TJ.ok
  obtain ⟨fP, fdP, meP, bP, GP⟩ := MP.ok
  obtain ⟨fC, fdC, meC, bC, GC⟩ := MC.ok
  obtain ⟨fA, fdA, meA, bA, GA⟩ := MA.ok
  refine F.ok scLea (fun vs H Q E h => ?_) (fun cdv A outer s H vs Q E hr h => ?_)
  · obtain ⟨p, a, dx, A, n, F, fc, rfl, _⟩ := h
    rfl
  · obtain ⟨p, a, dx, B, n, F, fc, rfl, X, ha, hn, hL, go⟩ := h
    have hu := hu_of hr
    have hr1 := hr
    have hT : SqT K H a fc.vs := SqT.of ha
    refine ⟨_, pss_cons (ps_par (i := 2) (j := 3) (by rfl) scLea.nd rfl rfl (by decide) rfl rfl (pa_cons (pe_ix ix_tup (pv 1) pe_int (fun _ _ => rfl)) (pa_cons (pe_ix ix_tup (pv 1) pe_int (fun _ _ => rfl)) pa_nil)) (by rfl)) (pss_one (ps_if (pt_cmpR op_eq (pv 2) pe_str (nomark _)) (pss_cons (ps_dput hu (pe_fld (pv 0) rfl) (pv 3) (pe_call GJ hr1 (by rfl) mJ kJ bJ .nil pass0 (pa_cons (pe_meth (pv 0) D.cl meP GP (hr.mono (by decide)) bP .nil pass0 (pa_cons (pv 3) pa_nil)) (pa_cons (pe_ix ix_tup (pv 1) pe_int (fun _ _ => rfl)) pa_nil))) rfl) (pss_one (ps_dput hu (pe_fld (pv 0) rfl) (pe_ix ix_tup (pv 1) pe_int (fun _ _ => rfl)) (pe_call GJ hr1 (by rfl) mJ kJ bJ .nil pass0 (pa_cons (pe_meth (pv 0) D.cl meC GC (hr.mono (by decide)) bC .nil pass0 (pa_cons (pe_ix ix_tup (pv 1) pe_int (fun _ _ => rfl)) pa_nil)) (pa_cons (pv 3) pa_nil))) rfl))) (pss_one (ps_if (pt_cmpR op_eq (pv 2) pe_str (nomark _)) (pss_cons (ps_dput hu (pe_fld (pv 0) rfl) (pv 3) (pe_call GJ hr1 (by rfl) mJ kJ bJ .nil pass0 (pa_cons (pe_dget2 hu (pe_fld (pv 0) rfl) (pv 3) (pe_lst pa_nil) ⟨rfl, rfl, rfl, rfl⟩) (pa_cons (pe_ix ix_tup (pv 1) pe_int (fun _ _ => rfl)) pa_nil))) rfl) (pss_one (ps_dput hu (pe_fld (pv 0) rfl) (pe_ix ix_tup (pv 1) pe_int (fun _ _ => rfl)) (pe_call GJ hr1 (by rfl) mJ kJ bJ .nil pass0 (pa_cons (pe_dget2 hu (pe_fld (pv 0) rfl) (pe_ix ix_tup (pv 1) pe_int (fun _ _ => rfl)) (pe_lst pa_nil) ⟨rfl, rfl, rfl, rfl⟩) (pa_cons (pv 3) pa_nil))) rfl))) (pss_one (ps_if (pt_cmpR op_eq (pv 2) pe_str (nomark _)) (pss_cons (ps_dput hu (pe_fld (pv 0) rfl) (pv 3) (pe_call GJ hr1 (by rfl) mJ kJ bJ .nil pass0 (pa_cons (pe_dget2 hu (pe_fld (pv 0) rfl) (pv 3) (pe_lst pa_nil) ⟨rfl, rfl, rfl, rfl⟩) (pa_cons (pe_ix ix_tup (pv 1) pe_int (fun _ _ => rfl)) pa_nil))) rfl) (pss_one (ps_dput hu (pe_fld (pv 0) rfl) (pe_ix ix_tup (pv 1) pe_int (fun _ _ => rfl)) (pe_call GJ hr1 (by rfl) mJ kJ bJ .nil pass0 (pa_cons (pe_dget2 hu (pe_fld (pv 0) rfl) (pe_ix ix_tup (pv 1) pe_int (fun _ _ => rfl)) (pe_lst pa_nil) ⟨rfl, rfl, rfl, rfl⟩) (pa_cons (pv 3) pa_nil))) rfl))) (pss_one (ps_if (pt_cmpR op_eq (pv 2) pe_str (nomark _)) (pss_one (ps_dput hu (pe_fld (pv 0) rfl) (pv 3) (pe_ix ix_tup (pv 1) pe_int (fun _ _ => rfl)) rfl)) (pss_one (ps_if (pt_cmpR op_eq (pv 2) pe_str (nomark _)) (pss_one (ps_dput hu (pe_fld (pv 0) rfl) (pv 3) pe_bl rfl)) (pss_one (ps_dput hu (pe_fld (pv 0) rfl) (pv 3) (pe_op op_add (pe_meth (pv 0) D.cl meA GA (hr.mono (by decide)) bA .nil pass0 (pa_cons (pv 3) pa_nil)) (pe_ix ix_tup (pv 1) pe_int (fun _ _ => rfl))) rfl)))))))))))), ?_⟩
    cases fc with
    | child c q =>
      refine ⟨_, rfl, a, _, 0, .str "child", rfl, rfl, hT, atI_nat (j := 0) rfl, _, rfl, a, _, 1, .str c, rfl, rfl, hT, atI_nat (j := 1) rfl, _, _, rfl, ?_⟩
      refine ⟨_, rfl, rfl, _, rfl, ?_⟩
      rw [decide_eq_true (show V.str ("child" : Str) = .str ("child" : Str) from rfl)]
      refine iteT ?_
      refine ⟨_, rfl, p, dx, _, rfl, X.hp, no_m1 B, _, rfl, p, c, n, F, rfl, X.at', fun l H1 sm1 nl el => ⟨_, rfl, a, _, 2, .str q, rfl, rfl, (sameT sm1 hT), atI_nat (j := 2) rfl, l, F.pa c, q, rfl, el, by have := hL.pa c; omega, fun j H2 sm2 ej => ?_⟩⟩
      have X2 := (X.same sm1).same sm2
      obtain ⟨kvs, Dk, g⟩ := X2.t2.ex
      refine ⟨_, rfl, p, C, dx, _, _, rfl, X2.hp, D.cl, D.n2, fl_2, _, rfl, B.a2, _, rfl, DPut.k (k := Sum.inr c) Dk.dk (small1000 (by have := Dk.ln; omega)), ?_⟩
      have ja : j ≠ B.a2 := ne_of ej Dk.dk (by intro e; cases e)
      have X3 := X2.set2 but_upd (TabL.put Dk g but_upd upd_same (l := j) (k := c) (zs := jn (F.pa c) q) (by rw [upd_ne ja]; exact ej) jn_ne)
      have br3 : Bar B H _ := (Bar.of_same (sm1.trans sm2)).trans (Bar.of_but (but_upd (H := H2) (a := B.a2) (o := .dK (putK kvs (Sum.inr c) (.ref j)))) (by simp))
      have aT : ∀ x ∈ B.all, ∃ kv, H x = some (.dK kv) := fun x hx => dk_all X hx
      have an : a ∉ B.all := fun hx => by
        obtain ⟨kv, e⟩ := aT a hx
        rw [ha] at e
        cases e
      have hT3 : SqT K _ a (Fct.child c q).vs := SqT.of (br3 _ _ ha an)
      generalize eH3 : upd H2 B.a2 (.dK (putK kvs (Sum.inr c) (.ref j))) = H3 at X3 br3 hT3 ⊢
      refine ⟨_, rfl, p, dx, _, rfl, X3.hp, no_mc B, _, rfl, a, _, 2, .str q, rfl, rfl, hT3, atI_nat (j := 2) rfl, p, q, n + 1, _, rfl, X3.at', fun l4 H4 sm4 nl4 el4 => ⟨_, rfl, l4, F.ch q, c, rfl, el4, by have := hL.ch q; omega, fun j5 H5 sm5 ej5 => ?_⟩⟩
      have X5 := (X3.same sm4).same sm5
      obtain ⟨kvs5, Dk5, g5⟩ := X5.t1.ex
      have hT5 := sameT (K := K) sm5 (sameT sm4 hT3)
      refine ⟨_, rfl, p, C, dx, _, _, rfl, X5.hp, D.cl, D.n1, fl_1, _, rfl, a, _, 2, .str q, rfl, rfl, hT5, atI_nat (j := 2) rfl, B.a1, _, rfl, DPut.k (k := Sum.inr q) Dk5.dk (small1000 (by have := Dk5.ln; omega)), ?_⟩
      have ja5 : j5 ≠ B.a1 := ne_of ej5 Dk5.dk (by intro e; cases e)
      exact go _ (X5.set1 but_upd (TabL.put Dk5 g5 but_upd upd_same (l := j5) (k := q) (zs := jn (F.ch q) c) (by rw [upd_ne ja5]; exact ej5) jn_ne)) ((br3.trans (Bar.of_same (sm4.trans sm5))).trans (Bar.of_but but_upd (by simp)))
    | wed x y =>
      refine ⟨_, rfl, a, _, 0, .str "wed", rfl, rfl, hT, atI_nat (j := 0) rfl, _, rfl, a, _, 1, .str x, rfl, rfl, hT, atI_nat (j := 1) rfl, _, _, rfl, ?_⟩
      refine ⟨_, rfl, rfl, _, rfl, ?_⟩
      rw [decide_eq_false (show ¬ V.str ("wed" : Str) = .str ("child" : Str) by decide +kernel)]
      refine iteF ?_
      refine ⟨_, rfl, rfl, _, rfl, ?_⟩
      rw [decide_eq_true (show V.str ("wed" : Str) = .str ("wed" : Str) from rfl)]
      refine iteT ?_
      refine ⟨_, rfl, p, C, dx, _, _, rfl, X.hp, D.cl, D.n3, fl_3, B.a3, rfl, TabL.isD X.t3, _, rfl, Nat.zero_le _, fun e1 he1 => ?_⟩
      obtain ⟨o1, gd1, l1, go1, el1⟩ := tl_get X.t3 x he1
      have sm1 : Same H (upd H e1 (.lst [])) := same_upd he1
      refine ⟨o1, gd1, _, rfl, a, _, 2, .str y, rfl, rfl, (sameT sm1 hT), atI_nat (j := 2) rfl, l1, F.we x, y, by rw [go1]; rfl, el1, by have := hL.we x; omega, fun j H2 sm2 ej => ?_⟩
      have X2 := (X.same sm1).same sm2
      obtain ⟨kvs, Dk, g⟩ := X2.t3.ex
      refine ⟨_, rfl, p, C, dx, _, _, rfl, X2.hp, D.cl, D.n3, fl_3, _, rfl, B.a3, _, rfl, DPut.k (k := Sum.inr x) Dk.dk (small1000 (by have := Dk.ln; omega)), ?_⟩
      have ja : j ≠ B.a3 := ne_of ej Dk.dk (by intro e; cases e)
      have X3 := X2.set3 but_upd (TabL.put Dk g but_upd upd_same (l := j) (k := x) (zs := jn (F.we x) y) (by rw [upd_ne ja]; exact ej) jn_ne)
      have br3 : Bar B H _ := (Bar.of_same (sm1.trans sm2)).trans (Bar.of_but (but_upd (H := H2) (a := B.a3) (o := .dK (putK kvs (Sum.inr x) (.ref j)))) (by simp))
      have an : a ∉ B.all := fun hx => by
        obtain ⟨kv, e⟩ := dk_all X hx
        rw [ha] at e
        cases e
      have hT3 : SqT K _ a (Fct.wed x y).vs := SqT.of (br3 _ _ ha an)
      generalize eH3 : upd H2 B.a3 (.dK (putK kvs (Sum.inr x) (.ref j))) = H3 at X3 br3 hT3 ⊢
      refine ⟨_, rfl, p, C, dx, _, _, rfl, X3.hp, D.cl, D.n3, fl_3, B.a3, rfl, TabL.isD X3.t3, _, rfl, a, _, 2, .str y, rfl, rfl, hT3, atI_nat (j := 2) rfl, Nat.zero_le _, fun e4 he4 => ?_⟩
      obtain ⟨o4, gd4, l4, go4, el4⟩ := tl_get X3.t3 y he4
      have sm4 : Same H3 (upd H3 e4 (.lst [])) := same_upd he4
      refine ⟨o4, gd4, _, rfl, l4, _, x, by rw [go4]; rfl, el4, ?_, fun j5 H5 sm5 ej5 => ?_⟩
      · have h1 := hL.we x
        have h2 := hL.we y
        have h3 := jn_len (F.we x) y
        show (up F.we x (jn (F.we x) y) y).length ≤ 900
        unfold up
        split <;> omega
      · have X5 := (X3.same sm4).same sm5
        obtain ⟨kvs5, Dk5, g5⟩ := X5.t3.ex
        have hT5 := sameT (K := K) sm5 (sameT sm4 hT3)
        refine ⟨_, rfl, p, C, dx, _, _, rfl, X5.hp, D.cl, D.n3, fl_3, _, rfl, a, _, 2, .str y, rfl, rfl, hT5, atI_nat (j := 2) rfl, B.a3, _, rfl, DPut.k (k := Sum.inr y) Dk5.dk (small1000 (by have := Dk5.ln; omega)), ?_⟩
        have ja5 : j5 ≠ B.a3 := ne_of ej5 Dk5.dk (by intro e; cases e)
        exact go _ (X5.set3 but_upd (TabL.put Dk5 g5 but_upd upd_same (l := j5) (k := y) (zs := jn (up F.we x (jn (F.we x) y) y) x) (by rw [upd_ne ja5]; exact ej5) jn_ne)) ((br3.trans (Bar.of_same (sm4.trans sm5))).trans (Bar.of_but but_upd (by simp)))
    | parted x y =>
      refine ⟨_, rfl, a, _, 0, .str "parted", rfl, rfl, hT, atI_nat (j := 0) rfl, _, rfl, a, _, 1, .str x, rfl, rfl, hT, atI_nat (j := 1) rfl, _, _, rfl, ?_⟩
      refine ⟨_, rfl, rfl, _, rfl, ?_⟩
      rw [decide_eq_false (show ¬ V.str ("parted" : Str) = .str ("child" : Str) by decide +kernel)]
      refine iteF ?_
      refine ⟨_, rfl, rfl, _, rfl, ?_⟩
      rw [decide_eq_false (show ¬ V.str ("parted" : Str) = .str ("wed" : Str) by decide +kernel)]
      refine iteF ?_
      refine ⟨_, rfl, rfl, _, rfl, ?_⟩
      rw [decide_eq_true (show V.str ("parted" : Str) = .str ("parted" : Str) from rfl)]
      refine iteT ?_
      refine ⟨_, rfl, p, C, dx, _, _, rfl, X.hp, D.cl, D.n4, fl_4, B.a4, rfl, TabL.isD X.t4, _, rfl, Nat.zero_le _, fun e1 he1 => ?_⟩
      obtain ⟨o1, gd1, l1, go1, el1⟩ := tl_get X.t4 x he1
      have sm1 : Same H (upd H e1 (.lst [])) := same_upd he1
      refine ⟨o1, gd1, _, rfl, a, _, 2, .str y, rfl, rfl, (sameT sm1 hT), atI_nat (j := 2) rfl, l1, F.pt x, y, by rw [go1]; rfl, el1, by have := hL.pt x; omega, fun j H2 sm2 ej => ?_⟩
      have X2 := (X.same sm1).same sm2
      obtain ⟨kvs, Dk, g⟩ := X2.t4.ex
      refine ⟨_, rfl, p, C, dx, _, _, rfl, X2.hp, D.cl, D.n4, fl_4, _, rfl, B.a4, _, rfl, DPut.k (k := Sum.inr x) Dk.dk (small1000 (by have := Dk.ln; omega)), ?_⟩
      have ja : j ≠ B.a4 := ne_of ej Dk.dk (by intro e; cases e)
      have X3 := X2.set4 but_upd (TabL.put Dk g but_upd upd_same (l := j) (k := x) (zs := jn (F.pt x) y) (by rw [upd_ne ja]; exact ej) jn_ne)
      have br3 : Bar B H _ := (Bar.of_same (sm1.trans sm2)).trans (Bar.of_but (but_upd (H := H2) (a := B.a4) (o := .dK (putK kvs (Sum.inr x) (.ref j)))) (by simp))
      have an : a ∉ B.all := fun hx => by
        obtain ⟨kv, e⟩ := dk_all X hx
        rw [ha] at e
        cases e
      have hT3 : SqT K _ a (Fct.parted x y).vs := SqT.of (br3 _ _ ha an)
      generalize eH3 : upd H2 B.a4 (.dK (putK kvs (Sum.inr x) (.ref j))) = H3 at X3 br3 hT3 ⊢
      refine ⟨_, rfl, p, C, dx, _, _, rfl, X3.hp, D.cl, D.n4, fl_4, B.a4, rfl, TabL.isD X3.t4, _, rfl, a, _, 2, .str y, rfl, rfl, hT3, atI_nat (j := 2) rfl, Nat.zero_le _, fun e4 he4 => ?_⟩
      obtain ⟨o4, gd4, l4, go4, el4⟩ := tl_get X3.t4 y he4
      have sm4 : Same H3 (upd H3 e4 (.lst [])) := same_upd he4
      refine ⟨o4, gd4, _, rfl, l4, _, x, by rw [go4]; rfl, el4, ?_, fun j5 H5 sm5 ej5 => ?_⟩
      · have h1 := hL.pt x
        have h2 := hL.pt y
        have h3 := jn_len (F.pt x) y
        show (up F.pt x (jn (F.pt x) y) y).length ≤ 900
        unfold up
        split <;> omega
      · have X5 := (X3.same sm4).same sm5
        obtain ⟨kvs5, Dk5, g5⟩ := X5.t4.ex
        have hT5 := sameT (K := K) sm5 (sameT sm4 hT3)
        refine ⟨_, rfl, p, C, dx, _, _, rfl, X5.hp, D.cl, D.n4, fl_4, _, rfl, a, _, 2, .str y, rfl, rfl, hT5, atI_nat (j := 2) rfl, B.a4, _, rfl, DPut.k (k := Sum.inr y) Dk5.dk (small1000 (by have := Dk5.ln; omega)), ?_⟩
        have ja5 : j5 ≠ B.a4 := ne_of ej5 Dk5.dk (by intro e; cases e)
        exact go _ (X5.set4 but_upd (TabL.put Dk5 g5 but_upd upd_same (l := j5) (k := y) (zs := jn (up F.pt x (jn (F.pt x) y) y) x) (by rw [upd_ne ja5]; exact ej5) jn_ne)) ((br3.trans (Bar.of_same (sm4.trans sm5))).trans (Bar.of_but but_upd (by simp)))
    | died x d =>
      refine ⟨_, rfl, a, _, 0, .str "died", rfl, rfl, hT, atI_nat (j := 0) rfl, _, rfl, a, _, 1, .str x, rfl, rfl, hT, atI_nat (j := 1) rfl, _, _, rfl, ?_⟩
      refine ⟨_, rfl, rfl, _, rfl, ?_⟩
      rw [decide_eq_false (show ¬ V.str ("died" : Str) = .str ("child" : Str) by decide +kernel)]
      refine iteF ?_
      refine ⟨_, rfl, rfl, _, rfl, ?_⟩
      rw [decide_eq_false (show ¬ V.str ("died" : Str) = .str ("wed" : Str) by decide +kernel)]
      refine iteF ?_
      refine ⟨_, rfl, rfl, _, rfl, ?_⟩
      rw [decide_eq_false (show ¬ V.str ("died" : Str) = .str ("parted" : Str) by decide +kernel)]
      refine iteF ?_
      refine ⟨_, rfl, rfl, _, rfl, ?_⟩
      rw [decide_eq_true (show V.str ("died" : Str) = .str ("died" : Str) from rfl)]
      refine iteT ?_
      obtain ⟨kvs, Dk, g⟩ := X.t5.ex
      refine ⟨_, rfl, a, _, 2, .int d, rfl, rfl, hT, atI_nat (j := 2) rfl, _, rfl, p, C, dx, _, _, rfl, X.hp, D.cl, D.n5, fl_5, _, rfl, B.a5, _, rfl, DPut.k (k := Sum.inr x) Dk.dk (small1000 (by have := Dk.ln; omega)), ?_⟩
      have t := TabV.put Dk g (k := x) (v := .int d) (H' := upd H B.a5 (.dK (putK kvs (Sum.inr x) (.int d)))) upd_same
      rw [← up_int] at t
      exact go _ ((X.set5 but_upd t).mono (Nat.le_succ _)) (Bar.of_but but_upd (by simp))
    | renounced x =>
      refine ⟨_, rfl, a, _, 0, .str "renounced", rfl, rfl, hT, atI_nat (j := 0) rfl, _, rfl, a, _, 1, .str x, rfl, rfl, hT, atI_nat (j := 1) rfl, _, _, rfl, ?_⟩
      refine ⟨_, rfl, rfl, _, rfl, ?_⟩
      rw [decide_eq_false (show ¬ V.str ("renounced" : Str) = .str ("child" : Str) by decide +kernel)]
      refine iteF ?_
      refine ⟨_, rfl, rfl, _, rfl, ?_⟩
      rw [decide_eq_false (show ¬ V.str ("renounced" : Str) = .str ("wed" : Str) by decide +kernel)]
      refine iteF ?_
      refine ⟨_, rfl, rfl, _, rfl, ?_⟩
      rw [decide_eq_false (show ¬ V.str ("renounced" : Str) = .str ("parted" : Str) by decide +kernel)]
      refine iteF ?_
      refine ⟨_, rfl, rfl, _, rfl, ?_⟩
      rw [decide_eq_false (show ¬ V.str ("renounced" : Str) = .str ("died" : Str) by decide +kernel)]
      refine iteF ?_
      refine ⟨_, rfl, rfl, _, rfl, ?_⟩
      rw [decide_eq_true (show V.str ("renounced" : Str) = .str ("renounced" : Str) from rfl)]
      refine iteT ?_
      obtain ⟨kvs, Dk, g⟩ := X.t6.ex
      refine ⟨_, rfl, p, C, dx, _, _, rfl, X.hp, D.cl, D.n6, fl_6, _, rfl, B.a6, _, rfl, DPut.k (k := Sum.inr x) Dk.dk (small1000 (by have := Dk.ln; omega)), ?_⟩
      have t := TabV.put Dk g (k := x) (v := .bl true) (H' := upd H B.a6 (.dK (putK kvs (Sum.inr x) (.bl true)))) upd_same
      rw [← up_bl] at t
      exact go _ ((X.set6 but_upd t).mono (Nat.le_succ _)) (Bar.of_but but_upd (by simp))
    | advance x m =>
      refine ⟨_, rfl, a, _, 0, .str "advance", rfl, rfl, hT, atI_nat (j := 0) rfl, _, rfl, a, _, 1, .str x, rfl, rfl, hT, atI_nat (j := 1) rfl, _, _, rfl, ?_⟩
      refine ⟨_, rfl, rfl, _, rfl, ?_⟩
      rw [decide_eq_false (show ¬ V.str ("advance" : Str) = .str ("child" : Str) by decide +kernel)]
      refine iteF ?_
      refine ⟨_, rfl, rfl, _, rfl, ?_⟩
      rw [decide_eq_false (show ¬ V.str ("advance" : Str) = .str ("wed" : Str) by decide +kernel)]
      refine iteF ?_
      refine ⟨_, rfl, rfl, _, rfl, ?_⟩
      rw [decide_eq_false (show ¬ V.str ("advance" : Str) = .str ("parted" : Str) by decide +kernel)]
      refine iteF ?_
      refine ⟨_, rfl, rfl, _, rfl, ?_⟩
      rw [decide_eq_false (show ¬ V.str ("advance" : Str) = .str ("died" : Str) by decide +kernel)]
      refine iteF ?_
      refine ⟨_, rfl, rfl, _, rfl, ?_⟩
      rw [decide_eq_false (show ¬ V.str ("advance" : Str) = .str ("renounced" : Str) by decide +kernel)]
      refine iteF ?_
      obtain ⟨kvs, Dk, g⟩ := X.t7.ex
      refine ⟨_, rfl, p, dx, _, rfl, X.hp, no_ma B, _, rfl, p, x, n, F, rfl, X.at', _, rfl, a, _, 2, .int m, rfl, rfl, hT, atI_nat (j := 2) rfl, _, _, rfl, rfl, _, rfl, p, C, dx, _, _, rfl, X.hp, D.cl, D.n7, fl_7, _, rfl, B.a7, _, rfl, DPut.k (k := Sum.inr x) Dk.dk (small1000 (by have := Dk.ln; omega)), ?_⟩
      have t := TabV.put Dk g (k := x) (v := .int ((F.ad x).getD 0 + m)) (H' := upd H B.a7 (.dK (putK kvs (Sum.inr x) (.int ((F.ad x).getD 0 + m))))) upd_same
      rw [← up_int] at t
      exact go _ ((X.set7 but_upd t).mono (Nat.le_succ _)) (Bar.of_but but_upd (by simp))
end
end K1
namespace K1
open PySem L2 PyProof.Rows G
/-- a descendant -/
inductive Dsc (R : Str → List Str) : Str → Str → Prop
  | one {x y : Str} (h : y ∈ R x) : Dsc R x y
  | more {x y z : Str} (h : Dsc R x y) (g : z ∈ R y) : Dsc R x z
/-- the dict of those found -/
def fdict (fs : List Str) : List (Key × V) := fs.map fun k => (Sum.inr k, V.bl true)
theorem fdict_val (fs : List Str) (x : Str) : valV (fdict fs) (Sum.inr x : Key) = if x ∈ fs then some (.bl true) else none := by
  unfold fdict
  induction fs with
  | nil => rfl
  | cons y fs ih =>
    by_cases e : y = x
    · subst e
      rw [List.map_cons, valV_pos rfl, if_pos List.mem_cons_self]
    · rw [List.map_cons, valV_neg (fun z => e (Sum.inr.inj z)), ih]
      by_cases m : x ∈ fs
      · rw [if_pos m, if_pos (List.mem_cons_of_mem _ m)]
      · rw [if_neg m, if_neg fun q => (List.mem_cons.mp q).elim (fun z => e z.symm) m]
theorem fdict_put {fs : List Str} {x : Str} (h : x ∉ fs) : putK (fdict fs) (Sum.inr x : Key) (.bl true) = fdict (fs ++ [x]) := by
  rw [putK_new _ (by rw [fdict_val, if_neg h])]
  unfold fdict
  rw [List.map_append]
  rfl
theorem nodup_le : ∀ {fs U : List Str}, fs.Nodup → (∀ x ∈ fs, x ∈ U) → fs.length ≤ U.length
  | [], U, _, _ => Nat.zero_le _
  | x :: fs, U, n, h => by
    have n' := List.nodup_cons.mp n
    have m : x ∈ U := h x List.mem_cons_self
    have := nodup_le (U := U.erase x) n'.2 fun y hy => (List.mem_erase_of_ne (fun e : y = x => n'.1 (by rw [← e]; exact hy))).mpr (h y (List.mem_cons_of_mem _ hy))
    rw [List.length_erase_of_mem m] at this
    have := List.length_pos_of_mem m
    simp only [List.length_cons]
    omega
/-- what holds between two turns -/
structure Go (R : Str → List Str) (x0 : Str) (U fs ws : List Str) : Prop where
  d : ∀ x ∈ fs, Dsc R x0 x
  w : ∀ x ∈ ws, x = x0 ∨ x ∈ fs
  c : ∀ x, x = x0 ∨ x ∈ fs → x ∈ ws ∨ ∀ y ∈ R x, y ∈ fs
  n : fs.Nodup
  u : ∀ x ∈ fs, x ∈ U
theorem Go.le {R : Str → List Str} {x0 : Str} {U fs ws : List Str} (g : Go R x0 U fs ws) : fs.length ≤ U.length := nodup_le g.n g.u
/-- within a turn: the children of x up to the i-th are found -/
structure In (R : Str → List Str) (x0 x : Str) (U fs ws : List Str) (i : Nat) : Prop where
  d : ∀ z ∈ fs, Dsc R x0 z
  w : ∀ z ∈ ws, z = x0 ∨ z ∈ fs
  c : ∀ z, z = x0 ∨ z ∈ fs → z ∈ ws ∨ z = x ∨ ∀ y ∈ R z, y ∈ fs
  n : fs.Nodup
  u : ∀ z ∈ fs, z ∈ U
  i : ∀ y ∈ (R x).take i, y ∈ fs
theorem In.le {R : Str → List Str} {x0 x : Str} {U fs ws : List Str} {i : Nat} (g : In R x0 x U fs ws i) : fs.length ≤ U.length := nodup_le g.n g.u
theorem Go.pop {R : Str → List Str} {x0 x : Str} {U fs ws : List Str} (g : Go R x0 U fs (ws ++ [x])) : In R x0 x U fs ws 0 :=
  ⟨g.d, fun z h => g.w z (List.mem_append_left _ h), fun z h => (g.c z h).elim (fun m => (List.mem_append.mp m).elim .inl fun e => .inr (.inl (List.mem_singleton.mp e))) fun m => .inr (.inr m), g.n, g.u, fun y h => by cases h⟩
theorem In.out {R : Str → List Str} {x0 x : Str} {U fs ws : List Str} {i : Nat} (g : In R x0 x U fs ws i) (h : (R x).length ≤ i) : Go R x0 U fs ws := by
  refine ⟨g.d, g.w, fun z hz => ?_, g.n, g.u⟩
  rcases g.c z hz with m | rfl | m
  · exact .inl m
  · have := g.i
    rw [List.take_of_length_le h] at this
    exact .inr this
  · exact .inr m
theorem In.skip {R : Str → List Str} {x0 x y : Str} {U fs ws : List Str} {i : Nat} (g : In R x0 x U fs ws i) (hy : (R x)[i]? = some y) (h : y ∈ fs) : In R x0 x U fs ws (i + 1) :=
  ⟨g.d, g.w, g.c, g.n, g.u, fun z hz => by
    rw [List.take_add_one, hy] at hz
    rcases List.mem_append.mp hz with m | m
    · exact g.i z m
    · rw [List.mem_singleton.mp m]
      exact h⟩
theorem In.add {R : Str → List Str} {x0 x y : Str} {U fs ws : List Str} {i : Nat} (g : In R x0 x U fs ws i) (hx : x = x0 ∨ x ∈ fs) (hy : (R x)[i]? = some y) (hU : ∀ x, ∀ y ∈ R x, y ∈ U) (h : y ∉ fs) : In R x0 x U (fs ++ [y]) (ws ++ [y]) (i + 1) := by
  have my : y ∈ R x := List.mem_of_getElem? hy
  refine ⟨fun z hz => ?_, fun z hz => ?_, fun z hz => ?_, ?_, fun z hz => ?_, fun z hz => ?_⟩
  · rcases List.mem_append.mp hz with m | m
    · exact g.d z m
    · rw [List.mem_singleton.mp m]
      rcases hx with rfl | hx
      · exact .one my
      · exact .more (g.d x hx) my
  · rcases List.mem_append.mp hz with m | m
    · exact (g.w z m).imp id fun q => List.mem_append_left _ q
    · exact .inr (List.mem_append_right _ m)
  · have old (q : z = x0 ∨ z ∈ fs) : z ∈ ws ++ [y] ∨ z = x ∨ ∀ v ∈ R z, v ∈ fs ++ [y] :=
      (g.c z q).imp (fun m => List.mem_append_left _ m) fun m => m.imp id fun m v hv => List.mem_append_left _ (m v hv)
    rcases hz with q | q
    · exact old (.inl q)
    · rcases List.mem_append.mp q with m | m
      · exact old (.inr m)
      · exact .inl (List.mem_append_right _ m)
  · exact List.nodup_append.mpr ⟨g.n, List.pairwise_singleton _ _, fun a ha b hb e => h (by rw [← List.mem_singleton.mp hb, ← e]; exact ha)⟩
  · rcases List.mem_append.mp hz with m | m
    · exact g.u z m
    · rw [List.mem_singleton.mp m]
      exact hU x y my
  · rw [List.take_add_one, hy] at hz
    rcases List.mem_append.mp hz with m | m
    · exact List.mem_append_left _ (g.i z m)
    · exact List.mem_append_right _ m
theorem Go.done {R : Str → List Str} {x0 z : Str} {U fs : List Str} (g : Go R x0 U fs []) : z ∈ fs ↔ Dsc R x0 z := by
  have cl : ∀ x, x = x0 ∨ x ∈ fs → ∀ y ∈ R x, y ∈ fs := fun x hx => (g.c x hx).elim (fun m => by cases m) id
  refine ⟨g.d z, fun h => ?_⟩
  induction h with
  | one h => exact cl _ (.inl rfl) _ h
  | more _ h ih => exact cl _ (.inr ih) _ h
section
variable {P : Program} {w : World} {K : PySem.W.Frag} {mg : Str → Option Value} {base : Heap}
abbrev nRea : List Str := ["self", "name", "wanted", "found", "waiting", "person", "child"]
theorem scRea : FnScope nRea ["self", "name", "wanted"] (defScope sRea) := ⟨rfl, rfl, rfl, by decide +kernel, rfl, by decide +kernel, by decide +kernel⟩
theorem no_mC (A : FA) : A.fl.lookup ("children" : Str) = none := by kernel_rfl
def spRea (C : Addr) : Sp := fun vs H Q _ => ∃ (p : Addr) (x y : Str) (n : Nat) (F : Fm) (U : List Str), vs = [.ref p, .str x, .str y] ∧ FamAt C H p n F ∧ U.length ≤ 400 ∧ (∀ x, ∀ y ∈ F.ch x, y ∈ U) ∧ (∀ x, (F.ch x).length ≤ 900) ∧ ∀ H' b, Same H H' → (b = true ↔ Dsc F.ch x y) → Q (.bl b) H'
theorem ok_reaches {f C : Addr} {fd : FuncData} (F : Fun K "reaches" "Family.reaches" sRea f fd) (D : FT K C) (MC : HasM P w K mg base CX0 C "children" ["self", "name"] 1 (spLs C fun F k => F.ch k)) : FnOk P w K mg base CX0 2 f fd ["self", "name", "wanted"] (spRea C) := by
  obtain ⟨fC, fdC, meC, bC, GC⟩ := MC.ok
  refine F.ok scRea (fun vs H Q E h => ?_) (fun cdv A outer s H vs Q E hr h => ?_)
  · obtain ⟨p, x, y, n, F, U, rfl, _⟩ := h
    rfl
  · obtain ⟨p, x0, y0, n, F, U, rfl, hF, hU9, hU, hlen, go⟩ := h
    have hu := hu_of hr
    refine ⟨_, pss_cons (ps_set (i := 3) scRea.nd rfl (.inl rfl) pe_dnewK)
      (pss_cons (ps_set (i := 4) scRea.nd rfl (.inl rfl) (pe_lst (pa_cons (pv 1) pa_nil)))
      (pss_cons (ps_while PassesOwn.never (pt_truth (pv 4) (by intro _; rfl))
        (pss_cons (ps_set (i := 5) scRea.nd rfl (.inl rfl) (pe_bm0 PySem.F.plainAttrs_list PySem.F.slot_list_pop PySem.F.type_list_pop mt_pop (pv 4)))
        (pss_one (ps_for PassesOwn.never rfl (pi_list (pe_meth (pv 0) D.cl meC GC hr bC .nil pass0 (pa_cons (pv 5) pa_nil))) (pg_name (i := 6) scRea.nd rfl (.inl rfl))
          (pss_one (ps_if (pt_cmp (pc_dnotin hu (pv 6) (pv 3))) (pss_cons (ps_dput hu (pv 3) (pv 6) pe_bl rfl)
            (pss_one (ps_expr (pe_bm PySem.F.plainAttrs_list PySem.F.slot_list_append PySem.F.type_list_append mt_append (pv 4) (pa_cons (pv 6) pa_nil))))) pss_nil))))))
      (pss_one (ps_ret (pe_cmp (pc_din hu (pv 2) (pv 3)) rfl))))), ?_⟩
    intro d hd
    refine ⟨_, rfl, by show 1 ≤ sizeLine; decide, fun l hl => ?_⟩
    have dl : d ≠ l := ne_of_none upd_same hl
    have s1 : Same H (upd (upd H d (.dK [])) l (.lst [.str x0])) := (same_upd hd).trans (same_upd hl)
    have hnl : H l = none := (same_upd hd).free hl
    refine ⟨fun m σ Hx => ∃ (fs ws : List Str) (y5 y6 : Option V), σ = [some (.ref p), some (.str x0), some (.str y0), some (.ref d), some (.ref l), y5, y6] ∧ Same H Hx ∧ Hx d = some (.dK (fdict fs)) ∧ Hx l = some (.lst (ws.map V.str)) ∧ Go F.ch x0 U fs ws ∧ m = 2 * (U.length - fs.length) + ws.length ∧ 2 * (U.length - fs.length) + ws.length ≤ 900,
      ⟨2 * U.length + 1, [], [x0], none, none, rfl, s1, by rw [upd_ne dl, upd_same]; rfl, upd_same, ⟨(fun x h => by cases h), (fun x h => .inl (List.mem_singleton.mp h)), (fun x h => ?_), List.nodup_nil, (fun x h => by cases h)⟩, rfl, by simp only [List.length_nil, List.length_singleton]; omega⟩, ?_⟩
    · rcases h with rfl | h
      · exact .inl (List.mem_singleton.mpr rfl)
      · cases h
    · rintro m σ Hx ⟨fs, ws, y5, y6, rfl, sm, hd1, hl1, g, rfl, hm⟩
      refine ⟨_, rfl, _, .inl ⟨_, SqL.of hl1, rfl⟩, ?_⟩
      rcases List.eq_nil_or_concat ws with rfl | ⟨ws', x, rfl⟩
      · refine ⟨_, rfl, _, rfl, d, _, rfl, .inl ⟨_, Sum.inr y0, .inl hd1, rfl, rfl⟩, ?_⟩
        rw [fdict_val]
        refine go Hx _ sm ?_
        rw [← g.done]
        by_cases h : y0 ∈ fs
        · rw [if_pos h]
          exact ⟨fun _ => h, fun _ => rfl⟩
        · rw [if_neg h]
          exact ⟨fun z => (by cases z), fun z => absurd z h⟩
      · rw [List.concat_eq_append] at hl1 g hm ⊢
        have ne : (!((ws' ++ [x]).map V.str).isEmpty) = true := by simp
        rw [ne]
        rw [if_pos rfl]
        refine ⟨fun σ1 H1 => ∃ (fs1 ws1 : List Str) (y5 y6 : Option V), σ1 = [some (.ref p), some (.str x0), some (.str y0), some (.ref d), some (.ref l), y5, y6] ∧ Same H H1 ∧ H1 d = some (.dK (fdict fs1)) ∧ H1 l = some (.lst (ws1.map V.str)) ∧ Go F.ch x0 U fs1 ws1 ∧ 2 * (U.length - fs1.length) + ws1.length < 2 * (U.length - fs.length) + (ws' ++ [x]).length, ?_, ?_⟩
        · rintro σ1 H1 ⟨fs1, ws1, z5, z6, rfl, sm1, hd2, hl2, g1, lt⟩
          exact ⟨_, lt, fs1, ws1, z5, z6, rfl, sm1, hd2, hl2, g1, rfl, by omega⟩
        · refine ⟨_, rfl, .inl ⟨rfl, _, .inl (.inl hl1)⟩, l, _, .str x, rfl, rfl, hl1, ?_, ?_⟩
          · rw [List.length_map, List.length_append, List.map_append]
            simp
          · rw [show ((ws' ++ [x]).map V.str).dropLast = ws'.map V.str by rw [List.map_append]; exact List.dropLast_concat]
            rw [List.length_append, List.length_singleton] at hm
            have dl' : d ≠ l := ne_of hd1 hl1 (by intro z; cases z)
            have hd2 : upd Hx l (.lst (ws'.map V.str)) d = some (.dK (fdict fs)) := by rw [upd_ne dl']; exact hd1
            have smU (o) : Same H (upd Hx l o) := fun b o hb => by
              rw [upd_ne (ne_of_none hb hnl)]
              exact sm b o hb
            have sm2 : Same H (upd Hx l (.lst (ws'.map V.str))) := smU _
            obtain ⟨dx, a1, a2, a3, a4, a5, a6, a7, hp, -, -, -, -, -, -, -, -⟩ := (hF.same sm2).ex
            refine ⟨_, rfl, p, dx, _, rfl, hp, no_mC ⟨a1, a2, a3, a4, a5, a6, a7⟩, _, rfl, p, x, n, F, rfl, hF.same sm2, fun c H3 sm3 nc ec => ?_⟩
            have cd : c ≠ d := fun e => by
              rw [e, hd2] at nc
              cases nc
            have cl : c ≠ l := fun e => by
              rw [e, upd_same] at nc
              cases nc
            have sm3' : Same H H3 := sm2.trans sm3
            have hx : x = x0 ∨ x ∈ fs := g.w x (List.mem_append_right _ (List.mem_singleton.mpr rfl))
            refine ⟨c, rfl, ⟨_, SqL.of ec⟩, for_list (K := K) (a := c) (xs := (F.ch x).map V.str) (fun i σ Hy => ∃ (fs1 ws1 : List Str) (y6 : Option V), σ = [some (.ref p), some (.str x0), some (.str y0), some (.ref d), some (.ref l), some (.str x), y6] ∧ Same H Hy ∧ Hy c = some (.lst ((F.ch x).map V.str)) ∧ Hy d = some (.dK (fdict fs1)) ∧ Hy l = some (.lst (ws1.map V.str)) ∧ In F.ch x0 x U fs1 ws1 i ∧ (x = x0 ∨ x ∈ fs1) ∧ 2 * (U.length - fs1.length) + ws1.length ≤ 2 * (U.length - fs.length) + ws'.length)
              ⟨fs, ws', y6, rfl, sm3', ec, sm3 _ _ hd2, sm3 _ _ upd_same, g.pop, hx, Nat.le_refl _⟩ (fun i σ Hy _ ⟨_, _, _, _, _, z, _⟩ => SqL.of z) ?_ ?_⟩
            · rintro i v σ Hy hi ⟨fs1, ws1, z6, rfl, smy, yc, yd, yl, gi, hx1, le⟩
              obtain ⟨y, ey, rfl⟩ : ∃ y, (F.ch x)[i]? = some y ∧ v = .str y := by
                rw [List.getElem?_map] at hi
                obtain ⟨k, h1, h2⟩ := Option.map_eq_some_iff.mp hi
                exact ⟨k, h1, h2.symm⟩
              refine ⟨_, rfl, _, rfl, d, _, rfl, .inl ⟨_, Sum.inr y, .inl yd, rfl, rfl⟩, _, rfl, ?_⟩
              rw [fdict_val]
              by_cases my : y ∈ fs1
              · rw [if_pos my]
                exact iteF ⟨fs1, ws1, _, rfl, smy, yc, yd, yl, gi.skip ey my, hx1, le⟩
              · rw [if_neg my]
                have gi2 := gi.add hx1 ey hU my
                have le2 := gi2.le
                rw [List.length_append, List.length_singleton] at le2
                refine iteT ⟨_, rfl, _, rfl, d, _, rfl, DPut.k (k := Sum.inr y) yd ?_, ?_⟩
                · unfold fdict
                  rw [List.length_map]
                  exact small1000 (by omega)
                · rw [fdict_put my]
                  have l3 : upd Hy d (.dK (fdict (fs1 ++ [y]))) l = some (.lst (ws1.map V.str)) := by
                    rw [upd_ne dl'.symm]
                    exact yl
                  refine ⟨_, rfl, .inl ⟨rfl, _, .inl (.inl l3)⟩, _, rfl, l, _, _, rfl, rfl, l3, ?_, ?_⟩
                  · rw [List.length_map]
                    exact small1000 (by omega)
                  · refine ⟨fs1 ++ [y], ws1 ++ [y], _, rfl, fun b o hb => ?_, ?_, ?_, ?_, gi2, hx1.imp id fun m => List.mem_append_left _ m, ?_⟩
                    · rw [upd_ne (ne_of_none hb hnl), upd_ne (ne_of_none hb hd)]
                      exact smy b o hb
                    · rw [upd_ne cl, upd_ne cd]
                      exact yc
                    · rw [upd_ne dl', upd_same]
                    · rw [upd_same, List.map_append]
                      rfl
                    · rw [List.length_append, List.length_append, List.length_singleton]
                      omega
            · rintro σ Hy ⟨fs1, ws1, z6, rfl, smy, yc, yd, yl, gi, hx1, le⟩
              refine ⟨fs1, ws1, _, _, rfl, smy, yd, yl, gi.out (by rw [List.length_map]; exact Nat.le_refl _), ?_⟩
              rw [List.length_append, List.length_singleton]
              omega
end
end K1
namespace K1
open PySem L2 PyProof.Rows G
/-- those wed to somebody and not parted -/
def sp (F : Fm) (k : Str) : List Str := (F.we k).filter fun y => !decide (y ∈ F.pt k)
section
variable {P : Program} {w : World} {K : PySem.W.Frag} {mg : Str → Option Value} {base : Heap}
theorem filt_step {α : Type} (l : List α) (f : α → Bool) {i : Nat} {y : α} (h : l[i]? = some y) : (l.take (i + 1)).filter f = (l.take i).filter f ++ (if f y = true then [y] else []) := by
  rw [List.take_add_one, h, List.filter_append]
  congr 1
  show List.filter f [y] = _
  rw [List.filter_cons]
  rfl
abbrev nSpo : List Str := ["self", "name", "parted", "other"]
theorem scSpo : FnScope nSpo ["self", "name"] (defScope sSpo) := ⟨rfl, rfl, rfl, by decide +kernel, rfl, by decide +kernel, by decide +kernel⟩
def spSpo (C : Addr) : Sp := fun vs H Q _ => ∃ (p : Addr) (k : Str) (n : Nat) (F : Fm), vs = [.ref p, .str k] ∧ FamAt C H p n F ∧ (F.we k).length ≤ 900 ∧ ∀ l H', Same H H' → H l = none → H' l = some (.lst ((sp F k).map V.str)) → Q (.ref l) H'
theorem ok_spouses {f C : Addr} {fd : FuncData} (F : Fun K "spouses" "Family.spouses" sSpo f fd) (D : FT K C) : FnOk P w K mg base CX0 1 f fd ["self", "name"] (spSpo C) := by
  refine F.ok scSpo (fun vs H Q E h => ?_) (fun cdv A outer s H vs Q E hr h => ?_)
  · obtain ⟨p, k, n, F, rfl, _⟩ := h
    rfl
  · obtain ⟨p, k, n, F, rfl, hF, hl, go⟩ := h
    obtain ⟨dx, a1, a2, a3, a4, a5, a6, a7, hp, t1, t2, t3, t4, t5, t6, t7, nd⟩ := hF.ex
    have hu := hu_of hr
    refine ⟨_, pss_cons (ps_set (i := 2) scSpo.nd rfl (.inr rfl) (pe_dget2 hu (pe_fld (pv 0) rfl) (pv 1) (pe_lst pa_nil) ⟨rfl, rfl, rfl, rfl⟩))
      (pss_one (ps_ret (pe_lc (own := [("other", 3)]) (g := gName 3) rfl scSpo.nd (pi_list (pe_dget2 hu (pe_fld (pv 0) rfl) (pv 1) (pe_lst pa_nil) ⟨rfl, rfl, rfl, rfl⟩)) (blkOk_by (N := nSpo) (sc := defScope sSpo) (by decide +kernel))
        (fun _ _ _ _ _ => pg_name (i := 3) scSpo.nd rfl (.inl rfl) (.inr rfl)) (fun _ _ _ _ _ => pts_one (pt_cmpR (show OpR _ _ (rIn K true) from op_notIn_seq) (pv 3) (pv 2) (by rfl))) (fun _ _ _ _ _ => pv 3)))), ?_⟩
    refine ⟨_, rfl, p, C, dx, _, _, rfl, hp, D.cl, D.n4, fl_4, a4, rfl, TabL.isD t4, _, rfl, Nat.zero_le _, fun e he => ?_⟩
    obtain ⟨o, g1, lp, g2, g3⟩ := tl_get t4 k he
    refine ⟨o, g1, ?_⟩
    rw [g2]
    have s1 : Same H (upd H e (.lst [])) := same_upd he
    refine ⟨_, rfl, p, C, dx, _, _, rfl, s1 _ _ hp, D.cl, D.n3, fl_3, a3, rfl, TabL.isD (t3.same s1), _, rfl, Nat.zero_le _, fun e2 he2 => ?_⟩
    obtain ⟨o2, h1, lw, h2, h3⟩ := tl_get (t3.same s1) k he2
    have s2 := s1.trans (same_upd (o := .lst []) he2)
    have gp : upd (upd H e (.lst [])) e2 (.lst []) lp = some (.lst ((F.pt k).map V.str)) := by
      rw [upd_ne (ne_of_none g3 he2)]
      exact g3
    refine ⟨o2, h1, lw, h2, ⟨_, SqL.of h3⟩, fun Dn hD => lc_it walk_list (fun i Hy => Same H Hy ∧ Hy lp = some (.lst ((F.pt k).map V.str)) ∧ Hy lw = some (.lst ((F.we k).map V.str)) ∧ Hy Dn = some (.lst ((((F.we k).take i).filter fun y => !decide (y ∈ F.pt k)).map V.str)))
      ⟨s2.trans (same_upd hD), by rw [upd_ne (ne_of_none gp hD)]; exact gp, by rw [upd_ne (ne_of_none h3 hD)]; exact h3, upd_same⟩ (fun i Hy _ z => SqL.of z.2.2.1) ?_ ?_⟩
    · rintro i v Hy H' hi ⟨k1, k2, k3, k4⟩ ⟨rfl, ev⟩
      obtain ⟨y, ey, rfl⟩ : ∃ y, (F.we k)[i]? = some y ∧ v = .str y := by
        rw [List.getElem?_map] at ev
        obtain ⟨k, h1, h2⟩ := Option.map_eq_some_iff.mp ev
        exact ⟨k, h1, h2.symm⟩
      refine ⟨rfl, _, rfl, _, rfl, lp, _, rfl, .inl (SqL.of k2), rfl, flat_strs _, _, rfl, ?_⟩
      rw [show (if true = true then !inV (V.str y) ((F.pt k).map V.str) else inV (V.str y) ((F.pt k).map V.str)) = !inV (V.str y) ((F.pt k).map V.str) from if_pos rfl, inV_str]
      have st := filt_step (F.we k) (fun y => !decide (y ∈ F.pt k)) ey
      refine ite2 (fun c => ?_) (fun c => ?_)
      · refine ⟨_, rfl, _, k4, ?_, ?_, ?_, ?_, ?_⟩
        · rw [List.length_map]
          have := List.length_filter_le (fun y => !decide (y ∈ F.pt k)) ((F.we k).take i)
          rw [List.length_take] at this
          exact small1000 (by omega)
        · intro b o hb
          have hDn : H Dn = none := s2.free hD
          rw [upd_ne (ne_of_none hb hDn)]
          exact k1 b o hb
        · rw [upd_ne (ne_of_none gp hD)]
          exact k2
        · rw [upd_ne (ne_of_none h3 hD)]
          exact k3
        · rw [upd_same, st, if_pos c, List.map_append]
          rfl
      · refine ⟨k1, k2, k3, ?_⟩
        rw [st, if_neg c, List.append_nil]
        exact k4
    · rintro Hy ⟨k1, k2, k3, k4⟩
      rw [List.length_map, List.take_length] at k4
      exact go Dn Hy k1 (s2.free hD) k4
end
end K1
namespace K1
open PySem L2 PyProof.Rows G
/-- the __init__ of an own error that keeps one field -/
def spEI (K : PySem.W.Frag) (nm : Str) : Sp := fun vs H Q _ => ∃ (a C : Addr) (v : V), vs = [.ref a, v] ∧ OexC K C ∧ PySem.W.findIn K (.ref C) nm = some none ∧ H a = some (exo a C none) ∧ ∀ dx, H dx = none → dx ≠ a → Q .non (upd (upd H dx (exd dx [(nm, v)])) a (exo a C (some dx)))
/-- an own error of one field -/
structure XT (P : Program) (w : World) (K : PySem.W.Frag) (mg : Str → Option Value) (base : Heap) (x nm : Str) (C : Addr) : Prop where
  o : OexC K C
  g : mg x = some (.ref C)
  n : PySem.W.findIn K (.ref C) nm = some none
  i : ∃ (fI : Addr) (fd : FuncData), PySem.W.findIn K (.ref C) "__init__" = some (some (.ref fI)) ∧ PySem.W.typeIn K (.ref fI) = some (.type "function") ∧ Binds K fd ["self", nm] [] ∧ FnOk P w K mg base CX0 1 fI fd ["self", nm] (spEI K nm)
section
variable {P : Program} {w : World} {K : PySem.W.Frag} {mg : Str → Option Value} {base : Heap}
theorem scBadI : FnScope ["self", "at"] ["self", "at"] (defScope sBadI) := ⟨rfl, rfl, rfl, by decide +kernel, rfl, by decide +kernel, by decide +kernel⟩
theorem ok_badI {f : Addr} {fd : FuncData} (F : Fun K "__init__" "BadFact.__init__" sBadI f fd) : FnOk P w K mg base CX0 1 f fd ["self", "at"] (spEI K "at") := by
  refine F.ok scBadI (fun vs H Q E h => ?_) (fun cdv A outer s H vs Q E hr h => ?_)
  · obtain ⟨a, C, v, rfl, _⟩ := h
    rfl
  · obtain ⟨a, C, v, rfl, o, n, ha, go⟩ := h
    refine ⟨_, pss_one (ps_ost (pv 0) (pv 1)), ?_⟩
    exact ⟨_, rfl, _, rfl, a, C, rfl, o, n, .inl ⟨ha, fun dx h ne => go dx h ne⟩⟩
theorem scCirI : FnScope ["self", "name"] ["self", "name"] (defScope sCirI) := ⟨rfl, rfl, rfl, by decide +kernel, rfl, by decide +kernel, by decide +kernel⟩
theorem ok_cirI {f : Addr} {fd : FuncData} (F : Fun K "__init__" "Circular.__init__" sCirI f fd) : FnOk P w K mg base CX0 1 f fd ["self", "name"] (spEI K "name") := by
  refine F.ok scCirI (fun vs H Q E h => ?_) (fun cdv A outer s H vs Q E hr h => ?_)
  · obtain ⟨a, C, v, rfl, _⟩ := h
    rfl
  · obtain ⟨a, C, v, rfl, o, n, ha, go⟩ := h
    refine ⟨_, pss_one (ps_ost (pv 0) (pv 1)), ?_⟩
    exact ⟨_, rfl, _, rfl, a, C, rfl, o, n, .inl ⟨ha, fun dx h ne => go dx h ne⟩⟩
/-- the making of such an error -/
theorem mk_read {C : Addr} {nm : Str} {v : V} {H1 : Hp} {Q : XK} (o : OexC K C) (n : PySem.W.findIn K (.ref C) nm = some none)
    (go : ∀ d H', H1 d = none → Same H1 H' → H' d = some (.xd [(nm, v)]) → Q (.ref C) (some d) H') :
    ([v] : List V).length ≤ 1000 ∧ ∀ a, H1 a = none → spEI K nm (.ref a :: ([v] ++ [])) (upd H1 a (exo a C none)) (fun v H2 => v = .non ∧ ∃ (d : Addr) (fs : List (Str × V)), H2 a = some (exo a C (some d)) ∧ H2 d = some (exd d fs) ∧ H1 d = none ∧ Q (.ref C) (some d) (upd (del H2 a) d (.xd fs))) (fun _ _ _ => False) := by
  refine ⟨(by show 1 ≤ 1000; omega), fun a ha => ⟨a, C, v, rfl, o, n, upd_same, fun dx hdx ne => ⟨rfl, dx, [(nm, v)], upd_same, ?_, ?_, ?_⟩⟩⟩
  · rw [upd_ne ne, upd_same]
  · rw [upd_ne ne] at hdx
    exact hdx
  · rw [upd_ne ne] at hdx
    refine go dx _ hdx (fun b u hb => ?_) upd_same
    have e1 : b ≠ dx := ne_of_none hb hdx
    have e2 : b ≠ a := ne_of_none hb ha
    rw [upd_ne e1, del_ne e2, upd_ne e2, upd_ne e1, upd_ne e2]
    exact hb
end
end K1
namespace K1
open PySem L2 PyProof.Rows G
/-- what the walk over the facts comes to: what is known, or the index of the first that is none -/
def run : Fm → Nat → List (Option Fct) → Fm ⊕ Nat
  | F, _, [] => .inl F
  | _, i, none :: _ => .inr i
  | F, i, some fc :: r => if F.bad fc then .inr i else run (F.learn fc) (i + 1) r
/-- an item of the list of facts -/
def Itm (H : Hp) (x : V) : Option Fct → Prop
  | some fc => ∃ q, x = .ref q ∧ H q = some (.tup fc.vs) ∧ factV fc.vs = true
  | none => (∃ q ys, x = .ref q ∧ H q = some (.tup ys) ∧ (∀ y ∈ ys, OkV y) ∧ factV ys = false) ∨ NoTup H x
theorem nm_len {x : Str} (h : isNm x = true) : x.length ≤ 12 := by
  unfold isNm at h
  rw [Bool.and_eq_true, Bool.and_eq_true, Bool.and_eq_true] at h
  exact of_decide_eq_true h.1.2.2
theorem okv_nm {x : Str} (h : isNm x = true) : OkV (.str x) := ⟨rfl, fun y e => by
  have := V.str.inj e
  rw [← this]
  have := nm_len h
  omega⟩
theorem okv_int (i : Int) : OkV (.int i) := ⟨rfl, fun y e => by cases e⟩
theorem okv_w {x : Str} (h : x.length ≤ 1000) : OkV (.str x) := ⟨rfl, fun y e => by
  have := V.str.inj e
  rw [← this]
  exact h⟩
theorem fact_nm {w n : V} {r : List V} (h : factV (w :: n :: r) = true) : nameV n = true := by
  match r, h with
  | [], h =>
    have h' : (isStr w && nameV n && _) = true := h
    rw [Bool.and_eq_true, Bool.and_eq_true] at h'
    exact h'.1.2
  | [z], h =>
    have h' : (isStr w && nameV n && _) = true := h
    rw [Bool.and_eq_true, Bool.and_eq_true] at h'
    exact h'.1.2
  | _ :: _ :: _, h => cases h
theorem fact_nm3 {w n z : V} (h : factV [w, n, z] = true) (c : w = .str "child" ∨ w = .str "wed" ∨ w = .str "parted") : nameV z = true ∧ n ≠ z := by
  have h' : (isStr w && nameV n && threeV w n z) = true := h
  rw [Bool.and_eq_true] at h'
  have h2 := h'.2
  unfold threeV at h2
  rw [if_pos c, Bool.and_eq_true] at h2
  refine ⟨h2.1, fun e => ?_⟩
  have := h2.2
  rw [decide_eq_true e] at this
  cases this
theorem okvs {fc : Fct} (h : factV fc.vs = true) : ∀ x ∈ fc.vs, OkV x := by
  intro x hx
  cases fc with
  | child c q =>
    have a := fact_nm h
    have b := (fact_nm3 h (.inl rfl)).1
    simp only [Fct.vs, List.mem_cons, List.not_mem_nil, or_false] at hx
    rcases hx with rfl | rfl | rfl
    · exact okv_w (by decide +kernel)
    · exact okv_nm a
    · exact okv_nm b
  | wed c q =>
    have a := fact_nm h
    have b := (fact_nm3 h (.inr (.inl rfl))).1
    simp only [Fct.vs, List.mem_cons, List.not_mem_nil, or_false] at hx
    rcases hx with rfl | rfl | rfl
    · exact okv_w (by decide +kernel)
    · exact okv_nm a
    · exact okv_nm b
  | parted c q =>
    have a := fact_nm h
    have b := (fact_nm3 h (.inr (.inr rfl))).1
    simp only [Fct.vs, List.mem_cons, List.not_mem_nil, or_false] at hx
    rcases hx with rfl | rfl | rfl
    · exact okv_w (by decide +kernel)
    · exact okv_nm a
    · exact okv_nm b
  | died c d =>
    have a := fact_nm h
    simp only [Fct.vs, List.mem_cons, List.not_mem_nil, or_false] at hx
    rcases hx with rfl | rfl | rfl
    · exact okv_w (by decide +kernel)
    · exact okv_nm a
    · exact okv_int _
  | renounced c =>
    have a := fact_nm h
    simp only [Fct.vs, List.mem_cons, List.not_mem_nil, or_false] at hx
    rcases hx with rfl | rfl
    · exact okv_w (by decide +kernel)
    · exact okv_nm a
  | advance c d =>
    have a := fact_nm h
    simp only [Fct.vs, List.mem_cons, List.not_mem_nil, or_false] at hx
    rcases hx with rfl | rfl | rfl
    · exact okv_w (by decide +kernel)
    · exact okv_nm a
    · exact okv_int _
theorem up_le {f : Str → List Str} {m : Nat} {k : Str} {y : List Str} (h : ∀ k, (f k).length ≤ m) (g : y.length ≤ m) : ∀ j, (up f k y j).length ≤ m := fun j => by
  unfold up
  split
  · exact g
  · exact h j
theorem up_jn {f : Str → List Str} {m : Nat} {k x : Str} (h : ∀ k, (f k).length ≤ m) : ∀ j, (up f k (jn (f k) x) j).length ≤ m + 1 :=
  up_le (fun k => Nat.le_succ_of_le (h k)) (Nat.le_trans (jn_len _ _) (Nat.succ_le_succ (h k)))
theorem both_le {f : Str → List Str} {m : Nat} {a b : Str} (h : ∀ k, (f k).length ≤ m) : ∀ j, (both f a b j).length ≤ m + 2 := up_jn (up_jn h)
theorem LenOk.learn {F : Fm} {m : Nat} (L : LenOk F m) (fc : Fct) : LenOk (F.learn fc) (m + 2) := by
  have s : ∀ {f : Str → List Str}, (∀ k, (f k).length ≤ m) → ∀ k, (f k).length ≤ m + 2 := fun h k => Nat.le_trans (h k) (Nat.le_add_right _ _)
  cases fc with
  | child c q => exact ⟨fun j => Nat.le_succ_of_le (up_jn L.ch j), fun j => Nat.le_succ_of_le (up_jn L.pa j), s L.we, s L.pt⟩
  | wed a b => exact ⟨s L.ch, s L.pa, both_le L.we, s L.pt⟩
  | parted a b => exact ⟨s L.ch, s L.pa, s L.we, both_le L.pt⟩
  | died a d => exact ⟨s L.ch, s L.pa, s L.we, s L.pt⟩
  | renounced a => exact ⟨s L.ch, s L.pa, s L.we, s L.pt⟩
  | advance a n => exact ⟨s L.ch, s L.pa, s L.we, s L.pt⟩
theorem LenOk.mono {F : Fm} {m n : Nat} (L : LenOk F m) (h : m ≤ n) : LenOk F n := ⟨fun k => Nat.le_trans (L.ch k) h, fun k => Nat.le_trans (L.pa k) h, fun k => Nat.le_trans (L.we k) h, fun k => Nat.le_trans (L.pt k) h⟩
theorem LenOk.none : LenOk Fm.none 0 := ⟨fun _ => Nat.le_refl 0, fun _ => Nat.le_refl 0, fun _ => Nat.le_refl 0, fun _ => Nat.le_refl 0⟩
theorem learn_ch {F : Fm} {fc : Fct} {x y : Str} (h : y ∈ (F.learn fc).ch x) : y ∈ F.ch x ∨ fc = .child y x := by
  cases fc with
  | child c q =>
    have h' : y ∈ up F.ch q (jn (F.ch q) c) x := h
    by_cases e : x = q
    · subst e
      rw [up_same] at h'
      rcases jn_mem.mp h' with m | m
      · exact .inl m
      · rw [m]
        exact .inr rfl
    · rw [up_ne e] at h'
      exact .inl h'
  | wed a b => exact .inl h
  | parted a b => exact .inl h
  | died a d => exact .inl h
  | renounced a => exact .inl h
  | advance a n => exact .inl h
/-- the children told of -/
def kids (os : List (Option Fct)) : List Str := os.filterMap fun o => match o with
  | some (.child c _) => some c
  | _ => none
theorem kids_len (os : List (Option Fct)) : (kids os).length ≤ os.length := List.length_filterMap_le _ _
theorem kids_mem {os : List (Option Fct)} {x y : Str} (h : some (.child y x) ∈ os) : y ∈ kids os := List.mem_filterMap.mpr ⟨_, h, rfl⟩
end K1
namespace K1
open PySem L2 PyProof.Rows G
/-- all but the new object stays -/
def Kp (p : Addr) (H H' : Hp) : Prop := ∀ b o, H b = some o → b ≠ p → H' b = some o
/-- while the dicts are laid -/
structure Lay (C : Addr) (H Hk : Hp) (p dx : Addr) (fs : List (Str × V)) (ds : List Addr) : Prop where
  hp : Hk p = some (.ins C dx fs)
  kp : Kp p H Hk
  em : ∀ d ∈ ds, Hk d = some (.dK [])
  fr : ∀ d ∈ ds, H d = none
  np : ∀ d ∈ ds, d ≠ p
  nd : ds.Nodup
theorem Lay.step {C : Addr} {H Hk : Hp} {p dx d : Addr} {fs gs : List (Str × V)} {ds : List Addr} (L : Lay C H Hk p dx fs ds) (h : Hk d = none) : Lay C H (upd (upd Hk d (.dK [])) p (.ins C dx gs)) p dx gs (ds ++ [d]) := by
  have dp : d ≠ p := fun e => by
    rw [e, L.hp] at h
    cases h
  have Hd : H d = none := by
    cases e : H d with
    | none => rfl
    | some o => rw [L.kp d o e dp] at h; cases h
  refine ⟨upd_same, fun b o hb ne => ?_, fun x hx => ?_, fun x hx => ?_, fun x hx => ?_, ?_⟩
  · rw [upd_ne ne, upd_ne (ne_of_none hb Hd)]
    exact L.kp b o hb ne
  · rcases List.mem_append.mp hx with m | m
    · rw [upd_ne (L.np x m), upd_ne (ne_of_none (L.em x m) h)]
      exact L.em x m
    · rw [List.mem_singleton.mp m, upd_ne dp, upd_same]
  · rcases List.mem_append.mp hx with m | m
    · exact L.fr x m
    · rw [List.mem_singleton.mp m]
      exact Hd
  · rcases List.mem_append.mp hx with m | m
    · exact L.np x m
    · rw [List.mem_singleton.mp m]
      exact dp
  · refine List.nodup_append.mpr ⟨L.nd, List.pairwise_singleton _ _, fun a ha b hb e => ?_⟩
    rw [List.mem_singleton.mp hb] at e
    have := L.em a ha
    rw [e, h] at this
    cases this
theorem Lay.tabL {C : Addr} {H Hk : Hp} {p dx d : Addr} {fs : List (Str × V)} {ds : List Addr} (L : Lay C H Hk p dx fs ds) (m : d ∈ ds) : TabL Hk d 0 fun _ => [] :=
  ⟨[], ⟨L.em d m, ⟨[], rfl, List.nodup_nil⟩, Nat.le_refl 0⟩, fun _ => .inl ⟨rfl, rfl⟩⟩
theorem Lay.tabV {C : Addr} {H Hk : Hp} {p dx d : Addr} {fs : List (Str × V)} {ds : List Addr} (L : Lay C H Hk p dx fs ds) (m : d ∈ ds) : TabV Hk d 0 fun _ => none :=
  ⟨[], ⟨L.em d m, ⟨[], rfl, List.nodup_nil⟩, Nat.le_refl 0⟩, fun _ => rfl⟩
theorem Lay.fam {C : Addr} {H Hk : Hp} {p dx : Addr} {A : FA} (L : Lay C H Hk p dx A.fl A.all) : FamX C Hk p dx A 0 Fm.none :=
  ⟨L.hp, L.tabL (by simp), L.tabL (by simp), L.tabL (by simp), L.tabL (by simp), L.tabV (by simp), L.tabV (by simp), L.tabV (by simp), L.nd⟩
section
variable {P : Program} {w : World} {K : PySem.W.Frag} {mg : Str → Option Value} {base : Heap}
abbrev nFamI : List Str := ["self", "facts", "at", "fact", "name"]
theorem scFamI : FnScope nFamI ["self", "facts"] (defScope sFamI) := ⟨rfl, rfl, rfl, by decide +kernel, rfl, by decide +kernel, by decide +kernel⟩
/-- Family(facts) -/
def spFamI (C CB CC : Addr) : Sp := fun vs H Q E => ∃ (p a dx : Addr) (xs : List V) (os : List (Option Fct)), vs = [.ref p, .ref a] ∧ H p = some (.ins C dx []) ∧ H a = some (.lst xs) ∧ os.length = xs.length ∧ (∀ (i : Nat) (x : V) (o : Option Fct), xs[i]? = some x → os[i]? = some o → Itm H x o) ∧
  (120 < xs.length → ∀ d H', Kp p H H' → H d = none → H' d = some (.xd [("at", .int 120)]) → E (.ref CB) (some d) H') ∧
  (∀ i : Nat, xs.length ≤ 120 → run Fm.none 0 os = .inr i → ∀ d H', Kp p H H' → H d = none → H' d = some (.xd [("at", .int i)]) → E (.ref CB) (some d) H') ∧
  (∀ F x, xs.length ≤ 120 → run Fm.none 0 os = .inl F → Dsc F.ch x x → (∀ y, Dsc F.ch y y → leT x y = true) → ∀ d H', Kp p H H' → H d = none → H' d = some (.xd [("name", .str x)]) → E (.ref CC) (some d) H') ∧
  (∀ F n, xs.length ≤ 120 → run Fm.none 0 os = .inl F → (∀ y, ¬ Dsc F.ch y y) → ∀ H', Kp p H H' → FamAt C H' p n F → Q .non H')
theorem no_mK (A : FA) : A.fl.lookup ("_contradicts" : Str) = none := by kernel_rfl
theorem no_mL (A : FA) : A.fl.lookup ("_learn" : Str) = none := by kernel_rfl
theorem no_mR (A : FA) : A.fl.lookup ("reaches" : Str) = none := by kernel_rfl
theorem putF_len (f : Str) (v : V) : ∀ fs : List (Str × V), (putF f v fs).length ≤ fs.length + 1
  | [] => Nat.le_refl _
  | kv :: r => by
    show (if kv.1 = f then (kv.1, v) :: r else kv :: putF f v r).length ≤ r.length + 1 + 1
    split
    · simp
    · have := putF_len f v r
      simp only [List.length_cons]
      omega
theorem put7 (a1 a2 a3 a4 a5 a6 a7 : Addr) : putF "_advances" (.ref a7) (putF "_renounced" (.ref a6) (putF "_days" (.ref a5) (putF "_parted" (.ref a4) (putF "_wed" (.ref a3) (putF "_parents" (.ref a2) (putF "_children" (.ref a1) [])))))) = flds a1 a2 a3 a4 a5 a6 a7 := by kernel_rfl
theorem dsc_in {R : Str → List Str} {x y : Str} (h : Dsc R x y) : R x ≠ [] := by
  induction h with
  | one h => exact fun e => by rw [e] at h; cases h
  | more _ _ ih => exact ih
theorem ok_famI {f C CB CC : Addr} {fd : FuncData} (F : Fun K "__init__" "Family.__init__" sFamI f fd) (T : Txt mg) (D : FT K C) (XB : XT P w K mg base "BadFact" "at" CB) (XC : XT P w K mg base "Circular" "name" CC)
    (TF : Has P w K mg base CX0 "is_fact" ["fact"] 2 spFac) (MK : HasM P w K mg base CX0 C "_contradicts" ["self", "fact"] 2 (spCon C)) (ML : HasM P w K mg base CX0 C "_learn" ["self", "fact"] 2 (spLea C)) (MR : HasM P w K mg base CX0 C "reaches" ["self", "name", "wanted"] 2 (spRea C)) :
    FnOk P w K mg base (L2.CX P w) 3 f fd ["self", "facts"] (spFamI C CB CC) := by
  obtain ⟨fF, fdF, mF, kF, bF, GF⟩ := TF.ok
  obtain ⟨fK, fdK, meK, bK, GK⟩ := MK.ok
  obtain ⟨fL, fdL, meL, bL, GL⟩ := ML.ok
  obtain ⟨fR, fdR, meR, bR, GR⟩ := MR.ok
  obtain ⟨fB, fdB, iB, tB, bB, GB⟩ := XB.i
  obtain ⟨fC, fdC, iC, tC, bC, GC⟩ := XC.i
  obtain ⟨t1, m1⟩ := T.most
  refine F.okX scFamI (fun vs H Q E h => ?_) (fun cdv A outer s H vs Q E hr h => ?_)
  · obtain ⟨p, a, dx, xs, os, rfl, _⟩ := h
    rfl
  · obtain ⟨p, a, dx, xs, os, rfl, hp, ha, ho, hI, g1, g2, g3, g4⟩ := h
    have hu := hu_of hr
    refine ⟨_, pss_cons (ps_if (pt_cmpR op_gt (pe_callB call_len_seq (by rfl) T.len PySem.boot_len (pa_cons (pv 1) pa_nil)) (pe_glob (v := .int 120) (by rfl) m1 ⟨_, rfl⟩) (nomark _)) (pss_one (ps_raise rfl (takes_of rfl rfl rfl rfl) (pmk_oex XB.o iB tB GB hr bB .nil pass0 (by rfl) XB.g (pa_cons (pe_glob (v := .int 120) (by rfl) m1 ⟨_, rfl⟩) pa_nil)))) pss_nil)
      (pss_cons (ps_fld (pv 0) pe_dnewK rfl) (pss_cons (ps_fld (pv 0) pe_dnewK rfl) (pss_cons (ps_fld (pv 0) pe_dnewK rfl) (pss_cons (ps_fld (pv 0) pe_dnewK rfl) (pss_cons (ps_fld (pv 0) pe_dnewK rfl) (pss_cons (ps_fld (pv 0) pe_dnewK rfl) (pss_cons (ps_fld (pv 0) pe_dnewK rfl)
      (pss_cons (ps_for (passes_of rfl) rfl (pi_enum (by rfl) T.enum (pa_cons (pv 1) pa_nil)) (pg_tup (n := 2) rfl (pgs_cons (pg_name (i := 2) scFamI.nd rfl (.inl rfl)) (pgs_cons (pg_name (i := 3) scFamI.nd rfl (.inl rfl)) pgs_nil)))
        (pss_cons (ps_if (PW.pt (pw_or (pt_not (pt_val (pe_call GF hr (by rfl) mF kF bF .nil pass0 (pa_cons (pv 3) pa_nil)))) (pw_or1 (pt_val (pe_meth (pv 0) D.cl meK GK hr bK .nil pass0 (pa_cons (pv 3) pa_nil)))))) (pss_one (ps_raise rfl (takes_of rfl rfl rfl rfl) (pmk_oex XB.o iB tB GB hr bB .nil pass0 (by rfl) XB.g (pa_cons (pv 2) pa_nil)))) pss_nil)
        (pss_one (ps_expr (pe_meth (pv 0) D.cl meL GL hr bL .nil pass0 (pa_cons (pv 3) pa_nil))))))
      (pss_one (ps_for (passes_of rfl) rfl (pi_list (pe_callB (cr_sortTxD rfl) (by rfl) T.sorted (by decide +kernel) (pa_cons (pe_fld (pv 0) rfl) pa_nil))) (pg_name (i := 4) scFamI.nd rfl (.inl rfl))
        (pss_one (ps_if (pt_val (pe_meth (pv 0) D.cl meR GR hr bR .nil pass0 (pa_cons (pv 4) (pa_cons (pv 4) pa_nil)))) (pss_one (ps_raise rfl (takes_of rfl rfl rfl rfl) (pmk_oex XC.o iC tC GC hr bC .nil pass0 (by rfl) XC.g (pa_cons (pv 4) pa_nil)))) pss_nil)))))))))))), ?_⟩
    refine ⟨_, rfl, a, xs, rfl, .inl (SqL.of ha), _, _, rfl, rfl, _, rfl, ite2 (fun c => ?_) (fun c => ?_)⟩
    · have c1 : 120 < xs.length := by
        have : (120 : Int) < (xs.length : Int) := of_decide_eq_true c
        omega
      exact mk_read XB.o XB.n fun d H' nd sm e => g1 c1 d H' (fun b o hb _ => sm b o hb) nd e
    · have c1 : xs.length ≤ 120 := by
        have : ¬ (120 : Int) < (xs.length : Int) := fun z => c (decide_eq_true z)
        omega
      have L0 : Lay C H H p dx [] [] := ⟨hp, fun b o hb _ => hb, fun d m => (by cases m), fun d m => (by cases m), fun d m => (by cases m), List.nodup_nil⟩
      intro d1 e1
      refine ⟨_, rfl, p, C, dx, _, rfl, by rw [upd_ne (ne_of_none L0.hp e1)]; exact L0.hp, D.cl, D.n1, by decide, ?_⟩
      have L1 := L0.step (gs := putF "_children" (.ref d1) []) e1
      intro d2 e2
      refine ⟨_, rfl, p, C, dx, _, rfl, by rw [upd_ne (ne_of_none L1.hp e2)]; exact L1.hp, D.cl, D.n2, Nat.lt_of_le_of_lt (show _ ≤ 1 from Nat.le_trans (putF_len _ _ _) (Nat.succ_le_succ (Nat.le_of_eq List.length_nil))) (by decide), ?_⟩
      have L2 := L1.step (gs := putF "_parents" (.ref d2) (putF "_children" (.ref d1) [])) e2
      intro d3 e3
      refine ⟨_, rfl, p, C, dx, _, rfl, by rw [upd_ne (ne_of_none L2.hp e3)]; exact L2.hp, D.cl, D.n3, Nat.lt_of_le_of_lt (show _ ≤ 2 from Nat.le_trans (putF_len _ _ _) (Nat.succ_le_succ (Nat.le_trans (putF_len _ _ _) (Nat.succ_le_succ (Nat.le_of_eq List.length_nil))))) (by decide), ?_⟩
      have L3 := L2.step (gs := putF "_wed" (.ref d3) (putF "_parents" (.ref d2) (putF "_children" (.ref d1) []))) e3
      intro d4 e4
      refine ⟨_, rfl, p, C, dx, _, rfl, by rw [upd_ne (ne_of_none L3.hp e4)]; exact L3.hp, D.cl, D.n4, Nat.lt_of_le_of_lt (show _ ≤ 3 from Nat.le_trans (putF_len _ _ _) (Nat.succ_le_succ (Nat.le_trans (putF_len _ _ _) (Nat.succ_le_succ (Nat.le_trans (putF_len _ _ _) (Nat.succ_le_succ (Nat.le_of_eq List.length_nil))))))) (by decide), ?_⟩
      have L4 := L3.step (gs := putF "_parted" (.ref d4) (putF "_wed" (.ref d3) (putF "_parents" (.ref d2) (putF "_children" (.ref d1) [])))) e4
      intro d5 e5
      refine ⟨_, rfl, p, C, dx, _, rfl, by rw [upd_ne (ne_of_none L4.hp e5)]; exact L4.hp, D.cl, D.n5, Nat.lt_of_le_of_lt (show _ ≤ 4 from Nat.le_trans (putF_len _ _ _) (Nat.succ_le_succ (Nat.le_trans (putF_len _ _ _) (Nat.succ_le_succ (Nat.le_trans (putF_len _ _ _) (Nat.succ_le_succ (Nat.le_trans (putF_len _ _ _) (Nat.succ_le_succ (Nat.le_of_eq List.length_nil))))))))) (by decide), ?_⟩
      have L5 := L4.step (gs := putF "_days" (.ref d5) (putF "_parted" (.ref d4) (putF "_wed" (.ref d3) (putF "_parents" (.ref d2) (putF "_children" (.ref d1) []))))) e5
      intro d6 e6
      refine ⟨_, rfl, p, C, dx, _, rfl, by rw [upd_ne (ne_of_none L5.hp e6)]; exact L5.hp, D.cl, D.n6, Nat.lt_of_le_of_lt (show _ ≤ 5 from Nat.le_trans (putF_len _ _ _) (Nat.succ_le_succ (Nat.le_trans (putF_len _ _ _) (Nat.succ_le_succ (Nat.le_trans (putF_len _ _ _) (Nat.succ_le_succ (Nat.le_trans (putF_len _ _ _) (Nat.succ_le_succ (Nat.le_trans (putF_len _ _ _) (Nat.succ_le_succ (Nat.le_of_eq List.length_nil))))))))))) (by decide), ?_⟩
      have L6 := L5.step (gs := putF "_renounced" (.ref d6) (putF "_days" (.ref d5) (putF "_parted" (.ref d4) (putF "_wed" (.ref d3) (putF "_parents" (.ref d2) (putF "_children" (.ref d1) [])))))) e6
      intro d7 e7
      refine ⟨_, rfl, p, C, dx, _, rfl, by rw [upd_ne (ne_of_none L6.hp e7)]; exact L6.hp, D.cl, D.n7, Nat.lt_of_le_of_lt (show _ ≤ 6 from Nat.le_trans (putF_len _ _ _) (Nat.succ_le_succ (Nat.le_trans (putF_len _ _ _) (Nat.succ_le_succ (Nat.le_trans (putF_len _ _ _) (Nat.succ_le_succ (Nat.le_trans (putF_len _ _ _) (Nat.succ_le_succ (Nat.le_trans (putF_len _ _ _) (Nat.succ_le_succ (Nat.le_trans (putF_len _ _ _) (Nat.succ_le_succ (Nat.le_of_eq List.length_nil))))))))))))) (by decide), ?_⟩
      have L7 := L6.step (gs := flds d1 d2 d3 d4 d5 d6 d7) e7
      have L7' : Lay C H _ p dx (FA.mk d1 d2 d3 d4 d5 d6 d7).fl (FA.mk d1 d2 d3 d4 d5 d6 d7).all := L7
      rw [show putF "_advances" (V.ref d7) (putF "_renounced" (V.ref d6) (putF "_days" (V.ref d5) (putF "_parted" (V.ref d4) (putF "_wed" (V.ref d3) (putF "_parents" (V.ref d2) (putF "_children" (V.ref d1) [])))))) = flds d1 d2 d3 d4 d5 d6 d7 from put7 _ _ _ _ _ _ _]
      clear L6 L5 L4 L3 L2 L1 L0 e7 e6 e5 e4 e3 e2 e1
      generalize upd (upd (upd (upd (upd (upd (upd (upd (upd (upd (upd (upd (upd (upd H d1 (HO.dK [])) p _) d2 (HO.dK [])) p _) d3 (HO.dK [])) p _) d4 (HO.dK [])) p _) d5 (HO.dK [])) p _) d6 (HO.dK [])) p _) d7 (HO.dK [])) p _ = H7 at L7' ⊢
      have frA : ∀ d ∈ (FA.mk d1 d2 d3 d4 d5 d6 d7).all, H d = none := L7'.fr
      have npA : ∀ d ∈ (FA.mk d1 d2 d3 d4 d5 d6 d7).all, d ≠ p := L7'.np
      have X0 : FamX C H7 p dx (FA.mk d1 d2 d3 d4 d5 d6 d7) 0 Fm.none := L7'.fam
      have kp0 : Kp p H H7 := L7'.kp
      clear L7'
      generalize FA.mk d1 d2 d3 d4 d5 d6 d7 = A at frA npA X0
      have ap : a ≠ p := ne_of ha hp (by intro e; cases e)
      have kbar {H1 H2 : Hp} (k : Kp p H H1) (b : Bar A H1 H2) : Kp p H H2 := fun x o hx ne => b x o (k x o hx ne) fun m => by rw [frA x m] at hx; cases hx
      have ksame {H1 H2 : Hp} (k : Kp p H H1) (b : Same H1 H2) : Kp p H H2 := fun x o hx ne => b x o (k x o hx ne)
      have itm {H1 : Hp} (k : Kp p H H1) {x : V} {o : Option Fct} (h : Itm H x o) : Itm H1 x o := by
        cases o with
        | some fc =>
          obtain ⟨q, e1, e2, e3⟩ := h
          exact ⟨q, e1, k _ _ e2 (ne_of e2 hp (by intro e; cases e)), e3⟩
        | none =>
          rcases h with ⟨q, ys, e1, e2, e3⟩ | h
          · exact .inl ⟨q, ys, e1, k _ _ e2 (ne_of e2 hp (by intro e; cases e)), e3⟩
          · rcases h with h | ⟨q, ys, e1, e2⟩
            · exact .inr (.inl h)
            · exact .inr (.inr ⟨q, ys, e1, k _ _ e2 (ne_of e2 hp (by intro e; cases e))⟩)
      refine ⟨_, rfl, a, xs, rfl, SqL.of (kp0 _ _ ha ap), for_it walk_enum (fun i σ Hy => ∃ (F : Fm) (y2 y3 : Option V), σ = [some (.ref p), some (.ref a), y2, y3, none] ∧ run Fm.none 0 os = run F i (os.drop i) ∧ FamX C Hy p dx A (2 * i) F ∧ LenOk F (2 * i) ∧ (∀ x y, y ∈ F.ch x → some (.child y x) ∈ os) ∧ Kp p H Hy)
        ⟨Fm.none, none, none, rfl, rfl, X0, LenOk.none, (fun x y h => (by cases h)), kp0⟩ (fun i σ Hy _ ⟨_, _, _, _, _, _, _, _, k⟩ => SqL.of (k _ _ ha ap)) ?_ ?_⟩
      · rintro i v σ Hy H' hi ⟨F, y2, y3, rfl, er, X, LO, lk, kp⟩ ⟨T, x1, fv, rfl, nT, rfl, e1, e2⟩
        obtain rfl : V.int (i : Int) = x1 := Option.some.inj e1
        obtain ⟨o, eo⟩ : ∃ o, os[i]? = some o := ⟨_, List.getElem?_eq_getElem (by rw [ho]; exact hi)⟩
        have ds : os.drop i = o :: os.drop (i + 1) := List.drop_eq_getElem?_toList_append ▸ by rw [eo]; rfl
        have smT : Same Hy (upd Hy T (.tup [.int i, fv])) := same_upd nT
        have kp1 := ksame kp smT
        have X1 := X.same smT
        refine ⟨T, _, rfl, SqT.of upd_same, rfl, _, _, rfl, _, _, rfl, rfl, ?_⟩
        have it := itm kp1 (hI i fv o e2 eo)
        have free {H2 : Hp} {d : Addr} (k2 : Kp p H H2) (h2 : H2 p = some (.ins C dx A.fl)) (nd : H2 d = none) : H d = none := by
          cases eH : H d with
          | none => rfl
          | some u =>
            by_cases dp : d = p
            · rw [dp, h2] at nd
              cases nd
            · rw [k2 d u eH dp] at nd
              cases nd
        have bad (er2 : run Fm.none 0 os = .inr i) {H2 : Hp} (k2 : Kp p H H2) (h2 : H2 p = some (.ins C dx A.fl)) : ∀ d H', H2 d = none → Same H2 H' → H' d = some (.xd [("at", .int i)]) → E (.ref CB) (some d) H' := fun d H' nd sm e =>
          g2 i c1 er2 d H' (ksame k2 sm) (free k2 h2 nd) e
        rw [ds] at er
        cases o with
        | none =>
          have er2 : run Fm.none 0 os = .inr i := er
          rcases it with ⟨q, ys, rfl, e3, e4, e5⟩ | nt
          · refine ⟨_, rfl, _, rfl, .inl ⟨q, ys, rfl, e3, e4, fun H2 sm2 => ⟨_, rfl, ?_⟩⟩⟩
            rw [e5]
            exact iteT ⟨_, rfl, mk_read XB.o XB.n (bad er2 (ksame kp1 sm2) (sm2 _ _ X1.hp))⟩
          · exact ⟨_, rfl, _, rfl, .inr ⟨nt, fun H2 sm2 => ⟨_, rfl, iteT ⟨_, rfl, mk_read XB.o XB.n (bad er2 (ksame kp1 sm2) (sm2 _ _ X1.hp))⟩⟩⟩⟩
        | some fc =>
          obtain ⟨q, rfl, hq, hf⟩ := it
          refine ⟨_, rfl, _, rfl, .inl ⟨q, fc.vs, rfl, hq, okvs hf, fun H2 sm2 => ⟨_, rfl, ?_⟩⟩⟩
          rw [hf]
          refine iteF ⟨_, rfl, p, dx, _, rfl, sm2 _ _ X1.hp, no_mK A, _, rfl, p, q, 2 * i, F, fc, rfl, (X1.same sm2).at', sm2 _ _ hq, fun H3 sm3 => ⟨_, rfl, ?_⟩⟩
          have sm23 := sm2.trans sm3
          have X3 := X1.same sm23
          have kp3 := ksame kp1 sm23
          have er1 : run Fm.none 0 os = if F.bad fc = true then .inr i else run (F.learn fc) (i + 1) (os.drop (i + 1)) := er
          refine ite2 (fun b => ?_) (fun b => ?_)
          · rw [if_pos b] at er1
            exact ⟨_, rfl, mk_read XB.o XB.n (bad er1 kp3 X3.hp)⟩
          · rw [if_neg b] at er1
            refine ⟨_, rfl, p, dx, _, rfl, X3.hp, no_mL A, _, rfl, p, q, dx, A, 2 * i, F, fc, rfl, X3, sm23 _ _ hq, by omega, LO.mono (by omega), fun H4 X4 br => ?_⟩
            exact ⟨F.learn fc, _, _, rfl, er1, X4, LO.learn fc, fun x y hy => (learn_ch hy).elim (lk x y) fun e => by rw [← e]; exact List.mem_of_getElem? eo, kbar kp3 br⟩
      · rintro σ Hy ⟨F, y2, y3, rfl, er, X, LO, lk, kp⟩
        have er2 : run Fm.none 0 os = .inl F := by
          rw [er, ← ho, List.drop_length]
          rfl
        obtain ⟨kvs, Dk, gk⟩ := X.t1.ex
        obtain ⟨ks, ek, nk⟩ := Dk.ks
        have mem_ks : ∀ y, Dsc F.ch y y → y ∈ srt ks := fun y hy => by
          rcases gk y with ⟨z, _⟩ | ⟨_, l, z, _⟩
          · exact absurd z (dsc_in hy)
          · rw [srt_mem]
            have m : (Sum.inr y : Key) ∈ kvs.map (·.1) := by
              have an := valV_any (Sum.inr y : Key) kvs
              rw [z] at an
              obtain ⟨p, h1, h2⟩ := List.any_eq_true.mp an
              exact List.mem_map.mpr ⟨p, h1, of_decide_eq_true h2⟩
            rw [ek] at m
            obtain ⟨z, hz, e⟩ := List.mem_map.mp m
            rw [← Sum.inr.inj e]
            exact hz
        refine ⟨_, rfl, p, C, dx, _, _, rfl, X.hp, D.cl, D.n1, fl_1, A.a1, kvs, ks, rfl, .inl Dk.dk, ek, fun L nL => ?_⟩
        have smL : Same Hy (upd Hy L (.lst ((srt ks).map V.str))) := same_upd nL
        refine ⟨L, rfl, ⟨_, SqL.of upd_same⟩, for_list (K := K) (a := L) (xs := (srt ks).map V.str) (fun j σ Hz => ∃ y4, σ = [some (.ref p), some (.ref a), y2, y3, y4] ∧ Same (upd Hy L (.lst ((srt ks).map V.str))) Hz ∧ ∀ x ∈ (srt ks).take j, ¬ Dsc F.ch x x)
          ⟨none, rfl, Same.refl _, fun x m => (by cases m)⟩ (fun j σ Hz _ ⟨_, _, z, _⟩ => SqL.of (z _ _ upd_same)) ?_ ?_⟩
        · rintro j v σ Hz hj ⟨y4, rfl, smz, no⟩
          obtain ⟨x, ex, rfl⟩ : ∃ x, (srt ks)[j]? = some x ∧ v = .str x := by
            rw [List.getElem?_map] at hj
            obtain ⟨k, h1, h2⟩ := Option.map_eq_some_iff.mp hj
            exact ⟨k, h1, h2.symm⟩
          have sm1 := smL.trans smz
          refine ⟨_, rfl, p, dx, _, rfl, sm1 _ _ X.hp, no_mR A, _, rfl, _, rfl, p, x, x, 2 * xs.length, F, kids os, rfl, (X.same sm1).at', by have := kids_len os; omega, fun x y hy => kids_mem (lk x y hy), fun x => by have := LO.ch x; omega, fun H2 b sm2 hb => ?_⟩
          cases b with
          | true =>
            refine ⟨_, rfl, iteT ⟨_, rfl, mk_read XC.o XC.n fun d H' nd sm e => ?_⟩⟩
            have kp2 := ksame kp (sm1.trans sm2)
            refine g3 F x c1 er2 (hb.mp rfl) (fun y hy => ?_) d H' (ksame kp2 sm) ?_ e
            · obtain ⟨m, hm⟩ := List.mem_iff_getElem?.mp (mem_ks y hy)
              have mj : j ≤ m := Nat.le_of_not_lt fun lt => no y (List.mem_iff_getElem?.mpr ⟨m, by rw [List.getElem?_take_of_lt lt]; exact hm⟩) hy
              rcases Nat.lt_or_eq_of_le mj with lt | e
              · obtain ⟨h1, e1⟩ := List.getElem?_eq_some_iff.mp ex
                obtain ⟨h2, e2⟩ := List.getElem?_eq_some_iff.mp hm
                rw [← e1, ← e2]
                exact List.pairwise_iff_getElem.mp (srt_pw ks) j m h1 h2 lt
              · subst e
                rw [ex] at hm
                rw [← Option.some.inj hm]
                have := leT_total x x
                rwa [Bool.or_self] at this
            · have h2 : H2 p = some (.ins C dx A.fl) := (sm1.trans sm2) _ _ X.hp
              cases eH : H d with
              | none => rfl
              | some u =>
                by_cases dp : d = p
                · rw [dp, h2] at nd
                  cases nd
                · rw [kp2 d u eH dp] at nd
                  cases nd
          | false =>
            refine ⟨_, rfl, iteF ⟨_, rfl, smz.trans sm2, fun z hz => ?_⟩⟩
            rw [List.take_add_one, ex] at hz
            rcases List.mem_append.mp hz with m | m
            · exact no z m
            · rw [List.mem_singleton.mp m]
              intro q
              have := hb.mpr q
              cases this
        · rintro σ Hz ⟨y4, rfl, smz, no⟩
          rw [List.length_map, List.take_length] at no
          have sm1 := smL.trans smz
          exact g4 F _ c1 er2 (fun y hy => no y (mem_ks y hy) hy) Hz (ksame kp sm1) (X.same sm1).at'
end
end K1
/-! try with several «except X as n» -/
namespace G
open PySem L2 PyProof.Rows PySem.W
inductive HdsA (X : Cx) : List ExceptHandler → List (Value × Nat × (Addr → Value → Option Addr → TS)) → Prop
  | nil : HdsA X [] []
  | cons {x n : Str} {c : Value} {i : Nat} {ts : Addr → Value → Option Addr → TS} {b₀ : Stmt} {suite : List Stmt} {np pos' : Pos} {hds : List ExceptHandler} {l : List (Value × Nat × (Addr → Value → Option Addr → TS))}
      (hi : X.N[i]? = some n) (hln : X.env.kindOf n = some .local) (hc : Names X x c)
      (hsu : ∀ (a : Addr) (oe : Obj) (cls : Value) (d : Option Addr) (pn : List (Addr × Obj)), Zc cls d oe → (∃ vs, oe.data = Data.fields vs) → PSs (X.suite a ((a, oe) :: pn)) (b₀ :: suite) (ts a cls d))
      (r : HdsA X hds l) : HdsA X (.ExceptHandler (some (.Name x np)) (some n) (b₀ :: suite) pos' :: hds) ((c, i, ts) :: l)
def wManyA (K : PySem.W.Frag) (Wout : WX) (D : Ends) : List (Value × Nat × (Addr → Value → Option Addr → TS)) → WX
  | [] => Wout
  | (c, i, ts) :: r => wAs K c i ts (wManyA K Wout D r) D
theorem ps_try_manyA {X : Cx} {body : List Stmt} {h₀ : ExceptHandler} {hds : List ExceptHandler} {l : List (Value × Nat × (Addr → Value → Option Addr → TS))} {pos : Pos} {tb : WX → TS} {Wout : WX}
    (hs : X.stack = X.env :: X.outer) (hf : X.env.frame = some X.env.locals) (hN : X.N.Nodup) (tk : Takes X Wout)
    (hb : ∀ (W : WX) (pn : List (Addr × Obj)) (xe : Value → Shared → Prop), Takes (X.tr pn xe) W → PassesOwn (model X.prog X.w) X.A X.env xe → PSs (X.tr pn xe) body (tb W)) (hh : HdsA X (h₀ :: hds) l) :
    PS X (Stmt.Try body (h₀ :: hds) [] [] pos) fun D σ H => tb (wManyA X.K Wout D l) D σ H := by
  refine ⟨fun pins s σ H D I h => ?_⟩
  have ok := I.ok
  have hfr : X.A.frames = some (X.env :: X.outer) := by rw [ok.frames, hs]
  refine wpAny_Try_except (wpAny_mono ((hb (wManyA X.K Wout D l) (X.pn ++ pins) (fun e s₁ => wpAny (model X.prog X.w) X.A (noteFrame e X.env) (fun _ s₂ => wpAny (model X.prog X.w) X.A (setFlight e none) (fun _ s₃ => wpAny (model X.prog X.w) X.A (handleBy e X.env (h₀ :: hds)) (SP X pins D) X.xe s₃) X.xe s₂) X.xe s₁) ?_ PassesOwn.looking).run [] s σ H D (Inv.toTry I fun e s₁ => wpAny (model X.prog X.w) X.A (noteFrame e X.env) (fun _ s₂ => wpAny (model X.prog X.w) X.A (setFlight e none) (fun _ s₃ => wpAny (model X.prog X.w) X.A (handleBy e X.env (h₀ :: hds)) (SP X pins D) X.xe s₃) X.xe s₂) X.xe s₁) h) (fun f s1 hsp => ?_) fun e s1 he => he)
  · intro u s' xx
    obtain ⟨a, B, sI, pins', σ', H', cls, d, rfl, J', nb, up, sky, na, os, ag, w⟩ := xx
    have J := Inv.ofTry J' ok
    have sky' : Sky B (X.env :: X.outer) a (Zc cls d) X.env.locals s'.heap := by
      rw [← hs]
      exact sky
    refine Sky.land Zc.steady hfr hf sky' fun h3 fl3 up3 => ?_
    have J3 : L2.Inv X pins σ' H' { heap := h3, gens := s'.gens, drawn := s'.drawn, toks := s'.toks, os := s'.os } := Inv.landed J nb fl3.1 (Heap.UpToSlots.trans up up3) os ag
    obtain ⟨oe3, vs3, he3, hz3, hd3⟩ := HandSPX.FlyingZ.there fl3
    have nfr : ¬ a ∈ frs (X.env :: X.outer) := fun hm => by
      obtain ⟨_, o', e', hnf⟩ := Heap.FunFrames.mem fl3.2.2.1 hm
      rw [he3] at e'
      rw [← Option.some.inj e'] at hnf
      exact hnf vs3 hd3
    have nL : a ≠ X.env.locals := fun z => nfr (List.mem_filterMap.mpr ⟨X.env, List.mem_cons_self, by rw [hf, z]⟩)
    have nF : ¬ a ∈ X.fs := fun hm => by
      obtain ⟨e, he, q⟩ := List.mem_filterMap.mp hm
      exact nfr (List.mem_filterMap.mpr ⟨e, List.mem_cons_of_mem X.env he, q⟩)
    have S3 := Inv.suite J3 he3 hd3 na nL nF
    have go : ∀ {hds' : List ExceptHandler} {l' : List (Value × Nat × (Addr → Value → Option Addr → TS))}, HdsA X hds' l' → wManyA X.K Wout D l' cls d σ' H' → wpAny (model X.prog X.w) X.A (handleBy (Value.ref a) X.env hds') (SP X pins D) X.xe { heap := h3, gens := s'.gens, drawn := s'.drawn, toks := s'.toks, os := s'.os } := by
      intro hds' l' hk
      induction hk with
      | nil =>
        intro w
        refine wpAny_handleBy_nil ?_
        obtain ⟨k1, k2, k3, oe, vs, T, oT, ts', he, hz, hd, h1, hr⟩ := id fl3
        refine wpAny_bind (wpAny_field he hd h1 ?_)
        rw [if_neg (by simp)]
        refine wpAny_bind ?_
        rw [hf]
        refine HandSPX.setFlight_upZ fl3 fun h4 hh4 up4 => ?_
        refine wpAny_throw (tk (Value.ref a) { heap := h4, gens := s'.gens, drawn := s'.drawn, toks := s'.toks, os := s'.os } ⟨a, B, sI, pins, σ', H', cls, d, rfl, J, nb, Heap.UpToSlots.trans (Heap.UpToSlots.trans up up3) up4, .inr (.inr ?_), na, os, ag, w⟩)
        rw [hs]
        exact hh4
      | cons hi hln hc hsu r ih =>
        rename_i x n c i ts b₀ suite np pos' hds2 l2
        rintro ⟨b, hb1, hyes, hno⟩
        refine wpAny_handleBy_cons (codeAny_handlers_test ?_) fun q => by cases q
        have LM : W.Looks (model X.prog X.w) h3 (excMatches (Value.ref a) c) b := W.exm_one (Inv.kIn J3) (fun A Q E s k q => wpAny_typeOf_ref (k a oe3 he3) (by rw [hz3.1]; exact q)) hb1
        have test {Q : Value → Shared → Prop} {E : Value → Shared → Prop} (q : Q c { heap := h3, gens := s'.gens, drawn := s'.drawn, toks := s'.toks, os := s'.os }) : wpAny (model X.prog X.w) (X.A.mark (some (Value.ref a))) (eval (Expr.Name x np) X.env) Q E { heap := h3, gens := s'.gens, drawn := s'.drawn, toks := s'.toks, os := s'.os } := by
          obtain ⟨hg, hdbg, hm | ⟨hm, hv, hnn⟩⟩ := hc
          · exact ld_glob S3 hg hm q hdbg
          · exact ld_blt S3 hg hm hv q hnn hdbg
        refine test (W.Looks.here LM ?_)
        cases b with
        | false => exact ih (hno rfl)
        | true =>
          refine codeAny_handlers_suite_as (HandSPX.lands_againZ fl3 fun h4 fl4 up4 => ?_)
          have J4 : L2.Inv X pins σ' H' { heap := h4, gens := s'.gens, drawn := s'.drawn, toks := s'.toks, os := s'.os } := Inv.landed J nb fl4.1 (Heap.UpToSlots.trans (Heap.UpToSlots.trans up up3) up4) os ag
          obtain ⟨oe4, vs4, he4, hz4, hd4⟩ := HandSPX.FlyingZ.there fl4
          have S4 := Inv.suite J4 he4 hd4 na nL nF
          refine store_ok (X := X.suite a ((a, oe4) :: (X.pn ++ pins))) S4 hN hi (.inl hln) (v := .ref a) rfl (fun s5 S5 => ?_) (.inr hln)
          refine wpAny_mono ((hsu a oe4 cls d (X.pn ++ pins) hz4 ⟨vs4, hd4⟩).run [] s5 (List.set σ' i (some (V.ref a))) H' _ S5 (hyes rfl a na)) (fun f s6 hsp => ?_) fun _ _ z => z.elim
          have end_ {σ6 : L2.St} {H6 : Hp} {Q : Unit → Shared → Prop} (S6 : L2.Inv (X.suite a ((a, oe4) :: (X.pn ++ pins))) [] σ6 H6 s6) (hq : ∀ s', L2.Inv X pins (σ6.set i none) H6 s' → Q () s') : wpAny (model X.prog X.w) X.A (do bindName X.env n Value.none; unbindBehindTheSuite X.env n pos') Q X.xe s6 := gone_ok (Inv.unsuite S6 ok) hN hi hln hq
          cases f with
          | next =>
            obtain ⟨σ6, H6, S6, q6⟩ := hsp
            exact end_ S6 fun s7 J7 => ⟨σ6.set i none, H6, J7, q6⟩
          | brk =>
            obtain ⟨σ6, H6, S6, q6⟩ := hsp
            exact end_ S6 fun s7 J7 => ⟨σ6.set i none, H6, J7, q6⟩
          | cont =>
            obtain ⟨σ6, H6, S6, q6⟩ := hsp
            exact end_ S6 fun s7 J7 => ⟨σ6.set i none, H6, J7, q6⟩
          | ret u =>
            obtain ⟨v6, σ6, H6, S6, r6, q6⟩ := hsp
            exact end_ S6 fun s7 J7 => ⟨v6, σ6.set i none, H6, J7, r6, q6⟩
    exact go hh w
  · cases f with
    | next =>
      obtain ⟨σ', H', J', q⟩ := hsp
      exact wpAny_execs_nil ⟨σ', H', Inv.ofTry J' ok, q⟩
    | brk =>
      obtain ⟨σ', H', J', q⟩ := hsp
      exact ⟨σ', H', Inv.ofTry J' ok, q⟩
    | cont =>
      obtain ⟨σ', H', J', q⟩ := hsp
      exact ⟨σ', H', Inv.ofTry J' ok, q⟩
    | ret u =>
      obtain ⟨v, σ', H', J', r, q⟩ := hsp
      exact ⟨v, σ', H', Inv.ofTry J' ok, r, q⟩
/-! C(e), its __init__ may raise, within a try -/
def tMakeS (C : Addr) (sp : Sp) (dvs : List V) (E : L2.St → XK) (t : TA) : TE := fun σ H Q => t σ H fun vs H1 => ∀ x dx, H1 x = none → H1 dx = none → dx ≠ x → sp (.ref x :: (vs ++ dvs)) (upd (upd H1 dx (.own x)) x (.ins C dx [])) (fun v H2 => v = .non ∧ Q (.ref x) H2) (E σ)
section
variable {X : Cx} {CX : CXT} {k : Nat} {f C : Addr} {fd : FuncData} {ps : List Str} {sp : Sp} {dvs : List V} {ds : List Value}
theorem run_makeS {E : XK} {pins : List (Addr × Obj)} {σ : L2.St} {H : Hp} {s : Shared} {Q : VK} {us : List Value} {vs : List V} (M : Mk X.K C f) (F : FnOk X.prog X.w X.K X.mg X.base CX k f fd ps sp) (hr : Room (k + 1) X.A) (hb : L2.Binds X.K fd ps ds) (hd : Vals dvs ds) (hx : PassesAt CX X σ E)
    (I : L2.Inv X pins σ H s) (r : Vals vs us) (h : ∀ x dx, H x = none → H dx = none → dx ≠ x → sp (.ref x :: (vs ++ dvs)) (upd (upd H dx (.own x)) x (.ins C dx [])) (fun v H2 => v = .non ∧ Q (.ref x) H2) E) :
    wpAny (model X.prog X.w) X.A (call (Value.ref C) us) (EP X pins σ Q) X.xe s := by
  have hq := h (s.heap.objs.size + 1) s.heap.objs.size (HOk.fresh I.hok (Nat.le_succ s.heap.objs.size)) (HOk.fresh I.hok (Nat.le_refl s.heap.objs.size)) (Nat.ne_of_lt (Nat.lt_succ_self s.heap.objs.size))
  have I2 := Inv.made (C := C) I
  have r2 : Vals (V.ref (s.heap.objs.size + 1) :: (vs ++ dvs)) (Value.ref (s.heap.objs.size + 1) :: (us ++ ds)) := Paired.cons rfl (Vals.append r hd)
  have hl : (Value.ref (s.heap.objs.size + 1) :: (us ++ ds)).length = ps.length := by
    rw [← Vals.length r2]
    exact F.len _ _ _ _ hq
  refine wpAny_call (make_map (Inv.kIn I) M.makes M.init (beq_iff_eq.mp M.fn) (codeAny_mono (F.run (X.A.under (Code.builtin "type.__call__" { pos := Value.ref C :: us })) X.stack { heap := (s.heap.push W.emptyDict).push (W.instObj C s.heap.objs.size), gens := s.gens, drawn := s.drawn, toks := s.toks, os := s.os } _
    { pos := Value.ref (s.heap.objs.size + 1) :: us } (Value.ref (s.heap.objs.size + 1) :: (us ++ ds)) _ _ E (Room.make hr C us []) (Env0.make (Inv.env0 I2) C us []) (hb _ (Value.ref (s.heap.objs.size + 1) :: us) (Inv.kIn I2) hl) r2 hq) fun r s' hq' => ?_))
  cases r with
  | error e => exact hx pins _ _ e s' I2 hq'
  | ok fl =>
    cases fl with
    | next => exact hq'.elim
    | brk => exact hq'.elim
    | cont => exact hq'.elim
    | ret u =>
      obtain ⟨v, H', I3, rv, ev, q3⟩ := Inv.after I2 hq'
      subst ev
      exact ⟨rv, V.ref (s.heap.objs.size + 1), H', I3, rfl, q3⟩
theorem pe_makeS {E : L2.St → XK} {x : Str} {p pos : Pos} {e : Expr} {es : List Expr} {t : TA} (M : Mk X.K C f) (F : FnOk X.prog X.w X.K X.mg X.base CX k f fd ps sp) (hr : Room (k + 1) X.A) (hg : Gl X x) (hm : X.mg x = some (Value.ref C)) (hb : L2.Binds X.K fd ps ds) (hd : Vals dvs ds)
    (hx : ∀ σ, PassesAt CX X σ (E σ)) (ha : PA X (e :: es) t) (hdb : (x == Str.ofString "__debug__") = false := by decide) (he : starEach (e :: es) X.env = (false, eval e X.env) :: starEach es X.env := by rfl) (hpl : ((backTo pos (starEach es X.env)).any fun x => x.fst) = false := by rfl) :
    PE X ((Expr.Name x p).Call (e :: es) [] pos) (tMakeS C sp dvs E t) :=
  ⟨fun pins s σ H Q I h => wpAny_Call_Name_kw (ld_glob I hg hm (W.callWith_K I.ok.mod.kin M.kp (thn (ha.run pos pins s σ H (fun vs H1 => ∀ x dx, H1 x = none → H1 dx = none → dx ≠ x → sp (.ref x :: (vs ++ dvs)) (upd (upd H1 dx (.own x)) x (.ins C dx [])) (fun v H2 => v = .non ∧ Q (.ref x) H2) (E σ)) I h) fun us s1 hh => by
    obtain ⟨vs, H1, I1, r, q⟩ := hh
    exact ⟨Inv.kIn I1, run_makeS M F hr hb hd (hx σ) I1 r q⟩) he hpl) hdb)⟩
end
end G
namespace K1
open PySem L2 PyProof.Rows G
/-- Family and its errors, as the law asks them -/
structure RT (P : Program) (w : World) (K : PySem.W.Frag) (mg : Str → Option Value) (base : Heap) (C CB CC : Addr) : Prop where
  ini : ∃ (fI : Addr) (fd : FuncData), Mk K C fI ∧ Binds K fd ["self", "facts"] [] ∧ FnOk P w K mg base (L2.CX P w) 3 fI fd ["self", "facts"] (spFamI C CB CC)
  gF : mg "Family" = some (.ref C)
  gB : mg "BadFact" = some (.ref CB)
  gC : mg "Circular" = some (.ref CC)
  xb : XfC K CB
  xc : XfC K CC
  nB : PySem.W.findIn K (.ref CB) "at" = some none
  nC : PySem.W.findIn K (.ref CC) "name" = some none
  e1 : PySem.W.exmOne K (.ref CB) (.ref CB) = some true
  e2 : PySem.W.exmOne K (.ref CC) (.ref CB) = some false
  e3 : PySem.W.exmOne K (.ref CC) (.ref CC) = some true
section
variable {P : Program} {w : World} {K : PySem.W.Frag} {mg : Str → Option Value} {base : Heap}
theorem scRef : FnScope ["facts", "e"] ["facts"] (defScope sRef) := ⟨rfl, rfl, rfl, by decide +kernel, rfl, by decide +kernel, by decide +kernel⟩
/-- what a list of facts is refused with -/
def spRef : Sp := fun vs H Q _ => ∃ (a : Addr) (xs : List V) (os : List (Option Fct)), vs = [.ref a] ∧ H a = some (.lst xs) ∧ os.length = xs.length ∧ (∀ (i : Nat) (x : V) (o : Option Fct), xs[i]? = some x → os[i]? = some o → Itm H x o) ∧
  (120 < xs.length → ∀ l H', Same H H' → H l = none → H' l = some (.lst [.str "fact", .int 120]) → Q (.ref l) H') ∧
  (∀ i : Nat, xs.length ≤ 120 → run Fm.none 0 os = .inr i → ∀ l H', Same H H' → H l = none → H' l = some (.lst [.str "fact", .int i]) → Q (.ref l) H') ∧
  (∀ F x, xs.length ≤ 120 → run Fm.none 0 os = .inl F → Dsc F.ch x x → (∀ y, Dsc F.ch y y → leT x y = true) → ∀ l H', Same H H' → H l = none → H' l = some (.lst [.str "ring", .str x]) → Q (.ref l) H') ∧
  (∀ F, xs.length ≤ 120 → run Fm.none 0 os = .inl F → (∀ y, ¬ Dsc F.ch y y) → ∀ l H', Same H H' → H l = none → H' l = some (.lst []) → Q (.ref l) H')
theorem ok_refusal {f C CB CC : Addr} {fd : FuncData} (F : Fun K "_law_refusal" "_law_refusal" sRef f fd) (R : RT P w K mg base C CB CC) : FnOk P w K mg base CX0 5 f fd ["facts"] spRef := by
  obtain ⟨fI, fdI, M, bI, GI⟩ := R.ini
  refine F.ok scRef (fun vs H Q E h => ?_) (fun cdv A outer s H vs Q E hr h => ?_)
  · obtain ⟨a, xs, os, rfl, _⟩ := h
    rfl
  · obtain ⟨a, xs, os, rfl, ha, ho, hI, g1, g2, g3, g4⟩ := h
    refine ⟨_, pss_cons (ps_try_manyA (tb := fun W => _) (Wout := fun _ _ _ _ => False) rfl rfl scRef.nd takes0
        (fun W pn xe tk _ => pss_one (ps_expr (pe_makeS M GI hr (by rfl) R.gF bI .nil (fun σ => passAt tk σ) (pa_cons (pv 0) pa_nil))))
        (HdsA.cons (i := 1) rfl rfl ⟨rfl, by decide, .inl R.gB⟩ (fun a oe cls d pn hz hf => pss_one (ps_ret (pe_lst (pa_cons pe_str (pa_cons (pe_xf R.xb R.nB hz hf (pv 1)) pa_nil)))))
        (HdsA.cons (i := 1) rfl rfl ⟨rfl, by decide, .inl R.gC⟩ (fun a oe cls d pn hz hf => pss_one (ps_ret (pe_lst (pa_cons pe_str (pa_cons (pe_xf R.xc R.nC hz hf (pv 1)) pa_nil))))) HdsA.nil)))
      (pss_one (ps_ret (pe_lst pa_nil))), ?_⟩
    refine ⟨_, rfl, fun p dx np nd ne => ?_⟩
    have sm1 : Same H (upd (upd H dx (.own p)) p (.ins C dx [])) := (same_upd nd).trans (same_upd (by rw [upd_ne (Ne.symm ne)]; exact np))
    have back {H' : Hp} (k : Kp p (upd (upd H dx (.own p)) p (.ins C dx [])) H') : Same H H' := fun b o hb => k b o (sm1 b o hb) (ne_of_none hb np)
    have itm (i : Nat) (x : V) (o : Option Fct) (h1 : xs[i]? = some x) (h2 : os[i]? = some o) : Itm (upd (upd H dx (.own p)) p (.ins C dx [])) x o := by
      have h := hI i x o h1 h2
      cases o with
      | some fc =>
        obtain ⟨q, e1, e2, e3⟩ := h
        exact ⟨q, e1, sm1 _ _ e2, e3⟩
      | none =>
        rcases h with ⟨q, ys, e1, e2, e3⟩ | h
        · exact .inl ⟨q, ys, e1, sm1 _ _ e2, e3⟩
        · rcases h with h | ⟨q, ys, e1, e2⟩
          · exact .inr (.inl h)
          · exact .inr (.inr ⟨q, ys, e1, sm1 _ _ e2⟩)
    have fr {H' : Hp} {l : Addr} (s : Same H H') (h : H' l = none) : H l = none := s.free h
    refine ⟨p, a, dx, xs, os, rfl, upd_same, sm1 _ _ ha, ho, itm, fun c d H' k fd' e => ?_, fun i c er d H' k fd' e => ?_, fun F x c er hx hm d H' k fd' e => ?_, fun F n c er no H' k hF => ?_⟩
    · refine ⟨true, R.e1, fun _ a1 n1 => ⟨_, rfl, rfl, rfl, d, _, _, rfl, e, rfl, by show 2 ≤ sizeLine; decide, fun l nl => ?_⟩, fun z => by cases z⟩
      exact g1 c l _ ((back k).trans (same_upd nl)) (fr (back k) nl) upd_same
    · refine ⟨true, R.e1, fun _ a1 n1 => ⟨_, rfl, rfl, rfl, d, _, _, rfl, e, rfl, by show 2 ≤ sizeLine; decide, fun l nl => ?_⟩, fun z => by cases z⟩
      exact g2 i c er l _ ((back k).trans (same_upd nl)) (fr (back k) nl) upd_same
    · refine ⟨false, R.e2, (fun z => by cases z), fun _ => ⟨true, R.e3, fun _ a1 n1 => ⟨_, rfl, rfl, rfl, d, _, _, rfl, e, rfl, by show 2 ≤ sizeLine; decide, fun l nl => ?_⟩, fun z => by cases z⟩⟩
      exact g3 F x c er hx hm l _ ((back k).trans (same_upd nl)) (fr (back k) nl) upd_same
    · refine ⟨rfl, Nat.zero_le _, fun l nl => ?_⟩
      exact g4 F c er no l _ ((back k).trans (same_upd nl)) (fr (back k) nl) upd_same
end
end K1
namespace K1
open PySem L2 PyProof.Rows PySem.Spec G
section
variable {P : Program} {w : World} {K : PySem.W.Frag} {mg : Str → Option Value} {base : Heap}
/-! _law_cell -/
theorem scCel : FnScope ["script", "k"] ["script", "k"] (defScope sCel) := ⟨rfl, rfl, rfl, by decide +kernel, rfl, by decide +kernel, by decide +kernel⟩
def spCel (K : PySem.W.Frag) : Sp := fun vs H Q _ => ∃ (a : Addr) (ns : List Int) (k : Int), vs = [.ref a, .int k] ∧ SqL K H a (ns.map V.int) ∧ 0 ≤ k ∧ Q (.int (cell ns k)) H
theorem ok_cell {f : Addr} {fd : FuncData} (F : Fun K "_law_cell" "_law_cell" sCel f fd) (mgLen : mg "len" = none) (mgInt : mg "int" = none) : FnOk P w K mg base CX0 1 f fd ["script", "k"] (spCel K) := by
  refine F.ok scCel (fun vs H Q E h => ?_) (fun cdv A outer s H vs Q E hr h => ?_)
  · obtain ⟨a, ns, k, rfl, _⟩ := h
    rfl
  · obtain ⟨a, ns, k, rfl, hS, hk, go⟩ := h
    refine ⟨_, pss_cons (ps_if (pt_cmpR op_lt (pv 1) (pe_callB call_len_seq (by rfl) mgLen PySem.boot_len (pa_cons (pv 0) pa_nil)) (nomark _))
      (pss_one (ps_ret (pe_callTy call_int1 (by rfl) mgInt (by decide +kernel) (pa_cons (pe_ix ix_list (pv 0) (pv 1) (fun _ _ => rfl)) pa_nil)))) pss_nil) (pss_one (ps_ret pe_int)), ?_⟩
    obtain ⟨j, rfl⟩ : ∃ j : Nat, k = (j : Int) := ⟨k.toNat, by omega⟩
    refine ⟨_, rfl, _, rfl, a, ns.map V.int, rfl, .inl hS, _, _, rfl, rfl, _, rfl, ite2 (fun e => ?_) (fun e => ?_)⟩
    · have e1 : (j : Int) < ((ns.map V.int).length : Int) := of_decide_eq_true e
      rw [List.length_map] at e1
      have hj : j < ns.length := by omega
      refine ⟨_, rfl, _, rfl, a, _, _, .int ns[j], rfl, rfl, hS, atI_nat (by rw [List.getElem?_map, List.getElem?_eq_getElem hj]; rfl), .inl ⟨_, rfl, ?_⟩⟩
      unfold cell at go
      rw [Int.toNat_natCast, List.getElem?_eq_getElem hj] at go
      exact go
    · have e1 : ¬ (j : Int) < ((ns.map V.int).length : Int) := fun z => e (decide_eq_true z)
      rw [List.length_map] at e1
      unfold cell at go
      rw [Int.toNat_natCast, List.getElem?_eq_none_iff.mpr (by omega)] at go
      exact go
/-! _law_numbers -/
theorem scNum : FnScope ["cell", "many", "found", "rest", "k"] ["cell", "many"] (defScope sNum) := ⟨rfl, rfl, rfl, by decide +kernel, rfl, by decide +kernel, by decide +kernel⟩
def spNum : Sp := fun vs H Q _ => ∃ (c : Int) (m : Nat), vs = [.int c, .int (m : Int)] ∧ m ≤ 1000 ∧ ∀ p H' (xs : List Int), Same H H' → H p = none → H' p = some (.lst (xs.map V.int)) → xs.length = m → Nums xs → Q (.ref p) H'
theorem ok_numbers {f : Addr} {fd : FuncData} (F : Fun K "_law_numbers" "_law_numbers" sNum f fd) (mgAbs : mg "abs" = none) (mgInt : mg "int" = none) (mgRange : mg "range" = none) : FnOk P w K mg base CX0 1 f fd ["cell", "many"] spNum := by
  refine F.ok scNum (fun vs H Q E h => ?_) (fun cdv A outer s H vs Q E hr h => ?_)
  · obtain ⟨c, m, rfl, _⟩ := h
    rfl
  · obtain ⟨c, m, rfl, hm, go⟩ := h
    refine ⟨_, pss_cons (ps_set (i := 2) scNum.nd rfl (.inl rfl) (pe_lst pa_nil))
      (pss_cons (ps_set (i := 3) scNum.nd rfl (.inl rfl) (pe_callB call_abs (by rfl) mgAbs (by decide +kernel) (pa_cons (pv 0) pa_nil)))
      (pss_cons (ps_if (pt_cmpR op_ge (pv 3) pe_int (nomark _))
        (pss_cons (ps_for PassesOwn.never rfl (pi_range1 rfl mgRange (pa_cons (pv 1) pa_nil)) (pg_name (i := 4) scNum.nd rfl (.inl rfl))
          (pss_cons (ps_expr (pe_bm PySem.F.plainAttrs_list PySem.F.slot_list_append PySem.F.type_list_append mt_append (pv 2) (pa_cons (pe_op op_mod (pe_callTy call_int1 (by rfl) mgInt (by decide +kernel) (pa_cons (pv 3) pa_nil)) pe_int) pa_nil)))
          (pss_one (ps_set (i := 3) scNum.nd rfl (.inl rfl) (pe_op op_fdiv (pv 3) pe_int)))))
        (pss_one (ps_ret (pv 2)))) pss_nil)
      (pss_cons (ps_for PassesOwn.never rfl (pi_range1 rfl mgRange (pa_cons (pv 1) pa_nil)) (pg_name (i := 4) scNum.nd rfl (.inl rfl))
        (pss_cons (ps_set (i := 3) scNum.nd rfl (.inl rfl) (pe_op op_mod (pe_callTy call_int1 (by rfl) mgInt (by decide +kernel) (pa_cons (pe_op op_add (pe_op op_add (pe_op op_mul (pv 3) pe_int) (pe_op op_mul (pv 4) pe_int)) pe_int) pa_nil)) pe_int))
        (pss_one (ps_expr (pe_bm PySem.F.plainAttrs_list PySem.F.slot_list_append PySem.F.type_list_append mt_append (pv 2) (pa_cons (pe_op op_mod (pe_op op_mod (pe_callTy call_int1 (by rfl) mgInt (by decide +kernel) (pa_cons (pe_op op_mul (pv 3) pe_int) pa_nil)) pe_int) pe_int) pa_nil))))))
      (pss_one (ps_ret (pv 2)))))), ?_⟩
    refine ⟨Nat.zero_le _, fun p np => ⟨_, rfl, _, rfl, ?_⟩⟩
    generalize ea : (if c < 0 then -c else c) = r0
    have r00 : 0 ≤ r0 := by
      rw [← ea]
      split <;> omega
    have keep (Hx : Hp) (xs : List V) : (∀ b o, H b = some o → b ≠ p → Hx b = some o) → ∀ b o, H b = some o → b ≠ p → upd Hx p (.lst xs) b = some o := fun h b o hb hbp => by
      rw [upd_ne hbp]
      exact h b o hb hbp
    refine ⟨_, rfl, _, _, rfl, rfl, _, rfl, ite2 (fun e => ?_) (fun e => ?_)⟩
    · refine ⟨_, rfl, (m : Int), rfl, by omega, by omega, ?_⟩
      rw [Int.toNat_natCast]
      refine for_range (lo := 0) (n := m) (fun i σ Hx => ∃ (xs : List Int) (r : Int) (y : Option V), σ = [some (.int c), some (.int (m : Int)), some (.ref p), some (.int r), y] ∧ (∀ b o, H b = some o → b ≠ p → Hx b = some o) ∧ Hx p = some (.lst (xs.map V.int)) ∧ xs.length = i ∧ Nums xs)
        ⟨[], r0, none, rfl, fun b o hb hbp => by rw [upd_ne hbp]; exact hb, upd_same, rfl, fun x hx => by cases hx⟩ ?_ ?_
      · rintro i σ Hx hi ⟨xs, r, y, rfl, kp, hp, hl, hn⟩
        refine ⟨.ref p, rfl, .inl ⟨rfl, _, SqL.of hp⟩, _, rfl, .inl ⟨_, rfl, _, _, rfl, rfl, (by show (0 : Int) < 1048576; decide), p, _, _, rfl, rfl, hp, by rw [List.length_map]; exact small1000 (by omega), ?_⟩⟩
        refine ⟨_, rfl, _, _, rfl, rfl, ⟨by decide, by decide⟩, xs ++ [r % 1048576], r / 1048576, some (.int (0 + (i : Int))), rfl, keep _ _ kp, ?_, by rw [List.length_append, hl]; rfl, hn.snoc (Int.emod_nonneg _ (by decide)) (Int.emod_lt_of_pos _ (by decide))⟩
        rw [upd_same, List.map_append]
        rfl
      · rintro σ Hx ⟨xs, r, y, rfl, kp, hp, hl, hn⟩
        exact ⟨_, rfl, go p Hx xs (fun b o hb => kp b o hb (ne_of_none hb np)) np hp hl hn⟩
    · have e1 : r0 < 1000000000000000000 := Int.not_le.mp fun z => e (decide_eq_true z)
      refine ⟨_, rfl, (m : Int), rfl, by omega, by omega, ?_⟩
      rw [Int.toNat_natCast]
      refine for_range (lo := 0) (n := m) (fun i σ Hx => ∃ (xs : List Int) (r : Int) (y : Option V), σ = [some (.int c), some (.int (m : Int)), some (.ref p), some (.int r), y] ∧ (∀ b o, H b = some o → b ≠ p → Hx b = some o) ∧ Hx p = some (.lst (xs.map V.int)) ∧ xs.length = i ∧ Nums xs ∧ 0 ≤ r ∧ r < 1000000000000000000)
        ⟨[], r0, none, rfl, fun b o hb hbp => by rw [upd_ne hbp]; exact hb, upd_same, rfl, (fun x hx => by cases hx), r00, e1⟩ ?_ ?_
      · rintro i σ Hx hi ⟨xs, r, y, rfl, kp, hp, hl, hn, b0, b1⟩
        refine ⟨_, rfl, _, _, rfl, rfl, .inl ⟨by omega, by omega⟩, _, rfl, _, _, rfl, rfl, .inl ⟨by omega, by omega⟩, _, _, rfl, rfl, _, _, rfl, rfl, .inl ⟨_, rfl, _, _, rfl, rfl, (by show (0 : Int) < 2147483647; decide), ?_⟩⟩
        have c0 := Int.emod_nonneg (r * 48271 + (0 + (i : Int)) * 7919 + 11) (b := 2147483647) (by decide)
        have c1 := Int.emod_lt_of_pos (r * 48271 + (0 + (i : Int)) * 7919 + 11) (b := 2147483647) (by decide)
        refine ⟨.ref p, rfl, .inl ⟨rfl, _, SqL.of hp⟩, _, rfl, _, _, rfl, rfl, .inl ⟨Int.lt_of_lt_of_le (by decide) c0, Int.lt_trans c1 (by decide)⟩, .inl ⟨_, rfl, _, _, rfl, rfl, (by show (0 : Int) < 2147483629; decide), _, _, rfl, rfl, (by show (0 : Int) < 1048576; decide), p, _, _, rfl, rfl, hp, by rw [List.length_map]; exact small1000 (by omega), ?_⟩⟩
        refine ⟨xs ++ [(r * 48271 + (0 + (i : Int)) * 7919 + 11) % 2147483647 * 69621 % 2147483629 % 1048576], (r * 48271 + (0 + (i : Int)) * 7919 + 11) % 2147483647, some (.int (0 + (i : Int))), rfl, keep _ _ kp, ?_, by rw [List.length_append, hl]; rfl, hn.snoc (Int.emod_nonneg _ (by decide)) (Int.emod_lt_of_pos _ (by decide)), c0, by omega⟩
        rw [upd_same, List.map_append]
        rfl
      · rintro σ Hx ⟨xs, r, y, rfl, kp, hp, hl, hn, b0, b1⟩
        exact ⟨_, rfl, go p Hx xs (fun b o hb => kp b o hb (ne_of_none hb np)) np hp hl hn⟩
/-! _law_feed, _law_take -/
/-- a feed: its dict, its list of numbers -/
structure Feed (H : Hp) (d l : Addr) (at' : Nat) (xs : List Int) : Prop where
  hd : H d = some (.dK [(Sum.inr "at", .int (at' : Int)), (Sum.inr "numbers", .ref l)])
  hl : H l = some (.lst (xs.map V.int))
  ne : 0 < xs.length
  sm : xs.length ≤ 1000
  nu : Nums xs
theorem scFee : FnScope ["cell", "many"] ["cell", "many"] (defScope sFee) := ⟨rfl, rfl, rfl, by decide +kernel, rfl, by decide +kernel, by decide +kernel⟩
def spFee : Sp := fun vs H Q _ => ∃ (c : Int) (m : Nat), vs = [.int c, .int (m : Int)] ∧ 0 < m ∧ m ≤ 1000 ∧ ∀ d l H' (xs : List Int), Same H H' → H d = none → H l = none → Feed H' d l 0 xs → Q (.ref d) H'
theorem ok_feed {f fN : Addr} {fd fdN : FuncData} (F : Fun K "_law_feed" "_law_feed" sFee f fd) (GN : FnOk P w K mg base CX0 1 fN fdN ["cell", "many"] spNum) (mN : mg "_law_numbers" = some (.ref fN)) (kN : PySem.W.keepIn K (.ref fN) = true) (bN : Binds K fdN ["cell", "many"] []) : FnOk P w K mg base CX0 2 f fd ["cell", "many"] spFee := by
  refine F.ok scFee (fun vs H Q E h => ?_) (fun cdv A outer s H vs Q E hr h => ?_)
  · obtain ⟨c, m, rfl, _⟩ := h
    rfl
  · obtain ⟨c, m, rfl, h0, hm, go⟩ := h
    refine ⟨_, pss_one (ps_ret (pe_disp (pps_cons pe_str pe_int (pps_cons pe_str (pe_call GN hr (by rfl) mN kN bN .nil pass0 (pa_cons (pv 0) (pa_cons (pv 1) pa_nil))) pps_nil)) rfl rfl (by simp) (by decide))), ?_⟩
    intro d nd
    refine ⟨_, rfl, _, rfl, c, m, rfl, hm, fun l H' xs sm nl el ln nu => ?_⟩
    have nl' : H l = none := (same_upd nd).free nl
    refine ⟨sm _ _ upd_same, [(Sum.inr "at", .int 0), (Sum.inr "numbers", .ref l)], rfl, (by simp), ?_⟩
    have e : mergeK [] ([(Sum.inr "at", V.int 0), (Sum.inr "numbers", V.ref l)] : List (Key × V)) = ([(Sum.inr "at", V.int ((0 : Nat) : Int)), (Sum.inr "numbers", V.ref l)] : List (Key × V)) := by kernel_rfl
    rw [e]
    have ld : l ≠ d := fun z => by
      rw [z, upd_same] at nl
      cases nl
    refine go d l _ xs (fun b o hb => ?_) nd nl' ⟨upd_same, by rw [upd_ne ld]; exact el, by omega, by omega, nu⟩
    rw [upd_ne (ne_of_none hb nd)]
    exact sm _ _ (by rw [upd_ne (ne_of_none hb nd)]; exact hb)
theorem scTak : FnScope ["feed", "limit", "numbers", "at"] ["feed", "limit"] (defScope sTak) := ⟨rfl, rfl, rfl, by decide +kernel, rfl, by decide +kernel, by decide +kernel⟩
/-- some number below the limit; the feed goes on -/
def spTak : Sp := fun vs H Q _ => ∃ (d l : Addr) (a : Nat) (xs : List Int) (m : Int), vs = [.ref d, .int m] ∧ Feed H d l a xs ∧ a < 100000 ∧ 0 < m ∧ ∀ r H', 0 ≤ r → r < m → But d H H' → Feed H' d l (a + 1) xs → Q (.int r) H'
theorem take_put (a : Int) (l : Addr) : putK ([(Sum.inr "at", V.int a), (Sum.inr "numbers", V.ref l)] : List (Key × V)) (Sum.inr "at" : Key) (V.int (a + 1)) = ([(Sum.inr "at", V.int (a + 1)), (Sum.inr "numbers", V.ref l)] : List (Key × V)) := by kernel_rfl
theorem ok_take {f : Addr} {fd : FuncData} (F : Fun K "_law_take" "_law_take" sTak f fd) (mgInt : mg "int" = none) (mgLen : mg "len" = none) : FnOk P w K mg base CX0 1 f fd ["feed", "limit"] spTak := by
  refine F.ok scTak (fun vs H Q E h => ?_) (fun cdv A outer s H vs Q E hr h => ?_)
  · obtain ⟨d, l, a, xs, m, rfl, _⟩ := h
    rfl
  · obtain ⟨d, l, a, xs, m, rfl, fe, ha, hm, go⟩ := h
    have hu := hu_of hr
    refine ⟨_, pss_cons (ps_set (i := 2) scTak.nd rfl (.inl rfl) (pe_dget hu (pv 0) pe_str (fun _ _ => rfl)))
      (pss_cons (ps_set (i := 3) scTak.nd rfl (.inl rfl) (pe_dget hu (pv 0) pe_str (fun _ _ => rfl)))
      (pss_cons (ps_dput hu (pv 0) pe_str (pe_op op_add (pv 3) pe_int) rfl)
      (pss_one (ps_ret (pe_op op_mod (pe_callTy call_int1 (by rfl) mgInt (by decide +kernel) (pa_cons (pe_op op_fdivW (pe_ix ix_list (pv 2) (pe_op op_mod (pv 3) (pe_callB call_len_seq (by rfl) mgLen PySem.boot_len (pa_cons (pv 2) pa_nil))) (fun _ _ => rfl)) (pe_op op_add pe_int (pe_op op_mul (pe_op op_fdivW (pv 3) (pe_callB call_len_seq (by rfl) mgLen PySem.boot_len (pa_cons (pv 2) pa_nil))) pe_int))) pa_nil)) (pv 1)))))), ?_⟩
    have g1 : DGet H d (.str "numbers") (some (.ref l)) := .inl ⟨_, Sum.inr "numbers", .inl fe.hd, rfl, by kernel_rfl⟩
    have g2 : DGet H d (.str "at") (some (.int (a : Int))) := .inl ⟨_, Sum.inr "at", .inl fe.hd, rfl, by kernel_rfl⟩
    refine ⟨_, rfl, d, _, rfl, g1, _, rfl, d, _, rfl, g2, _, rfl, _, _, rfl, rfl, _, rfl, d, _, rfl, DPut.k (k := Sum.inr "at") fe.hd (small1000 (by simp)), ?_⟩
    rw [take_put]
    have ld : l ≠ d := ne_of fe.hl fe.hd (by intro z; cases z)
    have F2 : Feed (upd H d (.dK [(Sum.inr "at", .int ((a : Int) + 1)), (Sum.inr "numbers", .ref l)])) d l (a + 1) xs := ⟨upd_same, by rw [upd_ne ld]; exact fe.hl, fe.ne, fe.sm, fe.nu⟩
    have p0 : (0 : Int) < (xs.length : Int) := by have := fe.ne; omega
    have r0 := Int.emod_nonneg (a : Int) (b := (xs.length : Int)) (by omega)
    have r1 := Int.emod_lt_of_pos (a : Int) p0
    have hj : ((a : Int) % (xs.length : Int)).toNat < xs.length := by omega
    have q0 : 0 ≤ (a : Int) / (xs.length : Int) := Int.ediv_nonneg (by omega) (by omega)
    have q1 : (a : Int) / (xs.length : Int) ≤ (a : Int) := Int.ediv_le_self _ (by omega)
    have at0 : atI (xs.map V.int) ((a : Int) % (xs.length : Int)) = some (.int xs[((a : Int) % (xs.length : Int)).toNat]) := by
      have := nat_num (xs := xs) hj
      rwa [Int.toNat_of_nonneg r0] at this
    have nx := fe.nu _ (List.getElem_mem hj)
    refine ⟨_, rfl, _, rfl, _, rfl, l, _, rfl, .inl (SqL.of F2.hl), _, _, rfl, rfl, by rw [List.length_map]; exact p0, ?_⟩
    rw [List.length_map]
    have cdv : CDivW (a : Int) (xs.length : Int) := wide_div (b := 64) p0 (by have := fe.sm; rw [Int.natAbs_natCast]; exact Nat.lt_of_le_of_lt this (by decide)) (by decide) (by decide)
    refine ⟨l, _, _, _, rfl, rfl, SqL.of F2.hl, at0, _, rfl, _, rfl, l, _, rfl, .inl (SqL.of F2.hl), _, _, rfl, rfl, by rw [List.length_map]; exact cdv, ?_⟩
    rw [List.length_map]
    refine ⟨_, _, rfl, rfl, .inl ⟨by omega, by omega⟩, _, _, rfl, rfl, _, _, rfl, rfl, ?_, .inl ⟨_, rfl, _, rfl, _, _, rfl, rfl, hm, ?_⟩⟩
    · exact wide_div (b := 64) (by omega) (by omega) (by decide) (by decide)
    · exact go _ _ (Int.emod_nonneg _ (by omega)) (Int.emod_lt_of_pos _ hm) (fun b o hb ne => by rw [upd_ne ne]; exact hb) F2
end
end K1
namespace K1
open PySem L2 PyProof.Rows PySem.Spec G
/-- a text n times -/
def repS (z : Str) (n : Nat) : Str := { cps := List.foldl (fun x1 x2 => x1 ++ x2) #[] (List.replicate n z.cps) }
theorem rep_size (c : Array Nat) : ∀ (n : Nat) (acc : Array Nat), (List.foldl (fun x1 x2 => x1 ++ x2) acc (List.replicate n c)).size = acc.size + n * c.size
  | 0, acc => by simp
  | n + 1, acc => by
    rw [List.replicate_succ, List.foldl_cons, rep_size c n, Array.size_append, Nat.succ_mul]
    omega
theorem rep_len (z : Str) (n : Nat) : (repS z n).length = n * z.length := by
  show (List.foldl (fun x1 x2 => x1 ++ x2) #[] (List.replicate n z.cps)).size = _
  rw [rep_size]
  show 0 + n * z.cps.size = n * z.cps.size
  omega
def rMulS : R2 := fun x y H Q => ∃ (z : Str) (n : Nat), x = .str z ∧ y = .int (n : Int) ∧ 2 ≤ n ∧ n ≤ 1000 ∧ 1 ≤ z.length ∧ z.length ≤ 1000 ∧ Q (.str (repS z n)) H
theorem op_mulS {X : Cx} : OpR X (binaryOp .Mult) rMulS := by
  intro pins s σ H x y v u Q I rx ry h
  obtain ⟨z, n, rfl, rfl, n2, nm, z1, zm, go⟩ := h
  obtain ⟨t, rfl⟩ := rx
  obtain ⟨t', rfl⟩ := ry
  have e : ((n : Int) == 1 || z.length == 0) = false := by
    rw [Bool.or_eq_false_iff]
    exact ⟨by simpa using (by omega : ¬ (n : Int) = 1), by simpa using (by omega : ¬ z.length = 0)⟩
  refine PySem.P.mul_str (by rw [Bool.or_eq_false_iff]; exact ⟨decide_eq_false (by omega), decide_eq_false (by omega)⟩) (fun _ _ => ?_) (fun _ _ => ?_) ?_
  · have h1 : (1000 : Int) ≤ (2 ^ 63 - 1) / (n : Int) := (Int.le_ediv_iff_mul_le (by omega)).mpr (by omega)
    omega
  · have h1 : z.length * ((n : Int)).toNat ≤ 1000 * 1000 := Nat.mul_le_mul zm (by omega)
    exact decide_eq_false (by rw [sizeLine_eq]; omega)
  · rw [if_neg (by omega), e]
    rw [if_neg (by decide), Int.toNat_natCast]
    refine ⟨?_, .str (repS z n), H, I.tok _, ⟨_, rfl⟩, go⟩
    show (repS z n).length ≤ sizeLine
    rw [rep_len, sizeLine_eq]
    have h1 : n * z.length ≤ 1000 * 1000 := Nat.mul_le_mul nm zm
    omega
/-! _law_wrong -/
theorem NoTup.same {H H' : Hp} {v : V} (h : NoTup H v) (s : Same H H') : NoTup H' v := by
  rcases h with h | ⟨q, ys, e1, e2⟩
  · exact .inl h
  · exact .inr ⟨q, ys, e1, s _ _ e2⟩
theorem Itm.same {H H' : Hp} {v : V} {o : Option Fct} (h : Itm H v o) (s : Same H H') : Itm H' v o := by
  cases o with
  | some fc =>
    obtain ⟨q, e1, e2, e3⟩ := h
    exact ⟨q, e1, s _ _ e2, e3⟩
  | none =>
    rcases h with ⟨q, ys, e1, e2, e3⟩ | h
    · exact .inl ⟨q, ys, e1, s _ _ e2, e3⟩
    · exact .inr (h.same s)
/-- all of these are no facts -/
def Bads (H0 H : Hp) (vs : List V) : Prop := Same H0 H ∧ ∀ v ∈ vs, Itm H v none
theorem first_itm (H : Hp) : Bads H H [] := ⟨Same.refl H, fun v h => by cases h⟩
theorem add_itm {H0 H : Hp} {vs : List V} (b : Bads H0 H vs) {v : V} (h : Itm H v none) : Bads H0 H (vs ++ [v]) := ⟨b.1, fun u hu => by
  rcases List.mem_append.mp hu with m | m
  · exact b.2 u m
  · rw [List.mem_singleton.mp m]
    exact h⟩
theorem Bads.go {H0 H H' : Hp} {vs : List V} (b : Bads H0 H vs) (s : Same H H') : Bads H0 H' vs := ⟨b.1.trans s, fun v h => (b.2 v h).same s⟩
theorem new_itm {H0 H : Hp} {vs ys : List V} (hok : ∀ y ∈ ys, OkV y) (hf : factV ys = false) (b : Bads H0 H vs) {T : Addr} (nT : H T = none) : Bads H0 (upd H T (.tup ys)) (vs ++ [.ref T]) :=
  add_itm (b.go (same_upd nT)) (.inl ⟨T, ys, rfl, upd_same, hok, hf⟩)
theorem new_lst {H0 H : Hp} {vs ys : List V} (b : Bads H0 H vs) {T : Addr} (nT : H T = none) : Bads H0 (upd H T (.lst ys)) (vs ++ [.ref T]) :=
  add_itm (b.go (same_upd nT)) (.inr (.inr ⟨T, ys, rfl, upd_same⟩))
def okvB : V → Bool
  | .non => true
  | .bl _ => true
  | .int _ => true
  | .str x => decide (x.length ≤ 1000)
  | _ => false
theorem okv_by {v : V} (h : okvB v = true) : OkV v := by
  cases v with
  | non => exact ⟨rfl, fun x e => by cases e⟩
  | bl b => exact ⟨rfl, fun x e => by cases e⟩
  | int i => exact ⟨rfl, fun x e => by cases e⟩
  | str x => exact okv_w (of_decide_eq_true h)
  | byt b => cases h
  | flt b => cases h
  | ref b => cases h
  | ty b => cases h
section
variable {P : Program} {w : World} {K : PySem.W.Frag} {mg : Str → Option Value} {base : Heap}
theorem scWro : FnScope ["kind", "rows"] ["kind"] (defScope sWro) := ⟨rfl, rfl, rfl, by decide +kernel, rfl, by decide +kernel, by decide +kernel⟩
def spWro : Sp := fun vs H Q _ => ∃ k : Int, vs = [.int k] ∧ ∀ v H', Same H H' → Itm H' v none → Q v H'
theorem ok_wrong {f : Addr} {fd : FuncData} (F : Fun K "_law_wrong" "_law_wrong" sWro f fd) (mgLen : mg "len" = none) : FnOk P w K mg base CX0 1 f fd ["kind"] spWro := by
  refine F.ok scWro (fun vs H Q E h => ?_) (fun cdv A0 outer s H vs Q E hr h => ?_)
  · obtain ⟨k, rfl, _⟩ := h
    rfl
  · obtain ⟨k, rfl, go⟩ := h
    refine ⟨_, pss_cons (ps_set (i := 1) scWro.nd rfl (.inl rfl) (pe_lst (pa_cons (pe_tup pa_nil) (pa_cons pe_int (pa_cons (pe_tup (pa_cons pe_str (pa_cons pe_str pa_nil))) (pa_cons (pe_tup (pa_cons pe_str (pa_cons pe_str (pa_cons pe_str pa_nil)))) (pa_cons (pe_tup (pa_cons pe_str (pa_cons pe_str (pa_cons pe_str pa_nil)))) (pa_cons (pe_tup (pa_cons pe_str (pa_cons pe_str (pa_cons (pe_op op_sub pe_int pe_int) pa_nil)))) (pa_cons (pe_tup (pa_cons pe_str (pa_cons pe_str (pa_cons pe_bl pa_nil)))) (pa_cons (pe_tup (pa_cons pe_str (pa_cons pe_str (pa_cons pe_str pa_nil)))) (pa_cons (pe_tup (pa_cons pe_str (pa_cons pe_str pa_nil))) (pa_cons (pe_tup (pa_cons pe_str (pa_cons pe_str pa_nil))) (pa_cons (pe_tup (pa_cons pe_str (pa_cons pe_str (pa_cons (pe_op op_mulS pe_str pe_int) pa_nil)))) (pa_cons (pe_tup (pa_cons pe_str (pa_cons pe_str (pa_cons pe_str pa_nil)))) (pa_cons (pe_tup (pa_cons pe_str (pa_cons pe_str (pa_cons pe_int pa_nil)))) (pa_cons (pe_lst (pa_cons pe_str (pa_cons pe_str pa_nil))) (pa_cons (pe_tup (pa_cons pe_int (pa_cons pe_str pa_nil))) (pa_cons (pe_tup (pa_cons pe_str (pa_cons pe_str (pa_cons pe_str pa_nil)))) (pa_cons (pe_tup (pa_cons pe_str (pa_cons pe_str (pa_cons pe_str pa_nil)))) (pa_cons (pe_tup (pa_cons pe_str (pa_cons pe_str (pa_cons pe_non pa_nil)))) pa_nil)))))))))))))))))))) (pss_one (ps_ret (pe_ix ix_list (pv 1) (pe_op op_mod (pv 0) (pe_callB call_len_seq (by rfl) mgLen PySem.boot_len (pa_cons (pv 1) pa_nil))) (fun _ _ => rfl)))), ?_⟩
    have A := first_itm H
    refine ⟨(by show 0 ≤ sizeLine; decide), fun T0 n0 => ?_⟩
    have B0 := new_itm (ys := []) (by intro y hy; cases hy) (by decide +kernel) A n0
    have B1 := add_itm B0 (v := .int 7) (.inr (.inl rfl))
    refine ⟨(by show 2 ≤ sizeLine; decide), fun T2 n2 => ?_⟩
    have B2 := new_itm (ys := [.str "child", .str "p1"]) (by intro y hy; simp only [List.mem_cons, List.not_mem_nil, or_false] at hy; rcases hy with rfl | rfl <;> exact okv_by (by decide +kernel)) (by decide +kernel) B1 n2
    refine ⟨(by show 3 ≤ sizeLine; decide), fun T3 n3 => ?_⟩
    have B3 := new_itm (ys := [.str "child", .str "p1", .str "p1"]) (by intro y hy; simp only [List.mem_cons, List.not_mem_nil, or_false] at hy; rcases hy with rfl | rfl | rfl <;> exact okv_by (by decide +kernel)) (by decide +kernel) B2 n3
    refine ⟨(by show 3 ≤ sizeLine; decide), fun T4 n4 => ?_⟩
    have B4 := new_itm (ys := [.str "born", .str "p1", .str "p2"]) (by intro y hy; simp only [List.mem_cons, List.not_mem_nil, or_false] at hy; rcases hy with rfl | rfl | rfl <;> exact okv_by (by decide +kernel)) (by decide +kernel) B3 n4
    refine ⟨_, _, rfl, rfl, (by show 3 ≤ sizeLine; decide), fun T5 n5 => ?_⟩
    have B5 := new_itm (ys := [.str "died", .str "p1", .int (0 - 1)]) (by intro y hy; simp only [List.mem_cons, List.not_mem_nil, or_false] at hy; rcases hy with rfl | rfl | rfl <;> exact okv_by (by decide +kernel)) (by decide +kernel) B4 n5
    refine ⟨(by show 3 ≤ sizeLine; decide), fun T6 n6 => ?_⟩
    have B6 := new_itm (ys := [.str "died", .str "p1", .bl true]) (by intro y hy; simp only [List.mem_cons, List.not_mem_nil, or_false] at hy; rcases hy with rfl | rfl | rfl <;> exact okv_by (by decide +kernel)) (by decide +kernel) B5 n6
    refine ⟨(by show 3 ≤ sizeLine; decide), fun T7 n7 => ?_⟩
    have B7 := new_itm (ys := [.str "died", .str "p1", .str "5"]) (by intro y hy; simp only [List.mem_cons, List.not_mem_nil, or_false] at hy; rcases hy with rfl | rfl | rfl <;> exact okv_by (by decide +kernel)) (by decide +kernel) B6 n7
    refine ⟨(by show 2 ≤ sizeLine; decide), fun T8 n8 => ?_⟩
    have B8 := new_itm (ys := [.str "renounced", .str "crown"]) (by intro y hy; simp only [List.mem_cons, List.not_mem_nil, or_false] at hy; rcases hy with rfl | rfl <;> exact okv_by (by decide +kernel)) (by decide +kernel) B7 n8
    refine ⟨(by show 2 ≤ sizeLine; decide), fun T9 n9 => ?_⟩
    have B9 := new_itm (ys := [.str "renounced", .str "P1"]) (by intro y hy; simp only [List.mem_cons, List.not_mem_nil, or_false] at hy; rcases hy with rfl | rfl <;> exact okv_by (by decide +kernel)) (by decide +kernel) B8 n9
    refine ⟨"a", 13, rfl, rfl, by decide, by decide, by decide +kernel, by decide +kernel, (by show 3 ≤ sizeLine; decide), fun T10 n10 => ?_⟩
    have B10 := new_itm (ys := [.str "wed", .str "p1", .str (repS "a" 13)]) (by intro y hy; simp only [List.mem_cons, List.not_mem_nil, or_false] at hy; rcases hy with rfl | rfl | rfl <;> exact okv_by (by decide +kernel)) (by decide +kernel) B9 n10
    refine ⟨(by show 3 ≤ sizeLine; decide), fun T11 n11 => ?_⟩
    have B11 := new_itm (ys := [.str "renounced", .str "p1", .str "p2"]) (by intro y hy; simp only [List.mem_cons, List.not_mem_nil, or_false] at hy; rcases hy with rfl | rfl | rfl <;> exact okv_by (by decide +kernel)) (by decide +kernel) B10 n11
    refine ⟨(by show 3 ≤ sizeLine; decide), fun T12 n12 => ?_⟩
    have B12 := new_itm (ys := [.str "advance", .str "p1", .int 1000000001]) (by intro y hy; simp only [List.mem_cons, List.not_mem_nil, or_false] at hy; rcases hy with rfl | rfl | rfl <;> exact okv_by (by decide +kernel)) (by decide +kernel) B11 n12
    refine ⟨(by show 2 ≤ sizeLine; decide), fun T13 n13 => ?_⟩
    have B13 := new_lst (ys := [.str "renounced", .str "p1"]) B12 n13
    refine ⟨(by show 2 ≤ sizeLine; decide), fun T14 n14 => ?_⟩
    have B14 := new_itm (ys := [.int 7, .str "p1"]) (by intro y hy; simp only [List.mem_cons, List.not_mem_nil, or_false] at hy; rcases hy with rfl | rfl <;> exact okv_by (by decide +kernel)) (by decide +kernel) B13 n14
    refine ⟨(by show 3 ≤ sizeLine; decide), fun T15 n15 => ?_⟩
    have B15 := new_itm (ys := [.str "wed", .str "p1", .str ""]) (by intro y hy; simp only [List.mem_cons, List.not_mem_nil, or_false] at hy; rcases hy with rfl | rfl | rfl <;> exact okv_by (by decide +kernel)) (by decide +kernel) B14 n15
    refine ⟨(by show 3 ≤ sizeLine; decide), fun T16 n16 => ?_⟩
    have B16 := new_itm (ys := [.str "parted", .str "p 1", .str "p2"]) (by intro y hy; simp only [List.mem_cons, List.not_mem_nil, or_false] at hy; rcases hy with rfl | rfl | rfl <;> exact okv_by (by decide +kernel)) (by decide +kernel) B15 n16
    refine ⟨(by show 3 ≤ sizeLine; decide), fun T17 n17 => ?_⟩
    have B17 := new_itm (ys := [.str "died", .str "p0x", .non]) (by intro y hy; simp only [List.mem_cons, List.not_mem_nil, or_false] at hy; rcases hy with rfl | rfl | rfl <;> exact okv_by (by decide +kernel)) (by decide +kernel) B16 n17
    refine ⟨(by show 18 ≤ sizeLine; decide), fun L nL => ?_⟩
    refine ⟨_, rfl, _, rfl, _, rfl, L, _, rfl, .inl (SqL.of upd_same), _, _, rfl, rfl, (by show (0 : Int) < 18; decide), ?_⟩
    have r0 := Int.emod_nonneg k (b := 18) (by decide)
    have r1 := Int.emod_lt_of_pos k (b := 18) (by decide)
    have pick {Hf : Hp} (xs : List V) (hl : xs.length = 18) (hx : ∀ v ∈ xs, Itm Hf v none) : ∃ v, atI xs (k % 18) = some v ∧ Itm Hf v none := by
      have hj : (k % 18).toNat < xs.length := by omega
      refine ⟨xs[(k % 18).toNat], ?_, hx _ (List.getElem_mem hj)⟩
      have := atI_nat (List.getElem?_eq_getElem hj)
      rwa [Int.toNat_of_nonneg r0] at this
    obtain ⟨v, e1, e2⟩ := pick _ rfl B17.2
    exact ⟨L, _, _, v, rfl, rfl, SqL.of upd_same, e1, go v _ (B17.1.trans (same_upd nL)) (e2.same (same_upd nL))⟩
end
end K1
namespace K1
open PySem L2 PyProof.Rows PySem.Spec G
theorem cut_take (xs : List V) (k : Nat) (h : k ≤ xs.length) : cutV xs none (some (k : Int)) = xs.take k := by
  have e1 : HT.sIx xs.length 0 none = 0 := rfl
  have e2 : HT.sIx xs.length xs.length (some (k : Int)) = k := by
    unfold HT.sIx
    simp only
    rw [if_neg (by omega)]
    omega
  unfold cutV
  rw [e1, e2]
  rfl
theorem cut_drop (xs : List V) (k : Nat) (h : k ≤ xs.length) : cutV xs (some (k : Int)) none = xs.drop k := by
  have e1 : HT.sIx xs.length xs.length none = xs.length := rfl
  have e2 : HT.sIx xs.length 0 (some (k : Int)) = k := by
    unfold HT.sIx
    simp only
    rw [if_neg (by omega)]
    omega
  unfold cutV
  rw [e1, e2, List.take_of_length_le (by rw [List.length_drop]; exact Nat.le_refl _)]
/-- each text once, in the order of the first ones -/
def uniq : List Str → List Str
  | [] => []
  | x :: r => x :: (uniq r).filter fun y => !decide (y = x)
theorem uniq_mem {x : Str} : ∀ {l : List Str}, x ∈ uniq l ↔ x ∈ l
  | [] => Iff.rfl
  | y :: r => by
    show x ∈ y :: (uniq r).filter _ ↔ _
    rw [List.mem_cons, List.mem_cons, List.mem_filter, uniq_mem (l := r)]
    by_cases e : x = y
    · exact ⟨fun _ => .inl e, fun _ => .inl e⟩
    · exact ⟨fun h => h.imp id (·.1), fun h => h.imp id fun m => ⟨m, by rw [decide_eq_false e]; rfl⟩⟩
theorem uniq_nd : ∀ {l : List Str}, (uniq l).Nodup
  | [] => List.nodup_nil
  | y :: r => by
    refine List.nodup_cons.mpr ⟨fun h => ?_, (uniq_nd (l := r)).filter _⟩
    have := (List.mem_filter.mp h).2
    rw [decide_eq_true rfl] at this
    cases this
theorem uniq_snoc (l : List Str) (x : Str) : uniq (l ++ [x]) = uniq l ++ (if x ∈ l then [] else [x]) := by
  induction l with
  | nil => rfl
  | cons y r ih =>
    show y :: (uniq (r ++ [x])).filter _ = (y :: (uniq r).filter _) ++ _
    rw [ih, List.filter_append, List.cons_append]
    congr 2
    by_cases e : x = y
    · subst e
      rw [if_pos List.mem_cons_self]
      by_cases m : x ∈ r
      · rw [if_pos m]
        rfl
      · rw [if_neg m, List.filter_cons, decide_eq_true rfl]
        rfl
    · by_cases m : x ∈ r
      · rw [if_pos m, if_pos (List.mem_cons_of_mem _ m)]
        rfl
      · rw [if_neg m, if_neg fun h => (List.mem_cons.mp h).elim e m, List.filter_cons, decide_eq_false e]
        rfl
section
variable {P : Program} {w : World} {K : PySem.W.Frag} {mg : Str → Option Value} {base : Heap}
abbrev nOnc : List Str := ["names", "k"]
theorem scOnc : FnScope nOnc ["names"] (defScope sOnc) := ⟨rfl, rfl, rfl, by decide +kernel, rfl, by decide +kernel, by decide +kernel⟩
def spOnc : Sp := fun vs H Q _ => ∃ (a : Addr) (zs : List Str), vs = [.ref a] ∧ H a = some (.lst (zs.map V.str)) ∧ zs.length ≤ 900 ∧ ∀ l H', Same H H' → H l = none → H' l = some (.lst ((srt (uniq zs)).map V.str)) → Q (.ref l) H'
theorem ok_once {f : Addr} {fd : FuncData} (F : Fun K "_law_once" "_law_once" sOnc f fd) (mgS : mg "sorted" = none) (mgR : mg "range" = none) (mgL : mg "len" = none) : FnOk P w K mg base CX0 1 f fd ["names"] spOnc := by
  refine F.ok scOnc (fun vs H Q E h => ?_) (fun cdv A outer s H vs Q E hr h => ?_)
  · obtain ⟨a, zs, rfl, _⟩ := h
    rfl
  · obtain ⟨a, zs, rfl, ha, hz, go⟩ := h
    refine ⟨_, pss_one (ps_ret (pe_callB cr_sortTx (by rfl) mgS (by decide +kernel) (pa_cons (pe_lc (own := [("k", 1)]) (g := gName 1) rfl scOnc.nd (pi_range1 rfl mgR (pa_cons (pe_callB call_len_seq (by rfl) mgL PySem.boot_len (pa_cons (pv 0) pa_nil)) pa_nil)) (blkOk_by (N := nOnc) (sc := defScope sOnc) (by decide +kernel))
        (fun _ _ _ _ _ => pg_name (i := 1) scOnc.nd rfl (.inl rfl) (.inr rfl))
        (fun _ _ _ _ _ => pts_one (pt_cmpR (show OpR _ _ (rIn K true) from op_notIn_seq) (pe_ix (show IxR _ (rIxL K) from ix_list) (pv 0) (pv 1) (fun _ _ => rfl)) (pe_slice (show SlR _ (rSlL K) from sl_list) (pv 0) po_none (po_some (pv 1))) (by rfl)))
        (fun _ _ _ _ _ => pe_ix (show IxR _ (rIxL K) from ix_list) (pv 0) (pv 1) (fun _ _ => rfl))) pa_nil))), ?_⟩
    refine ⟨_, rfl, a, _, rfl, .inl (SqL.of ha), ((zs.map V.str).length : Int), rfl, by rw [List.length_map]; omega, by rw [List.length_map]; omega, fun Dn hD => ?_⟩
    rw [Int.toNat_natCast, List.length_map]
    refine lc_it walk_range (fun i Hy => Same H Hy ∧ Hy Dn = some (.lst ((uniq (zs.take i)).map V.str))) ⟨same_upd hD, upd_same⟩ (fun _ _ _ _ => trivial) ?_ ?_
    · rintro i v Hy H' hi ⟨k1, k2⟩ ⟨rfl, rfl⟩
      have ez : (zs.map V.str)[i]? = some (.str zs[i]) := by rw [List.getElem?_map, List.getElem?_eq_getElem hi]; rfl
      have ea := k1 _ _ ha
      show gName 1 (V.int (0 + (i : Int))) _ _ _
      rw [Int.zero_add]
      refine ⟨rfl, _, rfl, _, rfl, a, _, _, _, rfl, rfl, SqL.of ea, atI_nat ez, _, rfl, _, rfl, (i : Int), rfl, a, _, rfl, SqL.of ea, fun T nT => ?_⟩
      rw [cut_take _ _ (by rw [List.length_map]; omega), ← List.map_take]
      refine ⟨T, _, rfl, .inl (SqL.of upd_same), rfl, flat_strs _, _, rfl, ?_⟩
      rw [show (if true = true then !inV (V.str zs[i]) ((zs.take i).map V.str) else inV (V.str zs[i]) ((zs.take i).map V.str)) = !inV (V.str zs[i]) ((zs.take i).map V.str) from if_pos rfl, inV_str]
      have st : uniq (zs.take (i + 1)) = uniq (zs.take i) ++ (if zs[i] ∈ zs.take i then [] else [zs[i]]) := by
        rw [List.take_add_one, List.getElem?_eq_getElem hi]
        exact uniq_snoc _ _
      have TD : Dn ≠ T := ne_of_none k2 nT
      have k1' := k1.trans (same_upd nT (o := .lst ((zs.take i).map V.str)))
      have k2' : upd H' T (.lst ((zs.take i).map V.str)) Dn = some (.lst ((uniq (zs.take i)).map V.str)) := by
        rw [upd_ne TD]
        exact k2
      by_cases m : zs[i] ∈ zs.take i
      · rw [if_pos m, List.append_nil] at st
        rw [decide_eq_true m]
        refine iteF ⟨k1', ?_⟩
        rw [st]
        exact k2'
      · rw [if_neg m] at st
        rw [decide_eq_false m]
        refine iteT ⟨_, rfl, _, rfl, a, _, _, _, rfl, rfl, SqL.of (k1' _ _ ha), atI_nat ez, _, k2', ?_, ?_, ?_⟩
        · rw [List.length_map]
          have h1 : (uniq (zs.take i)).length ≤ (zs.take i).length := by
            clear st k2' k2
            generalize zs.take i = l
            induction l with
            | nil => exact Nat.le_refl _
            | cons y r ih => exact Nat.succ_le_succ (Nat.le_trans (List.length_filter_le _ _) ih)
          rw [List.length_take] at h1
          exact small1000 (by omega)
        · intro b o hb
          rw [upd_ne (ne_of_none hb hD)]
          exact k1' b o hb
        · rw [upd_same, st, List.map_append]
          rfl
    · rintro Hy ⟨k1, k2⟩
      rw [List.take_length] at k2
      refine ⟨Dn, _, rfl, SqL.of k2, fun p np => ?_⟩
      exact go p _ (k1.trans (same_upd np)) (k1.free np) upd_same
end
end K1
namespace K1
open PySem L2 PyProof.Rows PySem.Spec G
/-- a list of facts stands at a -/
def FactsAt (H : Hp) (a : Addr) (fs : List Fct) : Prop := ∃ qs : List Addr, H a = some (.lst (qs.map V.ref)) ∧ qs.length = fs.length ∧ ∀ (i : Nat) (q : Addr) (fc : Fct), qs[i]? = some q → fs[i]? = some fc → H q = some (.tup fc.vs)
theorem FactsAt.same {H H' : Hp} {a : Addr} {fs : List Fct} (h : FactsAt H a fs) (s : Same H H') : FactsAt H' a fs := by
  obtain ⟨qs, e1, e2, e3⟩ := h
  exact ⟨qs, s _ _ e1, e2, fun i q fc h1 h2 => s _ _ (e3 i q fc h1 h2)⟩
/-- the children that facts tell of -/
def chs (fs : List Fct) (x : Str) : List Str := fs.filterMap fun fc => match fc with
  | .child c p => if p = x then some c else none
  | _ => none
theorem chs_mem {fs : List Fct} {x y : Str} : y ∈ chs fs x ↔ Fct.child y x ∈ fs := by
  unfold chs
  rw [List.mem_filterMap]
  constructor
  · rintro ⟨fc, h, e⟩
    cases fc with
    | child c p =>
      have e' : (if p = x then some c else none) = some y := e
      by_cases q : p = x
      · rw [if_pos q] at e'
        rw [← q, ← Option.some.inj e']
        exact h
      · rw [if_neg q] at e'
        cases e'
    | _ => cases e
  · intro h
    exact ⟨_, h, if_pos rfl⟩
/-- children stand above their parents -/
def Rank (fs : List Fct) (rk : Str → Nat) : Prop := ∀ c p, Fct.child c p ∈ fs → rk p < rk c ∧ rk c ≤ 29
/-- what stands after some facts of the j-th round -/
structure Fnd (fs : List Fct) (rk : Str → Nat) (x : Str) (j i : Nat) (zs : List Str) : Prop where
  so : ∀ y ∈ zs, Dsc (chs fs) x y
  co : ∀ y, Dsc (chs fs) x y → rk y ≤ j → y ∈ zs
  nx : ∀ (m : Nat) (c p : Str), m < i → fs[m]? = some (.child c p) → (p = x ∨ (Dsc (chs fs) x p ∧ rk p ≤ j)) → c ∈ zs
  nd : zs.Nodup
theorem Fnd.sub {fs : List Fct} {rk : Str → Nat} {x : Str} {j i : Nat} {zs : List Str} (f : Fnd fs rk x j i zs) : ∀ y ∈ zs, y ∈ kids (fs.map some) := fun y hy => by
  have h := f.so y hy
  cases h with
  | one h => exact kids_mem (List.mem_map.mpr ⟨_, chs_mem.mp h, rfl⟩)
  | more _ h => exact kids_mem (List.mem_map.mpr ⟨_, chs_mem.mp h, rfl⟩)
theorem Fnd.len {fs : List Fct} {rk : Str → Nat} {x : Str} {j i : Nat} {zs : List Str} (f : Fnd fs rk x j i zs) : zs.length ≤ fs.length := by
  have h1 := nodup_le f.nd f.sub
  have h2 := kids_len (fs.map some)
  rw [List.length_map] at h2
  omega
theorem Fnd.round {fs : List Fct} {rk : Str → Nat} (R : Rank fs rk) {x : Str} {j : Nat} {zs : List Str} (f : Fnd fs rk x j fs.length zs) : Fnd fs rk x (j + 1) 0 zs := by
  refine ⟨f.so, fun y hy le => ?_, fun m c p h => by omega, f.nd⟩
  have last : ∃ p, Fct.child y p ∈ fs ∧ (p = x ∨ Dsc (chs fs) x p) := by
    cases hy with
    | one h => exact ⟨x, chs_mem.mp h, .inl rfl⟩
    | more h g => exact ⟨_, chs_mem.mp g, .inr h⟩
  obtain ⟨p, hp, hx⟩ := last
  obtain ⟨m, hm⟩ := List.mem_iff_getElem?.mp hp
  have lt : m < fs.length := (List.getElem?_eq_some_iff.mp hm).1
  have := (R y p hp).1
  exact f.nx m y p lt hm (hx.imp id fun d => ⟨d, by omega⟩)
theorem Fnd.pass {fs : List Fct} {rk : Str → Nat} {x : Str} {j i : Nat} {zs : List Str} (f : Fnd fs rk x j i zs) (h : ∀ c p, fs[i]? = some (.child c p) → (p = x ∨ (Dsc (chs fs) x p ∧ rk p ≤ j)) → c ∈ zs) : Fnd fs rk x j (i + 1) zs :=
  ⟨f.so, f.co, fun m c p lt e hx => (Nat.lt_or_eq_of_le (Nat.le_of_lt_succ lt)).elim (fun l => f.nx m c p l e hx) fun q => h c p (q ▸ e) hx, f.nd⟩
theorem Fnd.add {fs : List Fct} {rk : Str → Nat} {x : Str} {j i : Nat} {zs : List Str} (f : Fnd fs rk x j i zs) {c p : Str} (e : fs[i]? = some (.child c p)) (hp : p = x ∨ p ∈ zs) (hc : c ∉ zs) : Fnd fs rk x j (i + 1) (zs ++ [c]) := by
  have mc : c ∈ chs fs p := chs_mem.mpr (List.mem_of_getElem? e)
  refine ⟨fun y hy => ?_, fun y hy le => List.mem_append_left _ (f.co y hy le), fun m c' p' lt e' hx => ?_, ?_⟩
  · rcases List.mem_append.mp hy with m | m
    · exact f.so y m
    · rw [List.mem_singleton.mp m]
      rcases hp with rfl | hp
      · exact .one mc
      · exact .more (f.so p hp) mc
  · rcases Nat.lt_or_eq_of_le (Nat.le_of_lt_succ lt) with l | q
    · exact List.mem_append_left _ (f.nx m c' p' l e' hx)
    · subst q
      rw [e] at e'
      have := Fct.child.inj (Option.some.inj e')
      rw [← this.1]
      exact List.mem_append_right _ (List.mem_singleton.mpr rfl)
  · exact List.nodup_append.mpr ⟨f.nd, List.pairwise_singleton _ _, fun a ha b hb q => hc (by rw [← List.mem_singleton.mp hb, ← q]; exact ha)⟩
section
variable {P : Program} {w : World} {K : PySem.W.Frag} {mg : Str → Option Value} {base : Heap}
abbrev nBel : List Str := ["facts", "name", "found", "k", "fact"]
theorem scBel : FnScope nBel ["facts", "name"] (defScope sBel) := ⟨rfl, rfl, rfl, by decide +kernel, rfl, by decide +kernel, by decide +kernel⟩
def spBel : Sp := fun vs H Q _ => ∃ (a : Addr) (x : Str) (fs : List Fct) (rk : Str → Nat), vs = [.ref a, .str x] ∧ FactsAt H a fs ∧ fs.length ≤ 200 ∧ Rank fs rk ∧ ∀ l H' (zs : List Str), Same H H' → H l = none → H' l = some (.lst (zs.map V.str)) → (∀ y, y ∈ zs ↔ Dsc (chs fs) x y) → Q (.ref l) H'
theorem ok_below {f : Addr} {fd : FuncData} (F : Fun K "_law_below" "_law_below" sBel f fd) (mgR : mg "range" = none) : FnOk P w K mg base CX0 1 f fd ["facts", "name"] spBel := by
  refine F.ok scBel (fun vs H Q E h => ?_) (fun cdv A outer s H vs Q E hr h => ?_)
  · obtain ⟨a, x, fs, rk, rfl, _⟩ := h
    rfl
  · obtain ⟨a, x, fs, rk, rfl, hF, hn, hR, go⟩ := h
    refine ⟨_, pss_cons (ps_set (i := 2) scBel.nd rfl (.inl rfl) (pe_lst pa_nil))
      (pss_cons (ps_for PassesOwn.never rfl (pi_range1 rfl mgR (pa_cons pe_int pa_nil)) (pg_name (i := 3) scBel.nd rfl (.inl rfl))
        (pss_one (ps_for PassesOwn.never rfl (pi_list (pv 0)) (pg_name (i := 4) scBel.nd rfl (.inl rfl))
          (pss_one (ps_if (PW.pt (pw_and (pt_cmpR op_eq (pe_ix ix_tup (pv 4) pe_int (fun _ _ => rfl)) pe_str (nomark _))
              (pw_and (PW.pt (pw_or (pt_cmpR op_eq (pe_ix ix_tup (pv 4) pe_int (fun _ _ => rfl)) (pv 1) (nomark _)) (pw_or1 (pt_cmpR op_in_seq (pe_ix ix_tup (pv 4) pe_int (fun _ _ => rfl)) (pv 2) (by rfl)))))
              (pw_and1 (pt_cmpR op_notIn_seq (pe_ix ix_tup (pv 4) pe_int (fun _ _ => rfl)) (pv 2) (by rfl))))))
            (pss_one (ps_expr (pe_bm PySem.F.plainAttrs_list PySem.F.slot_list_append PySem.F.type_list_append mt_append (pv 2) (pa_cons (pe_ix ix_tup (pv 4) pe_int (fun _ _ => rfl)) pa_nil)))) pss_nil)))))
      (pss_one (ps_ret (pv 2)))), ?_⟩
    refine ⟨Nat.zero_le _, fun l nl => ?_⟩
    refine ⟨30, rfl, by decide, by decide, for_range (lo := 0) (n := 30) (fun j σ Hy => ∃ (zs : List Str) (y3 y4 : Option V), σ = [some (.ref a), some (.str x), some (.ref l), y3, y4] ∧ Same H Hy ∧ Hy l = some (.lst (zs.map V.str)) ∧ Fnd fs rk x j 0 zs)
      ⟨[], none, none, rfl, same_upd nl, upd_same, ⟨(fun y h => by cases h), (fun y hy le => ?_), (fun m c p h => by omega), List.nodup_nil⟩⟩ ?_ ?_⟩
    · have last : ∃ p, Fct.child y p ∈ fs := by
        cases hy with
        | one h => exact ⟨x, chs_mem.mp h⟩
        | more h g => exact ⟨_, chs_mem.mp g⟩
      obtain ⟨p, hp⟩ := last
      have := (hR y p hp).1
      omega
    · rintro j σ Hy hj ⟨zs, y3, y4, rfl, sm, el, fn⟩
      obtain ⟨qs, e1, e2, e3⟩ := hF
      refine ⟨_, rfl, a, rfl, ⟨_, SqL.of (sm _ _ e1)⟩, for_list (K := K) (a := a) (xs := qs.map V.ref) (fun i σ Hz => ∃ (zs : List Str) (y4 : Option V), σ = [some (.ref a), some (.str x), some (.ref l), some (.int (0 + (j : Int))), y4] ∧ Same H Hz ∧ Hz l = some (.lst (zs.map V.str)) ∧ Fnd fs rk x j i zs)
        ⟨zs, y4, rfl, sm, el, fn⟩ (fun i σ Hz _ ⟨_, _, _, z, _⟩ => SqL.of (z _ _ e1)) ?_ ?_⟩
      · rintro i v σ Hz hi ⟨zs, y4, rfl, sm, el, fn⟩
        obtain ⟨q, eq, rfl⟩ : ∃ q, qs[i]? = some q ∧ v = .ref q := by
          rw [List.getElem?_map] at hi
          obtain ⟨k, h1, h2⟩ := Option.map_eq_some_iff.mp hi
          exact ⟨k, h1, h2.symm⟩
        have il : i < fs.length := by
          rw [← e2]
          exact (List.getElem?_eq_some_iff.mp eq).1
        have ef : fs[i]? = some fs[i] := List.getElem?_eq_getElem il
        have hq : Hz q = some (.tup fs[i].vs) := sm _ _ (e3 i q _ eq ef)
        have hT : SqT K Hz q fs[i].vs := SqT.of hq
        generalize fs[i] = fc at ef hq hT
        cases fc with
        | child c p =>
          refine ⟨_, rfl, q, _, 0, .str "child", rfl, rfl, hT, atI_nat (j := 0) rfl, ?_⟩
          refine ⟨rfl, _, rfl, ?_⟩
          rw [decide_eq_true (rfl : V.str ("child" : Str) = .str ("child" : Str))]
          refine iteT ⟨_, rfl, q, _, 2, .str p, rfl, rfl, hT, atI_nat (j := 2) rfl, _, rfl, rfl, _, rfl, ?_⟩
          by_cases hp0 : p = x
          · have hp : p = x ∨ p ∈ zs := .inl hp0
            rw [decide_eq_true (show V.str p = V.str x by rw [hp0])]
            refine iteT ?_
            refine ⟨_, rfl, q, _, 1, .str c, rfl, rfl, hT, atI_nat (j := 1) rfl, _, rfl, l, _, rfl, .inl (SqL.of el), rfl, flat_strs _, _, rfl, ?_⟩
            rw [show (if true = true then !inV (V.str c) (zs.map V.str) else inV (V.str c) (zs.map V.str)) = !inV (V.str c) (zs.map V.str) from if_pos rfl, inV_str]
            by_cases hc : c ∈ zs
            · rw [decide_eq_true hc]
              exact iteF ⟨zs, _, rfl, sm, el, fn.pass fun c' p' e' _ => by
                rw [ef] at e'
                rw [← (Fct.child.inj (Option.some.inj e')).1]
                exact hc⟩
            · rw [decide_eq_false hc]
              have fl := fn.len
              refine iteT ⟨_, rfl, .inl ⟨rfl, _, .inl (.inl el)⟩, _, rfl, q, _, 1, .str c, rfl, rfl, hT, atI_nat (j := 1) rfl, l, _, _, rfl, rfl, el, ?_, zs ++ [c], _, rfl, ?_, ?_, fn.add ef hp hc⟩
              · rw [List.length_map]
                exact small1000 (by omega)
              · intro b o hb
                rw [upd_ne (ne_of_none hb nl)]
                exact sm b o hb
              · rw [upd_same, List.map_append]
                rfl
          · rw [decide_eq_false (show ¬ V.str p = V.str x from fun z => hp0 (V.str.inj z))]
            refine iteF ⟨_, rfl, q, _, 2, .str p, rfl, rfl, hT, atI_nat (j := 2) rfl, _, rfl, l, _, rfl, .inl (SqL.of el), rfl, flat_strs _, _, rfl, ?_⟩
            rw [show (if false = true then !inV (V.str p) (zs.map V.str) else inV (V.str p) (zs.map V.str)) = inV (V.str p) (zs.map V.str) from if_neg (by decide), inV_str]
            by_cases hp1 : p ∈ zs
            · have hp : p = x ∨ p ∈ zs := .inr hp1
              rw [decide_eq_true hp1]
              refine iteT ?_
              refine ⟨_, rfl, q, _, 1, .str c, rfl, rfl, hT, atI_nat (j := 1) rfl, _, rfl, l, _, rfl, .inl (SqL.of el), rfl, flat_strs _, _, rfl, ?_⟩
              rw [show (if true = true then !inV (V.str c) (zs.map V.str) else inV (V.str c) (zs.map V.str)) = !inV (V.str c) (zs.map V.str) from if_pos rfl, inV_str]
              by_cases hc : c ∈ zs
              · rw [decide_eq_true hc]
                exact iteF ⟨zs, _, rfl, sm, el, fn.pass fun c' p' e' _ => by
                  rw [ef] at e'
                  rw [← (Fct.child.inj (Option.some.inj e')).1]
                  exact hc⟩
              · rw [decide_eq_false hc]
                have fl := fn.len
                refine iteT ⟨_, rfl, .inl ⟨rfl, _, .inl (.inl el)⟩, _, rfl, q, _, 1, .str c, rfl, rfl, hT, atI_nat (j := 1) rfl, l, _, _, rfl, rfl, el, ?_, zs ++ [c], _, rfl, ?_, ?_, fn.add ef hp hc⟩
                · rw [List.length_map]
                  exact small1000 (by omega)
                · intro b o hb
                  rw [upd_ne (ne_of_none hb nl)]
                  exact sm b o hb
                · rw [upd_same, List.map_append]
                  rfl
            · rw [decide_eq_false hp1]
              exact iteF ⟨zs, _, rfl, sm, el, fn.pass fun c' p' e' hx => by
                rw [ef] at e'
                have := Fct.child.inj (Option.some.inj e')
                rw [← this.2] at hx
                rcases hx with hx | hx
                · exact absurd hx hp0
                · exact absurd (fn.co p hx.1 hx.2) hp1⟩
        | wed c p =>
          refine ⟨_, rfl, q, _, 0, .str "wed", rfl, rfl, hT, atI_nat (j := 0) rfl, rfl, _, rfl, ?_⟩
          rw [decide_eq_false (show ¬ V.str ("wed" : Str) = .str ("child" : Str) by decide +kernel)]
          exact iteF ⟨zs, _, rfl, sm, el, fn.pass fun c' p' e' _ => (by rw [ef] at e'; cases Option.some.inj e')⟩
        | parted c p =>
          refine ⟨_, rfl, q, _, 0, .str "parted", rfl, rfl, hT, atI_nat (j := 0) rfl, rfl, _, rfl, ?_⟩
          rw [decide_eq_false (show ¬ V.str ("parted" : Str) = .str ("child" : Str) by decide +kernel)]
          exact iteF ⟨zs, _, rfl, sm, el, fn.pass fun c' p' e' _ => (by rw [ef] at e'; cases Option.some.inj e')⟩
        | died c p =>
          refine ⟨_, rfl, q, _, 0, .str "died", rfl, rfl, hT, atI_nat (j := 0) rfl, rfl, _, rfl, ?_⟩
          rw [decide_eq_false (show ¬ V.str ("died" : Str) = .str ("child" : Str) by decide +kernel)]
          exact iteF ⟨zs, _, rfl, sm, el, fn.pass fun c' p' e' _ => (by rw [ef] at e'; cases Option.some.inj e')⟩
        | renounced c =>
          refine ⟨_, rfl, q, _, 0, .str "renounced", rfl, rfl, hT, atI_nat (j := 0) rfl, rfl, _, rfl, ?_⟩
          rw [decide_eq_false (show ¬ V.str ("renounced" : Str) = .str ("child" : Str) by decide +kernel)]
          exact iteF ⟨zs, _, rfl, sm, el, fn.pass fun c' p' e' _ => (by rw [ef] at e'; cases Option.some.inj e')⟩
        | advance c p =>
          refine ⟨_, rfl, q, _, 0, .str "advance", rfl, rfl, hT, atI_nat (j := 0) rfl, rfl, _, rfl, ?_⟩
          rw [decide_eq_false (show ¬ V.str ("advance" : Str) = .str ("child" : Str) by decide +kernel)]
          exact iteF ⟨zs, _, rfl, sm, el, fn.pass fun c' p' e' _ => (by rw [ef] at e'; cases Option.some.inj e')⟩
      · rintro σ Hz ⟨zs, y4, rfl, sm, el, fn⟩
        rw [List.length_map, e2] at fn
        exact ⟨zs, _, _, rfl, sm, el, fn.round hR⟩
    · rintro σ Hy ⟨zs, y3, y4, rfl, sm, el, fn⟩
      refine ⟨_, rfl, go l Hy zs sm nl el fun y => ⟨fn.so y, fun d => fn.co y d ?_⟩⟩
      have last : ∃ p, Fct.child y p ∈ fs := by
        cases d with
        | one h => exact ⟨x, chs_mem.mp h⟩
        | more h g => exact ⟨_, chs_mem.mp g⟩
      obtain ⟨p, hp⟩ := last
      have := (hR y p hp).2
      omega
end
end K1
/-! defs that show nested data: what they promise where no showing is under way -/
namespace G
open PySem L2 PyProof.Rows PySem.W
structure FnG (P : Program) (w : World) (K : PySem.W.Frag) (mg : Str → Option Value) (base : Heap) (CX : CXT) (k : Nat) (f : Addr) (fd : FuncData) (ps : List Str) (sp : Sp) : Prop where
  len : ∀ (vs : List V) (H : Hp) (Q : VK) (E : XK), sp vs H Q E → vs.length = ps.length
  run : ∀ (A : Around) (outer : List Env) (s : Shared) (H : Hp) (args : Args) (us : List Value) (vs : List V) (Q : VK) (E : XK),
    Room k A → A.guards = some [] → Env0 P w K mg base A outer s H → BindsTo s fd args (ps.zip us) → Vals vs us → sp vs H Q E → codeAny (model P w) A (Code.call (Value.ref f) args) (CR CX outer P w H s Q E) s
theorem FnG.of {P : Program} {w : World} {K : PySem.W.Frag} {mg : Str → Option Value} {base : Heap} {CX : CXT} {k : Nat} {f : Addr} {fd : FuncData} {ps : List Str} {sp : Sp} (F : FnOk P w K mg base CX k f fd ps sp) : FnG P w K mg base CX k f fd ps sp :=
  ⟨F.len, fun A outer s H args us vs Q E hr _ => F.run A outer s H args us vs Q E hr⟩
section
variable {CX : CXT} {P : Program} {w : World} {K : PySem.W.Frag} {mg : Str → Option Value} {base : Heap}
theorem fnG_of {k : Nat} {f : Addr} {name qual : Str} {params : Arguments} {body : List Stmt} {scope : Scope} {dV kV doc pm cdv ct oc : Value} {an od : Option Addr} {osl : Array (Option Value)} {N ps : List Str} {sp : Sp}
    (lk : List.lookup f K = some { cls := oc, dict := od, data := Data.func (fnOf name qual params body scope dV kV doc pm an cdv ct), slots := osl }) (hcd : codeIn K cdv qual = true) (S : FnScope N ps scope)
    (len : ∀ (vs : List V) (H : Hp) (Q : VK) (E : XK), sp vs H Q E → vs.length = ps.length)
    (hbody : ∀ (A : Around) (outer : List Env) (s : Shared) (H : Hp) (vs : List V) (Q : VK) (E : XK), Room k (A.deeper (envOfC qual scope s.heap.objs.size f cdv)) → A.guards = some [] → sp vs H Q E →
      ∃ t, PSs (cxOf CX P w K mg base N qual scope f cdv A outer s H E) body t ∧ t { nx := fun x H' => Q V.non H', rt := Q } (L2.start N vs) H) :
    FnG P w K mg base CX (k + 1) f (fnOf name qual params body scope dV kV doc pm an cdv ct) ps sp := by
  refine ⟨len, fun A outer s H args us vs Q E hr hg e0 hb r hsp => ?_⟩
  have hl := len vs H Q E hsp
  have KX : K.In s.heap := W.Frag.In.keeps e0.mod.kin fun b o e => (e0.bs b o e).1
  have lim := Heap.NoLimit.keeps e0.mod.nolimit fun b o e => (e0.bs b o e).1
  have hkind : ∀ (x : Str × Value), x ∈ ps.zip us → List.lookup x.fst scope.names = some NameKind.local ∨ List.lookup x.fst scope.names = some NameKind.cell ∧ (List.lookup x.fst (cellsFrom (s.heap.objs.size + 1) scope.names [])).isSome = true := by
    rintro ⟨n, v⟩ hy
    rcases S.par n (List.of_mem_zip hy).1 with q | q
    · exact .inl q
    · exact .inr ⟨q, W.cellsFrom_some scope.names (s.heap.objs.size + 1) [] (.inl q)⟩
  refine codeAny_call_function (Room.depth hr) (KX f _ lk) rfl S.co S.gen rfl (W.codeRec_of KX hcd) (hb (model P w) A.in1 (fun e s' => CR CX outer P w H s Q E (Except.error e) s') (fun binds s₁ => wpAny (model P w) A.in1 (newFunctionEnv (fnOf name qual params body scope dV kV doc pm an cdv ct).scope (fnOf name qual params body scope dV kV doc pm an cdv ct).globals (fnOf name qual params body scope dV kV doc pm an cdv ct).closure binds ((fnOf name qual params body scope dV kV doc pm an cdv ct).qualname ++ Str.ofString ".<locals>.") (some f) (fnOf name qual params body scope dV kV doc pm an cdv ct).code none (fnOf name qual params body scope dV kV doc pm an cdv ct).builtins) (fun env s₂ => s₂.heap.NoLimit ∧ codeAny (model P w) A (Code.func body env) (CR CX outer P w H s Q E) s₂) (fun e s' => CR CX outer P w H s Q E (Except.error e) s') s₁) ?_)
  refine wpAny_newFunctionEnv_cells S.kind hkind fun env he s1 x => ?_
  subst he
  refine ⟨Heap.NoLimit.keeps lim x.toInCall.keep, codeAny_func ?_⟩
  obtain ⟨t, ht, hq⟩ := hbody A outer s H vs Q E (Room.deeper hr (envOfC qual scope s.heap.objs.size f cdv)) hg hsp
  have I := inv_start (CX := CX) (E := E) S hr.hd e0 hl r x
  refine wpAny_mono (ht.run [] s1 (L2.start N vs) H { nx := fun x H' => Q V.non H', rt := Q } I hq) (fun fl s' hs => ?_) fun e s' hs => hs
  have fin : ∀ {σ' : L2.St} {H' : Hp} {v : V} {u : Value}, L2.Inv (cxOf CX P w K mg base N qual scope f cdv A outer s H E) [] σ' H' s' → L2.RelV v u → Q v H' → CE outer P w H s Q u s' := fun {σ'} {H'} {v} {u} J rv q => ⟨v, H', J.os, J.bare, J.base, J.hok, rv, q⟩
  cases fl with
  | next =>
    obtain ⟨σ', H', J, q⟩ := hs
    exact fin J (show L2.RelV V.non Value.none from rfl) q
  | brk =>
    obtain ⟨_, _, _, q⟩ := hs
    exact q.elim
  | cont =>
    obtain ⟨_, _, _, q⟩ := hs
    exact q.elim
  | ret u =>
    obtain ⟨v, σ', H', J, rv, q⟩ := hs
    exact fin J rv q
theorem okG {x qual : Str} {st : Stmt} {f : Addr} {fd : FuncData} {N ps : List Str} {k : Nat} {sp : Sp} (F : Fun K x qual st f fd) (S : FnScope N ps (defScope st)) (len : ∀ (vs : List V) (H : Hp) (Q : VK) (E : XK), sp vs H Q E → vs.length = ps.length)
    (hbody : ∀ (cdv : Value) (A : Around) (outer : List Env) (s : Shared) (H : Hp) (vs : List V) (Q : VK) (E : XK), Room k (A.deeper (envOfC qual (defScope st) s.heap.objs.size f cdv)) → A.guards = some [] → sp vs H Q E →
      ∃ t, PSs (cxOf CX0 P w K mg base N qual (defScope st) f cdv A outer s H E).nox (defBody st) t ∧ t { nx := fun x H' => Q V.non H', rt := Q } (L2.start N vs) H) :
    FnG P w K mg base CX0 (k + 1) f fd ps sp := by
  obtain ⟨oc, od, kV, doc, pm, an, cdv, ct, osl, rfl, lk, hcd⟩ := F.ex
  exact fnG_of lk hcd S len fun A outer s H vs Q E hr hg hsp => by
    obtain ⟨t, h, q⟩ := hbody cdv A outer s H vs Q E hr hg hsp
    exact ⟨t, h.nox, q⟩
end
theorem run_fnG {X : Cx} {CX : CXT} {k : Nat} {f : Addr} {fd : FuncData} {ps : List Str} {sp : Sp} {dvs : List V} {ds : List Value} {E : XK} {pins : List (Addr × Obj)} {σ : L2.St} {H : Hp} {s : Shared} {Q : VK} {us : List Value} {vs : List V}
    (F : FnG X.prog X.w X.K X.mg X.base CX k f fd ps sp) (hr : Room k X.A) (hg : X.A.guards = some []) (hb : L2.Binds X.K fd ps ds) (hd : Vals dvs ds) (hx : Passes CX X E) (I : L2.Inv X pins σ H s) (r : Vals vs us) (h : sp (vs ++ dvs) H Q E) :
    wpAny (model X.prog X.w) X.A (call (Value.ref f) us) (EP X pins σ Q) X.xe s := by
  have r2 := Vals.append r hd
  have hl : (us ++ ds).length = ps.length := by
    rw [← Vals.length r2]
    exact F.len _ _ _ _ h
  refine wpAny_call (codeAny_mono (F.run X.A X.stack s H { pos := us } (us ++ ds) (vs ++ dvs) Q E hr hg (Inv.env0 I) (hb s us (Inv.kIn I) hl) r2 h) fun r s' hq => ?_)
  cases r with
  | error e => exact hx pins σ H s e s' I hq
  | ok fl =>
    cases fl with
    | next => exact hq.elim
    | brk => exact hq.elim
    | cont => exact hq.elim
    | ret u => exact Inv.after I hq
theorem pe_callG {X : Cx} {CX : CXT} {k : Nat} {f : Addr} {fd : FuncData} {ps : List Str} {sp : Sp} {dvs : List V} {ds : List Value} {E : XK} {x : Str} {p pos : Pos} {e : Expr} {es : List Expr} {t : TA}
    (F : FnG X.prog X.w X.K X.mg X.base CX k f fd ps sp) (hr : Room k X.A) (hgd : X.A.guards = some []) (hg : Gl X x) (hm : X.mg x = some (Value.ref f)) (hk : PySem.W.keepIn X.K (Value.ref f) = true) (hb : L2.Binds X.K fd ps ds) (hd : Vals dvs ds) (hx : Passes CX X E) (ha : PA X (e :: es) t)
    (hdb : (x == Str.ofString "__debug__") = false := by decide) (he : starEach (e :: es) X.env = (false, eval e X.env) :: starEach es X.env := by rfl) (hpl : ((backTo pos (starEach es X.env)).any fun x => x.fst) = false := by rfl) :
    PE X ((Expr.Name x p).Call (e :: es) [] pos) (tCall sp dvs E t) :=
  ⟨fun pins s σ H Q I h => wpAny_Call_Name_kw (ld_glob I hg hm (W.callWith_K I.ok.mod.kin hk (thn (ha.run pos pins s σ H (fun vs H1 => sp (vs ++ dvs) H1 Q E) I h) fun us s1 hh => by
    obtain ⟨vs, H1, I1, r, q⟩ := hh
    exact ⟨Inv.kIn I1, run_fnG F hr hgd hb hd hx I1 r q⟩) he hpl) hdb)⟩
/-! repr of nested data -/
def rRepr (K : PySem.W.Frag) : List V → Hp → VK → Prop := fun vs H Q => ∃ (a : Addr) (d : PyData), vs = [.ref a] ∧ Dp K H (.ref a) d ∧ d.showable = true ∧ d.hasDict = false ∧ d.depth ≤ 64 ∧ d.shown.length ≤ sizeLine ∧ Q (.str d.shown) H
theorem cr_repr {X : Cx} (hg : X.A.guards = some []) (hu : X.A.units + 65 < cLine) : CallR X (.builtin "repr") (rRepr X.K) := by
  intro pins s σ H vs us Q I r h
  obtain ⟨a, d, rfl, hd, h1, h2, h3, h4, go⟩ := h
  obtain ⟨u, rfl, ru⟩ := vals1 r
  obtain rfl : u = Value.ref a := ru
  obtain ⟨as, hr⟩ := Dp.reads I d (.ref a) (.ref a) hd rfl
  refine repr_of_reads' hr h1 (fun e => by rw [h2] at e; cases e) hg (by omega) (fun b o e => e) (fun h' u tk k => ?_) h4
  exact ⟨.str d.shown, H, I.kept k, ⟨u, rfl⟩, go⟩
end G
namespace K1
open PySem L2 PyProof.Rows PySem.Spec G
/-! facts as data -/
def _root_.G.Fct.ds : Fct → List PyData
  | .child c p => [.str "child", .str c, .str p]
  | .wed a b => [.str "wed", .str a, .str b]
  | .parted a b => [.str "parted", .str a, .str b]
  | .died a d => [.str "died", .str a, .int d]
  | .renounced a => [.str "renounced", .str a]
  | .advance a n => [.str "advance", .str a, .int n]
theorem dp_fct {K : PySem.W.Frag} {H : Hp} {q : Addr} {fc : Fct} (h : H q = some (.tup fc.vs)) : Dp K H (.ref q) (.tuple fc.ds) := by
  refine .tup (SqT.of h) ?_
  cases fc with
  | child c p => exact .cons (.str _) (.cons (.str _) (.cons (.str _) .nil))
  | wed c p => exact .cons (.str _) (.cons (.str _) (.cons (.str _) .nil))
  | parted c p => exact .cons (.str _) (.cons (.str _) (.cons (.str _) .nil))
  | died c p => exact .cons (.str _) (.cons (.str _) (.cons (.int _) .nil))
  | renounced c => exact .cons (.str _) (.cons (.str _) .nil)
  | advance c p => exact .cons (.str _) (.cons (.str _) (.cons (.int _) .nil))
def datas (fs : List Fct) : List PyData := fs.map fun fc => .tuple fc.ds
theorem dp_all {K : PySem.W.Frag} {H : Hp} : ∀ {qs : List Addr} {fs : List Fct}, qs.length = fs.length → (∀ (i : Nat) (q : Addr) (fc : Fct), qs[i]? = some q → fs[i]? = some fc → H q = some (.tup fc.vs)) → DpAll K H (qs.map V.ref) (datas fs)
  | [], [], _, _ => .nil
  | q :: qs, fc :: fs, e, h => .cons (dp_fct (h 0 q fc rfl rfl)) (dp_all (Nat.succ.inj e) fun i q' fc' h1 h2 => h (i + 1) q' fc' h1 h2)
theorem dp_facts {K : PySem.W.Frag} {H : Hp} {a : Addr} {fs : List Fct} (h : FactsAt H a fs) : Dp K H (.ref a) (.list (datas fs)) := by
  obtain ⟨qs, e1, e2, e3⟩ := h
  exact .lst (SqL.of e1) (dp_all e2 e3)
theorem eqv_cons (w v : Str) (r t : List PyData) : PyData.eqv (.tuple (.str w :: r)) (.tuple (.str v :: t)) = ((w == v) && PyData.eqv (.tuple r) (.tuple t)) := rfl
theorem eqv_consI (i j : Int) (r t : List PyData) : PyData.eqv (.tuple (.int i :: r)) (.tuple (.int j :: t)) = ((i == j) && PyData.eqv (.tuple r) (.tuple t)) := rfl
theorem eqv_nil : PyData.eqv (.tuple []) (.tuple []) = true := rfl
theorem eqv_ne {w v : Str} (r t : List PyData) (h : (w == v) = false) : PyData.eqv (.tuple (.str w :: r)) (.tuple (.str v :: t)) = false := by
  rw [eqv_cons, h]
  rfl
theorem eqv_fct (f g : Fct) : PyData.eqv (.tuple f.ds) (.tuple g.ds) = decide (f = g) := by
  cases f <;> cases g <;> first
    | exact (eqv_ne _ _ (by decide +kernel)).trans (decide_eq_false (by intro z; cases z)).symm
    | (simp only [Fct.ds, eqv_cons, eqv_consI, eqv_nil, Bool.and_true]
       rw [Bool.eq_iff_iff]
       simp)
theorem any_fct (fs : List Fct) (g : Fct) : ((datas fs).any fun z => PyData.eqv z (.tuple g.ds)) = decide (g ∈ fs) := by
  unfold datas
  rw [List.any_map, Bool.eq_iff_iff, List.any_eq_true, decide_eq_true_eq]
  constructor
  · rintro ⟨f, hf, e⟩
    have e' : PyData.eqv (.tuple f.ds) (.tuple g.ds) = true := e
    rw [eqv_fct] at e'
    rw [← of_decide_eq_true e']
    exact hf
  · intro h
    refine ⟨g, h, ?_⟩
    show PyData.eqv (.tuple g.ds) (.tuple g.ds) = true
    rw [eqv_fct]
    exact decide_eq_true rfl
theorem nm_ok {x : Str} (h : isNm x = true) : PyData.strOk x = true := by
  unfold isNm at h
  rw [Bool.and_eq_true, Bool.and_eq_true] at h
  have h2 := h.2
  rw [List.all_eq_true] at h2
  show x.cps.all (· < 0x110000) = true
  rw [← Array.all_toList, List.all_eq_true]
  intro c hc
  have m := of_decide_eq_true (h2 c hc)
  have all : ∀ c ∈ signs.cps.toList, c < 0x110000 := by decide +kernel
  exact decide_eq_true (all c m)
/-- names within a fact -/
def Fct.okN (fc : Fct) : Prop := ∀ x, V.str x ∈ fc.vs → PyData.strOk x = true
theorem okN_of {fc : Fct} (h : factV fc.vs = true) : Fct.okN fc := by
  have w6 : ∀ w ∈ (["child", "wed", "parted", "died", "renounced", "advance"] : List Str), PyData.strOk w = true := by decide +kernel
  intro x hx
  cases fc with
  | child c q =>
    have a := fact_nm h
    have b := (fact_nm3 h (.inl rfl)).1
    simp only [Fct.vs, List.mem_cons, List.not_mem_nil, or_false, V.str.injEq] at hx
    rcases hx with rfl | rfl | rfl
    · exact w6 _ (by simp)
    · exact nm_ok a
    · exact nm_ok b
  | wed c q =>
    have a := fact_nm h
    have b := (fact_nm3 h (.inr (.inl rfl))).1
    simp only [Fct.vs, List.mem_cons, List.not_mem_nil, or_false, V.str.injEq] at hx
    rcases hx with rfl | rfl | rfl
    · exact w6 _ (by simp)
    · exact nm_ok a
    · exact nm_ok b
  | parted c q =>
    have a := fact_nm h
    have b := (fact_nm3 h (.inr (.inr rfl))).1
    simp only [Fct.vs, List.mem_cons, List.not_mem_nil, or_false, V.str.injEq] at hx
    rcases hx with rfl | rfl | rfl
    · exact w6 _ (by simp)
    · exact nm_ok a
    · exact nm_ok b
  | died c d =>
    have a := fact_nm h
    simp only [Fct.vs, List.mem_cons, List.not_mem_nil, or_false, V.str.injEq, reduceCtorEq] at hx
    rcases hx with rfl | rfl
    · exact w6 _ (by simp)
    · exact nm_ok a
  | renounced c =>
    have a := fact_nm h
    simp only [Fct.vs, List.mem_cons, List.not_mem_nil, or_false, V.str.injEq] at hx
    rcases hx with rfl | rfl
    · exact w6 _ (by simp)
    · exact nm_ok a
  | advance c d =>
    have a := fact_nm h
    simp only [Fct.vs, List.mem_cons, List.not_mem_nil, or_false, V.str.injEq, reduceCtorEq] at hx
    rcases hx with rfl | rfl
    · exact w6 _ (by simp)
    · exact nm_ok a
theorem lay_fct {fc : Fct} (h : Fct.okN fc) : PyData.canLay0 (.tuple fc.ds) = true := by
  cases fc with
  | child c q =>
    have a := h "child" (by simp [Fct.vs]); have b := h c (by simp [Fct.vs]); have d := h q (by simp [Fct.vs])
    show (PyData.strOk "child" && (PyData.strOk c && (PyData.strOk q && true))) = true
    rw [a, b, d]; rfl
  | wed c q =>
    have a := h "wed" (by simp [Fct.vs]); have b := h c (by simp [Fct.vs]); have d := h q (by simp [Fct.vs])
    show (PyData.strOk "wed" && (PyData.strOk c && (PyData.strOk q && true))) = true
    rw [a, b, d]; rfl
  | parted c q =>
    have a := h "parted" (by simp [Fct.vs]); have b := h c (by simp [Fct.vs]); have d := h q (by simp [Fct.vs])
    show (PyData.strOk "parted" && (PyData.strOk c && (PyData.strOk q && true))) = true
    rw [a, b, d]; rfl
  | died c q =>
    have a := h "died" (by simp [Fct.vs]); have b := h c (by simp [Fct.vs])
    show (PyData.strOk "died" && (PyData.strOk c && true)) = true
    rw [a, b]; rfl
  | renounced c =>
    have a := h "renounced" (by simp [Fct.vs]); have b := h c (by simp [Fct.vs])
    show (PyData.strOk "renounced" && (PyData.strOk c && true)) = true
    rw [a, b]; rfl
  | advance c q =>
    have a := h "advance" (by simp [Fct.vs]); have b := h c (by simp [Fct.vs])
    show (PyData.strOk "advance" && (PyData.strOk c && true)) = true
    rw [a, b]; rfl
theorem dep_fct (fc : Fct) : PyData.depth (.tuple fc.ds) = 1 := by
  cases fc <;> rfl
theorem sha_fct {fc : Fct} (h : Fct.okN fc) : SeqAt.shaped (.tuple fc.ds) = true := by
  unfold SeqAt.shaped
  rw [lay_fct h, dep_fct]
  rfl
theorem lay_all : ∀ {fs : List Fct}, (∀ fc ∈ fs, Fct.okN fc) → PyData.canLayAll0 (datas fs) = true
  | [], _ => rfl
  | fc :: r, h => by
    show (PyData.canLay0 (.tuple fc.ds) && PyData.canLayAll0 (datas r)) = true
    rw [lay_fct (h fc List.mem_cons_self), lay_all fun g hg => h g (List.mem_cons_of_mem _ hg)]
    rfl
theorem dep_all : ∀ (fs : List Fct), PyData.depthAll (datas fs) ≤ 1
  | [] => Nat.zero_le _
  | fc :: r => by
    show max (PyData.depth (.tuple fc.ds)) (PyData.depthAll (datas r)) ≤ 1
    rw [dep_fct]
    have := dep_all r
    omega
theorem sha_all {fs : List Fct} (h : ∀ fc ∈ fs, Fct.okN fc) : SeqAt.shaped (.list (datas fs)) = true := by
  unfold SeqAt.shaped
  rw [Bool.and_eq_true]
  refine ⟨lay_all h, decide_eq_true ?_⟩
  show PyData.depthAll (datas fs) + 1 ≤ 64
  have := dep_all fs
  omega
/-! lists of names as data -/
def strD (zs : List Str) : PyData := .list (zs.map PyData.str)
theorem dp_strs {K : PySem.W.Frag} {H : Hp} : ∀ (zs : List Str), DpAll K H (zs.map V.str) (zs.map PyData.str)
  | [] => .nil
  | z :: r => .cons (.str z) (dp_strs r)
theorem dp_strD {K : PySem.W.Frag} {H : Hp} {a : Addr} {zs : List Str} (h : H a = some (.lst (zs.map V.str))) : Dp K H (.ref a) (strD zs) := .lst (SqL.of h) (dp_strs zs)
theorem show_strs : ∀ (zs : List Str), PyData.showableAll (zs.map PyData.str) = true
  | [] => rfl
  | z :: r => show_strs r
theorem dict_strs : ∀ (zs : List Str), PyData.hasDictAll (zs.map PyData.str) = false
  | [] => rfl
  | z :: r => dict_strs r
theorem depth_strs : ∀ (zs : List Str), PyData.depthAll (zs.map PyData.str) = 0
  | [] => rfl
  | z :: r => by
    show max 0 (PyData.depthAll (r.map PyData.str)) = 0
    rw [depth_strs r]
    rfl
theorem short_strs {zs : List Str} (h : ∀ z ∈ zs, PyData.strOk z = true) : PyData.leavesShortAll 13 (zs.map PyData.str) = true := by
  induction zs with
  | nil => rfl
  | cons z r ih =>
    show ((z.cps.toList.all fun c => decide (c < 16 ^ 8)) && PyData.leavesShortAll 13 (r.map PyData.str)) = true
    rw [ih fun y hy => h y (List.mem_cons_of_mem _ hy), Bool.and_true, List.all_eq_true]
    intro c hc
    have h1 : z.cps.all (· < 0x110000) = true := h z List.mem_cons_self
    rw [← Array.all_toList, List.all_eq_true] at h1
    have h2 : c < 0x110000 := of_decide_eq_true (h1 c hc)
    exact decide_eq_true (Nat.lt_of_lt_of_le h2 (by decide))
theorem weight_strs {m : Nat} : ∀ {zs : List Str}, (∀ z ∈ zs, z.length ≤ m) → PyData.weightAll (zs.map PyData.str) ≤ zs.length * (m + 1)
  | [], _ => Nat.zero_le _
  | z :: r, h => by
    show z.cps.size + 1 + PyData.weightAll (r.map PyData.str) ≤ (r.length + 1) * (m + 1)
    have h1 : z.cps.size ≤ m := h z List.mem_cons_self
    have h2 := weight_strs (m := m) (zs := r) fun y hy => h y (List.mem_cons_of_mem _ hy)
    rw [Nat.succ_mul]
    omega
end K1
namespace K1
open PySem L2 PyProof.Rows PySem.Spec G
theorem fmap_step {α β : Type} (l : List α) (f : α → Option β) {i : Nat} {y : α} (h : l[i]? = some y) : (l.take (i + 1)).filterMap f = (l.take i).filterMap f ++ (f y).toList := by
  rw [List.take_add_one, h, List.filterMap_append]
  cases e : f y with
  | none => simp [e]
  | some z => simp [e]
def ch1 (x : Str) : Fct → Option Str
  | .child c p => if p = x then some c else none
  | _ => none
def pa1 (x : Str) : Fct → Option Str
  | .child c p => if c = x then some p else none
  | _ => none
def dy1 (x : Str) : Fct → Option Int
  | .died a d => if a = x then some d else none
  | _ => none
def ad1 (x : Str) : Fct → Option Int
  | .advance a d => if a = x then some d else none
  | _ => none
theorem chs_eq (fs : List Fct) (x : Str) : chs fs x = fs.filterMap (ch1 x) := by
  unfold chs
  congr 1
def pas (fs : List Fct) (x : Str) : List Str := fs.filterMap (pa1 x)
def sp1 (fs : List Fct) (x : Str) : Fct → Option Str
  | .wed a b => if x = a ∨ x = b then (if Fct.parted x (if a = x then b else a) ∈ fs ∨ Fct.parted (if a = x then b else a) x ∈ fs then none else some (if a = x then b else a)) else none
  | _ => none
def sps (fs : List Fct) (x : Str) : List Str := fs.filterMap (sp1 fs x)
def dys (fs : List Fct) (x : Str) : List Int := fs.filterMap (dy1 x)
def ads (fs : List Fct) (x : Str) : List Int := fs.filterMap (ad1 x)
theorem tlc_facts {K : PySem.W.Frag} {a l : Addr} {p : Addr} {x : Str} {fs : List Fct} {qs : List Addr} {y4 y5 y6 y7 y8 : Option V} {H1 : Hp} {tt : TT} {te : TE} {Q : Hp → Prop} (pk : Fct → Option V)
    (e1 : H1 a = some (.lst (qs.map V.ref))) (e2 : qs.length = fs.length) (e3 : ∀ (i : Nat) (q : Addr) (fc : Fct), qs[i]? = some q → fs[i]? = some fc → H1 q = some (.tup fc.vs)) (hn : fs.length ≤ 900)
    (turn : ∀ (q : Addr) (fc : Fct) (Hz : Hp) (N : Hp → Prop) (Y : VK), SqT K Hz q fc.vs → (pk fc = none → N Hz) → (∀ v, pk fc = some v → Y v Hz) → tt [some (.ref p), some (.ref a), some (.str x), some (.ref l), some (.ref q), y5, y6, y7, y8] Hz fun b H3 => if b = true then te [some (.ref p), some (.ref a), some (.str x), some (.ref l), some (.ref q), y5, y6, y7, y8] H3 Y else N H3)
    {D : Addr} (hD : H1 D = none) (go : ∀ Hy, Same H1 Hy → Hy D = some (.lst (fs.filterMap pk)) → Q Hy) :
    ∃ W : Nat → Nat → Hp → Prop, (∃ m, W 0 m (upd H1 D (.lst []))) ∧ ∀ i m H, W i m H → ((Itl K a).stop i H ∧ Q H) ∨ ((Itl K a).go i H ∧ ∃ Nx : Hp → Prop, (∀ H', Nx H' → ∃ m', m' < m ∧ W (i + 1) m' H') ∧ ∀ z H', (Itl K a).yld i H z H' →
      gName 4 z (wipe [some (.ref p), some (.ref a), some (.str x), some (.ref l), y4, y5, y6, y7, y8] [4]) H' fun σ2 H2 => wipe σ2 [4] = wipe [some (.ref p), some (.ref a), some (.str x), some (.ref l), y4, y5, y6, y7, y8] [4] ∧ tt σ2 H2 fun b H3 => if b = true then te σ2 H3 fun y H4 => ∃ acc, H4 D = some (.lst acc) ∧ acc.length < sizeLine ∧ Nx (upd H4 D (.lst (acc ++ [y]))) else Nx H3) := by
  refine lc_it walk_list (fun i Hy => Same H1 Hy ∧ Hy D = some (.lst ((fs.take i).filterMap pk))) ⟨same_upd hD, upd_same⟩ (fun _ _ _ z => SqL.of (z.1 _ _ e1)) ?_ ?_
  · rintro i v Hy H' hi ⟨k1, k2⟩ ⟨rfl, ev⟩
    obtain ⟨q, eq, rfl⟩ : ∃ q, qs[i]? = some q ∧ v = .ref q := by
      rw [List.getElem?_map] at ev
      obtain ⟨k, h1, h2⟩ := Option.map_eq_some_iff.mp ev
      exact ⟨k, h1, h2.symm⟩
    have il : i < fs.length := by
      rw [← e2]
      exact (List.getElem?_eq_some_iff.mp eq).1
    have ef : fs[i]? = some fs[i] := List.getElem?_eq_getElem il
    have st := fmap_step fs pk ef
    refine ⟨rfl, turn q fs[i] H' _ _ (SqT.of (k1 _ _ (e3 i q _ eq ef))) (fun e => ⟨k1, ?_⟩) fun v e => ⟨_, k2, ?_, ?_, ?_⟩⟩
    · rw [st, e]
      simpa using k2
    · have h1 := List.length_filterMap_le pk (fs.take i)
      rw [List.length_take] at h1
      exact small1000 (by omega)
    · intro b o hb
      rw [upd_ne (ne_of_none hb hD)]
      exact k1 b o hb
    · rw [upd_same, st, e]
      rfl
  · rintro Hy ⟨k1, k2⟩
    rw [List.length_map, e2, List.take_length] at k2
    exact go Hy k1 k2
def ttF (K : PySem.W.Frag) (wd : Str) (I : Int) : TT := tAnd (tTest (tOp rEq (tOp (rIxT K) (tVar 4) (tC (.int 0))) (tC (.str wd)))) (tTest (tOp rEq (tOp (rIxT K) (tVar 4) (tC (.int I))) (tVar 2)))
def teF (K : PySem.W.Frag) (J : Int) : TE := tOp (rIxT K) (tVar 4) (tC (.int J))
theorem turn_ch {K : PySem.W.Frag} {p a l : Addr} {x : Str} {y5 y6 y7 y8 : Option V} (q : Addr) (fc : Fct) (Hz : Hp) (N : Hp → Prop) (Y : VK) (hT : SqT K Hz q fc.vs) (hN : (ch1 x fc).map V.str = none → N Hz) (hY : ∀ v, (ch1 x fc).map V.str = some v → Y v Hz) :
    ttF K "child" 2 [some (.ref p), some (.ref a), some (.str x), some (.ref l), some (.ref q), y5, y6, y7, y8] Hz fun b H3 => if b = true then teF K 1 [some (.ref p), some (.ref a), some (.str x), some (.ref l), some (.ref q), y5, y6, y7, y8] H3 Y else N H3 := by
  cases fc with
  | child c p =>
    refine ⟨_, rfl, q, _, 0, .str "child", rfl, rfl, hT, atI_nat (j := 0) rfl, rfl, _, rfl, ?_⟩
    rw [decide_eq_true (rfl : V.str ("child" : Str) = .str ("child" : Str))]
    refine iteT ⟨_, rfl, q, _, 2, .str p, rfl, rfl, hT, atI_nat (j := 2) rfl, _, rfl, rfl, _, rfl, ?_⟩
    have ef : (ch1 x (.child c p)).map V.str = (if p = x then some c else none).map V.str := rfl
    by_cases e : p = x
    · rw [decide_eq_true (congrArg V.str e)]
      rw [if_pos e] at ef
      exact iteT ⟨_, rfl, q, _, 1, .str c, rfl, rfl, hT, atI_nat (j := 1) rfl, hY _ ef⟩
    · rw [decide_eq_false (fun z => e (V.str.inj z))]
      rw [if_neg e] at ef
      exact iteF (hN ef)
  | wed c p =>
    refine ⟨_, rfl, q, _, 0, .str "wed", rfl, rfl, hT, atI_nat (j := 0) rfl, rfl, _, rfl, ?_⟩
    rw [decide_eq_false (show ¬ V.str ("wed" : Str) = .str ("child" : Str) by decide +kernel)]
    exact iteF (hN rfl)
  | parted c p =>
    refine ⟨_, rfl, q, _, 0, .str "parted", rfl, rfl, hT, atI_nat (j := 0) rfl, rfl, _, rfl, ?_⟩
    rw [decide_eq_false (show ¬ V.str ("parted" : Str) = .str ("child" : Str) by decide +kernel)]
    exact iteF (hN rfl)
  | died c p =>
    refine ⟨_, rfl, q, _, 0, .str "died", rfl, rfl, hT, atI_nat (j := 0) rfl, rfl, _, rfl, ?_⟩
    rw [decide_eq_false (show ¬ V.str ("died" : Str) = .str ("child" : Str) by decide +kernel)]
    exact iteF (hN rfl)
  | renounced c =>
    refine ⟨_, rfl, q, _, 0, .str "renounced", rfl, rfl, hT, atI_nat (j := 0) rfl, rfl, _, rfl, ?_⟩
    rw [decide_eq_false (show ¬ V.str ("renounced" : Str) = .str ("child" : Str) by decide +kernel)]
    exact iteF (hN rfl)
  | advance c p =>
    refine ⟨_, rfl, q, _, 0, .str "advance", rfl, rfl, hT, atI_nat (j := 0) rfl, rfl, _, rfl, ?_⟩
    rw [decide_eq_false (show ¬ V.str ("advance" : Str) = .str ("child" : Str) by decide +kernel)]
    exact iteF (hN rfl)
theorem turn_pa {K : PySem.W.Frag} {p a l : Addr} {x : Str} {y5 y6 y7 y8 : Option V} (q : Addr) (fc : Fct) (Hz : Hp) (N : Hp → Prop) (Y : VK) (hT : SqT K Hz q fc.vs) (hN : (pa1 x fc).map V.str = none → N Hz) (hY : ∀ v, (pa1 x fc).map V.str = some v → Y v Hz) :
    ttF K "child" 1 [some (.ref p), some (.ref a), some (.str x), some (.ref l), some (.ref q), y5, y6, y7, y8] Hz fun b H3 => if b = true then teF K 2 [some (.ref p), some (.ref a), some (.str x), some (.ref l), some (.ref q), y5, y6, y7, y8] H3 Y else N H3 := by
  cases fc with
  | child c p =>
    refine ⟨_, rfl, q, _, 0, .str "child", rfl, rfl, hT, atI_nat (j := 0) rfl, rfl, _, rfl, ?_⟩
    rw [decide_eq_true (rfl : V.str ("child" : Str) = .str ("child" : Str))]
    refine iteT ⟨_, rfl, q, _, 1, .str c, rfl, rfl, hT, atI_nat (j := 1) rfl, _, rfl, rfl, _, rfl, ?_⟩
    have ef : (pa1 x (.child c p)).map V.str = (if c = x then some p else none).map V.str := rfl
    by_cases e : c = x
    · rw [decide_eq_true (congrArg V.str e)]
      rw [if_pos e] at ef
      exact iteT ⟨_, rfl, q, _, 2, .str p, rfl, rfl, hT, atI_nat (j := 2) rfl, hY _ ef⟩
    · rw [decide_eq_false (fun z => e (V.str.inj z))]
      rw [if_neg e] at ef
      exact iteF (hN ef)
  | wed c p =>
    refine ⟨_, rfl, q, _, 0, .str "wed", rfl, rfl, hT, atI_nat (j := 0) rfl, rfl, _, rfl, ?_⟩
    rw [decide_eq_false (show ¬ V.str ("wed" : Str) = .str ("child" : Str) by decide +kernel)]
    exact iteF (hN rfl)
  | parted c p =>
    refine ⟨_, rfl, q, _, 0, .str "parted", rfl, rfl, hT, atI_nat (j := 0) rfl, rfl, _, rfl, ?_⟩
    rw [decide_eq_false (show ¬ V.str ("parted" : Str) = .str ("child" : Str) by decide +kernel)]
    exact iteF (hN rfl)
  | died c p =>
    refine ⟨_, rfl, q, _, 0, .str "died", rfl, rfl, hT, atI_nat (j := 0) rfl, rfl, _, rfl, ?_⟩
    rw [decide_eq_false (show ¬ V.str ("died" : Str) = .str ("child" : Str) by decide +kernel)]
    exact iteF (hN rfl)
  | renounced c =>
    refine ⟨_, rfl, q, _, 0, .str "renounced", rfl, rfl, hT, atI_nat (j := 0) rfl, rfl, _, rfl, ?_⟩
    rw [decide_eq_false (show ¬ V.str ("renounced" : Str) = .str ("child" : Str) by decide +kernel)]
    exact iteF (hN rfl)
  | advance c p =>
    refine ⟨_, rfl, q, _, 0, .str "advance", rfl, rfl, hT, atI_nat (j := 0) rfl, rfl, _, rfl, ?_⟩
    rw [decide_eq_false (show ¬ V.str ("advance" : Str) = .str ("child" : Str) by decide +kernel)]
    exact iteF (hN rfl)
theorem turn_dy {K : PySem.W.Frag} {p a l : Addr} {x : Str} {y5 y6 y7 y8 : Option V} (q : Addr) (fc : Fct) (Hz : Hp) (N : Hp → Prop) (Y : VK) (hT : SqT K Hz q fc.vs) (hN : (dy1 x fc).map V.int = none → N Hz) (hY : ∀ v, (dy1 x fc).map V.int = some v → Y v Hz) :
    ttF K "died" 1 [some (.ref p), some (.ref a), some (.str x), some (.ref l), some (.ref q), y5, y6, y7, y8] Hz fun b H3 => if b = true then teF K 2 [some (.ref p), some (.ref a), some (.str x), some (.ref l), some (.ref q), y5, y6, y7, y8] H3 Y else N H3 := by
  cases fc with
  | child c p =>
    refine ⟨_, rfl, q, _, 0, .str "child", rfl, rfl, hT, atI_nat (j := 0) rfl, rfl, _, rfl, ?_⟩
    rw [decide_eq_false (show ¬ V.str ("child" : Str) = .str ("died" : Str) by decide +kernel)]
    exact iteF (hN rfl)
  | wed c p =>
    refine ⟨_, rfl, q, _, 0, .str "wed", rfl, rfl, hT, atI_nat (j := 0) rfl, rfl, _, rfl, ?_⟩
    rw [decide_eq_false (show ¬ V.str ("wed" : Str) = .str ("died" : Str) by decide +kernel)]
    exact iteF (hN rfl)
  | parted c p =>
    refine ⟨_, rfl, q, _, 0, .str "parted", rfl, rfl, hT, atI_nat (j := 0) rfl, rfl, _, rfl, ?_⟩
    rw [decide_eq_false (show ¬ V.str ("parted" : Str) = .str ("died" : Str) by decide +kernel)]
    exact iteF (hN rfl)
  | died c p =>
    refine ⟨_, rfl, q, _, 0, .str "died", rfl, rfl, hT, atI_nat (j := 0) rfl, rfl, _, rfl, ?_⟩
    rw [decide_eq_true (rfl : V.str ("died" : Str) = .str ("died" : Str))]
    refine iteT ⟨_, rfl, q, _, 1, .str c, rfl, rfl, hT, atI_nat (j := 1) rfl, _, rfl, rfl, _, rfl, ?_⟩
    have ef : (dy1 x (.died c p)).map V.int = (if c = x then some p else none).map V.int := rfl
    by_cases e : c = x
    · rw [decide_eq_true (congrArg V.str e)]
      rw [if_pos e] at ef
      exact iteT ⟨_, rfl, q, _, 2, .int p, rfl, rfl, hT, atI_nat (j := 2) rfl, hY _ ef⟩
    · rw [decide_eq_false (fun z => e (V.str.inj z))]
      rw [if_neg e] at ef
      exact iteF (hN ef)
  | renounced c =>
    refine ⟨_, rfl, q, _, 0, .str "renounced", rfl, rfl, hT, atI_nat (j := 0) rfl, rfl, _, rfl, ?_⟩
    rw [decide_eq_false (show ¬ V.str ("renounced" : Str) = .str ("died" : Str) by decide +kernel)]
    exact iteF (hN rfl)
  | advance c p =>
    refine ⟨_, rfl, q, _, 0, .str "advance", rfl, rfl, hT, atI_nat (j := 0) rfl, rfl, _, rfl, ?_⟩
    rw [decide_eq_false (show ¬ V.str ("advance" : Str) = .str ("died" : Str) by decide +kernel)]
    exact iteF (hN rfl)
theorem turn_ad {K : PySem.W.Frag} {p a l : Addr} {x : Str} {y5 y6 y7 y8 : Option V} (q : Addr) (fc : Fct) (Hz : Hp) (N : Hp → Prop) (Y : VK) (hT : SqT K Hz q fc.vs) (hN : (ad1 x fc).map V.int = none → N Hz) (hY : ∀ v, (ad1 x fc).map V.int = some v → Y v Hz) :
    ttF K "advance" 1 [some (.ref p), some (.ref a), some (.str x), some (.ref l), some (.ref q), y5, y6, y7, y8] Hz fun b H3 => if b = true then teF K 2 [some (.ref p), some (.ref a), some (.str x), some (.ref l), some (.ref q), y5, y6, y7, y8] H3 Y else N H3 := by
  cases fc with
  | child c p =>
    refine ⟨_, rfl, q, _, 0, .str "child", rfl, rfl, hT, atI_nat (j := 0) rfl, rfl, _, rfl, ?_⟩
    rw [decide_eq_false (show ¬ V.str ("child" : Str) = .str ("advance" : Str) by decide +kernel)]
    exact iteF (hN rfl)
  | wed c p =>
    refine ⟨_, rfl, q, _, 0, .str "wed", rfl, rfl, hT, atI_nat (j := 0) rfl, rfl, _, rfl, ?_⟩
    rw [decide_eq_false (show ¬ V.str ("wed" : Str) = .str ("advance" : Str) by decide +kernel)]
    exact iteF (hN rfl)
  | parted c p =>
    refine ⟨_, rfl, q, _, 0, .str "parted", rfl, rfl, hT, atI_nat (j := 0) rfl, rfl, _, rfl, ?_⟩
    rw [decide_eq_false (show ¬ V.str ("parted" : Str) = .str ("advance" : Str) by decide +kernel)]
    exact iteF (hN rfl)
  | died c p =>
    refine ⟨_, rfl, q, _, 0, .str "died", rfl, rfl, hT, atI_nat (j := 0) rfl, rfl, _, rfl, ?_⟩
    rw [decide_eq_false (show ¬ V.str ("died" : Str) = .str ("advance" : Str) by decide +kernel)]
    exact iteF (hN rfl)
  | renounced c =>
    refine ⟨_, rfl, q, _, 0, .str "renounced", rfl, rfl, hT, atI_nat (j := 0) rfl, rfl, _, rfl, ?_⟩
    rw [decide_eq_false (show ¬ V.str ("renounced" : Str) = .str ("advance" : Str) by decide +kernel)]
    exact iteF (hN rfl)
  | advance c p =>
    refine ⟨_, rfl, q, _, 0, .str "advance", rfl, rfl, hT, atI_nat (j := 0) rfl, rfl, _, rfl, ?_⟩
    rw [decide_eq_true (rfl : V.str ("advance" : Str) = .str ("advance" : Str))]
    refine iteT ⟨_, rfl, q, _, 1, .str c, rfl, rfl, hT, atI_nat (j := 1) rfl, _, rfl, rfl, _, rfl, ?_⟩
    have ef : (ad1 x (.advance c p)).map V.int = (if c = x then some p else none).map V.int := rfl
    by_cases e : c = x
    · rw [decide_eq_true (congrArg V.str e)]
      rw [if_pos e] at ef
      exact iteT ⟨_, rfl, q, _, 2, .int p, rfl, rfl, hT, atI_nat (j := 2) rfl, hY _ ef⟩
    · rw [decide_eq_false (fun z => e (V.str.inj z))]
      rw [if_neg e] at ef
      exact iteF (hN ef)
/-- what is known of x is what the facts tell -/
structure Sees (F : Fm) (fs : List Fct) (x : Str) : Prop where
  ch : F.ch x = srt (uniq (chs fs x))
  pa : F.pa x = srt (uniq (pas fs x))
  sp : sp F x = srt (uniq (sps fs x))
  dy : F.dy x = (dys fs x).head?
  rn : F.rn x = decide (Fct.renounced x ∈ fs)
  ad : (F.ad x).getD 0 = (ads fs x).sum
  wl : (F.we x).length ≤ 900
/-- what the law asks of methods and built-ins -/
structure TD (P : Program) (w : World) (K : PySem.W.Frag) (mg : Str → Option Value) (base : Heap) (C : Addr) : Prop where
  cl : Cls K C
  ch : HasM P w K mg base CX0 C "children" ["self", "name"] 1 (spLs C fun F k => F.ch k)
  pa : HasM P w K mg base CX0 C "parents" ["self", "name"] 1 (spLs C fun F k => F.pa k)
  sp : HasM P w K mg base CX0 C "spouses" ["self", "name"] 1 (spSpo C)
  dy : HasM P w K mg base CX0 C "day" ["self", "name"] 1 (spVal C dayV)
  rn : HasM P w K mg base CX0 C "has_renounced" ["self", "name"] 1 (spVal C fun F k => .bl (F.rn k))
  ad : HasM P w K mg base CX0 C "advance" ["self", "name"] 1 (spVal C fun F k => .int ((F.ad k).getD 0))
  on : Has P w K mg base CX0 "_law_once" ["names"] 1 spOnc
  sum : mg "sum" = none
  repr : mg "repr" = none
section
variable {P : Program} {w : World} {K : PySem.W.Frag} {mg : Str → Option Value} {base : Heap}
abbrev nTol : List Str := ["family", "facts", "name", "spouses", "fact", "other", "days", "due", "found"]
theorem scTol : FnScope nTol ["family", "facts", "name"] (defScope sTol) := ⟨rfl, rfl, rfl, by decide +kernel, rfl, by decide +kernel, by decide +kernel⟩
def spTol (C : Addr) : Sp := fun vs H Q _ => ∃ (p a : Addr) (x : Str) (n : Nat) (F : Fm) (fs : List Fct), vs = [.ref p, .ref a, .str x] ∧ FamAt C H p n F ∧ FactsAt H a fs ∧ fs.length ≤ 120 ∧ (∀ fc ∈ fs, factV fc.vs = true) ∧ isNm x = true ∧ Sees F fs x ∧ ∀ H', Same H H' → Q (.bl true) H'
/-- what the law shows -/
def dayD : Option Int → PyData
  | none => .none
  | some d => .int d
def toldD (A B C : List Str) (d : Option Int) (r : Bool) (z : Int) : PyData := .list [strD A, strD B, strD C, dayD d, .bool r, .int z]
theorem log_12 {i : Int} (h : i.natAbs < 10 ^ 12) : i.natAbs.log2 ≤ 40 := by
  by_cases e : i.natAbs = 0
  · rw [e]; decide
  · have := (Nat.log2_lt e (k := 41)).mpr (Nat.lt_trans h (by decide))
    omega
theorem toldD_fits {A B C : List Str} {d : Option Int} {r : Bool} {z : Int} (hA : ∀ x ∈ A ++ B ++ C, isNm x = true) (lA : A.length ≤ 900) (lB : B.length ≤ 900) (lC : C.length ≤ 900) (hd : ∀ e, d = some e → e.natAbs < 10 ^ 12) (hz : z.natAbs < 10 ^ 12) :
    (toldD A B C d r z).showable = true ∧ (toldD A B C d r z).hasDict = false ∧ (toldD A B C d r z).depth ≤ 64 ∧ (toldD A B C d r z).shown.length ≤ sizeLine := by
  have okA : ∀ x ∈ A, PyData.strOk x = true ∧ x.length ≤ 12 := fun x hx => have h := hA x (by simp [hx]); ⟨nm_ok h, nm_len h⟩
  have okB : ∀ x ∈ B, PyData.strOk x = true ∧ x.length ≤ 12 := fun x hx => have h := hA x (by simp [hx]); ⟨nm_ok h, nm_len h⟩
  have okC : ∀ x ∈ C, PyData.strOk x = true ∧ x.length ≤ 12 := fun x hx => have h := hA x (by simp [hx]); ⟨nm_ok h, nm_len h⟩
  have sD : (dayD d).showable = true ∧ (dayD d).hasDict = false ∧ (dayD d).depth = 0 ∧ (dayD d).leavesShort 13 = true ∧ (dayD d).weight ≤ 41 := by
    cases d with
    | none => exact ⟨rfl, rfl, rfl, rfl, Nat.zero_le _⟩
    | some e =>
      have h := log_12 (hd e rfl)
      refine ⟨decide_eq_true (by omega), rfl, rfl, decide_eq_true (PyData.shown_int_le (hd e rfl)), ?_⟩
      show (if (e == 0) = true then 0 else e.natAbs.log2 + 1) ≤ 41
      split <;> omega
  have lz := log_12 hz
  refine ⟨?_, ?_, ?_, PyData.shown_fits (B := 13) (by decide) (by decide) ?_ ?_⟩
  · show (PyData.showableAll (A.map PyData.str) && (PyData.showableAll (B.map PyData.str) && (PyData.showableAll (C.map PyData.str) && ((dayD d).showable && (true && (decide (z.natAbs.log2 < 1920) && true)))))) = true
    rw [show_strs, show_strs, show_strs, sD.1, decide_eq_true (show z.natAbs.log2 < 1920 by omega)]
    rfl
  · show (PyData.hasDictAll (A.map PyData.str) || (PyData.hasDictAll (B.map PyData.str) || (PyData.hasDictAll (C.map PyData.str) || ((dayD d).hasDict || (false || (false || false)))))) = false
    rw [dict_strs, dict_strs, dict_strs, sD.2.1]
    rfl
  · show max (PyData.depthAll (A.map PyData.str) + 1) (max (PyData.depthAll (B.map PyData.str) + 1) (max (PyData.depthAll (C.map PyData.str) + 1) (max (dayD d).depth (max 0 (max 0 0))))) + 1 ≤ 64
    rw [depth_strs, depth_strs, depth_strs, sD.2.2.1]
    decide
  · show (PyData.leavesShortAll 13 (A.map PyData.str) && (PyData.leavesShortAll 13 (B.map PyData.str) && (PyData.leavesShortAll 13 (C.map PyData.str) && ((dayD d).leavesShort 13 && (true && (decide ((PyData.int z).shown.length ≤ 13) && true)))))) = true
    rw [short_strs fun x h => (okA x h).1, short_strs fun x h => (okB x h).1, short_strs fun x h => (okC x h).1, sD.2.2.2.1, decide_eq_true (PyData.shown_int_le hz)]
    rfl
  · show PyData.weightAll (A.map PyData.str) + 1 + (PyData.weightAll (B.map PyData.str) + 1 + (PyData.weightAll (C.map PyData.str) + 1 + ((dayD d).weight + 1 + (0 + 1 + ((if (z == 0) = true then 0 else z.natAbs.log2 + 1) + 1 + 0))))) ≤ 2 ^ 20
    have a := weight_strs (m := 12) fun x h => (okA x h).2
    have b := weight_strs (m := 12) fun x h => (okB x h).2
    have c := weight_strs (m := 12) fun x h => (okC x h).2
    have dw := sD.2.2.2.2
    have zw : (if (z == 0) = true then 0 else z.natAbs.log2 + 1) ≤ 41 := by split <;> omega
    have : (2 : Nat) ^ 20 = 1048576 := by decide
    omega
theorem fact_amt {w : Str} {n : V} {d : Int} (hw : w = "died" ∨ w = "advance") (h : factV [.str w, n, .int d] = true) : 0 ≤ d ∧ d ≤ 1000000000 := by
  have h' : (isStr (.str w) && nameV n && threeV (.str w) n (.int d)) = true := h
  rw [Bool.and_eq_true] at h'
  have h2 := h'.2
  unfold threeV at h2
  rw [if_neg (by rcases hw with rfl | rfl <;> decide +kernel), Bool.and_eq_true] at h2
  have h3 : (decide (0 ≤ d) && decide (d ≤ 1000000000)) = true := h2.2
  rw [Bool.and_eq_true] at h3
  exact ⟨of_decide_eq_true h3.1, of_decide_eq_true h3.2⟩
theorem dys_mem {fs : List Fct} {x : Str} {d : Int} (h : d ∈ dys fs x) : Fct.died x d ∈ fs := by
  obtain ⟨fc, hf, e⟩ := List.mem_filterMap.mp h
  cases fc with
  | died a d' =>
    have e' : (if a = x then some d' else none) = some d := e
    by_cases q : a = x
    · rw [if_pos q] at e'
      rw [← q, ← Option.some.inj e']
      exact hf
    · rw [if_neg q] at e'
      cases e'
  | _ => cases e
theorem ads_mem {fs : List Fct} {x : Str} {d : Int} (h : d ∈ ads fs x) : Fct.advance x d ∈ fs := by
  obtain ⟨fc, hf, e⟩ := List.mem_filterMap.mp h
  cases fc with
  | advance a d' =>
    have e' : (if a = x then some d' else none) = some d := e
    by_cases q : a = x
    · rw [if_pos q] at e'
      rw [← q, ← Option.some.inj e']
      exact hf
    · rw [if_neg q] at e'
      cases e'
  | _ => cases e
theorem pas_mem {fs : List Fct} {x y : Str} (h : y ∈ pas fs x) : Fct.child x y ∈ fs := by
  obtain ⟨fc, hf, e⟩ := List.mem_filterMap.mp h
  cases fc with
  | child a d' =>
    have e' : (if a = x then some d' else none) = some y := e
    by_cases q : a = x
    · rw [if_pos q] at e'
      rw [← q, ← Option.some.inj e']
      exact hf
    · rw [if_neg q] at e'
      cases e'
  | _ => cases e
theorem sps_mem {fs : List Fct} {x y : Str} (h : y ∈ sps fs x) : ∃ a b, Fct.wed a b ∈ fs ∧ (y = a ∨ y = b) := by
  obtain ⟨fc, hf, e⟩ := List.mem_filterMap.mp h
  cases fc with
  | wed a b =>
    refine ⟨a, b, hf, ?_⟩
    have e' : (if x = a ∨ x = b then (if Fct.parted x (if a = x then b else a) ∈ fs ∨ Fct.parted (if a = x then b else a) x ∈ fs then none else some (if a = x then b else a)) else none) = some y := e
    by_cases q1 : x = a ∨ x = b
    · rw [if_pos q1] at e'
      by_cases r : a = x
      · rw [if_pos r] at e'
        by_cases q2 : Fct.parted x b ∈ fs ∨ Fct.parted b x ∈ fs
        · rw [if_pos q2] at e'
          cases e'
        · rw [if_neg q2] at e'
          exact .inr (Option.some.inj e').symm
      · rw [if_neg r] at e'
        by_cases q2 : Fct.parted x a ∈ fs ∨ Fct.parted a x ∈ fs
        · rw [if_pos q2] at e'
          cases e'
        · rw [if_neg q2] at e'
          exact .inl (Option.some.inj e').symm
    · rw [if_neg q1] at e'
      cases e'
  | _ => cases e
theorem sum_le : ∀ {l : List Int}, (∀ d ∈ l, 0 ≤ d ∧ d ≤ 1000000000) → 0 ≤ l.sum ∧ l.sum ≤ l.length * 1000000000
  | [], _ => ⟨Int.le_refl _, by simp⟩
  | d :: r, h => by
    have h1 := h d List.mem_cons_self
    have h2 := sum_le (l := r) fun e he => h e (List.mem_cons_of_mem _ he)
    rw [List.sum_cons, List.length_cons]
    push_cast
    omega
theorem srt_uniq_len (l : List Str) : (srt (uniq l)).length ≤ l.length := by
  rw [srt_len]
  induction l with
  | nil => exact Nat.le_refl _
  | cons y r ih => exact Nat.succ_le_succ (Nat.le_trans (List.length_filter_le _ _) ih)
theorem no_ms (A : FA) : A.fl.lookup ("spouses" : Str) = none := by kernel_rfl
theorem no_md (A : FA) : A.fl.lookup ("day" : Str) = none := by kernel_rfl
theorem no_mr (A : FA) : A.fl.lookup ("has_renounced" : Str) = none := by kernel_rfl
theorem ok_told {f C : Addr} {fd : FuncData} (F : Fun K "_law_told" "_law_told" sTol f fd) (T : TD P w K mg base C) : FnG P w K mg base CX0 2 f fd ["family", "facts", "name"] (spTol C) := by
  obtain ⟨fC, fdC, meC, bC, GC⟩ := T.ch.ok
  obtain ⟨fP, fdP, meP, bP, GP⟩ := T.pa.ok
  obtain ⟨fS, fdS, meS, bS, GS⟩ := T.sp.ok
  obtain ⟨fD, fdD, meD, bD, GD⟩ := T.dy.ok
  obtain ⟨fR, fdR, meR, bR, GR⟩ := T.rn.ok
  obtain ⟨fA, fdA, meA, bA, GA⟩ := T.ad.ok
  obtain ⟨fO, fdO, mO, kO, bO, GO⟩ := T.on.ok
  refine okG F scTol (fun vs H Q E h => ?_) (fun cdv A outer s H vs Q E hr hg h => ?_)
  · obtain ⟨p, a, x, n, F, fs, rfl, _⟩ := h
    rfl
  · obtain ⟨p, a, x, n, F, fs, rfl, hF, hA, hn, hgood, hx, hS, go⟩ := h
    have hu : (A.deeper (envOfC "_law_told" (defScope sTol) s.heap.objs.size f cdv)).units + 65 < cLine := by have := hr.un; omega
    refine ⟨_, pss_cons (ps_set (i := 3) scTol.nd rfl (.inl rfl) (pe_lst pa_nil))
      (pss_cons (ps_for PassesOwn.never rfl (pi_list (pv 1)) (pg_name (i := 4) scTol.nd rfl (.inl rfl))
        (pss_one (ps_if (PW.pt (pw_and (pt_cmpR op_eq (pe_ix ix_tup (pv 4) pe_int (fun _ _ => rfl)) pe_str (nomark _)) (pw_and1 (pt_cmpR op_in_seq (pv 2) (pe_slice sl_tup (pv 4) (po_some pe_int) po_none) (by rfl)))))
          (pss_cons (ps_set (i := 5) scTol.nd rfl (.inl rfl) (pe_ix ix_tup (pv 4) pe_int (fun _ _ => rfl)))
          (pss_cons (ps_if (pt_cmpR op_eq (pv 5) (pv 2) (nomark _)) (pss_one (ps_set (i := 5) scTol.nd rfl (.inl rfl) (pe_ix ix_tup (pv 4) pe_int (fun _ _ => rfl)))) pss_nil)
          (pss_one (ps_if (PW.pt (pw_and (pt_cmpR (op_notInD hu) (pe_tup (pa_cons pe_str (pa_cons (pv 2) (pa_cons (pv 5) pa_nil)))) (pv 1) (by rfl)) (pw_and1 (pt_cmpR (op_notInD hu) (pe_tup (pa_cons pe_str (pa_cons (pv 5) (pa_cons (pv 2) pa_nil)))) (pv 1) (by rfl)))))
            (pss_one (ps_expr (pe_bm PySem.F.plainAttrs_list PySem.F.slot_list_append PySem.F.type_list_append mt_append (pv 3) (pa_cons (pv 5) pa_nil)))) pss_nil)))) pss_nil)))
      (pss_cons (ps_set (i := 6) scTol.nd rfl (.inl rfl) (pe_op op_cat (pe_lc (own := [("fact", 4)]) (g := gName 4) rfl scTol.nd (pi_list (pv 1)) (blkOk_by (N := nTol) (sc := defScope sTol) (by decide +kernel)) (fun _ _ _ _ _ => pg_name (i := 4) scTol.nd rfl (.inl rfl) (.inr rfl)) (fun _ _ _ _ _ => pts_one (PW.pt (pw_and (pt_cmpR op_eq (pe_ix (show IxR _ (rIxT K) from ix_tup) (pv 4) pe_int (fun _ _ => rfl)) pe_str (nomark _)) (pw_and1 (pt_cmpR op_eq (pe_ix (show IxR _ (rIxT K) from ix_tup) (pv 4) pe_int (fun _ _ => rfl)) (pv 2) (nomark _)))))) (fun _ _ _ _ _ => pe_ix (show IxR _ (rIxT K) from ix_tup) (pv 4) pe_int (fun _ _ => rfl))) (pe_lst (pa_cons pe_non pa_nil))))
      (pss_cons (ps_set (i := 7) scTol.nd rfl (.inl rfl) (pe_lst (pa_cons (pe_call GO hr (by rfl) mO kO bO .nil pass0 (pa_cons (pe_lc (own := [("fact", 4)]) (g := gName 4) rfl scTol.nd (pi_list (pv 1)) (blkOk_by (N := nTol) (sc := defScope sTol) (by decide +kernel)) (fun _ _ _ _ _ => pg_name (i := 4) scTol.nd rfl (.inl rfl) (.inr rfl)) (fun _ _ _ _ _ => pts_one (PW.pt (pw_and (pt_cmpR op_eq (pe_ix (show IxR _ (rIxT K) from ix_tup) (pv 4) pe_int (fun _ _ => rfl)) pe_str (nomark _)) (pw_and1 (pt_cmpR op_eq (pe_ix (show IxR _ (rIxT K) from ix_tup) (pv 4) pe_int (fun _ _ => rfl)) (pv 2) (nomark _)))))) (fun _ _ _ _ _ => pe_ix (show IxR _ (rIxT K) from ix_tup) (pv 4) pe_int (fun _ _ => rfl))) pa_nil)) (pa_cons (pe_call GO hr (by rfl) mO kO bO .nil pass0 (pa_cons (pe_lc (own := [("fact", 4)]) (g := gName 4) rfl scTol.nd (pi_list (pv 1)) (blkOk_by (N := nTol) (sc := defScope sTol) (by decide +kernel)) (fun _ _ _ _ _ => pg_name (i := 4) scTol.nd rfl (.inl rfl) (.inr rfl)) (fun _ _ _ _ _ => pts_one (PW.pt (pw_and (pt_cmpR op_eq (pe_ix (show IxR _ (rIxT K) from ix_tup) (pv 4) pe_int (fun _ _ => rfl)) pe_str (nomark _)) (pw_and1 (pt_cmpR op_eq (pe_ix (show IxR _ (rIxT K) from ix_tup) (pv 4) pe_int (fun _ _ => rfl)) (pv 2) (nomark _)))))) (fun _ _ _ _ _ => pe_ix (show IxR _ (rIxT K) from ix_tup) (pv 4) pe_int (fun _ _ => rfl))) pa_nil)) (pa_cons (pe_call GO hr (by rfl) mO kO bO .nil pass0 (pa_cons (pv 3) pa_nil)) (pa_cons (pe_ix ix_list (pv 6) pe_int (fun _ _ => rfl)) (pa_cons (pe_cmpR (op_inD hu) (pe_tup (pa_cons pe_str (pa_cons (pv 2) pa_nil))) (pv 1) (by rfl)) (pa_cons (pe_callB (cr_sum rfl) (by rfl) T.sum (by decide +kernel) (pa_cons (pe_lc (own := [("fact", 4)]) (g := gName 4) rfl scTol.nd (pi_list (pv 1)) (blkOk_by (N := nTol) (sc := defScope sTol) (by decide +kernel)) (fun _ _ _ _ _ => pg_name (i := 4) scTol.nd rfl (.inl rfl) (.inr rfl)) (fun _ _ _ _ _ => pts_one (PW.pt (pw_and (pt_cmpR op_eq (pe_ix (show IxR _ (rIxT K) from ix_tup) (pv 4) pe_int (fun _ _ => rfl)) pe_str (nomark _)) (pw_and1 (pt_cmpR op_eq (pe_ix (show IxR _ (rIxT K) from ix_tup) (pv 4) pe_int (fun _ _ => rfl)) (pv 2) (nomark _)))))) (fun _ _ _ _ _ => pe_ix (show IxR _ (rIxT K) from ix_tup) (pv 4) pe_int (fun _ _ => rfl))) pa_nil)) pa_nil))))))))
      (pss_cons (ps_set (i := 8) scTol.nd rfl (.inl rfl) (pe_lst (pa_cons (pe_meth (pv 0) T.cl meC GC hr bC .nil pass0 (pa_cons (pv 2) pa_nil)) (pa_cons (pe_meth (pv 0) T.cl meP GP hr bP .nil pass0 (pa_cons (pv 2) pa_nil)) (pa_cons (pe_meth (pv 0) T.cl meS GS hr bS .nil pass0 (pa_cons (pv 2) pa_nil)) (pa_cons (pe_meth (pv 0) T.cl meD GD hr bD .nil pass0 (pa_cons (pv 2) pa_nil)) (pa_cons (pe_meth (pv 0) T.cl meR GR hr bR .nil pass0 (pa_cons (pv 2) pa_nil)) pa_nil)))))))
      (pss_one (ps_ret (pe_cmpR op_eq (pe_callB (cr_repr hg hu) (by rfl) T.repr boot_repr (pa_cons (pe_op op_cat (pv 8) (pe_lst (pa_cons (pe_meth (pv 0) T.cl meA GA hr bA .nil pass0 (pa_cons (pv 2) pa_nil)) pa_nil))) pa_nil)) (pe_callB (cr_repr hg hu) (by rfl) T.repr boot_repr (pa_cons (pv 7) pa_nil)) (nomark _)))))))), ?_⟩
    refine ⟨Nat.zero_le _, fun l nl => ?_⟩
    obtain ⟨qs, e1, e2, e3⟩ := id hA
    have hok : ∀ fc ∈ fs, Fct.okN fc := fun fc h => okN_of (hgood fc h)
    have hsha := sha_all hok
    refine ⟨_, rfl, a, rfl, ⟨_, SqL.of ((same_upd nl) _ _ e1)⟩, for_list (K := K) (a := a) (xs := qs.map V.ref) (fun i σ Hy => ∃ y4 y5, σ = [some (.ref p), some (.ref a), some (.str x), some (.ref l), y4, y5, none, none, none] ∧ Same H Hy ∧ Hy l = some (.lst (((fs.take i).filterMap (sp1 fs x)).map V.str)))
      ⟨none, none, rfl, same_upd nl, upd_same⟩ (fun i σ Hy _ ⟨_, _, _, z, _⟩ => SqL.of (z _ _ e1)) ?_ ?_⟩
    · rintro i v σ Hz hi ⟨y4, y5, rfl, sm, el⟩
      obtain ⟨q, eq, rfl⟩ : ∃ q, qs[i]? = some q ∧ v = .ref q := by
        rw [List.getElem?_map] at hi
        obtain ⟨k, h1, h2⟩ := Option.map_eq_some_iff.mp hi
        exact ⟨k, h1, h2.symm⟩
      have il : i < fs.length := by
        rw [← e2]
        exact (List.getElem?_eq_some_iff.mp eq).1
      have ef : fs[i]? = some fs[i] := List.getElem?_eq_getElem il
      have hq : Hz q = some (.tup fs[i].vs) := sm _ _ (e3 i q _ eq ef)
      have hT : SqT K Hz q fs[i].vs := SqT.of hq
      generalize fs[i] = fc at ef hq hT
      cases fc with
      | wed u v =>
        have st := fmap_step fs (sp1 fs x) ef
        have gd := hgood _ (List.mem_of_getElem? ef)
        refine ⟨_, rfl, q, _, 0, .str "wed", rfl, rfl, hT, atI_nat (j := 0) rfl, rfl, _, rfl, ?_⟩
        rw [decide_eq_true (rfl : V.str ("wed" : Str) = .str ("wed" : Str))]
        refine iteT ⟨_, rfl, _, rfl, 1, rfl, q, _, rfl, hT, (by rintro ⟨z, _⟩; exact absurd (show (1 : Nat) = 0 from z) (by decide)), fun T nT => ?_⟩
        rw [show cutV (Fct.wed u v).vs (some 1) none = [.str u, .str v] from rfl]
        refine ⟨T, _, rfl, .inr (SqT.of upd_same), rfl, rfl, _, rfl, ?_⟩
        rw [show (if false = true then !inV (V.str x) [.str u, .str v] else inV (V.str x) [.str u, .str v]) = inV (V.str x) [.str u, .str v] from if_neg (by decide), in2s]
        have uv : u ≠ v := fun e => (fact_nm3 gd (.inr (.inl rfl))).2 (congrArg V.str e)
        have nu : PyData.strOk u = true := hok _ (List.mem_of_getElem? ef) u (by simp [Fct.vs])
        have nv : PyData.strOk v = true := hok _ (List.mem_of_getElem? ef) v (by simp [Fct.vs])
        have wp : PyData.strOk ("parted" : Str) = true := by decide +kernel
        have okp (o : Str) (h : PyData.strOk o = true) : Fct.okN (.parted x o) := fun y hy => by
          simp only [Fct.vs, List.mem_cons, List.not_mem_nil, or_false, V.str.injEq] at hy
          rcases hy with rfl | rfl | rfl
          · exact wp
          · exact nm_ok hx
          · exact h
        have okq (o : Str) (h : PyData.strOk o = true) : Fct.okN (.parted o x) := fun y hy => by
          simp only [Fct.vs, List.mem_cons, List.not_mem_nil, or_false, V.str.injEq] at hy
          rcases hy with rfl | rfl | rfl
          · exact wp
          · exact h
          · exact nm_ok hx
        have hT2 : SqT K (upd Hz T (.tup [.str u, .str v])) q (Fct.wed u v).vs := sameT (same_upd nT) hT
        by_cases m : x = u ∨ x = v
        · have em : (decide (V.str x = V.str u) || decide (V.str x = V.str v)) = true := by
            rcases m with rfl | rfl
            · rw [decide_eq_true rfl]; rfl
            · rw [decide_eq_true (rfl : V.str x = V.str x), Bool.or_true]
          rw [em]
          refine iteT ⟨_, rfl, q, _, 1, .str u, rfl, rfl, hT2, atI_nat (j := 1) rfl, _, rfl, _, rfl, rfl, _, rfl, ?_⟩
          by_cases ux : u = x
          · rw [decide_eq_true (congrArg V.str ux)]
            have ono := nv
            have es : sp1 fs x (.wed u v) = if Fct.parted x v ∈ fs ∨ Fct.parted v x ∈ fs then none else some v := by
              show (if x = u ∨ x = v then (if Fct.parted x (if u = x then v else u) ∈ fs ∨ Fct.parted (if u = x then v else u) x ∈ fs then none else some (if u = x then v else u)) else none) = _
              rw [if_pos m, if_pos ux]
            refine iteT ⟨_, rfl, q, _, 2, .str v, rfl, rfl, hT2, atI_nat (j := 2) rfl, ?_⟩
            refine ⟨_, rfl, _, rfl, (by show 3 ≤ sizeLine; decide), fun T1 n1 => ⟨_, rfl, .tuple (Fct.parted x v).ds, datas fs, dp_fct (fc := .parted x v) upd_same, dp_facts (hA.same ((sm.trans (same_upd nT)).trans (same_upd n1))), sha_fct (okp _ ono), hsha, _, rfl, ?_⟩⟩
            rw [any_fct]
            have sm1 : Same H (upd (upd Hz T (.tup [.str u, .str v])) T1 (.tup (Fct.parted x v).vs)) := (sm.trans (same_upd nT)).trans (same_upd n1)
            have el1 : upd (upd Hz T (.tup [.str u, .str v])) T1 (.tup (Fct.parted x v).vs) l = some (.lst (((fs.take i).filterMap (sp1 fs x)).map V.str)) := by
              rw [upd_ne (ne_of_none (by rw [upd_ne (ne_of_none el nT)]; exact el) n1), upd_ne (ne_of_none el nT)]
              exact el
            by_cases p1 : Fct.parted x v ∈ fs
            · rw [decide_eq_true p1]
              refine iteF ⟨_, _, rfl, sm1, ?_⟩
              rw [st, es, if_pos (.inl p1)]
              rw [Option.toList_none, List.append_nil]; exact el1
            · rw [decide_eq_false p1]
              refine iteT ⟨_, rfl, _, rfl, (by show 3 ≤ sizeLine; decide), fun T2 n2 => ⟨_, rfl, .tuple (Fct.parted v x).ds, datas fs, dp_fct (fc := .parted v x) upd_same, dp_facts (hA.same (sm1.trans (same_upd n2))), sha_fct (okq _ ono), hsha, _, rfl, ?_⟩⟩
              rw [any_fct]
              have sm2 := sm1.trans (same_upd n2 (o := .tup (Fct.parted v x).vs))
              have el2 : upd (upd (upd Hz T (.tup [.str u, .str v])) T1 (.tup (Fct.parted x v).vs)) T2 (.tup (Fct.parted v x).vs) l = some (.lst (((fs.take i).filterMap (sp1 fs x)).map V.str)) := by
                rw [upd_ne (ne_of_none el1 n2)]
                exact el1
              by_cases p2 : Fct.parted v x ∈ fs
              · rw [decide_eq_true p2]
                refine iteF ⟨_, _, rfl, sm2, ?_⟩
                rw [st, es, if_pos (.inr p2)]
                rw [Option.toList_none, List.append_nil]; exact el2
              · rw [decide_eq_false p2]
                have ln := List.length_filterMap_le (sp1 fs x) (fs.take i)
                rw [List.length_take] at ln
                refine iteT ⟨_, rfl, .inl ⟨rfl, _, .inl (.inl el2)⟩, _, rfl, l, _, _, rfl, rfl, el2, ?_, _, _, rfl, ?_, ?_⟩
                · rw [List.length_map]
                  exact small1000 (by omega)
                · intro b o hb
                  rw [upd_ne (ne_of_none hb nl)]
                  exact sm2 b o hb
                · rw [upd_same, st, es, if_neg (fun z => z.elim p1 p2), List.map_append]
                  rfl
          · rw [decide_eq_false (fun z => ux (V.str.inj z))]
            have ono := nu
            have es : sp1 fs x (.wed u v) = if Fct.parted x u ∈ fs ∨ Fct.parted u x ∈ fs then none else some u := by
              show (if x = u ∨ x = v then (if Fct.parted x (if u = x then v else u) ∈ fs ∨ Fct.parted (if u = x then v else u) x ∈ fs then none else some (if u = x then v else u)) else none) = _
              rw [if_pos m, if_neg ux]
            refine iteF ?_
            refine ⟨_, rfl, _, rfl, (by show 3 ≤ sizeLine; decide), fun T1 n1 => ⟨_, rfl, .tuple (Fct.parted x u).ds, datas fs, dp_fct (fc := .parted x u) upd_same, dp_facts (hA.same ((sm.trans (same_upd nT)).trans (same_upd n1))), sha_fct (okp _ ono), hsha, _, rfl, ?_⟩⟩
            rw [any_fct]
            have sm1 : Same H (upd (upd Hz T (.tup [.str u, .str v])) T1 (.tup (Fct.parted x u).vs)) := (sm.trans (same_upd nT)).trans (same_upd n1)
            have el1 : upd (upd Hz T (.tup [.str u, .str v])) T1 (.tup (Fct.parted x u).vs) l = some (.lst (((fs.take i).filterMap (sp1 fs x)).map V.str)) := by
              rw [upd_ne (ne_of_none (by rw [upd_ne (ne_of_none el nT)]; exact el) n1), upd_ne (ne_of_none el nT)]
              exact el
            by_cases p1 : Fct.parted x u ∈ fs
            · rw [decide_eq_true p1]
              refine iteF ⟨_, _, rfl, sm1, ?_⟩
              rw [st, es, if_pos (.inl p1)]
              rw [Option.toList_none, List.append_nil]; exact el1
            · rw [decide_eq_false p1]
              refine iteT ⟨_, rfl, _, rfl, (by show 3 ≤ sizeLine; decide), fun T2 n2 => ⟨_, rfl, .tuple (Fct.parted u x).ds, datas fs, dp_fct (fc := .parted u x) upd_same, dp_facts (hA.same (sm1.trans (same_upd n2))), sha_fct (okq _ ono), hsha, _, rfl, ?_⟩⟩
              rw [any_fct]
              have sm2 := sm1.trans (same_upd n2 (o := .tup (Fct.parted u x).vs))
              have el2 : upd (upd (upd Hz T (.tup [.str u, .str v])) T1 (.tup (Fct.parted x u).vs)) T2 (.tup (Fct.parted u x).vs) l = some (.lst (((fs.take i).filterMap (sp1 fs x)).map V.str)) := by
                rw [upd_ne (ne_of_none el1 n2)]
                exact el1
              by_cases p2 : Fct.parted u x ∈ fs
              · rw [decide_eq_true p2]
                refine iteF ⟨_, _, rfl, sm2, ?_⟩
                rw [st, es, if_pos (.inr p2)]
                rw [Option.toList_none, List.append_nil]; exact el2
              · rw [decide_eq_false p2]
                have ln := List.length_filterMap_le (sp1 fs x) (fs.take i)
                rw [List.length_take] at ln
                refine iteT ⟨_, rfl, .inl ⟨rfl, _, .inl (.inl el2)⟩, _, rfl, l, _, _, rfl, rfl, el2, ?_, _, _, rfl, ?_, ?_⟩
                · rw [List.length_map]
                  exact small1000 (by omega)
                · intro b o hb
                  rw [upd_ne (ne_of_none hb nl)]
                  exact sm2 b o hb
                · rw [upd_same, st, es, if_neg (fun z => z.elim p1 p2), List.map_append]
                  rfl
        · have em : (decide (V.str x = V.str u) || decide (V.str x = V.str v)) = false := by
            rw [decide_eq_false (fun z => m (.inl (V.str.inj z))), decide_eq_false (fun z => m (.inr (V.str.inj z)))]
            rfl
          rw [em]
          refine iteF ⟨_, y5, rfl, sm.trans (same_upd nT), ?_⟩
          rw [st, upd_ne (ne_of_none el nT)]
          simpa [sp1, m] using el
      | child c p =>
        have st := fmap_step fs (sp1 fs x) ef
        refine ⟨_, rfl, q, _, 0, .str "child", rfl, rfl, hT, atI_nat (j := 0) rfl, rfl, _, rfl, ?_⟩
        rw [decide_eq_false (show ¬ V.str ("child" : Str) = .str ("wed" : Str) by decide +kernel)]
        refine iteF ⟨_, y5, rfl, sm, ?_⟩
        rw [st]
        simpa [sp1] using el
      | parted c p =>
        have st := fmap_step fs (sp1 fs x) ef
        refine ⟨_, rfl, q, _, 0, .str "parted", rfl, rfl, hT, atI_nat (j := 0) rfl, rfl, _, rfl, ?_⟩
        rw [decide_eq_false (show ¬ V.str ("parted" : Str) = .str ("wed" : Str) by decide +kernel)]
        refine iteF ⟨_, y5, rfl, sm, ?_⟩
        rw [st]
        simpa [sp1] using el
      | died c p =>
        have st := fmap_step fs (sp1 fs x) ef
        refine ⟨_, rfl, q, _, 0, .str "died", rfl, rfl, hT, atI_nat (j := 0) rfl, rfl, _, rfl, ?_⟩
        rw [decide_eq_false (show ¬ V.str ("died" : Str) = .str ("wed" : Str) by decide +kernel)]
        refine iteF ⟨_, y5, rfl, sm, ?_⟩
        rw [st]
        simpa [sp1] using el
      | renounced c =>
        have st := fmap_step fs (sp1 fs x) ef
        refine ⟨_, rfl, q, _, 0, .str "renounced", rfl, rfl, hT, atI_nat (j := 0) rfl, rfl, _, rfl, ?_⟩
        rw [decide_eq_false (show ¬ V.str ("renounced" : Str) = .str ("wed" : Str) by decide +kernel)]
        refine iteF ⟨_, y5, rfl, sm, ?_⟩
        rw [st]
        simpa [sp1] using el
      | advance c p =>
        have st := fmap_step fs (sp1 fs x) ef
        refine ⟨_, rfl, q, _, 0, .str "advance", rfl, rfl, hT, atI_nat (j := 0) rfl, rfl, _, rfl, ?_⟩
        rw [decide_eq_false (show ¬ V.str ("advance" : Str) = .str ("wed" : Str) by decide +kernel)]
        refine iteF ⟨_, y5, rfl, sm, ?_⟩
        rw [st]
        simpa [sp1] using el
    · rintro σ Hy ⟨y4, y5, rfl, sm, el⟩
      rw [List.length_map, e2, List.take_length] at el
      refine ⟨_, rfl, a, rfl, ⟨_, SqL.of (sm _ _ e1)⟩, fun D3 hD3 => tlc_facts (qs := qs) (fs := fs) (fun fc => (dy1 x fc).map V.int) (sm _ _ e1) e2 (fun i q fc h1 h2 => sm _ _ (e3 i q fc h1 h2)) (by omega) turn_dy hD3 fun H3 s3 el3 => ?_⟩
      have sm3 := sm.trans s3
      have ll (f : Fct → Option Str) : (fs.filterMap f).length ≤ 900 := Nat.le_trans (List.length_filterMap_le _ _) (by omega)
      have lI (f : Fct → Option Int) : (fs.filterMap f).length ≤ 900 := Nat.le_trans (List.length_filterMap_le _ _) (by omega)
      have el3' : H3 D3 = some (.lst ((dys fs x).map V.int)) := by
        rw [el3]
        unfold dys
        rw [List.map_filterMap]
      refine ⟨(by show 1 ≤ sizeLine; decide), fun l1 n1 => ⟨D3, l1, _, _, rfl, rfl, by rw [upd_ne (ne_of_none el3' n1)]; exact el3', upd_same, ?_, fun c nc => ?_⟩⟩
      · rw [List.length_map]
        have := lI (dy1 x)
        exact Nat.le_of_lt (small1000 (by show (dys fs x).length + 1 ≤ 1000; unfold dys; omega))
      have ec : upd (upd H3 l1 (.lst [.non])) c (.lst ((dys fs x).map V.int ++ [.non])) c = some (.lst ((dys fs x).map V.int ++ [.non])) := upd_same
      have sm5 : Same H (upd (upd H3 l1 (.lst [.non])) c (.lst ((dys fs x).map V.int ++ [.non]))) := (sm3.trans (same_upd n1)).trans (same_upd nc)
      have el5 : upd (upd H3 l1 (.lst [.non])) c (.lst ((dys fs x).map V.int ++ [.non])) l = some (.lst ((sps fs x).map V.str)) := (((s3.trans (same_upd n1)).trans (same_upd nc)) _ _ el)
      generalize upd (upd H3 l1 (.lst [.non])) c (.lst ((dys fs x).map V.int ++ [.non])) = H5 at ec sm5 el5
      refine ⟨_, rfl, a, rfl, ⟨_, SqL.of (sm5 _ _ e1)⟩, fun D6 hD6 => tlc_facts (qs := qs) (fs := fs) (fun fc => (ch1 x fc).map V.str) (sm5 _ _ e1) e2 (fun i q fc h1 h2 => sm5 _ _ (e3 i q fc h1 h2)) (by omega) turn_ch hD6 fun H6 s6 el6 => ?_⟩
      have el6' : H6 D6 = some (.lst ((chs fs x).map V.str)) := by
        rw [el6, chs_eq, List.map_filterMap]
      refine ⟨D6, chs fs x, rfl, el6', by rw [chs_eq]; exact ll _, fun l7 H7 s7 n7 el7 => ?_⟩
      have sm7 := (sm5.trans s6).trans s7
      have t57 := s6.trans s7
      refine ⟨_, rfl, a, rfl, ⟨_, SqL.of (sm7 _ _ e1)⟩, fun D8 hD8 => tlc_facts (qs := qs) (fs := fs) (fun fc => (pa1 x fc).map V.str) (sm7 _ _ e1) e2 (fun i q fc h1 h2 => sm7 _ _ (e3 i q fc h1 h2)) (by omega) turn_pa hD8 fun H8 s8 el8 => ?_⟩
      have el8' : H8 D8 = some (.lst ((pas fs x).map V.str)) := by
        rw [el8]
        unfold pas
        rw [List.map_filterMap]
      refine ⟨D8, pas fs x, rfl, el8', ll _, fun l9 H9 s9 n9 el9 => ?_⟩
      have t79 := s8.trans s9
      have t59 := t57.trans t79
      refine ⟨_, rfl, l, sps fs x, rfl, t59 _ _ el5, ll _, fun l10 H10 s10 n10 el10 => ?_⟩
      have t510 := t59.trans s10
      have ix : ∃ z, atI ((dys fs x).map V.int ++ [.non]) 0 = some z ∧ z = ((dys fs x).head?.map V.int).getD .non := by
        cases dys fs x with
        | nil => exact ⟨_, atI_nat (j := 0) rfl, rfl⟩
        | cons d r => exact ⟨_, atI_nat (j := 0) rfl, rfl⟩
      obtain ⟨dz, ix1, ix2⟩ := ix
      refine ⟨_, rfl, c, _, _, dz, rfl, rfl, SqL.of (t510 _ _ ec), ix1, ?_⟩
      refine ⟨_, rfl, (by show 2 ≤ sizeLine; decide), fun T nT => ⟨_, rfl, .tuple (Fct.renounced x).ds, datas fs, dp_fct (fc := .renounced x) upd_same, dp_facts (hA.same ((sm5.trans t510).trans (same_upd nT))), sha_fct ?_, hsha, ?_⟩⟩
      · intro y hy
        simp only [Fct.vs, List.mem_cons, List.not_mem_nil, or_false, V.str.injEq] at hy
        rcases hy with rfl | rfl
        · decide +kernel
        · exact nm_ok hx
      rw [any_fct]
      have t5T : Same H5 (upd H10 T (.tup (Fct.renounced x).vs)) := t510.trans (same_upd nT)
      have t7T : Same H7 (upd H10 T (.tup (Fct.renounced x).vs)) := (t79.trans s10).trans (same_upd nT)
      have t9T : Same H9 (upd H10 T (.tup (Fct.renounced x).vs)) := s10.trans (same_upd nT)
      have t10T : Same H10 (upd H10 T (.tup (Fct.renounced x).vs)) := same_upd nT
      have smT := sm5.trans t5T
      refine ⟨_, rfl, a, rfl, ⟨_, SqL.of (smT _ _ e1)⟩, fun D11 hD11 => tlc_facts (qs := qs) (fs := fs) (fun fc => (ad1 x fc).map V.int) (smT _ _ e1) e2 (fun i q fc h1 h2 => smT _ _ (e3 i q fc h1 h2)) (by omega) turn_ad hD11 fun H11 s11 el11 => ?_⟩
      have el11' : H11 D11 = some (.lst ((ads fs x).map V.int)) := by
        rw [el11]
        unfold ads
        rw [List.map_filterMap]
      refine ⟨D11, ads fs x, rfl, SqL.of el11', (by show 6 ≤ sizeLine; decide), fun L nL => ?_⟩
      have d7 : upd H11 L (.lst [.ref l7, .ref l9, .ref l10, dz, .bl (decide (Fct.renounced x ∈ fs)), .int (ads fs x).sum]) l7 = some (.lst ((srt (uniq (chs fs x))).map V.str)) := ((t7T.trans s11).trans (same_upd nL)) _ _ el7
      have d9 : upd H11 L (.lst [.ref l7, .ref l9, .ref l10, dz, .bl (decide (Fct.renounced x ∈ fs)), .int (ads fs x).sum]) l9 = some (.lst ((srt (uniq (pas fs x))).map V.str)) := ((t9T.trans s11).trans (same_upd nL)) _ _ el9
      have d10 : upd H11 L (.lst [.ref l7, .ref l9, .ref l10, dz, .bl (decide (Fct.renounced x ∈ fs)), .int (ads fs x).sum]) l10 = some (.lst ((srt (uniq (sps fs x))).map V.str)) := ((t10T.trans s11).trans (same_upd nL)) _ _ el10
      have dL : upd H11 L (.lst [.ref l7, .ref l9, .ref l10, dz, .bl (decide (Fct.renounced x ∈ fs)), .int (ads fs x).sum]) L = some (.lst [.ref l7, .ref l9, .ref l10, dz, .bl (decide (Fct.renounced x ∈ fs)), .int (ads fs x).sum]) := upd_same
      have sm12 : Same H (upd H11 L (.lst [.ref l7, .ref l9, .ref l10, dz, .bl (decide (Fct.renounced x ∈ fs)), .int (ads fs x).sum])) := (smT.trans s11).trans (same_upd nL)
      generalize upd H11 L (.lst [.ref l7, .ref l9, .ref l10, dz, .bl (decide (Fct.renounced x ∈ fs)), .int (ads fs x).sum]) = H12 at d7 d9 d10 dL sm12
      obtain ⟨dx, a1, a2, a3, a4, a5, a6, a7, hp, -, -, -, -, -, -, -, -⟩ := id hF.ex
      refine ⟨_, rfl, p, dx, _, rfl, sm12 _ _ hp, no_mC ⟨a1, a2, a3, a4, a5, a6, a7⟩, _, rfl, p, x, n, F, rfl, hF.same sm12, fun m1 H13 s13 k13 em1 => ?_⟩
      have sm13 := sm12.trans s13
      refine ⟨_, rfl, p, dx, _, rfl, sm13 _ _ hp, no_m1 ⟨a1, a2, a3, a4, a5, a6, a7⟩, _, rfl, p, x, n, F, rfl, hF.same sm13, fun m2 H14 s14 k14 em2 => ?_⟩
      have sm14 := sm13.trans s14
      refine ⟨_, rfl, p, dx, _, rfl, sm14 _ _ hp, no_ms ⟨a1, a2, a3, a4, a5, a6, a7⟩, _, rfl, p, x, n, F, rfl, hF.same sm14, hS.wl, fun m3 H15 s15 k15 em3 => ?_⟩
      have sm15 := sm14.trans s15
      refine ⟨_, rfl, p, dx, _, rfl, sm15 _ _ hp, no_md ⟨a1, a2, a3, a4, a5, a6, a7⟩, _, rfl, p, x, n, F, rfl, hF.same sm15, ?_⟩
      refine ⟨_, rfl, p, dx, _, rfl, sm15 _ _ hp, no_mr ⟨a1, a2, a3, a4, a5, a6, a7⟩, _, rfl, p, x, n, F, rfl, hF.same sm15, (by show 5 ≤ sizeLine; decide), fun L2 n2 => ?_⟩
      have sm16 := sm15.trans (same_upd n2 (o := .lst [.ref m1, .ref m2, .ref m3, dayV F x, .bl (F.rn x)]))
      refine ⟨_, rfl, _, rfl, p, dx, _, rfl, sm16 _ _ hp, no_ma ⟨a1, a2, a3, a4, a5, a6, a7⟩, _, rfl, p, x, n, F, rfl, hF.same sm16, (by show 1 ≤ sizeLine; decide), fun L3 n3 => ?_⟩
      refine ⟨L2, L3, _, _, rfl, rfl, by rw [upd_ne (ne_of_none upd_same n3)]; exact upd_same, upd_same, (by show 6 ≤ sizeLine; decide), fun L4 n4 => ?_⟩
      have sm17 := sm16.trans (same_upd n3 (o := .lst [.int ((F.ad x).getD 0)]))
      have q16 := same_upd n2 (o := .lst [.ref m1, .ref m2, .ref m3, dayV F x, .bl (F.rn x)])
      have q17 := q16.trans (same_upd n3 (o := .lst [.int ((F.ad x).getD 0)]))
      have q18 := q17.trans (same_upd n4 (o := .lst ([.ref m1, .ref m2, .ref m3, dayV F x, .bl (F.rn x)] ++ [.int ((F.ad x).getD 0)])))
      have c12 := ((s13.trans s14).trans s15).trans q18
      have fits : _ := toldD_fits (A := srt (uniq (chs fs x))) (B := srt (uniq (pas fs x))) (C := srt (uniq (sps fs x))) (d := (dys fs x).head?) (r := decide (Fct.renounced x ∈ fs)) (z := (ads fs x).sum) ?_ ?_ ?_ ?_ ?_ ?_
      · have dpd {Hx : Hp} : Dp K Hx dz (dayD (dys fs x).head?) := by
          rw [ix2]
          cases (dys fs x).head? with
          | none => exact .non
          | some d => exact .int d
        have ed : dayV F x = dz := by
          rw [ix2]
          unfold dayV
          rw [hS.dy]
        refine ⟨L4, toldD _ _ _ _ _ _, rfl, .lst (SqL.of upd_same) ?_, fits.1, fits.2.1, fits.2.2.1, fits.2.2.2, _, rfl, L, toldD _ _ _ _ _ _, rfl, .lst (SqL.of (c12 _ _ dL)) ?_, fits.1, fits.2.1, fits.2.2.1, fits.2.2.2, rfl, ?_⟩
        · refine .cons (dp_strD ?_) (.cons (dp_strD ?_) (.cons (dp_strD ?_) (.cons (by rw [ed]; exact dpd) (.cons ?_ (.cons ?_ .nil)))))
          · rw [← hS.ch]
            exact (((s14.trans s15).trans q18)) _ _ em1
          · rw [← hS.pa]
            exact (s15.trans q18) _ _ em2
          · rw [← hS.sp]
            exact q18 _ _ em3
          · rw [← hS.rn]
            exact .bl _
          · rw [← hS.ad]
            exact .int _
        · exact .cons (dp_strD (c12 _ _ d7)) (.cons (dp_strD (c12 _ _ d9)) (.cons (dp_strD (c12 _ _ d10)) (.cons dpd (.cons (.bl _) (.cons (.int _) .nil)))))
        · rw [decide_eq_true rfl]
          exact go _ (sm15.trans q18)
      · intro y hy
        rcases List.mem_append.mp hy with hy | hy
        · rcases List.mem_append.mp hy with hy | hy
          · exact fact_nm (hgood _ (chs_mem.mp (uniq_mem.mp (srt_mem.mp hy))))
          · exact (fact_nm3 (hgood _ (pas_mem (uniq_mem.mp (srt_mem.mp hy)))) (.inl rfl)).1
        · obtain ⟨u, v, hm, e⟩ := sps_mem (uniq_mem.mp (srt_mem.mp hy))
          rcases e with rfl | rfl
          · exact fact_nm (hgood _ hm)
          · exact (fact_nm3 (hgood _ hm) (.inr (.inl rfl))).1
      · exact Nat.le_trans (srt_uniq_len _) (by rw [chs_eq]; exact ll _)
      · exact Nat.le_trans (srt_uniq_len _) (ll _)
      · exact Nat.le_trans (srt_uniq_len _) (ll _)
      · intro e he
        have m : e ∈ dys fs x := List.mem_of_mem_head? he
        have := fact_amt (.inl rfl) (hgood _ (dys_mem m))
        have : (10 : Nat) ^ 12 = 1000000000000 := by decide
        omega
      · have h1 := sum_le fun d hd => fact_amt (.inr rfl) (hgood _ (ads_mem (x := x) hd))
        have h2 := List.length_filterMap_le (ad1 x) fs
        have h3 : (ads fs x).length ≤ 120 := Nat.le_trans h2 hn
        have : (10 : Nat) ^ 12 = 1000000000000 := by decide
        omega
end
end K1
namespace K1
open PySem L2 PyProof.Rows PySem.Spec G
/-- good facts, one behind the other, none of which contradicts those ahead -/
inductive Told : List Fct → Fm → Prop
  | nil : Told [] Fm.none
  | snoc {fs : List Fct} {F : Fm} {fc : Fct} (h : Told fs F) (g : factV fc.vs = true) (b : F.bad fc = false) : Told (fs ++ [fc]) (F.learn fc)
theorem run_app (F0 : Fm) (i : Nat) (os ps : List (Option Fct)) : run F0 i (os ++ ps) = match run F0 i os with
    | .inl F => run F (i + os.length) ps
    | .inr j => .inr j := by
  induction os generalizing F0 i with
  | nil => rfl
  | cons o os ih =>
    cases o with
    | none => rfl
    | some fc =>
      show (if F0.bad fc = true then .inr i else run (F0.learn fc) (i + 1) (os ++ ps)) = match (if F0.bad fc = true then (.inr i : Fm ⊕ Nat) else run (F0.learn fc) (i + 1) os) with
        | .inl F => run F (i + (os.length + 1)) ps
        | .inr j => .inr j
      by_cases b : F0.bad fc = true
      · rw [if_pos b, if_pos b]
      · rw [if_neg b, if_neg b, ih, show i + 1 + os.length = i + (os.length + 1) by omega]
theorem Told.run {fs : List Fct} {F : Fm} (h : Told fs F) : run Fm.none 0 (fs.map some) = .inl F := by
  induction h with
  | nil => rfl
  | snoc h g b ih =>
    rw [List.map_append, run_app, ih]
    show (if _ = true then _ else _) = _
    rw [if_neg (by rw [b]; decide)]
    rfl
theorem Told.good {fs : List Fct} {F : Fm} (h : Told fs F) : ∀ fc ∈ fs, factV fc.vs = true := by
  induction h with
  | nil => exact fun fc h => by cases h
  | snoc h g b ih =>
    intro fc hf
    rcases List.mem_append.mp hf with m | m
    · exact ih fc m
    · rw [List.mem_singleton.mp m]
      exact g
/-- a table's list: ascending, each once -/
def Asc (zs : List Str) : Prop := zs.Pairwise (fun a b => leT a b = true) ∧ zs.Nodup
theorem asc_nil : Asc [] := ⟨.nil, .nil⟩
theorem asc_jn {zs : List Str} {x : Str} (h : Asc zs) : Asc (jn zs x) := by
  unfold jn
  split
  · exact h
  · next n =>
    refine ⟨srt_pw _, (srt_perm _).nodup_iff.mpr (List.nodup_append.mpr ⟨h.2, List.pairwise_singleton _ _, fun a ha b hb e => n ?_⟩)⟩
    rw [← List.mem_singleton.mp hb, ← e]
    exact ha
theorem asc_eq {zs ys : List Str} (h : Asc zs) (m : ∀ y, y ∈ zs ↔ y ∈ ys) : zs = srt (uniq ys) :=
  srt_one ((List.perm_ext_iff_of_nodup h.2 uniq_nd).mpr fun y => (m y).trans uniq_mem.symm) h.1
/-- what the tables hold -/
structure View (fs : List Fct) (F : Fm) : Prop where
  ch : ∀ x, Asc (F.ch x) ∧ ∀ y, y ∈ F.ch x ↔ Fct.child y x ∈ fs
  pa : ∀ x, Asc (F.pa x) ∧ ∀ y, y ∈ F.pa x ↔ Fct.child x y ∈ fs
  we : ∀ x, Asc (F.we x) ∧ ∀ y, y ∈ F.we x ↔ Fct.wed x y ∈ fs ∨ Fct.wed y x ∈ fs
  pt : ∀ x, Asc (F.pt x) ∧ ∀ y, y ∈ F.pt x ↔ Fct.parted x y ∈ fs ∨ Fct.parted y x ∈ fs
  dy : ∀ x, F.dy x = (dys fs x).head?
  rn : ∀ x, F.rn x = decide (Fct.renounced x ∈ fs)
  ad : ∀ x, (F.ad x).getD 0 = (ads fs x).sum
theorem mem_snoc {fs : List Fct} {fc g : Fct} : g ∈ fs ++ [fc] ↔ g ∈ fs ∨ g = fc := by
  rw [List.mem_append, List.mem_singleton]
theorem both_get {f : Str → List Str} {a b : Str} (ab : a ≠ b) (x : Str) : both f a b x = if x = b then jn (f b) a else if x = a then jn (f a) b else f x := by
  unfold both
  by_cases e : x = b
  · rw [e, up_same, if_pos rfl, up_ne (Ne.symm ab)]
  · rw [up_ne e, if_neg e]
    by_cases e2 : x = a
    · rw [e2, up_same, if_pos rfl]
    · rw [up_ne e2, if_neg e2]
theorem both_view {f : Str → List Str} {a b : Str} (ab : a ≠ b) {R R' : Str → Str → Prop} (h : ∀ x, Asc (f x) ∧ ∀ y, y ∈ f x ↔ R x y) (r : ∀ x y, R' x y ↔ R x y ∨ (x = a ∧ y = b) ∨ (x = b ∧ y = a)) : ∀ x, Asc (both f a b x) ∧ ∀ y, y ∈ both f a b x ↔ R' x y := by
  intro x
  rw [both_get ab]
  by_cases e : x = b
  · rw [if_pos e]
    refine ⟨asc_jn (h b).1, fun y => ?_⟩
    rw [jn_mem, (h b).2, r, e]
    exact ⟨fun q => q.imp id fun z => .inr ⟨rfl, z⟩, fun q => q.imp id fun z => z.elim (fun w => absurd w.1.symm ab) (·.2)⟩
  · rw [if_neg e]
    by_cases e2 : x = a
    · rw [if_pos e2]
      refine ⟨asc_jn (h a).1, fun y => ?_⟩
      rw [jn_mem, (h a).2, r, e2]
      exact ⟨fun q => q.imp id fun z => .inl ⟨rfl, z⟩, fun q => q.imp id fun z => z.elim (·.2) fun w => absurd w.1 ab⟩
    · rw [if_neg e2]
      refine ⟨(h x).1, fun y => ?_⟩
      rw [(h x).2, r]
      exact ⟨.inl, fun q => q.elim id fun z => z.elim (fun w => absurd w.1 e2) fun w => absurd w.1 e⟩
theorem same_view {f : Str → List Str} {R R' : Str → Str → Prop} (h : ∀ x, Asc (f x) ∧ ∀ y, y ∈ f x ↔ R x y) (r : ∀ x y, R' x y ↔ R x y) : ∀ x, Asc (f x) ∧ ∀ y, y ∈ f x ↔ R' x y := fun x => ⟨(h x).1, fun y => ((h x).2 y).trans (r x y).symm⟩
theorem up_view {f : Str → List Str} {k v : Str} {R R' : Str → Str → Prop} (h : ∀ x, Asc (f x) ∧ ∀ y, y ∈ f x ↔ R x y) (r : ∀ x y, R' x y ↔ R x y ∨ (x = k ∧ y = v)) : ∀ x, Asc (up f k (jn (f k) v) x) ∧ ∀ y, y ∈ up f k (jn (f k) v) x ↔ R' x y := by
  intro x
  by_cases e : x = k
  · rw [e, up_same]
    refine ⟨asc_jn (h k).1, fun y => ?_⟩
    rw [jn_mem, (h k).2, r]
    exact ⟨fun q => q.imp id fun z => ⟨rfl, z⟩, fun q => q.imp id (·.2)⟩
  · rw [up_ne e]
    refine ⟨(h x).1, fun y => ?_⟩
    rw [(h x).2, r]
    exact ⟨.inl, fun q => q.elim id fun w => absurd w.1 e⟩
theorem filt_snoc {β : Type} (f : Fct → Option β) (fs : List Fct) (fc : Fct) : (fs ++ [fc]).filterMap f = fs.filterMap f ++ (f fc).toList := by
  rw [List.filterMap_append]
  cases e : f fc with
  | none => simp [e]
  | some z => simp [e]
theorem died_view {fs : List Fct} {F : Fm} {a : Str} {d : Int} (h : ∀ x, F.dy x = (dys fs x).head?) (b : F.bad (.died a d) = false) : ∀ x, (F.learn (.died a d)).dy x = (dys (fs ++ [.died a d]) x).head? := by
  intro x
  show up F.dy a (some d) x = _
  unfold dys
  rw [filt_snoc]
  have b' : (!decide ((F.dy a).getD d = d)) = false := b
  have b2 : (F.dy a).getD d = d := by simpa using b'
  by_cases e : x = a
  · subst e
    rw [up_same]
    have e1 : dy1 x (.died x d) = some d := if_pos rfl
    rw [e1]
    have hx := h x
    unfold dys at hx
    cases q : fs.filterMap (dy1 x) with
    | nil => rfl
    | cons z r =>
      rw [q] at hx
      rw [hx] at b2
      have b3 : z = d := b2
      rw [b3]
      rfl
  · rw [up_ne e]
    have e1 : dy1 x (.died a d) = none := if_neg fun z => e z.symm
    rw [e1]
    simpa [dys] using h x
theorem ren_view {fs : List Fct} {F : Fm} {a : Str} (h : ∀ x, F.rn x = decide (Fct.renounced x ∈ fs)) : ∀ x, (F.learn (.renounced a)).rn x = decide (Fct.renounced x ∈ fs ++ [.renounced a]) := by
  intro x
  show up F.rn a true x = _
  by_cases e : x = a
  · subst e
    rw [up_same]
    exact (decide_eq_true (mem_snoc.mpr (.inr rfl))).symm
  · rw [up_ne e, h x]
    refine decide_eq_decide.mpr (Iff.symm (mem_snoc.trans ⟨fun q => q.elim id fun z => absurd (Fct.renounced.inj z) e, .inl⟩))
theorem adv_view {fs : List Fct} {F : Fm} {a : Str} {d : Int} (h : ∀ x, (F.ad x).getD 0 = (ads fs x).sum) : ∀ x, ((F.learn (.advance a d)).ad x).getD 0 = (ads (fs ++ [.advance a d]) x).sum := by
  intro x
  show (up F.ad a (some ((F.ad a).getD 0 + d)) x).getD 0 = _
  unfold ads
  rw [filt_snoc]
  by_cases e : x = a
  · subst e
    rw [up_same]
    have e1 : ad1 x (.advance x d) = some d := if_pos rfl
    rw [e1, List.sum_append]
    have := h x
    unfold ads at this
    rw [← this]
    simp
  · rw [up_ne e]
    have e1 : ad1 x (.advance a d) = none := if_neg fun z => e z.symm
    rw [e1]
    simpa [ads] using h x
theorem Told.view {fs : List Fct} {F : Fm} (h : Told fs F) : View fs F := by
  induction h with
  | nil => exact ⟨fun x => ⟨asc_nil, fun y => by simp [Fm.none]⟩, fun x => ⟨asc_nil, fun y => by simp [Fm.none]⟩, fun x => ⟨asc_nil, fun y => by simp [Fm.none]⟩, fun x => ⟨asc_nil, fun y => by simp [Fm.none]⟩, fun x => rfl, fun x => by simp [Fm.none], fun x => rfl⟩
  | snoc h g b ih =>
    rename_i fs F fc
    cases fc with
    | child c p => exact ⟨up_view ih.ch fun x y => by rw [mem_snoc]; simp [and_comm],
        up_view ih.pa fun x y => by rw [mem_snoc]; simp,
        same_view ih.we fun x y => by rw [mem_snoc, mem_snoc]; simp,
        same_view ih.pt fun x y => by rw [mem_snoc, mem_snoc]; simp,
        fun x => by show F.dy x = _; unfold dys; rw [filt_snoc]; simpa [dy1, dys] using ih.dy x,
        fun x => by show F.rn x = _; rw [ih.rn x]; exact decide_eq_decide.mpr (by rw [mem_snoc]; simp),
        fun x => by show (F.ad x).getD 0 = _; unfold ads; rw [filt_snoc]; simpa [ad1, ads] using ih.ad x⟩
    | wed c p => exact ⟨same_view ih.ch fun x y => by rw [mem_snoc]; simp,
        same_view ih.pa fun x y => by rw [mem_snoc]; simp,
        both_view (fun e => (fact_nm3 g (.inr (.inl rfl))).2 (congrArg V.str e)) ih.we fun x y => by rw [mem_snoc, mem_snoc]; simp; grind,
        same_view ih.pt fun x y => by rw [mem_snoc, mem_snoc]; simp,
        fun x => by show F.dy x = _; unfold dys; rw [filt_snoc]; simpa [dy1, dys] using ih.dy x,
        fun x => by show F.rn x = _; rw [ih.rn x]; exact decide_eq_decide.mpr (by rw [mem_snoc]; simp),
        fun x => by show (F.ad x).getD 0 = _; unfold ads; rw [filt_snoc]; simpa [ad1, ads] using ih.ad x⟩
    | parted c p => exact ⟨same_view ih.ch fun x y => by rw [mem_snoc]; simp,
        same_view ih.pa fun x y => by rw [mem_snoc]; simp,
        same_view ih.we fun x y => by rw [mem_snoc, mem_snoc]; simp,
        both_view (fun e => (fact_nm3 g (.inr (.inr rfl))).2 (congrArg V.str e)) ih.pt fun x y => by rw [mem_snoc, mem_snoc]; simp; grind,
        fun x => by show F.dy x = _; unfold dys; rw [filt_snoc]; simpa [dy1, dys] using ih.dy x,
        fun x => by show F.rn x = _; rw [ih.rn x]; exact decide_eq_decide.mpr (by rw [mem_snoc]; simp),
        fun x => by show (F.ad x).getD 0 = _; unfold ads; rw [filt_snoc]; simpa [ad1, ads] using ih.ad x⟩
    | died c p => exact ⟨same_view ih.ch fun x y => by rw [mem_snoc]; simp,
        same_view ih.pa fun x y => by rw [mem_snoc]; simp,
        same_view ih.we fun x y => by rw [mem_snoc, mem_snoc]; simp,
        same_view ih.pt fun x y => by rw [mem_snoc, mem_snoc]; simp,
        died_view ih.dy b,
        fun x => by show F.rn x = _; rw [ih.rn x]; exact decide_eq_decide.mpr (by rw [mem_snoc]; simp),
        fun x => by show (F.ad x).getD 0 = _; unfold ads; rw [filt_snoc]; simpa [ad1, ads] using ih.ad x⟩
    | renounced c => exact ⟨same_view ih.ch fun x y => by rw [mem_snoc]; simp,
        same_view ih.pa fun x y => by rw [mem_snoc]; simp,
        same_view ih.we fun x y => by rw [mem_snoc, mem_snoc]; simp,
        same_view ih.pt fun x y => by rw [mem_snoc, mem_snoc]; simp,
        fun x => by show F.dy x = _; unfold dys; rw [filt_snoc]; simpa [dy1, dys] using ih.dy x,
        ren_view ih.rn,
        fun x => by show (F.ad x).getD 0 = _; unfold ads; rw [filt_snoc]; simpa [ad1, ads] using ih.ad x⟩
    | advance c p => exact ⟨same_view ih.ch fun x y => by rw [mem_snoc]; simp,
        same_view ih.pa fun x y => by rw [mem_snoc]; simp,
        same_view ih.we fun x y => by rw [mem_snoc, mem_snoc]; simp,
        same_view ih.pt fun x y => by rw [mem_snoc, mem_snoc]; simp,
        fun x => by show F.dy x = _; unfold dys; rw [filt_snoc]; simpa [dy1, dys] using ih.dy x,
        fun x => by show F.rn x = _; rw [ih.rn x]; exact decide_eq_decide.mpr (by rw [mem_snoc]; simp),
        adv_view ih.ad⟩
theorem pas_iff {fs : List Fct} {x y : Str} : y ∈ pas fs x ↔ Fct.child x y ∈ fs := ⟨pas_mem, fun h => List.mem_filterMap.mpr ⟨_, h, if_pos rfl⟩⟩
theorem sps_iff {fs : List Fct} (hg : ∀ fc ∈ fs, factV fc.vs = true) {x y : Str} : y ∈ sps fs x ↔ (Fct.wed x y ∈ fs ∨ Fct.wed y x ∈ fs) ∧ ¬ (Fct.parted x y ∈ fs ∨ Fct.parted y x ∈ fs) := by
  have ne {a b : Str} (h : Fct.wed a b ∈ fs) : a ≠ b := fun e => (fact_nm3 (hg _ h) (.inr (.inl rfl))).2 (congrArg V.str e)
  constructor
  · intro h
    obtain ⟨fc, hf, e⟩ := List.mem_filterMap.mp h
    cases fc with
    | wed a b =>
      have e' : (if x = a ∨ x = b then (if Fct.parted x (if a = x then b else a) ∈ fs ∨ Fct.parted (if a = x then b else a) x ∈ fs then none else some (if a = x then b else a)) else none) = some y := e
      by_cases q1 : x = a ∨ x = b
      · rw [if_pos q1] at e'
        by_cases r : a = x
        · rw [if_pos r] at e'
          by_cases q2 : Fct.parted x b ∈ fs ∨ Fct.parted b x ∈ fs
          · rw [if_pos q2] at e'
            cases e'
          · rw [if_neg q2] at e'
            have := Option.some.inj e'
            rw [← this]
            exact ⟨.inl (r ▸ hf), q2⟩
        · rw [if_neg r] at e'
          have xb : x = b := q1.elim (fun z => absurd z.symm r) id
          by_cases q2 : Fct.parted x a ∈ fs ∨ Fct.parted a x ∈ fs
          · rw [if_pos q2] at e'
            cases e'
          · rw [if_neg q2] at e'
            have := Option.some.inj e'
            rw [← this]
            exact ⟨.inr (xb ▸ hf), q2⟩
      · rw [if_neg q1] at e'
        cases e'
    | _ => cases e
  · rintro ⟨h, np⟩
    rcases h with h | h
    · refine List.mem_filterMap.mpr ⟨_, h, ?_⟩
      show (if x = x ∨ x = y then (if Fct.parted x (if x = x then y else x) ∈ fs ∨ Fct.parted (if x = x then y else x) x ∈ fs then none else some (if x = x then y else x)) else none) = some y
      rw [if_pos (.inl rfl), if_pos rfl, if_neg np]
    · refine List.mem_filterMap.mpr ⟨_, h, ?_⟩
      show (if x = y ∨ x = x then (if Fct.parted x (if y = x then x else y) ∈ fs ∨ Fct.parted (if y = x then x else y) x ∈ fs then none else some (if y = x then x else y)) else none) = some y
      rw [if_pos (.inr rfl), if_neg (ne h), if_neg np]
theorem Told.lens {fs : List Fct} {F : Fm} (h : Told fs F) : LenOk F (2 * fs.length) := by
  induction h with
  | nil => exact LenOk.none
  | snoc h g b ih =>
    have := ih.learn (by assumption)
    rw [List.length_append, List.length_singleton, Nat.mul_add]
    exact ih.learn _
theorem Told.sees {fs : List Fct} {F : Fm} (h : Told fs F) (hn : fs.length ≤ 120) (x : Str) : Sees F fs x := by
  have v := h.view
  refine ⟨asc_eq (v.ch x).1 fun y => ((v.ch x).2 y).trans chs_mem.symm, asc_eq (v.pa x).1 fun y => ((v.pa x).2 y).trans pas_iff.symm, asc_eq ?_ fun y => ?_, v.dy x, v.rn x, v.ad x, by have := h.lens.we x; omega⟩
  · exact ⟨(v.we x).1.1.filter _, (v.we x).1.2.filter _⟩
  · unfold sp
    rw [List.mem_filter, (v.we x).2, sps_iff h.good]
    refine and_congr Iff.rfl ?_
    rw [Bool.not_eq_true', decide_eq_false_iff_not, (v.pt x).2]
theorem Dsc.mono {R R' : Str → List Str} (h : ∀ x, ∀ y ∈ R x, y ∈ R' x) {x y : Str} (d : Dsc R x y) : Dsc R' x y := by
  induction d with
  | one m => exact .one (h _ _ m)
  | more _ m ih => exact .more ih (h _ _ m)
theorem Told.dsc {fs : List Fct} {F : Fm} (h : Told fs F) {x y : Str} : Dsc F.ch x y ↔ Dsc (chs fs) x y :=
  ⟨Dsc.mono fun x y m => chs_mem.mpr (((h.view.ch x).2 y).mp m), Dsc.mono fun x y m => ((h.view.ch x).2 y).mpr (chs_mem.mp m)⟩
end K1
namespace K1
open PySem L2 PyProof.Rows PySem.Spec G
/-! the facts that the law draws -/
def pn (k : Nat) : Str := ("p" : Str) ++ dig (k : Int)
def bnames : List Str := (List.range 13).map pn ++ (["q1", "q2"] : List Str)
def rk (s : Str) : Nat := bnames.findIdx fun x => decide (x = s)
theorem pn_rk : ∀ i : _root_.Fin 13, rk (pn i.val) = i.val := by decide +kernel
theorem bn_nm : ∀ x ∈ bnames, isNm x = true := by decide +kernel
theorem pn_base {i : Nat} (h : i < 13) : pn i ∈ bnames := List.mem_append_left _ (List.mem_map.mpr ⟨i, List.mem_range.mpr h, rfl⟩)
theorem rk_pn {i : Nat} (h : i < 13) : rk (pn i) = i := pn_rk ⟨i, h⟩
theorem pn_inj {i j : Nat} (hi : i < 13) (hj : j < 13) (e : pn i = pn j) : i = j := by
  rw [← rk_pn hi, ← rk_pn hj, e]
structure FS (n : Nat) (fs : List Fct) : Prop where
  to : ∃ F, Told fs F
  nm : ∀ fc ∈ fs, ∀ x, V.str x ∈ fc.vs.tail → x ∈ bnames
  ch : ∀ c p, Fct.child c p ∈ fs → ∃ i j, j < i ∧ i < 13 ∧ c = pn i ∧ p = pn j
  ln : fs.length ≤ n
theorem FS.nil : FS 0 [] := ⟨⟨_, .nil⟩, fun fc h => (by cases h), fun c p h => (by cases h), Nat.le_refl _⟩
theorem FS.mono {n m : Nat} {fs : List Fct} (h : FS n fs) (l : n ≤ m) : FS m fs := ⟨h.to, h.nm, h.ch, Nat.le_trans h.ln l⟩
theorem FS.rank {n : Nat} {fs : List Fct} (h : FS n fs) : Rank fs rk := fun c p m => by
  obtain ⟨i, j, ji, hi, rfl, rfl⟩ := h.ch c p m
  rw [rk_pn hi, rk_pn (Nat.lt_trans ji hi)]
  omega
theorem FS.add {n : Nat} {fs : List Fct} (h : FS n fs) {fc : Fct} (g : factV fc.vs = true) (b : ∀ F, Told fs F → F.bad fc = false) (m : ∀ x, V.str x ∈ fc.vs.tail → x ∈ bnames) (c : ∀ c p, fc = .child c p → ∃ i j, j < i ∧ i < 13 ∧ c = pn i ∧ p = pn j) : FS (n + 1) (fs ++ [fc]) := by
  obtain ⟨F, t⟩ := h.to
  refine ⟨⟨_, t.snoc g (b F t)⟩, fun f hf => ?_, fun c' p' hf => ?_, ?_⟩
  · rcases mem_snoc.mp hf with q | q
    · exact h.nm f q
    · rw [q]
      exact m
  · rcases mem_snoc.mp hf with q | q
    · exact h.ch c' p' q
    · exact c c' p' q.symm
  · rw [List.length_append, List.length_singleton]
    exact Nat.succ_le_succ h.ln
theorem good3 {w a b : Str} (hw : w = "child" ∨ w = "wed" ∨ w = "parted") (ha : isNm a = true) (hb : isNm b = true) (ne : a ≠ b) : factV [.str w, .str a, .str b] = true := by
  show (isStr (.str w) && nameV (.str a) && threeV (.str w) (.str a) (.str b)) = true
  unfold threeV
  rw [if_pos (by rcases hw with rfl | rfl | rfl <;> simp)]
  show (true && isNm a && (isNm b && !decide (V.str a = .str b))) = true
  rw [ha, hb, decide_eq_false (fun z => ne (V.str.inj z))]
  rfl
theorem good3i {w a : Str} {d : Int} (hw : w = "died" ∨ w = "advance") (ha : isNm a = true) (h0 : 0 ≤ d) (h1 : d ≤ 1000000000) : factV [.str w, .str a, .int d] = true := by
  show (isStr (.str w) && nameV (.str a) && threeV (.str w) (.str a) (.int d)) = true
  unfold threeV
  rw [if_neg (by rcases hw with rfl | rfl <;> decide +kernel)]
  show (true && isNm a && ((decide (V.str w = .str "died") || decide (V.str w = .str "advance")) && (decide (0 ≤ d) && decide (d ≤ 1000000000)))) = true
  rw [ha, decide_eq_true h0, decide_eq_true h1]
  rcases hw with rfl | rfl <;> decide +kernel
theorem good2 {a : Str} (ha : isNm a = true) : factV [.str "renounced", .str a] = true := by
  show (true && isNm a && decide (V.str ("renounced" : Str) = .str "renounced")) = true
  rw [ha, decide_eq_true rfl]
  rfl
theorem FS.child {n : Nat} {fs : List Fct} (h : FS n fs) {i j : Nat} (ji : j < i) (hi : i < 13) (l : (pas fs (pn i)).length ≤ 1) : FS (n + 1) (fs ++ [.child (pn i) (pn j)]) := by
  have hj := Nat.lt_trans ji hi
  refine h.add (good3 (.inl rfl) (bn_nm _ (pn_base hi)) (bn_nm _ (pn_base hj)) fun e => ?_) (fun F t => ?_) (fun x hx => ?_) fun c p e => ?_
  · have := pn_inj hi hj e
    omega
  · have e1 : F.pa (pn i) = srt (uniq (pas fs (pn i))) := asc_eq (t.view.pa _).1 fun y => ((t.view.pa _).2 y).trans pas_iff.symm
    have l1 := srt_uniq_len (pas fs (pn i))
    rw [← e1] at l1
    show (decide ((F.pa (pn i)).length = 2) && !decide (pn j ∈ F.pa (pn i))) = false
    rw [decide_eq_false (by omega)]
    rfl
  · simp only [Fct.vs, List.tail_cons, List.mem_cons, List.not_mem_nil, or_false, V.str.injEq] at hx
    rcases hx with rfl | rfl
    · exact pn_base hi
    · exact pn_base hj
  · obtain ⟨rfl, rfl⟩ := Fct.child.inj e
    exact ⟨i, j, ji, hi, rfl, rfl⟩
theorem FS.died {n : Nat} {fs : List Fct} (h : FS n fs) {x : Str} {d : Int} (hx : x ∈ bnames) (h0 : 0 ≤ d) (h1 : d ≤ 1000000000) (l : dys fs x = []) : FS (n + 1) (fs ++ [.died x d]) := by
  refine h.add (good3i (.inl rfl) (bn_nm _ hx) h0 h1) (fun F t => ?_) (fun y hy => ?_) fun c p e => by cases e
  · show (!decide ((F.dy x).getD d = d)) = false
    rw [t.view.dy x, l]
    simp
  · simp only [Fct.vs, List.tail_cons, List.mem_cons, List.not_mem_nil, or_false, V.str.injEq, reduceCtorEq] at hy
    rw [hy]
    exact hx
theorem FS.ren {n : Nat} {fs : List Fct} (h : FS n fs) {x : Str} (hx : x ∈ bnames) : FS (n + 1) (fs ++ [.renounced x]) := by
  refine h.add (good2 (bn_nm _ hx)) (fun F t => rfl) (fun y hy => ?_) fun c p e => by cases e
  simp only [Fct.vs, List.tail_cons, List.mem_cons, List.not_mem_nil, or_false, V.str.injEq] at hy
  rw [hy]
  exact hx
theorem FS.adv {n : Nat} {fs : List Fct} (h : FS n fs) {x : Str} {d : Int} (hx : x ∈ bnames) (h0 : 0 ≤ d) (h1 : d ≤ 1000000000) : FS (n + 1) (fs ++ [.advance x d]) := by
  refine h.add (good3i (.inr rfl) (bn_nm _ hx) h0 h1) (fun F t => rfl) (fun y hy => ?_) fun c p e => by cases e
  simp only [Fct.vs, List.tail_cons, List.mem_cons, List.not_mem_nil, or_false, V.str.injEq, reduceCtorEq] at hy
  rw [hy]
  exact hx
theorem FS.wed {n : Nat} {fs : List Fct} (h : FS n fs) {x y : Str} (hx : x ∈ bnames) (hy : y ∈ bnames) (ne : x ≠ y) : FS (n + 1) (fs ++ [.wed x y]) := by
  refine h.add (good3 (.inr (.inl rfl)) (bn_nm _ hx) (bn_nm _ hy) ne) (fun F t => rfl) (fun z hz => ?_) fun c p e => by cases e
  simp only [Fct.vs, List.tail_cons, List.mem_cons, List.not_mem_nil, or_false, V.str.injEq] at hz
  rcases hz with rfl | rfl
  · exact hx
  · exact hy
theorem FS.parted {n : Nat} {fs : List Fct} (h : FS n fs) {x y : Str} (hx : x ∈ bnames) (hy : y ∈ bnames) (ne : x ≠ y) : FS (n + 1) (fs ++ [.parted x y]) := by
  refine h.add (good3 (.inr (.inr rfl)) (bn_nm _ hx) (bn_nm _ hy) ne) (fun F t => rfl) (fun z hz => ?_) fun c p e => by cases e
  simp only [Fct.vs, List.tail_cons, List.mem_cons, List.not_mem_nil, or_false, V.str.injEq] at hz
  rcases hz with rfl | rfl
  · exact hx
  · exact hy
theorem pas_snoc (fs : List Fct) (fc : Fct) (x : Str) : pas (fs ++ [fc]) x = pas fs x ++ (pa1 x fc).toList := filt_snoc _ _ _
theorem dys_snoc (fs : List Fct) (fc : Fct) (x : Str) : dys (fs ++ [fc]) x = dys fs x ++ (dy1 x fc).toList := filt_snoc _ _ _
/-- one more fact at the end of the list that stands -/
theorem FactsAt.push {H H' : Hp} {a q : Addr} {fs : List Fct} {fc : Fct} (qs : List Addr) (e1 : H a = some (.lst (qs.map V.ref))) (e2 : qs.length = fs.length) (e3 : ∀ (i : Nat) (q : Addr) (fc : Fct), qs[i]? = some q → fs[i]? = some fc → H q = some (.tup fc.vs))
    (b : But a H H') (hq : H' q = some (.tup fc.vs)) (ha : H' a = some (.lst ((qs ++ [q]).map V.ref))) : FactsAt H' a (fs ++ [fc]) := by
  refine ⟨qs ++ [q], ha, by rw [List.length_append, List.length_append, e2]; rfl, fun i p f h1 h2 => ?_⟩
  rcases Nat.lt_or_ge i qs.length with lt | ge
  · rw [List.getElem?_append_left lt] at h1
    rw [List.getElem?_append_left (by omega)] at h2
    exact b _ _ (e3 i p f h1 h2) (ne_of (e3 i p f h1 h2) e1 (by intro e; cases e))
  · rw [List.getElem?_append_right ge] at h1
    rw [List.getElem?_append_right (by omega), ← e2] at h2
    cases k : i - qs.length with
    | zero =>
      rw [k] at h1 h2
      obtain rfl : q = p := Option.some.inj h1
      obtain rfl : fc = f := Option.some.inj h2
      exact hq
    | succ m =>
      rw [k] at h1
      cases h1
end K1
namespace K1
open PySem L2 PyProof.Rows PySem.Spec G
def names (cnt : Nat) : List Str := (List.range cnt).map pn
/-- what stands while the facts are drawn -/
structure Sx (H Hy : Hp) (d l na fa : Addr) (at' : Nat) (xs : List Int) (cnt : Nat) (fs : List Fct) : Prop where
  sm : Same H Hy
  fe : Feed Hy d l at' xs
  nm : Hy na = some (.lst ((names cnt).map V.str))
  ft : FactsAt Hy fa fs
  hd : H d = none
  hf : H fa = none
  nf : na ≠ fa
  lf : l ≠ fa
section
variable {H Hy : Hp} {d l na fa : Addr} {at' : Nat} {xs : List Int} {cnt : Nat} {fs : List Fct}
theorem Sx.take (x : Sx H Hy d l na fa at' xs cnt fs) {H' : Hp} (b : But d Hy H') (f : Feed H' d l (at' + 1) xs) : Sx H H' d l na fa (at' + 1) xs cnt fs := by
  obtain ⟨qs, e1, e2, e3⟩ := x.ft
  refine ⟨fun c o hc => b _ _ (x.sm c o hc) (ne_of_none hc x.hd), f, b _ _ x.nm (ne_of x.nm x.fe.hd (by intro z; cases z)), ⟨qs, b _ _ e1 (ne_of e1 x.fe.hd (by intro z; cases z)), e2, fun i q fc h1 h2 => b _ _ (e3 i q fc h1 h2) (ne_of (e3 i q fc h1 h2) x.fe.hd (by intro z; cases z))⟩, x.hd, x.hf, x.nf, x.lf⟩
theorem Sx.go (x : Sx H Hy d l na fa at' xs cnt fs) {H' : Hp} (s : Same Hy H') : Sx H H' d l na fa at' xs cnt fs :=
  ⟨x.sm.trans s, ⟨s _ _ x.fe.hd, s _ _ x.fe.hl, x.fe.ne, x.fe.sm, x.fe.nu⟩, s _ _ x.nm, x.ft.same s, x.hd, x.hf, x.nf, x.lf⟩
theorem Sx.push (x : Sx H Hy d l na fa at' xs cnt fs) {q : Addr} {fc : Fct} (hq : Hy q = some (.tup fc.vs)) : ∃ qs : List Addr, Hy fa = some (.lst (qs.map V.ref)) ∧ qs.length = fs.length ∧ Sx H (upd Hy fa (.lst (qs.map V.ref ++ [.ref q]))) d l na fa at' xs cnt (fs ++ [fc]) := by
  obtain ⟨qs, e1, e2, e3⟩ := x.ft
  have b : But fa Hy (upd Hy fa (.lst (qs.map V.ref ++ [.ref q]))) := fun c o hc ne => by
    rw [upd_ne ne]
    exact hc
  refine ⟨qs, e1, e2, fun c o hc => b _ _ (x.sm c o hc) (ne_of_none hc x.hf), ⟨b _ _ x.fe.hd (ne_of x.fe.hd e1 (by intro z; cases z)), b _ _ x.fe.hl x.lf, x.fe.ne, x.fe.sm, x.fe.nu⟩, b _ _ x.nm x.nf, ?_, x.hd, x.hf, x.nf, x.lf⟩
  exact FactsAt.push qs e1 e2 e3 b (b _ _ hq (ne_of hq e1 (by intro z; cases z))) (by rw [upd_same, List.map_append]; rfl)
theorem name_at (x : Sx H Hy d l na fa at' xs cnt fs) {k : Nat} (h : k < cnt) : atI ((names cnt).map V.str) (k : Int) = some (.str (pn k)) := by
  refine atI_nat ?_
  unfold names
  rw [List.map_map, List.getElem?_map, List.getElem?_range h]
  rfl
end
end K1
namespace K1
open PySem L2 PyProof.Rows PySem.Spec G
/-- built-ins that the law's facts ask -/
structure FtT (mg : Str → Option Value) : Prop where
  range : mg "range" = none
  max : mg "max" = none
  str : mg "str" = none
section
variable {P : Program} {w : World} {K : PySem.W.Frag} {mg : Str → Option Value} {base : Heap}
abbrev nFts : List Str := ["cell", "feed", "count", "k", "names", "facts", "j", "dead", "one", "two"]
theorem scFts : FnScope nFts ["cell"] (defScope sFts) := ⟨rfl, rfl, rfl, by decide +kernel, rfl, by decide +kernel, by decide +kernel⟩
theorem cut_at {G : Prop} {C : Hp → Nat → List Fct → Prop} {N : Hp → Prop} (main : (∀ Hz a fs, C Hz a fs → N Hz) → G) (key : ∀ Hz a fs, C Hz a fs → N Hz) : G := main key
/-- what stands in a turn of the second loop, v takes and u facts on -/
structure Mid (H : Hp) (d l na fa : Addr) (xs : List Int) (cnt kd i v u : Nat) (Hz : Hp) (a : Nat) (fs : List Fct) : Prop where
  X : Sx H Hz d l na fa a xs cnt fs
  ha : a ≤ 100 + 8 * i + v
  S : FS (25 + 4 * i + u) fs
  hp : ∀ m, i + 1 ≤ m → m < 13 → m ≠ kd → dys fs (pn m) = []
  hd : (dys fs (pn kd)).head? = some 50
def spFts : Sp := fun vs H Q _ => ∃ c : Int, vs = [.int c] ∧ ∀ (p na fa : Addr) (cnt k : Nat) (fs : List Fct) (H' : Hp), Same H H' → H p = none → H' p = some (.lst [.str (pn k), .ref na, .ref fa]) → 3 ≤ cnt → cnt ≤ 13 → k < cnt → H' na = some (.lst ((names cnt).map V.str)) → FactsAt H' fa fs → FS 80 fs → (dys fs (pn k)).head? = some 50 → Q (.ref p) H'
theorem ok_facts {f : Addr} {fd : FuncData} (F : Fun K "_law_facts" "_law_facts" sFts f fd) (T : FtT mg) (TT : Has P w K mg base CX0 "_law_take" ["feed", "limit"] 1 spTak) (TF : Has P w K mg base CX0 "_law_feed" ["cell", "many"] 2 spFee) : FnOk P w K mg base CX0 3 f fd ["cell"] spFts := by
  obtain ⟨fT, fdT, mT, kT, bT, GT⟩ := TT.ok
  obtain ⟨fFe, fdFe, mFe, kFe, bFe, GFe⟩ := TF.ok
  refine F.ok scFts (fun vs H Q E h => ?_) (fun cdv A outer s H vs Q E hr h => ?_)
  · obtain ⟨c, rfl, _⟩ := h
    rfl
  · obtain ⟨c, rfl, h⟩ := h
    have hr1 : Room 1 (A.deeper (envOfC "_law_facts" (defScope sFts) s.heap.objs.size f cdv)) := hr.mono (by decide)
    refine ⟨_, pss_cons (ps_set (i := 1) scFts.nd rfl (.inl rfl) (pe_call GFe hr (by rfl) mFe kFe bFe .nil pass0 (pa_cons (pv 0) (pa_cons pe_int pa_nil)))) (pss_cons (ps_set (i := 2) scFts.nd rfl (.inl rfl) (pe_op op_add pe_int (pe_call GT hr1 (by rfl) mT kT bT .nil pass0 (pa_cons (pv 1) (pa_cons pe_int pa_nil))))) (pss_cons (ps_setLc (i := 4) (own := [("k", 3)]) (g := gName 3) (tt := tYes) rfl scFts.nd rfl rfl (sw_true rfl rfl rfl (by decide +kernel)) (pi_range1 rfl T.range (pa_cons (pv 2) pa_nil)) (blkOk_by (N := nFts) (sc := defScope sFts) (by decide +kernel)) (fun _ _ _ _ _ => pg_name (i := 3) scFts.nd rfl (.inl rfl) (.inr rfl)) (fun _ _ _ _ _ => pts_nil) (fun _ _ _ _ _ => pe_op op_add_str pe_str (pe_callTy call_str_int (by rfl) T.str (by decide +kernel) (pa_cons (pv 3) pa_nil)))) (pss_cons (ps_set (i := 5) scFts.nd rfl (.inl rfl) (pe_lst pa_nil)) (pss_cons (ps_for PassesOwn.never rfl (pi_range2 rfl T.range (pa_cons pe_int (pa_cons (pv 2) pa_nil))) (pg_name (i := 3) scFts.nd rfl (.inl rfl)) (pss_one (ps_for PassesOwn.never rfl (pi_range1 rfl T.range (pa_cons (pe_ix ix_list (pe_lst (pa_cons pe_int (pa_cons pe_int (pa_cons pe_int (pa_cons pe_int (pa_cons pe_int pa_nil)))))) (pe_call GT hr1 (by rfl) mT kT bT .nil pass0 (pa_cons (pv 1) (pa_cons pe_int pa_nil))) (fun _ _ => rfl)) pa_nil)) (pg_name (i := 6) scFts.nd rfl (.inl rfl)) (pss_one (ps_expr (pe_bm PySem.F.plainAttrs_list PySem.F.slot_list_append PySem.F.type_list_append mt_append (pv 5) (pa_cons (pe_tup (pa_cons pe_str (pa_cons (pe_ix ix_list (pv 4) (pv 3) (fun _ _ => rfl)) (pa_cons (pe_ix ix_list (pv 4) (pe_callB (call_max2 rfl) (by rfl) T.max (by decide +kernel) (pa_cons pe_int (pa_cons (pe_op op_sub (pe_op op_sub (pv 3) pe_int) (pe_call GT hr1 (by rfl) mT kT bT .nil pass0 (pa_cons (pv 1) (pa_cons pe_int pa_nil)))) pa_nil))) (fun _ _ => rfl)) pa_nil)))) pa_nil))))))) (pss_cons (ps_set (i := 7) scFts.nd rfl (.inl rfl) (pe_ix ix_list (pv 4) (pe_call GT hr1 (by rfl) mT kT bT .nil pass0 (pa_cons (pv 1) (pa_cons (pv 2) pa_nil))) (fun _ _ => rfl))) (pss_cons (ps_expr (pe_bm PySem.F.plainAttrs_list PySem.F.slot_list_append PySem.F.type_list_append mt_append (pv 5) (pa_cons (pe_tup (pa_cons pe_str (pa_cons (pv 7) (pa_cons pe_int pa_nil)))) pa_nil))) (pss_cons (ps_for PassesOwn.never rfl (pi_range1 rfl T.range (pa_cons (pv 2) pa_nil)) (pg_name (i := 3) scFts.nd rfl (.inl rfl)) (pss_cons (ps_if (PW.pt (pw_and (pt_cmpR op_ne (pe_ix ix_list (pv 4) (pv 3) (fun _ _ => rfl)) (pv 7) (nomark _)) (pw_and1 (pt_cmpR op_lt (pe_call GT hr1 (by rfl) mT kT bT .nil pass0 (pa_cons (pv 1) (pa_cons pe_int pa_nil))) pe_int (nomark _))))) (pss_one (ps_expr (pe_bm PySem.F.plainAttrs_list PySem.F.slot_list_append PySem.F.type_list_append mt_append (pv 5) (pa_cons (pe_tup (pa_cons pe_str (pa_cons (pe_ix ix_list (pv 4) (pv 3) (fun _ _ => rfl)) (pa_cons (pe_ix ix_list (pe_lst (pa_cons pe_int (pa_cons pe_int (pa_cons pe_int (pa_cons pe_int pa_nil))))) (pe_call GT hr1 (by rfl) mT kT bT .nil pass0 (pa_cons (pv 1) (pa_cons pe_int pa_nil))) (fun _ _ => rfl)) pa_nil)))) pa_nil)))) pss_nil) (pss_cons (ps_if (pt_cmpR op_eq (pe_call GT hr1 (by rfl) mT kT bT .nil pass0 (pa_cons (pv 1) (pa_cons pe_int pa_nil))) pe_int (nomark _)) (pss_one (ps_expr (pe_bm PySem.F.plainAttrs_list PySem.F.slot_list_append PySem.F.type_list_append mt_append (pv 5) (pa_cons (pe_tup (pa_cons pe_str (pa_cons (pe_ix ix_list (pv 4) (pv 3) (fun _ _ => rfl)) pa_nil))) pa_nil)))) pss_nil) (pss_one (ps_for PassesOwn.never rfl (pi_range1 rfl T.range (pa_cons (pe_ix ix_list (pe_lst (pa_cons pe_int (pa_cons pe_int (pa_cons pe_int (pa_cons pe_int (pa_cons pe_int pa_nil)))))) (pe_call GT hr1 (by rfl) mT kT bT .nil pass0 (pa_cons (pv 1) (pa_cons pe_int pa_nil))) (fun _ _ => rfl)) pa_nil)) (pg_name (i := 6) scFts.nd rfl (.inl rfl)) (pss_one (ps_expr (pe_bm PySem.F.plainAttrs_list PySem.F.slot_list_append PySem.F.type_list_append mt_append (pv 5) (pa_cons (pe_tup (pa_cons pe_str (pa_cons (pe_ix ix_list (pv 4) (pv 3) (fun _ _ => rfl)) (pa_cons (pe_ix ix_list (pe_lst (pa_cons pe_int (pa_cons (pe_call GT hr1 (by rfl) mT kT bT .nil pass0 (pa_cons (pv 1) (pa_cons pe_int pa_nil))) pa_nil))) (pe_call GT hr1 (by rfl) mT kT bT .nil pass0 (pa_cons (pv 1) (pa_cons pe_int pa_nil))) (fun _ _ => rfl)) pa_nil)))) pa_nil))))))))) (pss_cons (ps_for PassesOwn.never rfl (pi_range1 rfl T.range (pa_cons (pe_call GT hr1 (by rfl) mT kT bT .nil pass0 (pa_cons (pv 1) (pa_cons pe_int pa_nil))) pa_nil)) (pg_name (i := 6) scFts.nd rfl (.inl rfl)) (pss_cons (ps_set (i := 8) scFts.nd rfl (.inl rfl) (pe_ix ix_list (pe_lst (pa_cons (pv 7) (pa_cons (pe_ix ix_list (pv 4) (pe_call GT hr1 (by rfl) mT kT bT .nil pass0 (pa_cons (pv 1) (pa_cons (pv 2) pa_nil))) (fun _ _ => rfl)) pa_nil))) (pe_call GT hr1 (by rfl) mT kT bT .nil pass0 (pa_cons (pv 1) (pa_cons pe_int pa_nil))) (fun _ _ => rfl))) (pss_cons (ps_set (i := 9) scFts.nd rfl (.inl rfl) (pe_ix ix_list (pe_op op_cat (pv 4) (pe_lst (pa_cons pe_str (pa_cons pe_str pa_nil)))) (pe_call GT hr1 (by rfl) mT kT bT .nil pass0 (pa_cons (pv 1) (pa_cons (pe_op op_add (pv 2) pe_int) pa_nil))) (fun _ _ => rfl))) (pss_one (ps_if (pt_cmpR op_ne (pv 8) (pv 9) (nomark _)) (pss_one (ps_expr (pe_bm PySem.F.plainAttrs_list PySem.F.slot_list_append PySem.F.type_list_append mt_append (pv 5) (pa_cons (pe_tup (pa_cons (pe_ix ix_list (pe_lst (pa_cons pe_str (pa_cons pe_str (pa_cons pe_str (pa_cons pe_str pa_nil))))) (pe_call GT hr1 (by rfl) mT kT bT .nil pass0 (pa_cons (pv 1) (pa_cons pe_int pa_nil))) (fun _ _ => rfl)) (pa_cons (pv 8) (pa_cons (pv 9) pa_nil)))) pa_nil)))) pss_nil))))) (pss_one (ps_ret (pe_lst (pa_cons (pv 7) (pa_cons (pv 4) (pa_cons (pv 5) pa_nil)))))))))))))), ?_⟩
    refine ⟨_, rfl, c, 60, rfl, by decide, by decide, fun d l H1 xs s1 nd nl f1 => ?_⟩
    refine ⟨_, rfl, d, l, 0, xs, 11, rfl, f1, by decide, by decide, fun r H2 r0 r1 b2 f2 => ⟨_, _, rfl, rfl, ?_⟩⟩
    obtain ⟨cnt, ec⟩ : ∃ cnt : Nat, (3 : Int) + r = (cnt : Int) := ⟨(3 + r).toNat, by omega⟩
    show gName 2 (V.int (3 + r)) _ _ _
    rw [ec]
    have c3 : 3 ≤ cnt := by omega
    have c13 : cnt ≤ 13 := by omega
    have sm2 : Same H H2 := fun b o hb => b2 _ _ (s1 _ _ hb) (ne_of_none hb nd)
    refine ⟨_, rfl, (cnt : Int), rfl, by omega, by omega, fun na hna => ?_⟩
    rw [Int.toNat_natCast]
    refine lc_it walk_range (fun i Hy => Same H2 Hy ∧ Hy na = some (.lst (((List.range i).map pn).map V.str))) ⟨same_upd hna, upd_same⟩ (fun _ _ _ _ => trivial) ?_ ?_
    · rintro i v Hy H' hi ⟨k1, k2⟩ ⟨rfl, rfl⟩
      show gName 3 (V.int (0 + (i : Int))) _ _ _
      rw [Int.zero_add]
      refine ⟨rfl, _, rfl, _, rfl, lg (by omega) (by omega), _, _, rfl, rfl, ?_, _, k2, ?_, ?_, ?_⟩
      · have := dig_len (i := (i : Int)) (by omega) (by omega)
        have h1 : ("p" : Str).length = 1 := by decide +kernel
        have h2 : (toString (i : Int) : Str).length ≤ 2 := this
        rw [sizeLine_eq]
        omega
      · rw [List.length_map, List.length_map, List.length_range]
        exact small1000 (by omega)
      · intro b o hb
        rw [upd_ne (ne_of_none hb hna)]
        exact k1 b o hb
      · rw [upd_same, List.range_succ, List.map_append, List.map_append]
        rfl
    · rintro H3 ⟨k1, k2⟩
      refine ⟨Nat.zero_le _, fun fa hfa => ?_⟩
      have f3 : Feed H3 d l 1 xs := ⟨k1 _ _ f2.hd, k1 _ _ f2.hl, f2.ne, f2.sm, f2.nu⟩
      have X0 : Sx H (upd H3 fa (.lst [])) d l na fa 1 xs cnt [] := by
        have s4 : Same H3 (upd H3 fa (.lst [])) := same_upd hfa
        refine ⟨(sm2.trans k1).trans s4, ⟨s4 _ _ f3.hd, s4 _ _ f3.hl, f3.ne, f3.sm, f3.nu⟩, s4 _ _ k2, ⟨[], upd_same, rfl, fun i q fc h1 h2 => (by cases h1)⟩, nd, (sm2.trans k1).free hfa, ne_of_none k2 hfa, ne_of_none f3.hl hfa⟩
      have pick5 (r : Int) (h0 : 0 ≤ r) (h5 : r < 5) : ∃ n : Nat, n ≤ 2 ∧ atI [V.int 0, .int 1, .int 1, .int 2, .int 2] r = some (.int (n : Int)) := by
        obtain ⟨m, rfl⟩ : ∃ m : Nat, r = (m : Int) := ⟨r.toNat, by omega⟩
        have : m < 5 := by omega
        match m, this with
        | 0, _ => exact ⟨0, by decide, atI_nat rfl⟩
        | 1, _ => exact ⟨1, by decide, atI_nat rfl⟩
        | 2, _ => exact ⟨1, by decide, atI_nat rfl⟩
        | 3, _ => exact ⟨2, by decide, atI_nat rfl⟩
        | 4, _ => exact ⟨2, by decide, atI_nat rfl⟩
      have pickA (r : Int) (h0 : 0 ≤ r) (h5 : r < 5) : ∃ n : Nat, n ≤ 2 ∧ atI [V.int 0, .int 0, .int 0, .int 1, .int 2] r = some (.int (n : Int)) := by
        obtain ⟨m, rfl⟩ : ∃ m : Nat, r = (m : Int) := ⟨r.toNat, by omega⟩
        have : m < 5 := by omega
        match m, this with
        | 0, _ => exact ⟨0, by decide, atI_nat rfl⟩
        | 1, _ => exact ⟨0, by decide, atI_nat rfl⟩
        | 2, _ => exact ⟨0, by decide, atI_nat rfl⟩
        | 3, _ => exact ⟨1, by decide, atI_nat rfl⟩
        | 4, _ => exact ⟨2, by decide, atI_nat rfl⟩
      have pick4 (r : Int) (h0 : 0 ≤ r) (h5 : r < 4) : ∃ n : Int, 0 ≤ n ∧ n ≤ 1000000000 ∧ atI [V.int 10, .int 50, .int 52, .int 60] r = some (.int n) := by
        obtain ⟨m, rfl⟩ : ∃ m : Nat, r = (m : Int) := ⟨r.toNat, by omega⟩
        have : m < 4 := by omega
        match m, this with
        | 0, _ => exact ⟨10, by decide, by decide, atI_nat rfl⟩
        | 1, _ => exact ⟨50, by decide, by decide, atI_nat rfl⟩
        | 2, _ => exact ⟨52, by decide, by decide, atI_nat rfl⟩
        | 3, _ => exact ⟨60, by decide, by decide, atI_nat rfl⟩
      refine ⟨_, rfl, 1, (cnt : Int), rfl, ⟨by decide, by decide, by omega, by omega⟩, for_range (lo := 1) (n := ((cnt : Int) - 1).toNat) (fun i σ Hy => ∃ (y3 y6 : Option V) (a : Nat) (fs : List Fct), σ = [some (.int c), some (.ref d), some (.int (cnt : Int)), y3, some (.ref na), some (.ref fa), y6, none, none, none] ∧ Sx H Hy d l na fa a xs cnt fs ∧ a ≤ 1 + 3 * i ∧ FS (2 * i) fs ∧ (∀ m, 1 + i ≤ m → m < 13 → pas fs (pn m) = []) ∧ ∀ x, dys fs x = [])
        ⟨none, none, 1, [], rfl, X0, by omega, FS.nil, fun _ _ _ => rfl, fun _ => rfl⟩ ?_ ?_⟩
      · rintro i σ Hy hi ⟨y3, y6, a, fs, rfl, X, ha, S, hp, hd⟩
        refine ⟨(by show 5 ≤ sizeLine; decide), fun L nL => ⟨_, rfl, d, l, a, xs, 5, rfl, (X.go (same_upd nL)).fe, by omega, by decide, fun r H4 r0 r1 b4 f4 => ?_⟩⟩
        have X1 := (X.go (same_upd nL (o := .lst [.int 0, .int 1, .int 1, .int 2, .int 2]))).take b4 f4
        have Ld : L ≠ d := fun z => by rw [z, X.fe.hd] at nL; cases nL
        have eL : H4 L = some (.lst [.int 0, .int 1, .int 1, .int 2, .int 2]) := b4 _ _ upd_same Ld
        obtain ⟨n, n2, en⟩ := pick5 r r0 r1
        refine ⟨L, _, _, _, rfl, rfl, SqL.of eL, en, (n : Int), rfl, by omega, by omega, ?_⟩
        rw [Int.toNat_natCast]
        have ik : 1 + i < cnt := by omega
        have i13 : 1 + i < 13 := by omega
        refine for_range (lo := 0) (n := n) (fun j σ Hz => ∃ (y6 : Option V) (a : Nat) (fs : List Fct), σ = [some (.int c), some (.ref d), some (.int (cnt : Int)), some (.int (1 + (i : Int))), some (.ref na), some (.ref fa), y6, none, none, none] ∧ Sx H Hz d l na fa a xs cnt fs ∧ a ≤ 2 + 3 * i + j ∧ FS (2 * i + j) fs ∧ (pas fs (pn (1 + i))).length ≤ j ∧ (∀ m, 2 + i ≤ m → m < 13 → pas fs (pn m) = []) ∧ ∀ x, dys fs x = [])
          ⟨y6, a + 1, fs, rfl, X1, by omega, S, by rw [hp _ (Nat.le_refl _) i13]; exact Nat.le_refl 0, fun m hm h13 => hp m (by omega) h13, hd⟩ ?_ ?_
        · rintro j σ Hz hj ⟨y6, a, fs, rfl, X, ha, S, hl, hp, hd⟩
          obtain ⟨qs0, e0, _, _⟩ := id X.ft
          have n1 : atI ((names cnt).map V.str) (1 + (i : Int)) = some (.str (pn (1 + i))) := by
            have := name_at X ik
            rwa [show ((1 + i : Nat) : Int) = 1 + (i : Int) by omega] at this
          refine ⟨_, rfl, .inl ⟨rfl, _, .inl (.inl e0)⟩, _, rfl, _, rfl, na, _, _, _, rfl, rfl, SqL.of X.nm, n1, _, rfl, _, rfl, _, _, rfl, rfl, _, rfl, d, l, a, xs, 5, rfl, X.fe, by omega, by decide, fun r H4 r0 r1 b4 f4 => ⟨_, _, rfl, rfl, _, _, rfl, ?_⟩⟩
          have X4 := X.take b4 f4
          obtain ⟨m, mi, em⟩ : ∃ m : Nat, m < 1 + i ∧ (if (1 + (i : Int)) - 1 - r > 0 then (1 + (i : Int)) - 1 - r else 0) = (m : Int) := by
            by_cases h : (1 + (i : Int)) - 1 - r > 0
            · rw [if_pos h]
              exact ⟨((1 + (i : Int)) - 1 - r).toNat, by omega, by omega⟩
            · rw [if_neg h]
              exact ⟨0, by omega, rfl⟩
          have n2' : atI ((names cnt).map V.str) (if (1 + (i : Int)) - 1 - r > 0 then (1 + (i : Int)) - 1 - r else 0) = some (.str (pn m)) := by
            rw [em]
            exact name_at X4 (by omega)
          refine ⟨na, _, _, _, rfl, rfl, SqL.of X4.nm, n2', (by show 3 ≤ sizeLine; decide), fun q nq => ?_⟩
          have X5 := X4.go (same_upd nq (o := .tup (Fct.child (pn (1 + i)) (pn m)).vs))
          obtain ⟨qs, e1, e2, X6⟩ := X5.push (q := q) (fc := .child (pn (1 + i)) (pn m)) upd_same
          refine ⟨fa, _, _, rfl, rfl, e1, ?_, _, a + 1, _, rfl, X6, by omega, S.child mi i13 (by omega), ?_, fun m' hm h13 => ?_, fun x => ?_⟩
          · rw [List.length_map, e2]
            have := S.ln
            exact small1000 (by omega)
          · rw [pas_snoc, List.length_append]
            have : (pa1 (pn (1 + i)) (.child (pn (1 + i)) (pn m))).toList.length ≤ 1 := by
              cases pa1 (pn (1 + i)) (.child (pn (1 + i)) (pn m)) <;> simp
            omega
          · rw [pas_snoc, hp m' hm h13]
            have : pa1 (pn m') (.child (pn (1 + i)) (pn m)) = none := if_neg fun z => by
              have := pn_inj i13 h13 z
              omega
            rw [this]
            rfl
          · rw [dys_snoc, hd x]
            rfl
        · rintro σ Hz ⟨y6, a, fs, rfl, X, ha, S, hl, hp, hd⟩
          exact ⟨_, _, a, fs, rfl, X, by omega, S.mono (by omega), fun m hm h13 => hp m (by omega) h13, hd⟩
      · rintro σ Hy ⟨y3, y6, a, fs, rfl, X, ha, S, hp, hd⟩
        refine ⟨_, rfl, _, rfl, _, rfl, d, l, a, xs, (cnt : Int), rfl, X.fe, by omega, by omega, fun r H4 r0 r1 b4 f4 => ?_⟩
        have X4 := X.take b4 f4
        obtain ⟨kd, rfl⟩ : ∃ kd : Nat, r = (kd : Int) := ⟨r.toNat, by omega⟩
        have hk : kd < cnt := by omega
        have k13 : kd < 13 := by omega
        refine ⟨na, _, _, _, rfl, rfl, SqL.of X4.nm, name_at X4 hk, ?_⟩
        obtain ⟨qs0, e0, _, _⟩ := id X4.ft
        refine ⟨_, rfl, .inl ⟨rfl, _, .inl (.inl e0)⟩, _, rfl, (by show 3 ≤ sizeLine; decide), fun q nq => ?_⟩
        have X5 := X4.go (same_upd nq (o := .tup (Fct.died (pn kd) 50).vs))
        obtain ⟨qs, e1, e2, X6⟩ := X5.push (q := q) (fc := .died (pn kd) 50) upd_same
        have S6 := S.died (pn_base k13) (d := 50) (by decide) (by decide) (hd _)
        have d6 : ∀ x, dys (fs ++ [.died (pn kd) 50]) x = if pn kd = x then [50] else [] := fun x => by
          rw [dys_snoc, hd x]
          show ([] : List Int) ++ (if pn kd = x then some (50 : Int) else none).toList = _
          split <;> rfl
        refine ⟨fa, _, _, rfl, rfl, e1, ?_, ?_⟩
        · rw [List.length_map, e2]
          have := S.ln
          exact small1000 (by omega)
        refine ⟨_, rfl, (cnt : Int), rfl, by omega, by omega, ?_⟩
        rw [Int.toNat_natCast]
        refine for_range (lo := 0) (n := cnt) (fun i σ Hy => ∃ (y3 y6 : Option V) (a : Nat) (fs : List Fct), σ = [some (.int c), some (.ref d), some (.int (cnt : Int)), y3, some (.ref na), some (.ref fa), y6, some (.str (pn kd)), none, none] ∧ Sx H Hy d l na fa a xs cnt fs ∧ a ≤ 100 + 8 * i ∧ FS (25 + 4 * i) fs ∧ (∀ m, i ≤ m → m < 13 → m ≠ kd → dys fs (pn m) = []) ∧ (dys fs (pn kd)).head? = some 50)
          ⟨_, _, _, _, rfl, X6, by omega, S6.mono (by omega), fun m _ m13 mk => ?_, ?_⟩ ?_ ?_
        · rw [d6, if_neg fun z => mk (pn_inj k13 m13 z).symm]
        · rw [d6, if_pos rfl]
          rfl
        · rintro i σ Hy hi ⟨y3, y6, a, fs, rfl, X, ha, S, hp, hd⟩
          have i13 : i < 13 := by omega
          have nk (Hz : Hp) (a : Nat) (fs : List Fct) (X : Sx H Hz d l na fa a xs cnt fs) : atI ((names cnt).map V.str) (0 + (i : Int)) = some (.str (pn i)) := by
            rw [Int.zero_add]
            exact name_at X hi
          apply cut_at (C := Mid H d l na fa xs cnt kd i 2 1)
          case main =>
            intro key
            refine ⟨_, rfl, _, rfl, na, _, _, _, rfl, rfl, SqL.of X.nm, nk _ _ _ X, _, rfl, rfl, _, rfl, ?_⟩
            by_cases e : i = kd
            · rw [show (!decide (V.str (pn i) = V.str (pn kd))) = false by rw [e, decide_eq_true rfl]; rfl]
              exact iteF (iteF (key Hy a fs ⟨X, by omega, S.mono (by omega), fun m h h13 hk => hp m (by omega) h13 hk, hd⟩))
            · rw [show (!decide (V.str (pn i) = V.str (pn kd))) = true by rw [decide_eq_false (fun z => e (pn_inj i13 k13 (V.str.inj z)))]; rfl]
              refine iteT ⟨_, rfl, d, l, a, xs, 5, rfl, X.fe, by omega, by decide, fun r H4 r0 r1 b4 f4 => ⟨_, _, rfl, rfl, _, rfl, ite2 (fun _ => ?_) (fun _ => ?_)⟩⟩
              · have X4 := X.take b4 f4
                obtain ⟨qs0, e0, _, _⟩ := id X4.ft
                refine ⟨_, rfl, .inl ⟨rfl, _, .inl (.inl e0)⟩, _, rfl, _, rfl, na, _, _, _, rfl, rfl, SqL.of X4.nm, nk _ _ _ X4, (by show 4 ≤ sizeLine; decide), fun L nL => ⟨_, rfl, d, l, a + 1, xs, 4, rfl, (X4.go (same_upd nL)).fe, by omega, by decide, fun r' H5 r0' r1' b5 f5 => ?_⟩⟩
                have X5 := (X4.go (same_upd nL (o := .lst [.int 10, .int 50, .int 52, .int 60]))).take b5 f5
                have Ld : L ≠ d := fun z => by rw [z, X4.fe.hd] at nL; cases nL
                have eL : H5 L = some (.lst [.int 10, .int 50, .int 52, .int 60]) := b5 _ _ upd_same Ld
                obtain ⟨dd, d0, d1, ed⟩ := pick4 r' r0' r1'
                refine ⟨L, _, _, _, rfl, rfl, SqL.of eL, ed, (by show 3 ≤ sizeLine; decide), fun q nq => ?_⟩
                have X6 := X5.go (same_upd nq (o := .tup (Fct.died (pn i) dd).vs))
                obtain ⟨qs, e1, e2, X7⟩ := X6.push (q := q) (fc := .died (pn i) dd) upd_same
                refine ⟨fa, _, _, rfl, rfl, e1, ?_, key _ _ _ ⟨X7, by omega, S.died (pn_base i13) d0 d1 (hp i (Nat.le_refl _) i13 e), fun m h h13 hk => ?_, ?_⟩⟩
                · rw [List.length_map, e2]
                  have := S.ln
                  exact small1000 (by omega)
                · rw [dys_snoc, hp m (by omega) h13 hk]
                  have : dy1 (pn m) (.died (pn i) dd) = none := if_neg fun z => by
                    have := pn_inj i13 h13 z
                    omega
                  rw [this]
                  rfl
                · have : dy1 (pn kd) (.died (pn i) dd) = none := if_neg fun z => e (pn_inj i13 k13 z)
                  rw [dys_snoc, this, Option.toList_none, List.append_nil]
                  exact hd
              · exact key H4 (a + 1) fs ⟨X.take b4 f4, by omega, S.mono (by omega), fun m h h13 hk => hp m (by omega) h13 hk, hd⟩
          case key =>
            rintro Hz a fs ⟨X, ha, S, hp, hd⟩
            apply cut_at (C := Mid H d l na fa xs cnt kd i 3 2)
            case main =>
              intro key
              refine ⟨_, rfl, d, l, a, xs, 12, rfl, X.fe, by omega, by decide, fun r H4 r0 r1 b4 f4 => ⟨rfl, _, rfl, ite2 (fun _ => ?tt) (fun _ => ?ff)⟩⟩
              case ff => exact key H4 (a + 1) fs ⟨X.take b4 f4, by omega, S.mono (by omega), hp, hd⟩
              case tt =>
                have X4 := X.take b4 f4
                obtain ⟨qs0, e0, _, _⟩ := id X4.ft
                refine ⟨_, rfl, .inl ⟨rfl, _, .inl (.inl e0)⟩, _, rfl, _, rfl, na, _, _, _, rfl, rfl, SqL.of X4.nm, nk _ _ _ X4, (by show 2 ≤ sizeLine; decide), fun q nq => ?_⟩
                have X6 := X4.go (same_upd nq (o := .tup (Fct.renounced (pn i)).vs))
                obtain ⟨qs, e1, e2, X7⟩ := X6.push (q := q) (fc := .renounced (pn i)) upd_same
                refine ⟨fa, _, _, rfl, rfl, e1, ?_, key _ _ _ ⟨X7, by omega, S.ren (pn_base i13), fun m h h13 hk => ?_, ?_⟩⟩
                · rw [List.length_map, e2]
                  have := S.ln
                  exact small1000 (by omega)
                · rw [dys_snoc, hp m h h13 hk]
                  rfl
                · have : dy1 (pn kd) (.renounced (pn i)) = none := rfl
                  rw [dys_snoc, this, Option.toList_none, List.append_nil]
                  exact hd
            case key =>
              rintro Hz a fs ⟨X, ha, S, hp, hd⟩
              refine ⟨(by show 5 ≤ sizeLine; decide), fun L nL => ⟨_, rfl, d, l, a, xs, 5, rfl, (X.go (same_upd nL)).fe, by omega, by decide, fun r H4 r0 r1 b4 f4 => ?_⟩⟩
              have X1 := (X.go (same_upd nL (o := .lst [.int 0, .int 0, .int 0, .int 1, .int 2]))).take b4 f4
              have Ld : L ≠ d := fun z => by rw [z, X.fe.hd] at nL; cases nL
              have eL : H4 L = some (.lst [.int 0, .int 0, .int 0, .int 1, .int 2]) := b4 _ _ upd_same Ld
              obtain ⟨n, n2, en⟩ := pickA r r0 r1
              refine ⟨L, _, _, _, rfl, rfl, SqL.of eL, en, (n : Int), rfl, by omega, by omega, ?_⟩
              rw [Int.toNat_natCast]
              refine for_range (lo := 0) (n := n) (fun j σ Hz => ∃ (y6 : Option V) (a : Nat) (fs : List Fct), σ = [some (.int c), some (.ref d), some (.int (cnt : Int)), some (.int (0 + (i : Int))), some (.ref na), some (.ref fa), y6, some (.str (pn kd)), none, none] ∧ Mid H d l na fa xs cnt kd i (4 + 2 * j) (2 + j) Hz a fs)
                ⟨_, a + 1, fs, rfl, X1, by omega, S, hp, hd⟩ ?_ ?_
              · rintro j σ Hz hj ⟨y6, a, fs, rfl, X, ha, S, hp, hd⟩
                obtain ⟨qs0, e0, _, _⟩ := id X.ft
                refine ⟨_, rfl, .inl ⟨rfl, _, .inl (.inl e0)⟩, _, rfl, _, rfl, na, _, _, _, rfl, rfl, SqL.of X.nm, nk _ _ _ X, _, rfl, d, l, a, xs, 400, rfl, X.fe, by omega, by decide, fun r H4 r0 r1 b4 f4 => ⟨(by show 2 ≤ sizeLine; decide), fun L nL => ⟨_, rfl, d, l, a + 1, xs, 2, rfl, ((X.take b4 f4).go (same_upd nL)).fe, by omega, by decide, fun r' H5 r0' r1' b5 f5 => ?_⟩⟩⟩
                have X4 := X.take b4 f4
                have X5 := (X4.go (same_upd nL (o := .lst [.int 10, .int r]))).take b5 f5
                have Ld : L ≠ d := fun z => by rw [z, X4.fe.hd] at nL; cases nL
                have eL : H5 L = some (.lst [.int 10, .int r]) := b5 _ _ upd_same Ld
                obtain ⟨dd, d0, d1, ed⟩ : ∃ n : Int, 0 ≤ n ∧ n ≤ 1000000000 ∧ atI [V.int 10, .int r] r' = some (.int n) := by
                  obtain ⟨m, rfl⟩ : ∃ m : Nat, r' = (m : Int) := ⟨r'.toNat, by omega⟩
                  have : m < 2 := by omega
                  match m, this with
                  | 0, _ => exact ⟨10, by decide, by decide, atI_nat rfl⟩
                  | 1, _ => exact ⟨r, r0, by omega, atI_nat rfl⟩
                refine ⟨L, _, _, _, rfl, rfl, SqL.of eL, ed, (by show 3 ≤ sizeLine; decide), fun q nq => ?_⟩
                have X6 := X5.go (same_upd nq (o := .tup (Fct.advance (pn i) dd).vs))
                obtain ⟨qs, e1, e2, X7⟩ := X6.push (q := q) (fc := .advance (pn i) dd) upd_same
                refine ⟨fa, _, _, rfl, rfl, e1, ?_, _, a + 2, _, rfl, X7, by omega, S.adv (pn_base i13) d0 d1, fun m h h13 hk => ?_, ?_⟩
                · rw [List.length_map, e2]
                  have := S.ln
                  exact small1000 (by omega)
                · rw [dys_snoc, hp m h h13 hk]
                  rfl
                · have : dy1 (pn kd) (.advance (pn i) dd) = none := rfl
                  rw [dys_snoc, this, Option.toList_none, List.append_nil]
                  exact hd
              · rintro σ Hz ⟨y6, a, fs, rfl, X, ha, S, hp, hd⟩
                exact ⟨_, _, a, fs, rfl, X, by omega, S.mono (by omega), hp, hd⟩
        · rintro σ Hy ⟨y3, y6, a, fs, rfl, X, ha, S, hp, hd⟩
          refine ⟨_, rfl, d, l, a, xs, 4, rfl, X.fe, by omega, by decide, fun r H4 r0 r1 b4 f4 => ⟨r, rfl, by omega, by omega, ?_⟩⟩
          have X4 := X.take b4 f4
          obtain ⟨n, rfl⟩ : ∃ n : Nat, r = (n : Int) := ⟨r.toNat, by omega⟩
          rw [Int.toNat_natCast]
          refine for_range (lo := 0) (n := n) (fun j σ Hz => ∃ (y6 y8 y9 : Option V) (a : Nat) (fs : List Fct), σ = [some (.int c), some (.ref d), some (.int (cnt : Int)), y3, some (.ref na), some (.ref fa), y6, some (.str (pn kd)), y8, y9] ∧ Sx H Hz d l na fa a xs cnt fs ∧ a ≤ 300 + 8 * j ∧ FS (77 + j) fs ∧ (dys fs (pn kd)).head? = some 50)
            ⟨_, _, _, a + 1, fs, rfl, X4, by omega, S.mono (by omega), hd⟩ ?_ ?_
          · rintro j σ Hz hj ⟨y6, y8, y9, a, fs, rfl, X, ha, S, hd⟩
            refine ⟨_, rfl, _, rfl, _, rfl, _, rfl, d, l, a, xs, (cnt : Int), rfl, X.fe, by omega, by omega, fun r1' H5 q0 q1 b5 f5 => ?_⟩
            have X5 := X.take b5 f5
            obtain ⟨k1, rfl⟩ : ∃ k1 : Nat, r1' = (k1 : Int) := ⟨r1'.toNat, by omega⟩
            have h1c : k1 < cnt := by omega
            refine ⟨na, _, _, _, rfl, rfl, SqL.of X5.nm, name_at X5 h1c, (by show 2 ≤ sizeLine; decide), fun L nL => ⟨_, rfl, d, l, a + 1, xs, 2, rfl, (X5.go (same_upd nL)).fe, by omega, by decide, fun r2 H6 q2 q3 b6 f6 => ?_⟩⟩
            have X6 := (X5.go (same_upd nL (o := .lst [.str (pn kd), .str (pn k1)]))).take b6 f6
            have Ld : L ≠ d := fun z => by rw [z, X5.fe.hd] at nL; cases nL
            have eL : H6 L = some (.lst [.str (pn kd), .str (pn k1)]) := b6 _ _ upd_same Ld
            obtain ⟨o, o13, eo⟩ : ∃ o : Nat, o < 13 ∧ atI [V.str (pn kd), .str (pn k1)] r2 = some (.str (pn o)) := by
              obtain ⟨m, rfl⟩ : ∃ m : Nat, r2 = (m : Int) := ⟨r2.toNat, by omega⟩
              have : m < 2 := by omega
              match m, this with
              | 0, _ => exact ⟨kd, k13, atI_nat rfl⟩
              | 1, _ => exact ⟨k1, by omega, atI_nat rfl⟩
            refine ⟨L, _, _, _, rfl, rfl, SqL.of eL, eo, ?_⟩
            refine ⟨_, rfl, (by show 2 ≤ sizeLine; decide), fun L2 n2 => ?_⟩
            have X7 := X6.go (same_upd n2 (o := .lst [.str "q1", .str "q2"]))
            refine ⟨na, L2, _, _, rfl, rfl, X7.nm, upd_same, ?_, fun L3 n3 => ?_⟩
            · rw [List.length_map]
              unfold names
              rw [List.length_map, List.length_range]
              exact Nat.le_of_lt (small1000 (by show cnt + 2 ≤ 1000; omega))
            have X8 := X7.go (same_upd n3 (o := .lst ((names cnt).map V.str ++ [.str "q1", .str "q2"])))
            refine ⟨_, rfl, _, rfl, _, _, rfl, rfl, d, l, a + 2, xs, (cnt : Int) + 2, rfl, X8.fe, by omega, by omega, fun r3 H9 q4 q5 b9 f9 => ?_⟩
            have X9 := X8.take b9 f9
            have L3d : L3 ≠ d := fun z => by rw [z, X7.fe.hd] at n3; cases n3
            have eL3 : H9 L3 = some (.lst ((names cnt).map V.str ++ [.str "q1", .str "q2"])) := b9 _ _ upd_same L3d
            obtain ⟨t, tb, et⟩ : ∃ t : Str, t ∈ bnames ∧ atI ((names cnt).map V.str ++ [V.str "q1", .str "q2"]) r3 = some (.str t) := by
              obtain ⟨m, rfl⟩ : ∃ m : Nat, r3 = (m : Int) := ⟨r3.toNat, by omega⟩
              have ln : ((names cnt).map V.str).length = cnt := by
                unfold names
                rw [List.length_map, List.length_map, List.length_range]
              rcases Nat.lt_or_ge m cnt with lt | ge
              · refine ⟨pn m, pn_base (by omega), atI_nat ?_⟩
                rw [List.getElem?_append_left (by omega)]
                unfold names
                rw [List.map_map, List.getElem?_map, List.getElem?_range lt]
                rfl
              · have : m - cnt < 2 := by omega
                match hm : m - cnt, this with
                | 0, _ => exact ⟨"q1", List.mem_append_right _ List.mem_cons_self, atI_nat (by rw [List.getElem?_append_right (by omega), ln, hm]; rfl)⟩
                | 1, _ => exact ⟨"q2", List.mem_append_right _ (List.mem_cons_of_mem _ List.mem_cons_self), atI_nat (by rw [List.getElem?_append_right (by omega), ln, hm]; rfl)⟩
            refine ⟨L3, _, _, _, rfl, rfl, SqL.of eL3, et, _, rfl, _, rfl, rfl, _, rfl, ?_⟩
            by_cases ot : pn o = t
            · rw [show (!decide (V.str (pn o) = V.str t)) = false by rw [ot, decide_eq_true rfl]; rfl]
              exact iteF ⟨_, _, _, a + 3, fs, rfl, X9, by omega, S.mono (by omega), hd⟩
            · rw [show (!decide (V.str (pn o) = V.str t)) = true by rw [decide_eq_false (fun z => ot (V.str.inj z))]; rfl]
              obtain ⟨qs0, e0, _, _⟩ := id X9.ft
              refine iteT ⟨_, rfl, .inl ⟨rfl, _, .inl (.inl e0)⟩, (by show 4 ≤ sizeLine; decide), fun L4 n4 => ⟨_, rfl, d, l, a + 3, xs, 4, rfl, (X9.go (same_upd n4)).fe, by omega, by decide, fun r4 H10 q6 q7 b10 f10 => ?_⟩⟩
              have X10 := (X9.go (same_upd n4 (o := .lst [.str "wed", .str "wed", .str "wed", .str "parted"]))).take b10 f10
              have L4d : L4 ≠ d := fun z => by rw [z, X9.fe.hd] at n4; cases n4
              have eL4 : H10 L4 = some (.lst [.str "wed", .str "wed", .str "wed", .str "parted"]) := b10 _ _ upd_same L4d
              obtain ⟨fc, fc1, fc2, fc3⟩ : ∃ fc : Fct, (∃ w, fc.vs = [.str w, .str (pn o), .str t] ∧ atI [V.str "wed", .str "wed", .str "wed", .str "parted"] r4 = some (.str w)) ∧ FS (77 + j + 1) (fs ++ [fc]) ∧ dy1 (pn kd) fc = none := by
                obtain ⟨m, rfl⟩ : ∃ m : Nat, r4 = (m : Int) := ⟨r4.toNat, by omega⟩
                have : m < 4 := by omega
                match m, this with
                | 0, _ => exact ⟨.wed (pn o) t, ⟨"wed", rfl, atI_nat rfl⟩, S.wed (pn_base o13) tb ot, rfl⟩
                | 1, _ => exact ⟨.wed (pn o) t, ⟨"wed", rfl, atI_nat rfl⟩, S.wed (pn_base o13) tb ot, rfl⟩
                | 2, _ => exact ⟨.wed (pn o) t, ⟨"wed", rfl, atI_nat rfl⟩, S.wed (pn_base o13) tb ot, rfl⟩
                | 3, _ => exact ⟨.parted (pn o) t, ⟨"parted", rfl, atI_nat rfl⟩, S.parted (pn_base o13) tb ot, rfl⟩
              obtain ⟨w, ev, ew⟩ := fc1
              refine ⟨L4, _, _, _, rfl, rfl, SqL.of eL4, ew, _, rfl, _, rfl, (by show 3 ≤ sizeLine; decide), fun q nq => ?_⟩
              have X11 := X10.go (same_upd nq (o := .tup [.str w, .str (pn o), .str t]))
              obtain ⟨qs, e1, e2, X12⟩ := X11.push (q := q) (fc := fc) (by rw [ev]; exact upd_same)
              refine ⟨fa, _, _, rfl, rfl, e1, ?_, _, _, _, a + 4, _, rfl, X12, by omega, fc2, ?_⟩
              · rw [List.length_map, e2]
                have := S.ln
                exact small1000 (by omega)
              · rw [dys_snoc, fc3, Option.toList_none, List.append_nil]
                exact hd
          · rintro σ Hz ⟨y6, y8, y9, a, fs, rfl, X, ha, S, hd⟩
            refine ⟨_, rfl, _, rfl, _, rfl, (by show 3 ≤ sizeLine; decide), fun p np => ?_⟩
            have X5 := X.go (same_upd np (o := .lst [.str (pn kd), .ref na, .ref fa]))
            exact h p na fa cnt kd fs _ X5.sm (X.sm.free np) upd_same c3 c13 hk X5.nm X5.ft (S.mono (by omega)) hd
end
end K1
namespace K1
open PySem L2 PyProof.Rows PySem.Spec G
/-- the items of a list of facts -/
structure Itms (H : Hp) (xs : List V) (os : List (Option Fct)) : Prop where
  ln : os.length = xs.length
  it : ∀ (i : Nat) (x : V) (o : Option Fct), xs[i]? = some x → os[i]? = some o → Itm H x o
theorem Itms.same {H H' : Hp} {xs : List V} {os : List (Option Fct)} (h : Itms H xs os) (s : Same H H') : Itms H' xs os :=
  ⟨h.ln, fun i x o a b => (h.it i x o a b).same s⟩
theorem Itms.nil {H : Hp} : Itms H [] [] := ⟨rfl, fun i x o h => by cases h⟩
theorem Itms.cons {H : Hp} {x : V} {o : Option Fct} {xs : List V} {os : List (Option Fct)} (a : Itm H x o) (h : Itms H xs os) : Itms H (x :: xs) (o :: os) :=
  ⟨congrArg (· + 1) h.ln, fun i y p e1 e2 => by
    cases i with
    | zero =>
      obtain rfl := Option.some.inj e1
      obtain rfl := Option.some.inj e2
      exact a
    | succ i => exact h.it i y p e1 e2⟩
theorem Itms.app {H : Hp} {xs ys : List V} {os ps : List (Option Fct)} (h : Itms H xs os) (g : Itms H ys ps) : Itms H (xs ++ ys) (os ++ ps) := by
  refine ⟨by rw [List.length_append, List.length_append, h.ln, g.ln], fun i x o e1 e2 => ?_⟩
  rcases Nat.lt_or_ge i xs.length with lt | ge
  · rw [List.getElem?_append_left lt] at e1
    rw [List.getElem?_append_left (by have := h.ln; omega)] at e2
    exact h.it i x o e1 e2
  · rw [List.getElem?_append_right ge] at e1
    rw [List.getElem?_append_right (by have := h.ln; omega), h.ln] at e2
    exact g.it _ x o e1 e2
theorem Itms.take {H : Hp} {xs : List V} {os : List (Option Fct)} (h : Itms H xs os) (n : Nat) : Itms H (xs.take n) (os.take n) := by
  refine ⟨by rw [List.length_take, List.length_take, h.ln], fun i x o e1 e2 => ?_⟩
  rw [List.getElem?_take] at e1 e2
  split at e1
  · next c =>
    rw [if_pos c] at e2
    exact h.it i x o e1 e2
  · cases e1
theorem Itms.drop {H : Hp} {xs : List V} {os : List (Option Fct)} (h : Itms H xs os) (n : Nat) : Itms H (xs.drop n) (os.drop n) := by
  refine ⟨by rw [List.length_drop, List.length_drop, h.ln], fun i x o e1 e2 => ?_⟩
  rw [List.getElem?_drop] at e1 e2
  exact h.it _ x o e1 e2
theorem facts_itms {H : Hp} {a : Addr} {fs : List Fct} (h : FactsAt H a fs) (g : ∀ fc ∈ fs, factV fc.vs = true) : ∃ xs, H a = some (.lst xs) ∧ Itms H xs (fs.map some) ∧ xs.length = fs.length := by
  obtain ⟨qs, q1, q2, q3⟩ := h
  refine ⟨_, q1, ⟨by rw [List.length_map, List.length_map, q2], fun i v o h1 h2 => ?_⟩, by rw [List.length_map, q2]⟩
  rw [List.getElem?_map] at h1 h2
  obtain ⟨q, hq, rfl⟩ := Option.map_eq_some_iff.mp h1
  obtain ⟨fc, hf, rfl⟩ := Option.map_eq_some_iff.mp h2
  exact ⟨q, rfl, q3 i q fc hq hf, g fc (List.mem_of_getElem? hf)⟩
theorem itm_some {H : Hp} {q : Addr} {fc : Fct} (h : H q = some (.tup fc.vs)) (g : factV fc.vs = true) : Itm H (.ref q) (some fc) := ⟨q, rfl, h, g⟩
theorem Told.take {fs : List Fct} {F : Fm} (h : Told fs F) (n : Nat) : ∃ G, Told (fs.take n) G := by
  induction h with
  | nil => exact ⟨_, by rw [List.take_nil]; exact .nil⟩
  | snoc h g b ih =>
    rename_i fs F fc
    rcases Nat.lt_or_ge fs.length n with lt | ge
    · rw [List.take_of_length_le (by rw [List.length_append, List.length_singleton]; omega)]
      exact ⟨_, h.snoc g b⟩
    · rw [List.take_append_of_le_length ge]
      exact ih
theorem run_wrong {fs : List Fct} {F : Fm} (h : Told fs F) {n : Nat} (hn : n ≤ fs.length) : run Fm.none 0 ((fs.map some).take n ++ [none] ++ (fs.map some).drop n) = .inr n := by
  obtain ⟨G, t⟩ := h.take n
  rw [List.append_assoc, run_app, ← List.map_take, t.run]
  show (.inr (0 + ((fs.take n).map some).length) : Fm ⊕ Nat) = _
  rw [List.length_map, List.length_take]
  congr 1
  omega
theorem run_stop {fs : List Fct} {F : Fm} (h : Told fs F) {fc : Fct} (b : F.bad fc = true) (r : List (Option Fct)) : run Fm.none 0 (fs.map some ++ some fc :: r) = .inr fs.length := by
  rw [run_app, h.run]
  show (if F.bad fc = true then (.inr (0 + (fs.map some).length) : Fm ⊕ Nat) else _) = _
  rw [if_pos b, List.length_map, Nat.zero_add]
theorem bad_child {fs : List Fct} {F : Fm} (t : Told fs F) (c p : Str) : F.bad (.child c p) = (decide ((uniq (pas fs c)).length = 2) && !decide (p ∈ pas fs c)) := by
  have e1 : F.pa c = srt (uniq (pas fs c)) := asc_eq (t.view.pa _).1 fun y => ((t.view.pa _).2 y).trans pas_iff.symm
  show (decide ((F.pa c).length = 2) && !decide (p ∈ F.pa c)) = _
  rw [e1, srt_len]
  congr 2
  exact decide_eq_decide.mpr (srt_mem.trans uniq_mem)
theorem bad_died {fs : List Fct} {F : Fm} (t : Told fs F) (a : Str) (d : Int) : F.bad (.died a d) = !decide ((dys fs a).head?.getD d = d) := by
  show (!decide ((F.dy a).getD d = d)) = _
  rw [t.view.dy a]
theorem FS.pas0 {n : Nat} {fs : List Fct} (h : FS n fs) {x : Str} (hx : x ∉ bnames) : pas fs x = [] := by
  refine List.eq_nil_iff_forall_not_mem.mpr fun y hy => hx ?_
  have m := pas_iff.mp hy
  exact h.nm _ m x (by show V.str x ∈ [V.str x, V.str y]; exact List.mem_cons_self)
/-! the last of the parents is a third one -/
def newS : Str := "new"
theorem new_no : newS ∉ bnames := by decide +kernel
theorem new_nm : isNm newS = true := by decide +kernel
theorem good_child {c p : Str} (hc : isNm c = true) (hp : isNm p = true) (ne : c ≠ p) : factV (Fct.child c p).vs = true := good3 (.inl rfl) hc hp ne
theorem pn_nm {k : Nat} (h : k < 13) : isNm (pn k) = true := bn_nm _ (pn_base h)
theorem new_ne {k : Nat} (h : k < 13) : newS ≠ pn k := fun e => new_no (e ▸ pn_base h)
def parents4 : List Fct := [.child newS (pn 0), .child newS (pn 1), .child newS (pn 0), .child newS (pn 2)]
theorem pa1_hit (c p : Str) : pa1 c (.child c p) = some p := if_pos rfl
theorem run_parents {n : Nat} {fs : List Fct} (h : FS n fs) : run Fm.none 0 (fs.map some ++ parents4.map some) = .inr (fs.length + 3) := by
  obtain ⟨F, t⟩ := h.to
  have p0 : pas fs newS = [] := h.pas0 new_no
  have t1 := t.snoc (good_child new_nm (pn_nm (k := 0) (by decide)) (new_ne (by decide))) (by rw [bad_child t, p0]; rfl)
  have p1 : pas (fs ++ [.child newS (pn 0)]) newS = [pn 0] := by rw [pas_snoc, p0, pa1_hit]; rfl
  have t2 := t1.snoc (good_child new_nm (pn_nm (k := 1) (by decide)) (new_ne (by decide))) (by rw [bad_child t1, p1]; rfl)
  have p2 : pas (fs ++ [.child newS (pn 0)] ++ [.child newS (pn 1)]) newS = [pn 0, pn 1] := by rw [pas_snoc, p1, pa1_hit]; rfl
  have t3 := t2.snoc (good_child new_nm (pn_nm (k := 0) (by decide)) (new_ne (by decide))) (by rw [bad_child t2, p2]; decide +kernel)
  have p3 : pas (fs ++ [.child newS (pn 0)] ++ [.child newS (pn 1)] ++ [.child newS (pn 0)]) newS = [pn 0, pn 1, pn 0] := by rw [pas_snoc, p2, pa1_hit]; rfl
  have := run_stop t3 (fc := .child newS (pn 2)) (by rw [bad_child t3, p3]; decide +kernel) []
  rw [List.map_append, List.map_append, List.map_append, List.append_assoc, List.append_assoc, List.append_assoc] at this
  refine Eq.trans this ?_
  rw [List.length_append, List.length_append, List.length_append]
  rfl
theorem run_died {n : Nat} {fs : List Fct} (h : FS n fs) {x : Str} (hx : x ∈ bnames) (hd : (dys fs x).head? = some 50) : run Fm.none 0 (fs.map some ++ [some (.died x 50), some (.died x 51)]) = .inr (fs.length + 1) := by
  obtain ⟨F, t⟩ := h.to
  have t1 := t.snoc (fc := .died x 50) (good3i (.inl rfl) (bn_nm _ hx) (by decide) (by decide)) (by rw [bad_died t, hd]; rfl)
  have hd1 : (dys (fs ++ [.died x 50]) x).head? = some 50 := by
    rw [dys_snoc]
    cases e : dys fs x with
    | nil => rw [e] at hd; cases hd
    | cons z r => rw [e] at hd; exact hd
  have := run_stop t1 (fc := .died x 51) (by rw [bad_died t1, hd1]; rfl) []
  rw [List.map_append, List.append_assoc] at this
  refine Eq.trans this ?_
  rw [List.length_append]
  rfl
/-! the ring -/
def rS (e k : Nat) : Str := (("r" : Str) ++ dig (e : Int)) ++ dig (k : Int)
theorem r_nm : ∀ (e : _root_.Fin 10) (k : _root_.Fin 6), isNm (rS e.val k.val) = true ∧ rS e.val k.val ∉ bnames ∧ rS e.val k.val ≠ ("a0" : Str) ∧ (rS e.val k.val).cps.toList.getLast? = some (48 + k.val) ∧ (rS e.val k.val).length = 3 := by decide +kernel
theorem a0_nm : isNm ("a0" : Str) = true ∧ ("a0" : Str) ∉ bnames := by decide +kernel
/-- a ring of m persons -/
structure Ring (m : Nat) (rg : Nat → Str) : Prop where
  m2 : 2 ≤ m
  m6 : m ≤ 6
  rs : ∀ k, k < m → ∃ e, e < 10 ∧ rg k = rS e k
section
variable {m : Nat} {rg : Nat → Str}
theorem Ring.nm (R : Ring m rg) {k : Nat} (h : k < m) : isNm (rg k) = true := by
  obtain ⟨e, he, q⟩ := R.rs k h
  rw [q]
  exact (r_nm ⟨e, he⟩ ⟨k, Nat.lt_of_lt_of_le h R.m6⟩).1
theorem Ring.no (R : Ring m rg) {k : Nat} (h : k < m) : rg k ∉ bnames := by
  obtain ⟨e, he, q⟩ := R.rs k h
  rw [q]
  exact (r_nm ⟨e, he⟩ ⟨k, Nat.lt_of_lt_of_le h R.m6⟩).2.1
theorem Ring.na (R : Ring m rg) {k : Nat} (h : k < m) : rg k ≠ ("a0" : Str) := by
  obtain ⟨e, he, q⟩ := R.rs k h
  rw [q]
  exact (r_nm ⟨e, he⟩ ⟨k, Nat.lt_of_lt_of_le h R.m6⟩).2.2.1
theorem Ring.len (R : Ring m rg) {k : Nat} (h : k < m) : (rg k).length = 3 := by
  obtain ⟨e, he, q⟩ := R.rs k h
  rw [q]
  exact (r_nm ⟨e, he⟩ ⟨k, Nat.lt_of_lt_of_le h R.m6⟩).2.2.2.2
theorem Ring.inj (R : Ring m rg) {i j : Nat} (hi : i < m) (hj : j < m) (e : rg i = rg j) : i = j := by
  obtain ⟨a, ha, q⟩ := R.rs i hi
  obtain ⟨b, hb, r⟩ := R.rs j hj
  have l1 := (r_nm ⟨a, ha⟩ ⟨i, Nat.lt_of_lt_of_le hi R.m6⟩).2.2.2.1
  have l2 := (r_nm ⟨b, hb⟩ ⟨j, Nat.lt_of_lt_of_le hj R.m6⟩).2.2.2.1
  rw [q, r] at e
  have l1' : (rS a i).cps.toList.getLast? = some (48 + i) := l1
  have l2' : (rS b j).cps.toList.getLast? = some (48 + j) := l2
  rw [e, l2'] at l1'
  have := Option.some.inj l1'
  omega
def link (m : Nat) (rg : Nat → Str) (k : Nat) : Fct := .child (rg k) (rg ((k + 1) % m))
def links (m : Nat) (rg : Nat → Str) (j : Nat) : List Fct := (List.range j).map (link m rg)
theorem links_succ (j : Nat) : links m rg (j + 1) = links m rg j ++ [link m rg j] := by
  unfold links
  rw [List.range_succ, List.map_append]
  rfl
theorem Ring.nx (R : Ring m rg) (k : Nat) : (k + 1) % m < m := Nat.mod_lt _ (by have := R.m2; omega)
theorem Ring.ne (R : Ring m rg) {k : Nat} (h : k < m) : rg k ≠ rg ((k + 1) % m) := fun e => by
  have := R.inj h (R.nx k) e
  have m2 := R.m2
  by_cases c : k + 1 < m
  · rw [Nat.mod_eq_of_lt c] at this
    omega
  · have q : k + 1 = m := by omega
    have z : (k + 1) % m = 0 := by rw [q, Nat.mod_self]
    omega
theorem Ring.told (R : Ring m rg) {n : Nat} {fs : List Fct} (h : FS n fs) : ∀ j, j ≤ m → (∃ F, Told (fs ++ links m rg j) F) ∧ (∀ k, j ≤ k → k < m → pas (fs ++ links m rg j) (rg k) = []) ∧ pas (fs ++ links m rg j) ("a0" : Str) = [] := by
  intro j
  induction j with
  | zero =>
    intro _
    have e : fs ++ links m rg 0 = fs := List.append_nil fs
    rw [e]
    exact ⟨h.to, fun k _ hk => h.pas0 (R.no hk), h.pas0 a0_nm.2⟩
  | succ j ih =>
    intro hj
    obtain ⟨⟨F, t⟩, p, q⟩ := ih (by omega)
    have e : fs ++ links m rg (j + 1) = (fs ++ links m rg j) ++ [link m rg j] := by rw [links_succ, List.append_assoc]
    rw [e]
    refine ⟨⟨_, t.snoc (good_child (R.nm (k := j) (by omega)) (R.nm (R.nx j)) (R.ne (by omega))) ?_⟩, fun k k1 k2 => ?_, ?_⟩
    · show F.bad (.child (rg j) (rg ((j + 1) % m))) = false
      rw [bad_child t, p j (Nat.le_refl _) (by omega)]
      rfl
    · rw [pas_snoc, p k (by omega) k2]
      have : pa1 (rg k) (link m rg j) = none := if_neg fun z => by
        have := R.inj (by omega) k2 z
        omega
      rw [this]
      rfl
    · rw [pas_snoc, q]
      have : pa1 ("a0" : Str) (link m rg j) = none := if_neg fun z => R.na (by omega) z
      rw [this]
      rfl
def ringFs (m : Nat) (rg : Nat → Str) (fs : List Fct) : List Fct := fs ++ links m rg m ++ [.child "a0" (rg 0)]
theorem Ring.all (R : Ring m rg) {n : Nat} {fs : List Fct} (h : FS n fs) : ∃ F, Told (ringFs m rg fs) F := by
  obtain ⟨⟨F, t⟩, p, q⟩ := R.told h m (Nat.le_refl _)
  have m2 := R.m2
  exact ⟨_, t.snoc (good_child a0_nm.1 (R.nm (k := 0) (by omega)) (Ne.symm (R.na (by omega)))) (by rw [bad_child t, q]; rfl)⟩
theorem Ring.child (R : Ring m rg) {n : Nat} {fs : List Fct} (h : FS n fs) {c p : Str} (hc : Fct.child c p ∈ ringFs m rg fs) : (Fct.child c p ∈ fs) ∨ (∃ k, k < m ∧ c = rg k ∧ p = rg ((k + 1) % m)) ∨ (c = "a0" ∧ p = rg 0) := by
  rcases List.mem_append.mp hc with hc | hc
  · rcases List.mem_append.mp hc with hc | hc
    · exact .inl hc
    · obtain ⟨k, hk, e⟩ := List.mem_map.mp hc
      obtain ⟨rfl, rfl⟩ := Fct.child.inj e
      exact .inr (.inl ⟨k, List.mem_range.mp hk, rfl, rfl⟩)
  · obtain ⟨rfl, rfl⟩ := Fct.child.inj (List.mem_singleton.mp hc)
    exact .inr (.inr ⟨rfl, rfl⟩)
theorem Ring.dsc (R : Ring m rg) {n : Nat} {fs : List Fct} (h : FS n fs) {x y : Str} (d : Dsc (chs (ringFs m rg fs)) x y) : (rk x < rk y ∧ y ∈ bnames) ∨ ((∃ k, k < m ∧ x = rg k) ∧ ((∃ k, k < m ∧ y = rg k) ∨ y = "a0")) := by
  have m2 := R.m2
  have base {c p : Str} (hc : Fct.child c p ∈ fs) : rk p < rk c ∧ c ∈ bnames ∧ p ∈ bnames := by
    refine ⟨(h.rank _ _ hc).1, h.nm _ hc c ?_, h.nm _ hc p ?_⟩
    · show V.str c ∈ [V.str c, V.str p]; exact List.mem_cons_self
    · show V.str p ∈ [V.str c, V.str p]; exact List.mem_cons_of_mem _ List.mem_cons_self
  induction d with
  | one hy =>
    rcases R.child h (chs_mem.mp hy) with q | ⟨k, hk, rfl, rfl⟩ | ⟨rfl, rfl⟩
    · exact .inl ⟨(base q).1, (base q).2.1⟩
    · exact .inr ⟨⟨_, R.nx k, rfl⟩, .inl ⟨k, hk, rfl⟩⟩
    · exact .inr ⟨⟨0, by omega, rfl⟩, .inr rfl⟩
  | more _ hz ih =>
    rcases ih with ⟨l, b⟩ | ⟨rx, ry⟩
    · rcases R.child h (chs_mem.mp hz) with q | ⟨k, hk, rfl, rfl⟩ | ⟨rfl, rfl⟩
      · exact .inl ⟨Nat.lt_trans l (base q).1, (base q).2.1⟩
      · exact absurd b (R.no (R.nx k))
      · exact absurd b (R.no (by omega))
    · rcases R.child h (chs_mem.mp hz) with q | ⟨k, hk, rfl, rfl⟩ | ⟨rfl, rfl⟩
      · rcases ry with ⟨k, hk, rfl⟩ | rfl
        · exact absurd (base q).2.2 (R.no hk)
        · exact absurd (base q).2.2 a0_nm.2
      · exact .inr ⟨rx, .inl ⟨k, hk, rfl⟩⟩
      · exact .inr ⟨rx, .inr rfl⟩
theorem Ring.round (R : Ring m rg) {fs : List Fct} : ∀ (d k : Nat), Dsc (chs (ringFs m rg fs)) (rg ((k + d + 1) % m)) (rg (k % m)) := by
  have m2 := R.m2
  have one (k : Nat) : rg (k % m) ∈ chs (ringFs m rg fs) (rg ((k + 1) % m)) := by
    refine chs_mem.mpr (List.mem_append_left _ (List.mem_append_right _ (List.mem_map.mpr ⟨k % m, List.mem_range.mpr (Nat.mod_lt _ (by omega)), ?_⟩)))
    show Fct.child (rg (k % m)) (rg ((k % m + 1) % m)) = _
    rw [Nat.mod_add_mod]
  intro d
  induction d with
  | zero => exact fun k => .one (one k)
  | succ d ih =>
    intro k
    have := ih (k + 1)
    rw [show k + 1 + d + 1 = k + (d + 1) + 1 by omega] at this
    exact .more this (one k)
theorem Ring.self (R : Ring m rg) {n : Nat} {fs : List Fct} (h : FS n fs) {y : Str} : Dsc (chs (ringFs m rg fs)) y y ↔ ∃ k, k < m ∧ y = rg k := by
  have m2 := R.m2
  constructor
  · intro d
    rcases R.dsc h d with ⟨l, _⟩ | ⟨r, _⟩
    · exact absurd l (Nat.lt_irrefl _)
    · exact r
  · rintro ⟨k, hk, rfl⟩
    have := R.round (fs := fs) (m - 1) k
    rw [show k + (m - 1) + 1 = k + m by omega, Nat.add_mod_right, Nat.mod_eq_of_lt hk] at this
    exact this
def ringL (m : Nat) (rg : Nat → Str) : List Str := (List.range m).map rg
theorem srt_least {l : List Str} {x : Str} (h : (srt l)[0]? = some x) : x ∈ l ∧ ∀ y ∈ l, leT x y = true := by
  have pw := srt_pw l
  cases e : srt l with
  | nil => rw [e] at h; cases h
  | cons z r =>
    rw [e] at h pw
    obtain rfl : z = x := Option.some.inj h
    refine ⟨srt_mem.mp (by rw [e]; exact List.mem_cons_self), fun y hy => ?_⟩
    have := srt_mem.mpr hy
    rw [e] at this
    rcases List.mem_cons.mp this with rfl | m
    · exact leT_iff.mpr (List.lt_irrefl _)
    · exact (List.pairwise_cons.mp pw).1 y m
end
/-! many -/
theorem many_nm : ∀ k : _root_.Fin 130, isNm (pn k.val) = true := by decide +kernel
def many (n : Nat) : List Fct := (List.range n).map fun k => .renounced (pn k)
theorem many_good {n : Nat} (h : n ≤ 130) : ∀ fc ∈ many n, factV fc.vs = true := by
  intro fc hf
  obtain ⟨k, hk, rfl⟩ := List.mem_map.mp hf
  exact good2 (many_nm ⟨k, Nat.lt_of_lt_of_le (List.mem_range.mp hk) h⟩)
theorem many_told : ∀ n, n ≤ 130 → ∃ F, Told (many n) F
  | 0, _ => ⟨_, .nil⟩
  | n + 1, h => by
    obtain ⟨F, t⟩ := many_told n (by omega)
    have e : many (n + 1) = many n ++ [.renounced (pn n)] := by
      unfold many
      rw [List.range_succ, List.map_append]
      rfl
    rw [e]
    exact ⟨_, t.snoc (good2 (many_nm ⟨n, h⟩)) rfl⟩
theorem many_dsc {n : Nat} {x y : Str} (d : Dsc (chs (many n)) x y) : False := by
  have no {c p : Str} (h : Fct.child c p ∈ many n) : False := by
    obtain ⟨k, hk, e⟩ := List.mem_map.mp h
    cases e
  cases d with
  | one h => exact no (chs_mem.mp h)
  | more _ h => exact no (chs_mem.mp h)
/-- a list of two, as data -/
theorem sha_two (x : Str) (hx : PyData.strOk x = true) (i : Int) : SeqAt.shaped (.list [.str x, .int i]) = true := by
  unfold SeqAt.shaped
  simp [PyData.canLay0, PyData.canLayAll0, PyData.depth, PyData.depthAll, hx]
/-- what a list of facts is refused with -/
inductive RefIs (n : Nat) (os : List (Option Fct)) : List V → Prop
  | long (h : 120 < n) : RefIs n os [.str "fact", .int 120]
  | bad (i : Nat) (h : n ≤ 120) (r : run Fm.none 0 os = .inr i) : RefIs n os [.str "fact", .int i]
  | ring (F : Fm) (x : Str) (h : n ≤ 120) (r : run Fm.none 0 os = .inl F) (d : Dsc F.ch x x) (l : ∀ y, Dsc F.ch y y → leT x y = true) : RefIs n os [.str "ring", .str x]
  | ok (F : Fm) (h : n ≤ 120) (r : run Fm.none 0 os = .inl F) (d : ∀ y, ¬ Dsc F.ch y y) : RefIs n os []
def spRefV : Sp := fun vs H Q _ => ∃ (a : Addr) (xs : List V) (os : List (Option Fct)) (ws : List V), vs = [.ref a] ∧ H a = some (.lst xs) ∧ Itms H xs os ∧ RefIs xs.length os ws ∧ ∀ l H', Same H H' → H l = none → H' l = some (.lst ws) → Q (.ref l) H'
theorem ref_imp (vs : List V) (H : Hp) (Q : VK) (E : XK) (h : spRefV vs H Q E) : spRef vs H Q E := by
  obtain ⟨a, xs, os, ws, rfl, ha, I, R, go⟩ := h
  refine ⟨a, xs, os, rfl, ha, I.ln, I.it, fun c => ?_, fun i c r => ?_, fun F x c r d l => ?_, fun F c r d => ?_⟩
  · cases R with
    | long h => exact go
    | _ => omega
  · cases R with
    | long h => omega
    | bad j h r' =>
      rw [r] at r'
      obtain rfl := Sum.inr.inj r'
      exact go
    | ring F x h r' => rw [r] at r'; cases r'
    | ok F h r' => rw [r] at r'; cases r'
  · cases R with
    | long h => omega
    | bad j h r' => rw [r] at r'; cases r'
    | ring G z h r' d' l' =>
      rw [r] at r'
      obtain rfl := Sum.inl.inj r'
      obtain rfl := leT_anti (l _ d') (l' _ d)
      exact go
    | ok G h r' d' =>
      rw [r] at r'
      obtain rfl := Sum.inl.inj r'
      exact absurd d (d' _)
  · cases R with
    | long h => omega
    | bad j h r' => rw [r] at r'; cases r'
    | ring G z h r' d' l' =>
      rw [r] at r'
      obtain rfl := Sum.inl.inj r'
      exact absurd d' (d _)
    | ok G h r' d' => exact go
def spFacN : Sp := fun vs H Q _ => ∃ v : V, vs = [v] ∧ Itm H v none ∧ ∀ H', Same H H' → Q (.bl false) H'
theorem fac_imp (vs : List V) (H : Hp) (Q : VK) (E : XK) (h : spFacN vs H Q E) : spFac vs H Q E := by
  obtain ⟨v, rfl, iv, go⟩ := h
  rcases iv with ⟨q, ys, rfl, e, ok, ff⟩ | nt
  · exact ⟨_, rfl, .inl ⟨q, ys, rfl, e, ok, fun H' s => by rw [ff]; exact go H' s⟩⟩
  · exact ⟨_, rfl, .inr ⟨nt, go⟩⟩
def wD : V → PyData
  | .int i => .int i
  | .str x => .str x
  | _ => .none
theorem dp_two {K : PySem.W.Frag} {H : Hp} {l : Addr} {x : Str} {i : Int} (h : H l = some (.lst [.str x, .int i])) : Dp K H (.ref l) (.list [.str x, .int i]) := .lst (SqL.of h) (.cons (.str _) (.cons (.int _) .nil))
theorem dp_twoS {K : PySem.W.Frag} {H : Hp} {l : Addr} {x y : Str} (h : H l = some (.lst [.str x, .str y])) : Dp K H (.ref l) (.list [.str x, .str y]) := .lst (SqL.of h) (.cons (.str _) (.cons (.str _) .nil))
theorem dp_nil {K : PySem.W.Frag} {H : Hp} {l : Addr} (h : H l = some (.lst [])) : Dp K H (.ref l) (.list []) := .lst (SqL.of h) .nil
theorem sha_twoS (x y : Str) (hx : PyData.strOk x = true) (hy : PyData.strOk y = true) : SeqAt.shaped (.list [.str x, .str y]) = true := by
  unfold SeqAt.shaped
  simp [PyData.canLay0, PyData.canLayAll0, PyData.depth, PyData.depthAll, hx, hy]
theorem eqv_two (x : Str) (i : Int) : PyData.eqv (.list [.str x, .int i]) (.list [.str x, .int i]) = true := by
  simp [PyData.eqv, PyData.eqvAll]
theorem eqv_twoS (x y : Str) : PyData.eqv (.list [.str x, .str y]) (.list [.str x, .str y]) = true := by
  simp [PyData.eqv, PyData.eqvAll]
end K1
namespace K1
open PySem L2 PyProof.Rows PySem.Spec G
structure LwT (mg : Str → Option Value) : Prop where
  abs : mg "abs" = none
  len : mg "len" = none
  int : mg "int" = none
  range : mg "range" = none
  str : mg "str" = none
  sorted : mg "sorted" = none
theorem passF {P : Program} {w : World} {X : Cx} : Passes (L2.CX P w) X (fun _ _ _ => False) := by
  intro pins σ H s e s' I h
  obtain ⟨_, _, _, _, _, _, _, _, _, _, _, _, z⟩ := h
  exact z.elim
section
variable {P : Program} {w : World} {K : PySem.W.Frag} {mg : Str → Option Value} {base : Heap}
abbrev nLaw : List Str := ["script", "dead", "names", "facts", "family", "name", "below", "other", "setting", "at", "wrong", "parents", "size", "ring", "links", "many", "k"]
theorem scLaw : FnScope nLaw ["script"] (defScope sLaw) := ⟨rfl, rfl, rfl, by decide +kernel, rfl, by decide +kernel, by decide +kernel⟩
theorem dsc_lt {fs : List Fct} {rk : Str → Nat} (R : Rank fs rk) {x y : Str} (h : Dsc (chs fs) x y) : rk x < rk y := by
  induction h with
  | one h => exact (R _ _ (chs_mem.mp h)).1
  | more _ g ih => exact Nat.lt_trans ih (R _ _ (chs_mem.mp g)).1
theorem dsc_irr {fs : List Fct} {rk : Str → Nat} (R : Rank fs rk) {x : Str} (h : Dsc (chs fs) x x) : False := Nat.lt_irrefl _ (dsc_lt R h)
def spLaw (K : PySem.W.Frag) : Sp := fun vs H Q _ => ∃ (a : Addr) (ns : List Int), vs = [.ref a] ∧ SqL K H a (ns.map V.int) ∧ ns.length ≤ 63 ∧ (∀ z ∈ ns, Builtin.Int.intBits z ≤ 1048576) ∧ ∀ H', Q (.bl true) H'
theorem law_terms {f C CB CC fT : Addr} {fd fdT : FuncData} (F : Fun K "law" "law" sLaw f fd) (T : LwT mg) (R : RT P w K mg base C CB CC) (D : TD P w K mg base C) (MR : HasM P w K mg base CX0 C "reaches" ["self", "name", "wanted"] 2 (spRea C)) (GTo : FnG P w K mg base CX0 2 fT fdT ["family", "facts", "name"] (spTol C)) (mTo : mg "_law_told" = some (.ref fT)) (kTo : PySem.W.keepIn K (.ref fT) = true) (bTo : Binds K fdT ["family", "facts", "name"] []) (HFt : Has P w K mg base CX0 "_law_facts" ["cell"] 3 spFts) (HCe : Has P w K mg base CX0 "_law_cell" ["script", "k"] 1 (spCel K)) (HBe : Has P w K mg base CX0 "_law_below" ["facts", "name"] 1 spBel) (HWr : Has P w K mg base CX0 "_law_wrong" ["kind"] 1 spWro) (HRe : Has P w K mg base CX0 "_law_refusal" ["facts"] 5 spRef) (HFa : Has P w K mg base CX0 "is_fact" ["fact"] 2 spFac) (HNa : Has P w K mg base CX0 "is_name" ["value"] 1 spNam) (HAm : Has P w K mg base CX0 "is_amount" ["value"] 1 spAmt) : FnG P w K mg base CX0 7 f fd ["script"] (spLaw K) := by
  obtain ⟨fFt, fdFt, mFt, kFt, bFt, GFt⟩ := HFt.ok
  obtain ⟨fCe, fdCe, mCe, kCe, bCe, GCe⟩ := HCe.ok
  obtain ⟨fBe, fdBe, mBe, kBe, bBe, GBe⟩ := HBe.ok
  obtain ⟨fWr, fdWr, mWr, kWr, bWr, GWr⟩ := HWr.ok
  obtain ⟨fRe, fdRe, mRe, kRe, bRe, GRe⟩ := HRe.ok
  obtain ⟨fFa, fdFa, mFa, kFa, bFa, GFa⟩ := HFa.ok
  obtain ⟨fNa, fdNa, mNa, kNa, bNa, GNa⟩ := HNa.ok
  obtain ⟨fAm, fdAm, mAm, kAm, bAm, GAm⟩ := HAm.ok
  have GRe := GRe.imp ref_imp
  have GFa := GFa.imp fac_imp
  obtain ⟨fI, fdF, MF, bF, GF⟩ := R.ini
  obtain ⟨fR, fdR, meR, bR, GR⟩ := MR.ok
  refine okG F scLaw (fun vs H Q E h => ?_) (fun cdv A outer s H vs Q E hr hg h => ?_)
  · obtain ⟨a, ns, rfl, _⟩ := h
    rfl
  · obtain ⟨a, ns, rfl, hS, hn, hbits, go⟩ := h
    have hr6 := hr
    replace hr : Room 4 (A.deeper (envOfC "law" (defScope sLaw) s.heap.objs.size f cdv)) := hr6.mono (by decide)
    have hu : (A.deeper (envOfC "law" (defScope sLaw) s.heap.objs.size f cdv)).units + 64 < cLine := by have := hr6.un; omega
    refine ⟨_, pss_cons (ps_asg (pe_call GFt (hr.mono (by decide)) (by rfl) mFt kFt bFt .nil pass0 (pa_cons (pe_call GCe (hr.mono (by decide)) (by rfl) mCe kCe bCe .nil pass0 (pa_cons (pv 0) (pa_cons pe_int pa_nil))) pa_nil)) (pg_unl (n := 3) rfl (pgs_cons (pg_name (i := 1) scLaw.nd rfl (.inl rfl)) (pgs_cons (pg_name (i := 2) scLaw.nd rfl (.inl rfl)) (pgs_cons (pg_name (i := 3) scLaw.nd rfl (.inl rfl)) pgs_nil))))) (pss_cons (ps_set (i := 4) scLaw.nd rfl (.inl rfl) (pe_make MF GF hr (by rfl) R.gF bF .nil passF (pa_cons (pv 3) pa_nil))) (pss_cons (ps_for PassesOwn.never rfl (pi_list (pe_op op_cat (pv 2) (pe_lst (pa_cons pe_str (pa_cons pe_str pa_nil))))) (pg_name (i := 5) scLaw.nd rfl (.inl rfl)) (pss_cons (ps_if (pt_not (pt_val (pe_callG GTo (hr.mono (by decide)) hg (by rfl) mTo kTo bTo .nil pass0 (pa_cons (pv 4) (pa_cons (pv 3) (pa_cons (pv 5) pa_nil)))))) (pss_one (ps_ret pe_bl)) pss_nil) (pss_cons (ps_set (i := 6) scLaw.nd rfl (.inl rfl) (pe_call GBe (hr.mono (by decide)) (by rfl) mBe kBe bBe .nil pass0 (pa_cons (pv 3) (pa_cons (pv 5) pa_nil)))) (pss_one (ps_for PassesOwn.never rfl (pi_list (pv 2)) (pg_name (i := 7) scLaw.nd rfl (.inl rfl)) (pss_one (ps_if (pt_cmpR op_ne (pe_meth (pv 4) D.cl meR GR (hr.mono (by decide)) bR .nil pass0 (pa_cons (pv 5) (pa_cons (pv 7) pa_nil))) (pe_cmpR op_in_seq (pv 7) (pv 6) (by rfl)) (nomark _)) (pss_one (ps_ret pe_bl)) pss_nil))))))) (pss_cons (ps_set (i := 8) scLaw.nd rfl (.inr rfl) (pe_callB call_abs (by rfl) T.abs (by decide +kernel) (pa_cons (pe_call GCe (hr.mono (by decide)) (by rfl) mCe kCe bCe .nil pass0 (pa_cons (pv 0) (pa_cons pe_int pa_nil))) pa_nil))) (pss_cons (ps_set (i := 9) scLaw.nd rfl (.inl rfl) (pe_op op_mod (pv 8) (pe_op op_add (pe_callB call_len_seq (by rfl) T.len PySem.boot_len (pa_cons (pv 3) pa_nil)) pe_int))) (pss_cons (ps_set (i := 10) scLaw.nd rfl (.inl rfl) (pe_call GWr (hr.mono (by decide)) (by rfl) mWr kWr bWr .nil pass0 (pa_cons (pe_callTy call_int1 (by rfl) T.int (by decide +kernel) (pa_cons (pe_op op_fdiv (pv 8) pe_int) pa_nil)) pa_nil))) (pss_cons (ps_if (PW.pt (pw_or (pt_cmpR (op_neD hu) (pe_call GRe (hr6.mono (by decide)) (by rfl) mRe kRe bRe .nil pass0 (pa_cons (pe_op op_cat (pe_op op_cat (pe_slice sl_list (pv 3) po_none (po_some (pv 9))) (pe_lst (pa_cons (pv 10) pa_nil))) (pe_slice sl_list (pv 3) (po_some (pv 9)) po_none)) pa_nil)) (pe_lst (pa_cons pe_str (pa_cons (pv 9) pa_nil))) (nomark _)) (pw_or1 (pt_cmpR op_notBl (pe_call GFa (hr.mono (by decide)) (by rfl) mFa kFa bFa .nil pass0 (pa_cons (pv 10) pa_nil)) pe_bl (nomark _))))) (pss_one (ps_ret pe_bl)) pss_nil) (pss_cons (ps_set (i := 11) scLaw.nd rfl (.inl rfl) (pe_lst (pa_cons (pe_tup (pa_cons pe_str (pa_cons pe_str (pa_cons pe_str pa_nil)))) (pa_cons (pe_tup (pa_cons pe_str (pa_cons pe_str (pa_cons pe_str pa_nil)))) (pa_cons (pe_tup (pa_cons pe_str (pa_cons pe_str (pa_cons pe_str pa_nil)))) (pa_cons (pe_tup (pa_cons pe_str (pa_cons pe_str (pa_cons pe_str pa_nil)))) pa_nil)))))) (pss_cons (ps_if (pt_cmpR (op_neD hu) (pe_call GRe (hr6.mono (by decide)) (by rfl) mRe kRe bRe .nil pass0 (pa_cons (pe_op op_cat (pv 3) (pv 11)) pa_nil)) (pe_lst (pa_cons pe_str (pa_cons (pe_op op_add (pe_callB call_len_seq (by rfl) T.len PySem.boot_len (pa_cons (pv 3) pa_nil)) pe_int) pa_nil))) (nomark _)) (pss_one (ps_ret pe_bl)) pss_nil) (pss_cons (ps_if (pt_cmpR (op_neD hu) (pe_call GRe (hr6.mono (by decide)) (by rfl) mRe kRe bRe .nil pass0 (pa_cons (pe_op op_cat (pv 3) (pe_lst (pa_cons (pe_tup (pa_cons pe_str (pa_cons (pv 1) (pa_cons pe_int pa_nil)))) (pa_cons (pe_tup (pa_cons pe_str (pa_cons (pv 1) (pa_cons pe_int pa_nil)))) pa_nil)))) pa_nil)) (pe_lst (pa_cons pe_str (pa_cons (pe_op op_add (pe_callB call_len_seq (by rfl) T.len PySem.boot_len (pa_cons (pv 3) pa_nil)) pe_int) pa_nil))) (nomark _)) (pss_one (ps_ret pe_bl)) pss_nil) (pss_cons (ps_set (i := 12) scLaw.nd rfl (.inl rfl) (pe_op op_add pe_int (pe_op op_mod (pe_callTy call_int1 (by rfl) T.int (by decide +kernel) (pa_cons (pe_op op_fdiv (pv 8) pe_int) pa_nil)) pe_int))) (pss_cons (ps_set (i := 13) scLaw.nd rfl (.inr rfl) (pe_lc (own := [("k", 16)]) (g := gName 16) (tt := tYes) rfl scLaw.nd (pi_range1 rfl T.range (pa_cons (pe_op op_add (pv 12) pe_int) pa_nil)) (blkOk_by (N := nLaw) (sc := defScope sLaw) (by decide +kernel)) (fun _ _ _ _ _ => pg_name (i := 16) scLaw.nd rfl (.inl rfl) (.inr rfl)) (fun _ _ _ _ _ => pts_nil) (fun _ _ _ _ _ => (pe_op op_add_str (pe_op op_add_str pe_str (pe_callTy call_str_int (by rfl) T.str (by decide +kernel) (pa_cons (pe_op op_mod (pe_callTy call_int1 (by rfl) T.int (by decide +kernel) (pa_cons (pe_op op_add (pe_op op_fdiv (pv 8) pe_int) (pe_op op_mul pe_int (pv 16))) pa_nil)) pe_int) pa_nil))) (pe_callTy call_str_int (by rfl) T.str (by decide +kernel) (pa_cons (pv 16) pa_nil)))))) (pss_cons (ps_setLc (i := 14) (own := [("k", 16)]) (g := gName 16) (tt := tYes) rfl scLaw.nd rfl rfl (sw_true rfl rfl rfl (by decide +kernel)) (pi_range1 rfl T.range (pa_cons (pe_callB call_len_seq (by rfl) T.len PySem.boot_len (pa_cons (pv 13) pa_nil)) pa_nil)) (blkOk_by (N := nLaw) (sc := defScope sLaw) (by decide +kernel)) (fun _ _ _ _ _ => pg_name (i := 16) scLaw.nd rfl (.inl rfl) (.inr rfl)) (fun _ _ _ _ _ => pts_nil) (fun _ _ _ _ _ => (pe_tup (pa_cons pe_str (pa_cons (pe_ix (show IxR _ (rIxL K) from ix_list) (pv 13) (pv 16) (fun _ _ => rfl)) (pa_cons (pe_ix (show IxR _ (rIxL K) from ix_list) (pv 13) (pe_op op_mod (pe_op op_add (pv 16) pe_int) (pe_callB (show CallR _ _ (fun xs H Q => ∃ p ys, xs = [.ref p] ∧ (SqL K H p ys ∨ SqT K H p ys) ∧ Q (.int (ys.length : Int)) H) from call_len_seq) (by rfl) T.len PySem.boot_len (pa_cons (pv 13) pa_nil))) (fun _ _ => rfl)) pa_nil)))))) (pss_cons (ps_if (pt_cmpR (op_neD hu) (pe_call GRe (hr6.mono (by decide)) (by rfl) mRe kRe bRe .nil pass0 (pa_cons (pe_op op_cat (pe_op op_cat (pv 3) (pv 14)) (pe_lst (pa_cons (pe_tup (pa_cons pe_str (pa_cons pe_str (pa_cons (pe_ix ix_list (pv 13) pe_int (fun _ _ => rfl)) pa_nil)))) pa_nil))) pa_nil)) (pe_lst (pa_cons pe_str (pa_cons (pe_ix ix_list (pe_callB cr_sortTx (by rfl) T.sorted (by decide +kernel) (pa_cons (pv 13) pa_nil)) pe_int (fun _ _ => rfl)) pa_nil))) (nomark _)) (pss_one (ps_ret pe_bl)) pss_nil) (pss_cons (ps_setLc (i := 15) (own := [("k", 16)]) (g := gName 16) (tt := tYes) rfl scLaw.nd rfl rfl (sw_true rfl rfl rfl (by decide +kernel)) (pi_range1 rfl T.range (pa_cons (pe_op op_add pe_int (pe_op op_mod (pv 8) pe_int)) pa_nil)) (blkOk_by (N := nLaw) (sc := defScope sLaw) (by decide +kernel)) (fun _ _ _ _ _ => pg_name (i := 16) scLaw.nd rfl (.inl rfl) (.inr rfl)) (fun _ _ _ _ _ => pts_nil) (fun _ _ _ _ _ => (pe_tup (pa_cons pe_str (pa_cons (pe_op op_add_str pe_str (pe_callTy call_str_int (by rfl) T.str (by decide +kernel) (pa_cons (pv 16) pa_nil))) pa_nil))))) (pss_cons (ps_if (pt_cmpR (op_neD hu) (pe_call GRe (hr6.mono (by decide)) (by rfl) mRe kRe bRe .nil pass0 (pa_cons (pv 15) pa_nil)) (pe_ix ix_list (pe_lst (pa_cons (pe_lst pa_nil) (pa_cons (pe_lst (pa_cons pe_str (pa_cons pe_int pa_nil))) pa_nil))) (pe_callTy call_int1 (by rfl) T.int (by decide +kernel) (pa_cons (pe_cmpR op_gt (pe_callB call_len_seq (by rfl) T.len PySem.boot_len (pa_cons (pv 15) pa_nil)) pe_int (nomark _)) pa_nil)) (fun _ _ => rfl)) (nomark _)) (pss_one (ps_ret pe_bl)) pss_nil) (pss_one (ps_ret (pe_and (pe_cmpR op_isBl (pe_call GNa (hr.mono (by decide)) (by rfl) mNa kNa bNa .nil pass0 (pa_cons pe_str pa_nil)) pe_bl (nomark _)) (pe_and (pe_cmpR op_isBl (pe_call GNa (hr.mono (by decide)) (by rfl) mNa kNa bNa .nil pass0 (pa_cons pe_str pa_nil)) pe_bl (nomark _)) (pe_and (pe_cmpR op_isBl (pe_call GAm (hr.mono (by decide)) (by rfl) mAm kAm bAm .nil pass0 (pa_cons pe_int pa_nil)) pe_bl (nomark _)) (pe_one (pe_cmpR op_isBl (pe_call GAm (hr.mono (by decide)) (by rfl) mAm kAm bAm .nil pass0 (pa_cons pe_bl pa_nil)) pe_bl (nomark _))))))))))))))))))))))), ?_⟩
    refine ⟨_, rfl, a, ns, 0, rfl, hS, by decide, _, rfl, fun p na fa cnt k fs H1 s1 np e1 c3 c13 hk en ef S hd => ?_⟩
    refine ⟨p, _, rfl, SqL.of e1, rfl, _, _, rfl, _, _, rfl, _, _, rfl, rfl, ?_⟩
    obtain ⟨Fm0, to⟩ := S.to
    obtain ⟨qs, q1, q2, q3⟩ := id ef
    have S80 := S.ln
    refine ⟨_, rfl, fun fam dx nx ndx nex => ?_⟩
    have s2 : Same H1 (upd (upd H1 dx (.own fam)) fam (.ins C dx [])) := (same_upd ndx).trans (same_upd (by rw [upd_ne (Ne.symm nex)]; exact nx))
    have irr : ∀ y, ¬ Dsc Fm0.ch y y := fun y hy => dsc_irr S.rank (to.dsc.mp hy)
    refine ⟨fam, fa, dx, qs.map V.ref, fs.map some, rfl, upd_same, s2 _ _ q1, by rw [List.length_map, List.length_map, q2], ?_, fun c => ?_, fun i _ er => ?_, fun F x _ er hx => ?_, fun F n _ er _ H3 kp hF => ⟨rfl, ?_⟩⟩
    · intro i v o h1 h2
      rw [List.getElem?_map] at h1 h2
      obtain ⟨q, hq, rfl⟩ := Option.map_eq_some_iff.mp h1
      obtain ⟨fc, hf, rfl⟩ := Option.map_eq_some_iff.mp h2
      exact ⟨q, rfl, s2 _ _ (q3 i q fc hq hf), to.good fc (List.mem_of_getElem? hf)⟩
    · rw [List.length_map, q2] at c
      omega
    · rw [to.run] at er
      cases er
    · rw [to.run] at er
      obtain rfl := Sum.inl.inj er
      exact absurd hx (irr x)
    · rw [to.run] at er
      obtain rfl := Sum.inl.inj er
      have s3 : Same H1 H3 := fun b o hb => kp b o (s2 _ _ hb) (ne_of_none hb nx)
      have nmB (x : Str) (hx : x ∈ names cnt ++ (["q1", "zz"] : List Str)) : isNm x = true := by
        rcases List.mem_append.mp hx with m | m
        · obtain ⟨i, hi, rfl⟩ := List.mem_map.mp m
          have := List.mem_range.mp hi
          exact bn_nm _ (pn_base (by omega))
        · have all : ∀ x ∈ (["q1", "zz"] : List Str), isNm x = true := by decide +kernel
          exact all x m
      refine ⟨_, rfl, (by show 2 ≤ sizeLine; decide), fun L nL => ⟨na, L, _, _, rfl, rfl, (s3.trans (same_upd nL)) _ _ en, upd_same, ?_, fun L2 nL2 => ?_⟩⟩
      · rw [List.length_map]
        unfold names
        rw [List.length_map, List.length_range]
        exact Nat.le_of_lt (small1000 (by show cnt + 2 ≤ 1000; omega))
      have s5 := (same_upd nL (o := .lst [.str "q1", .str "zz"])).trans (same_upd nL2 (o := .lst ((names cnt).map V.str ++ [.str "q1", .str "zz"])))
      refine ⟨L2, rfl, ⟨_, SqL.of upd_same⟩, for_list (K := K) (a := L2) (xs := (names cnt).map V.str ++ [.str "q1", .str "zz"]) (fun i σ Hy => ∃ (y5 y6 y7 : Option V), σ = [some (.ref a), some (.str (pn k)), some (.ref na), some (.ref fa), some (.ref fam), y5, y6, y7, none, none, none, none, none, none, none, none, none] ∧ Same H3 Hy ∧ Hy L2 = some (.lst ((names cnt).map V.str ++ [.str "q1", .str "zz"])))
        ⟨none, none, none, rfl, s5, upd_same⟩ (fun i σ Hy _ ⟨_, _, _, _, _, z⟩ => SqL.of z) ?_ ?_⟩
      · rintro i v σ Hy hi ⟨y5, y6, y7, rfl, sy, eL2⟩
        obtain ⟨x, hx, rfl⟩ : ∃ x, x ∈ names cnt ++ (["q1", "zz"] : List Str) ∧ v = .str x := by
          have m := List.mem_of_getElem? hi
          rcases List.mem_append.mp m with m | m
          · obtain ⟨x, hx, rfl⟩ := List.mem_map.mp m
            exact ⟨x, List.mem_append_left _ hx, rfl⟩
          · simp only [List.mem_cons, List.not_mem_nil, or_false] at m
            rcases m with rfl | rfl
            · exact ⟨_, List.mem_append_right _ (by simp), rfl⟩
            · exact ⟨_, List.mem_append_right _ (by simp), rfl⟩
        have t3 := s3.trans sy
        refine ⟨_, rfl, _, rfl, _, rfl, fam, fa, x, n, Fm0, fs, rfl, hF.same sy, ef.same t3, by omega, to.good, nmB x hx, to.sees (by omega) x, fun H4 s4 => ⟨_, rfl, iteF ?_⟩⟩
        refine ⟨_, rfl, _, rfl, fa, x, fs, rk, rfl, ef.same (t3.trans s4), by omega, S.rank, fun l H5 zs s6 nl el hz => ?_⟩
        have s46 := s4.trans s6
        refine ⟨_, rfl, na, rfl, ⟨_, SqL.of ((t3.trans s46) _ _ en)⟩, for_list (K := K) (a := na) (xs := (names cnt).map V.str) (fun j σ Hz => ∃ (y7 : Option V), σ = [some (.ref a), some (.str (pn k)), some (.ref na), some (.ref fa), some (.ref fam), some (.str x), some (.ref l), y7, none, none, none, none, none, none, none, none, none] ∧ Same H5 Hz)
          ⟨_, rfl, Same.refl _⟩ (fun j σ Hz _ ⟨_, _, z⟩ => SqL.of (((t3.trans s46).trans z) _ _ en)) ?_ ?_⟩
        · rintro j v σ Hz hj ⟨y7, rfl, sz⟩
          obtain ⟨o, ho, rfl⟩ : ∃ o, o ∈ names cnt ∧ v = .str o := by
            obtain ⟨o, h1, h2⟩ := List.mem_map.mp (List.mem_of_getElem? hj)
            exact ⟨o, h1, h2.symm⟩
          have u3 := (sy.trans s46).trans sz
          obtain ⟨dx2, a1, a2, a3, a4, a5, a6, a7, hp, -, -, -, -, -, -, -, -⟩ := id (hF.same u3).ex
          have kl := kids_len (fs.map some)
          rw [List.length_map] at kl
          refine ⟨_, rfl, fam, dx2, _, rfl, hp, no_mR ⟨a1, a2, a3, a4, a5, a6, a7⟩, _, rfl, _, rfl, fam, x, o, n, Fm0, kids (fs.map some), rfl, hF.same u3, by omega, fun u y hy => kids_mem (List.mem_map.mpr ⟨_, ((to.view.ch u).2 y).mp hy, rfl⟩), fun u => by have := to.lens.ch u; omega, fun H6 b s7 hb => ?_⟩
          refine ⟨_, rfl, _, rfl, l, _, rfl, .inl (SqL.of ((sz.trans s7) _ _ el)), rfl, flat_strs _, rfl, _, rfl, ?_⟩
          rw [show (if false = true then !inV (V.str o) (zs.map V.str) else inV (V.str o) (zs.map V.str)) = inV (V.str o) (zs.map V.str) from if_neg (by decide), inV_str]
          have eb : b = decide (o ∈ zs) := by
            rw [Bool.eq_iff_iff, decide_eq_true_eq, hb, hz, to.dsc]
          rw [eb, decide_eq_true rfl]
          exact iteF ⟨_, rfl, sz.trans s7⟩
        · rintro σ Hz ⟨y7, rfl, sz⟩
          exact ⟨_, _, _, rfl, (sy.trans s46).trans sz, ((s46.trans sz) _ _ eL2)⟩
      · rintro σ Hy ⟨y5, y6, y7, rfl, sy, eL2⟩
        have t4 : Same H1 Hy := s3.trans sy
        have sH : Same H Hy := s1.trans t4
        have bd : pn k ∈ bnames := pn_base (by omega)
        obtain ⟨F0, tF⟩ := S.to
        have good := to.good
        refine ⟨_, rfl, a, ns, 1, rfl, sH.seq hS, by decide, _, rfl, ?_⟩
        generalize hte : (if cell ns 1 < 0 then -cell ns 1 else cell ns 1) = t
        have t0 : 0 ≤ t := by rw [← hte]; split <;> omega
        clear hte
        obtain ⟨xs, exs, ixs, lxs⟩ := facts_itms (ef.same t4) good
        refine ⟨_, rfl, _, rfl, fa, xs, rfl, .inl (SqL.of exs), _, _, rfl, rfl, _, _, rfl, rfl, (by show (0 : Int) < (xs.length : Int) + 1; omega), ?_⟩
        obtain ⟨n0, en0⟩ : ∃ n0 : Nat, t % ((xs.length : Int) + 1) = (n0 : Int) := ⟨(t % ((xs.length : Int) + 1)).toNat, by have := Int.emod_nonneg t (b := (xs.length : Int) + 1) (by omega); omega⟩
        have n0l : n0 ≤ xs.length := by have := Int.emod_lt_of_pos t (b := (xs.length : Int) + 1) (by omega); omega
        show gName 9 (V.int (t % ((xs.length : Int) + 1))) _ _ _
        rw [en0]
        refine ⟨_, rfl, _, _, rfl, rfl, ⟨by decide, by decide⟩, .inl ⟨_, rfl, _, rfl, fun v H4 s4 iv => ?_⟩⟩
        -- the wrong fact
        refine ⟨_, rfl, _, rfl, (n0 : Int), rfl, fa, xs, rfl, SqL.of (s4 _ _ exs), fun T1 n1 => ⟨_, rfl, (by show 1 ≤ sizeLine; decide), fun W1 nw => ?_⟩⟩
        rw [cut_take _ _ n0l] at *
        have a1 : Same H4 (upd H4 T1 (.lst (xs.take n0))) := same_upd n1
        have a2 := a1.trans (same_upd nw (o := .lst [v]))
        refine ⟨T1, W1, _, _, rfl, rfl, (same_upd nw) _ _ upd_same, upd_same, (by rw [List.length_take]; exact Nat.le_of_lt (small1000 (by show min n0 xs.length + 1 ≤ 1000; omega))), fun C1 nc1 => ?_⟩
        have a3 := a2.trans (same_upd nc1 (o := .lst (xs.take n0 ++ [v])))
        refine ⟨_, rfl, _, rfl, (n0 : Int), rfl, fa, xs, rfl, SqL.of ((s4.trans a3) _ _ exs), fun T2 n2 => ?_⟩
        rw [cut_drop _ _ n0l] at *
        have a4 := a3.trans (same_upd n2 (o := .lst (xs.drop n0)))
        refine ⟨C1, T2, _, _, rfl, rfl, (same_upd n2) _ _ upd_same, upd_same, (by rw [List.length_append, List.length_take, List.length_drop]; exact Nat.le_of_lt (small1000 (by show min n0 xs.length + 1 + (xs.length - n0) ≤ 1000; omega))), fun C2 nc2 => ?_⟩
        have a5 := a4.trans (same_upd nc2 (o := .lst (xs.take n0 ++ [v] ++ xs.drop n0)))
        have ixs2 := ixs.same (s4.trans a5)
        refine ⟨C2, _, (fs.map some).take n0 ++ [none] ++ (fs.map some).drop n0, _, rfl, upd_same, ((ixs2.take n0).app (Itms.cons (iv.same a5) .nil)).app (ixs2.drop n0), .bad n0 (by rw [List.length_append, List.length_append, List.length_take, List.length_drop]; show min n0 xs.length + 1 + (xs.length - n0) ≤ 120; omega) (run_wrong to (by omega)), fun l H5 s5 nl el => ?_⟩
        refine ⟨_, rfl, (by show 2 ≤ sizeLine; decide), fun l2 nl2 => ⟨_, _, dp_two ((same_upd nl2) _ _ el), dp_two upd_same, sha_two _ (by decide +kernel) _, sha_two _ (by decide +kernel) _, _, rfl, ?_⟩⟩
        rw [eqv_two]
        have a6 := a5.trans (s5.trans (same_upd nl2 (o := .lst [.str "fact", .int (n0 : Int)])))
        refine iteF ⟨_, rfl, v, rfl, iv.same a6, fun H6 s6 => ⟨_, _, rfl, rfl, _, rfl, iteF ?_⟩⟩
        have t6 : Same Hy H6 := s4.trans (a6.trans s6)
        clear a1 a2 a3 a4 a5 a6 ixs2 n1 nw nc1 n2 nc2 nl nl2 el s5 s6
        -- parents
        refine ⟨(by show 3 ≤ sizeLine; decide), fun P1 m1 => ⟨(by show 3 ≤ sizeLine; decide), fun P2 m2 => ⟨(by show 3 ≤ sizeLine; decide), fun P3 m3 => ⟨(by show 3 ≤ sizeLine; decide), fun P4 m4 => ⟨(by show 4 ≤ sizeLine; decide), fun L4 m5 => ?_⟩⟩⟩⟩⟩
        have b1 := t6.trans (same_upd m1 (o := .tup (Fct.child newS (pn 0)).vs))
        have b2 := same_upd m2 (o := .tup (Fct.child newS (pn 1)).vs)
        have b3 := same_upd m3 (o := .tup (Fct.child newS (pn 0)).vs)
        have b4 := same_upd m4 (o := .tup (Fct.child newS (pn 2)).vs)
        have b5 := same_upd m5 (o := .lst [.ref P1, .ref P2, .ref P3, .ref P4])
        have b234 := (b2.trans b3).trans b4
        have bL := (b1.trans b234).trans b5
        refine ⟨_, rfl, _, rfl, fa, L4, xs, _, rfl, rfl, bL _ _ exs, upd_same, Nat.le_of_lt (small1000 (by show xs.length + 4 ≤ 1000; omega)), fun C3 nc3 => ?_⟩
        have bC := bL.trans (same_upd nc3 (o := .lst (xs ++ [.ref P1, .ref P2, .ref P3, .ref P4])))
        have b5C := b5.trans (same_upd nc3 (o := .lst (xs ++ [.ref P1, .ref P2, .ref P3, .ref P4])))
        refine ⟨C3, _, fs.map some ++ parents4.map some, _, rfl, upd_same, (ixs.same bC).app (Itms.cons (itm_some (((b2.trans b3).trans b4).trans b5C _ _ upd_same) (good_child new_nm (pn_nm (by decide)) (new_ne (by decide)))) (Itms.cons (itm_some (((b3).trans b4).trans b5C _ _ upd_same) (good_child new_nm (pn_nm (by decide)) (new_ne (by decide)))) (Itms.cons (itm_some (b4.trans b5C _ _ upd_same) (good_child new_nm (pn_nm (by decide)) (new_ne (by decide)))) (Itms.cons (itm_some (b5C _ _ upd_same) (good_child new_nm (pn_nm (by decide)) (new_ne (by decide)))) .nil)))), .bad (fs.length + 3) (by rw [List.length_append]; show xs.length + 4 ≤ 120; omega) (run_parents S), fun l H7 s7 nl el => ?_⟩
        have b7 := bC.trans s7
        refine ⟨_, rfl, fa, xs, rfl, .inl (SqL.of (b7 _ _ exs)), _, _, rfl, rfl, (by show 2 ≤ sizeLine; decide), fun l2 nl2 => ?_⟩
        rw [show ((fs.length + 3 : Nat) : Int) = (xs.length : Int) + 3 by omega] at el
        refine ⟨_, _, dp_two ((same_upd nl2) _ _ el), dp_two upd_same, sha_two _ (by decide +kernel) _, sha_two _ (by decide +kernel) _, _, rfl, ?_⟩
        rw [eqv_two]
        refine iteF ?_
        have t7 := b7.trans (same_upd nl2 (o := .lst [.str "fact", .int ((xs.length : Int) + 3)]))
        clear b1 b2 b3 b4 b5 b234 bL bC b5C b7
        -- died twice
        clear t6
        refine ⟨_, rfl, _, rfl, (by show 3 ≤ sizeLine; decide), fun P1 m1 => ⟨_, rfl, (by show 3 ≤ sizeLine; decide), fun P2 m2 => ⟨(by show 2 ≤ sizeLine; decide), fun L4 m5 => ?_⟩⟩⟩
        have b1 := t7.trans (same_upd m1 (o := .tup (Fct.died (pn k) 50).vs))
        have b2 := same_upd m2 (o := .tup (Fct.died (pn k) 51).vs)
        have b5 := same_upd m5 (o := .lst [.ref P1, .ref P2])
        have bL := (b1.trans b2).trans b5
        refine ⟨fa, L4, xs, _, rfl, rfl, bL _ _ exs, upd_same, Nat.le_of_lt (small1000 (by show xs.length + 2 ≤ 1000; omega)), fun C3 nc3 => ?_⟩
        have b6 := same_upd nc3 (o := .lst (xs ++ [.ref P1, .ref P2]))
        have bC := bL.trans b6
        have b5C := b5.trans b6
        refine ⟨C3, _, fs.map some ++ [some (.died (pn k) 50), some (.died (pn k) 51)], _, rfl, upd_same, (ixs.same bC).app (Itms.cons (itm_some (fc := .died (pn k) 50) (b2.trans b5C _ _ upd_same) (good3i (.inl rfl) (bn_nm _ bd) (by decide) (by decide))) (Itms.cons (itm_some (fc := .died (pn k) 51) (b5C _ _ upd_same) (good3i (.inl rfl) (bn_nm _ bd) (by decide) (by decide))) .nil)), .bad (fs.length + 1) (by rw [List.length_append]; show xs.length + 2 ≤ 120; omega) (run_died S bd hd), fun l H8 s8 nl el => ?_⟩
        have b7 := bC.trans s8
        refine ⟨_, rfl, fa, xs, rfl, .inl (SqL.of (b7 _ _ exs)), _, _, rfl, rfl, (by show 2 ≤ sizeLine; decide), fun l2 nl2 => ?_⟩
        rw [show ((fs.length + 1 : Nat) : Int) = (xs.length : Int) + 1 by omega] at el
        refine ⟨_, _, dp_two ((same_upd nl2) _ _ el), dp_two upd_same, sha_two _ (by decide +kernel) _, sha_two _ (by decide +kernel) _, _, rfl, ?_⟩
        rw [eqv_two]
        refine iteF ?_
        have t8 := b7.trans (same_upd nl2 (o := .lst [.str "fact", .int ((xs.length : Int) + 1)]))
        clear b1 b2 b5 bL bC b5C b7 t7
        -- the ring
        refine ⟨_, rfl, _, _, rfl, rfl, ⟨by decide, by decide⟩, .inl ⟨_, rfl, _, _, rfl, rfl, (by show (0 : Int) < 5; decide), _, _, rfl, rfl, ?_⟩⟩
        obtain ⟨m, em⟩ : ∃ m : Nat, (1 : Int) + t / 5 % 5 + 1 = (m : Int) := ⟨((1 : Int) + t / 5 % 5 + 1).toNat, by have := Int.emod_nonneg (t / 5) (b := 5) (by decide); omega⟩
        have m2 : 2 ≤ m := by have := Int.emod_nonneg (t / 5) (b := 5) (by decide); omega
        have m6 : m ≤ 6 := by have := Int.emod_lt_of_pos (t / 5) (b := 5) (by decide); omega
        refine ⟨_, rfl, _, _, rfl, rfl, _, rfl, (by show -(2 ^ 62 : Int) ≤ 1 + t / 5 % 5 + 1; omega), (by show (1 + t / 5 % 5 + 1 : Int) < 2 ^ 62; omega), fun RD nRD => ?_⟩
        rw [em, Int.toNat_natCast]
        let rg : Nat → Str := fun k => rS ((t / 3 + 7 * (k : Int)) % 10).toNat k
        have RG : Ring m rg := ⟨m2, m6, fun k _ => ⟨_, by have := Int.emod_lt_of_pos (t / 3 + 7 * (k : Int)) (b := 10) (by decide); have := Int.emod_nonneg (t / 3 + 7 * (k : Int)) (b := 10) (by decide); omega, rfl⟩⟩
        have rgE (k : Nat) : (t / 3 + 7 * (k : Int)) % 10 = ((((t / 3 + 7 * (k : Int)) % 10).toNat : Nat) : Int) := by have := Int.emod_nonneg (t / 3 + 7 * (k : Int)) (b := 10) (by decide); omega
        have rgL (k : Nat) : (t / 3 + 7 * (k : Int)) % 10 < 10 := Int.emod_lt_of_pos _ (by decide)
        have rg0 (k : Nat) : 0 ≤ (t / 3 + 7 * (k : Int)) % 10 := Int.emod_nonneg _ (by decide)
        refine lc_it walk_range (fun i Hz => Same (upd H8 l2 (.lst [.str "fact", .int ((xs.length : Int) + 1)])) Hz ∧ Hz RD = some (.lst (((List.range i).map rg).map V.str))) ⟨same_upd nRD, upd_same⟩ (fun _ _ _ _ => trivial) ?_ ?_
        · rintro i v Hz H' hi ⟨k1, k2⟩ ⟨rfl, rfl⟩
          show gName 16 (V.int (0 + (i : Int))) _ _ _
          rw [Int.zero_add]
          have d1 := dig_len (rg0 i) (by have := rgL i; omega)
          have d2 := dig_len (i := (i : Int)) (by omega) (by omega)
          have h1 : ("r" : Str).length = 1 := by decide +kernel
          refine ⟨rfl, _, rfl, _, _, rfl, rfl, ⟨by decide, by decide⟩, _, rfl, _, _, rfl, rfl, .inl ⟨by decide, by decide⟩, _, _, rfl, rfl, .inl ⟨_, rfl, _, _, rfl, rfl, (by show (0 : Int) < 10; decide), _, rfl, lg (rg0 i) (by have := rgL i; omega), _, _, rfl, rfl, ?_, _, rfl, _, rfl, lg (by omega) (by omega), _, _, rfl, rfl, ?_, _, k2, ?_, ?_, ?_⟩⟩
          · show ("r" : Str).length + (dig ((t / 3 + 7 * (i : Int)) % 10)).length ≤ _
            rw [sizeLine_eq]
            omega
          · show (("r" : Str) ++ (dig ((t / 3 + 7 * (i : Int)) % 10))).length + (dig (i : Int)).length ≤ _
            rw [len_app, sizeLine_eq]
            omega
          · rw [List.length_map, List.length_map, List.length_range]
            exact small1000 (by omega)
          · intro b o hb
            rw [upd_ne (ne_of_none hb nRD)]
            exact k1 b o hb
          · rw [upd_same, List.range_succ, List.map_append, List.map_append]
            have : rg i = (("r" : Str) ++ dig ((t / 3 + 7 * (i : Int)) % 10)) ++ dig (i : Int) := by
              show (("r" : Str) ++ dig _) ++ dig (i : Int) = _
              rw [← rgE i]
            show _ = some (HO.lst (_ ++ [V.str (rg i)]))
            rw [this]
            rfl
        · rintro H9 ⟨r1, r2⟩
          have t9 : Same Hy H9 := t8.trans r1
          have lenR : (((List.range m).map rg).map V.str).length = m := by rw [List.length_map, List.length_map, List.length_range]
          have at_ring (k : Nat) (hk : k < m) : atI (((List.range m).map rg).map V.str) (k : Int) = some (.str (rg k)) := atI_nat (by rw [List.map_map, List.getElem?_map, List.getElem?_range hk]; rfl)
          refine ⟨_, rfl, RD, _, rfl, .inl (SqL.of r2), _, rfl, (by rw [lenR]; show -(2 ^ 62 : Int) ≤ (m : Int); omega), (by rw [lenR]; show (m : Int) < 2 ^ 62; omega), fun LD nLD => ?_⟩
          rw [lenR, Int.toNat_natCast]
          refine lc_it walk_range (fun i Hz => Same H9 Hz ∧ FactsAt Hz LD (links m rg i)) ⟨same_upd nLD, [], upd_same, rfl, fun i q fc h1 h2 => (by cases h1)⟩ (fun _ _ _ _ => trivial) ?_ ?_
          · rintro i v Hz H' hi ⟨k1, qs, f1, f2, f3⟩ ⟨rfl, rfl⟩
            show gName 16 (V.int (0 + (i : Int))) _ _ _
            rw [Int.zero_add]
            have idx : ((i : Int) + 1) % ((((List.range m).map rg).map V.str).length : Int) = (((i + 1) % m : Nat) : Int) := by rw [lenR, Int.natCast_emod]; rfl
            refine ⟨rfl, _, rfl, _, rfl, RD, _, _, _, rfl, rfl, SqL.of (k1 _ _ r2), at_ring i hi, _, rfl, _, rfl, _, _, rfl, rfl, _, rfl, RD, _, rfl, .inl (SqL.of (k1 _ _ r2)), _, _, rfl, rfl, (by rw [lenR]; show (0 : Int) < (m : Int); omega), RD, _, _, _, rfl, rfl, SqL.of (k1 _ _ r2), (by rw [idx]; exact at_ring _ (RG.nx i)), (by show 3 ≤ sizeLine; decide), fun T nT => ⟨_, (same_upd nT) _ _ f1, ?_, ?_, ?_⟩⟩
            · rw [List.length_map, f2]
              unfold links
              rw [List.length_map, List.length_range]
              exact small1000 (by omega)
            · intro b o hb
              rw [upd_ne (ne_of_none hb nLD)]
              exact (same_upd nT) _ _ (k1 b o hb)
            · rw [links_succ]
              have LT : LD ≠ T := ne_of_none f1 nT
              exact FactsAt.push qs f1 f2 f3 (fun b o hb ne => by rw [upd_ne ne]; exact (same_upd nT) _ _ hb) (by rw [upd_ne (Ne.symm LT), upd_same]; rfl) (by rw [upd_same, List.map_append]; rfl)
          · rintro HA ⟨u1, u2⟩
            have tA : Same Hy HA := t9.trans u1
            obtain ⟨zs, ezs, izs, lzs⟩ := facts_itms u2 (fun fc hf => by
              obtain ⟨k, hk, rfl⟩ := List.mem_map.mp hf
              have := List.mem_range.mp hk
              exact good_child (RG.nm this) (RG.nm (RG.nx k)) (RG.ne this))
            have lzm : zs.length = m := by rw [lzs]; unfold links; rw [List.length_map, List.length_range]
            have h0m : 0 < m := by omega
            obtain ⟨FR, tR⟩ := RG.all S
            obtain ⟨x0, ex0⟩ : ∃ x0, (srt ((List.range m).map rg))[0]? = some x0 := ⟨_, List.getElem?_eq_getElem (by rw [srt_len, List.length_map, List.length_range]; exact h0m)⟩
            have least := srt_least ex0
            obtain ⟨k0, hk0, ek0⟩ := List.mem_map.mp least.1
            have hk0' := List.mem_range.mp hk0
            have okx : PyData.strOk x0 = true := by rw [← ek0]; exact nm_ok (RG.nm hk0')
            refine ⟨_, rfl, _, rfl, fa, LD, xs, zs, rfl, rfl, tA _ _ exs, ezs, Nat.le_of_lt (small1000 (by show xs.length + zs.length ≤ 1000; omega)), fun C1 nc1 => ?_⟩
            have b1 := tA.trans (same_upd nc1 (o := .lst (xs ++ zs)))
            refine ⟨_, rfl, RD, _, _, _, rfl, rfl, SqL.of (((u1.trans (same_upd nc1 (o := .lst (xs ++ zs)))) _ _ r2)), at_ring 0 h0m, (by show 3 ≤ sizeLine; decide), fun T nT => ⟨(by show 1 ≤ sizeLine; decide), fun L1 nL1 => ?_⟩⟩
            have c2 := same_upd nT (o := .tup [.str "child", .str "a0", .str (rg 0)])
            have c3' := same_upd nL1 (o := .lst [.ref T])
            refine ⟨C1, L1, _, _, rfl, rfl, (c2.trans c3') _ _ upd_same, upd_same, Nat.le_of_lt (small1000 (by rw [List.length_append]; show xs.length + zs.length + 1 ≤ 1000; omega)), fun C2 nc2 => ?_⟩
            have c4 := same_upd nc2 (o := .lst (xs ++ zs ++ [.ref T]))
            have bA : Same HA _ := ((same_upd nc1 (o := .lst (xs ++ zs))).trans (c2.trans c3')).trans c4
            have tB := tA.trans bA
            refine ⟨C2, _, fs.map some ++ (links m rg m).map some ++ [some (.child "a0" (rg 0))], _, rfl, upd_same, ((ixs.same tB).app (izs.same bA)).app (Itms.cons (itm_some (fc := .child "a0" (rg 0)) ((c3'.trans c4) _ _ upd_same) (good_child a0_nm.1 (RG.nm h0m) (Ne.symm (RG.na h0m)))) .nil), .ring FR x0 (by rw [List.length_append, List.length_append]; show xs.length + zs.length + 1 ≤ 120; omega) (by
              have := tR.run
              unfold ringFs at this
              rw [List.map_append, List.map_append] at this
              exact this) (tR.dsc.mpr ((RG.self S).mpr ⟨k0, hk0', ek0.symm⟩)) (fun y hy => by
              obtain ⟨k, hk, rfl⟩ := (RG.self S).mp (tR.dsc.mp hy)
              exact least.2 _ (List.mem_map.mpr ⟨k, List.mem_range.mpr hk, rfl⟩)), fun l HB s9 nl el => ?_⟩
            have bB := bA.trans s9
            refine ⟨_, rfl, RD, _, rfl, SqL.of ((u1.trans bB) _ _ r2), fun p2 np2 => ⟨p2, _, 0, .str x0, rfl, rfl, SqL.of upd_same, atI_nat (j := 0) (by rw [List.getElem?_map, ex0]; rfl), (by show 2 ≤ sizeLine; decide), fun l2 nl2 => ?_⟩⟩
            have c5 := same_upd np2 (o := .lst ((srt ((List.range m).map rg)).map V.str))
            have c6 := same_upd nl2 (o := .lst [.str "ring", .str x0])
            refine ⟨_, _, dp_twoS ((c5.trans c6) _ _ el), dp_twoS upd_same, sha_twoS _ _ (by decide +kernel) okx, sha_twoS _ _ (by decide +kernel) okx, _, rfl, ?_⟩
            rw [eqv_twoS]
            refine iteF ?_
            -- many
            generalize upd (upd HB p2 (.lst ((srt ((List.range m).map rg)).map V.str))) l2 (.lst [.str "ring", .str x0]) = HC
            clear b1 c2 c3' c4 bA tB bB c5 c6 nc1 nT nL1 nc2 nl np2 nl2 el s9 tA u1 u2 ezs izs t8 t9 r1 r2
            obtain ⟨nn, enn⟩ : ∃ nn : Nat, (118 : Int) + t % 5 = (nn : Int) := ⟨((118 : Int) + t % 5).toNat, by have := Int.emod_nonneg t (b := 5) (by decide); omega⟩
            have nn2 : nn ≤ 122 := by have := Int.emod_lt_of_pos t (b := 5) (by decide); omega
            refine ⟨_, rfl, _, _, rfl, rfl, (by show (0 : Int) < 5; decide), _, _, rfl, rfl, _, rfl, (by rw [enn]; show -(2 ^ 62 : Int) ≤ (nn : Int); omega), (by rw [enn]; show (nn : Int) < 2 ^ 62; omega), fun MD nMD => ?_⟩
            rw [enn, Int.toNat_natCast]
            refine lc_it walk_range (fun i Hz => Same HC Hz ∧ FactsAt Hz MD (many i)) ⟨same_upd nMD, [], upd_same, rfl, fun i q fc h1 h2 => (by cases h1)⟩ (fun _ _ _ _ => trivial) ?_ ?_
            · rintro i v Hz H' hi ⟨k1, qs, f1, f2, f3⟩ ⟨rfl, rfl⟩
              show gName 16 (V.int (0 + (i : Int))) _ _ _
              rw [Int.zero_add]
              have h1 : ("p" : Str).length = 1 := by decide +kernel
              have dl : (dig (i : Int)).length ≤ 3 := by
                have all : ∀ k : _root_.Fin 130, (dig ((k.val : Nat) : Int)).length ≤ 3 := by decide +kernel
                exact all ⟨i, by omega⟩
              refine ⟨rfl, _, rfl, _, rfl, lg (by omega) (by omega), _, _, rfl, rfl, ?_, (by show 2 ≤ sizeLine; decide), fun T nT => ⟨_, (same_upd nT) _ _ f1, ?_, ?_, ?_⟩⟩
              · show ("p" : Str).length + (dig (i : Int)).length ≤ _
                rw [sizeLine_eq]
                omega
              · rw [List.length_map, f2]
                unfold many
                rw [List.length_map, List.length_range]
                exact small1000 (by omega)
              · intro b o hb
                rw [upd_ne (ne_of_none hb nMD)]
                exact (same_upd nT) _ _ (k1 b o hb)
              · have LT : MD ≠ T := ne_of_none f1 nT
                have es : many (i + 1) = many i ++ [.renounced (pn i)] := by
                  unfold many
                  rw [List.range_succ, List.map_append]
                  rfl
                rw [es]
                exact FactsAt.push qs f1 f2 f3 (fun b o hb ne => by rw [upd_ne ne]; exact (same_upd nT) _ _ hb) (by rw [upd_ne (Ne.symm LT), upd_same]; rfl) (by rw [upd_same, List.map_append]; rfl)
            rintro HD ⟨u1, u2⟩
            obtain ⟨ms, ems, ims, lms⟩ := facts_itms u2 (many_good (by omega))
            have lmn : ms.length = nn := by rw [lms]; unfold many; rw [List.length_map, List.length_range]
            obtain ⟨FM, tM⟩ := many_told nn (by omega)
            by_cases big : 120 < nn
            · refine ⟨_, rfl, MD, ms, (many nn).map some, _, rfl, ems, ims, .long (by omega), fun l HE s10 nl el => ?_⟩
              refine ⟨Nat.zero_le _, fun a0 na0 => ⟨(by show 2 ≤ sizeLine; decide), fun a1 na1 => ⟨(by show 2 ≤ sizeLine; decide), fun a2 na2 => ?_⟩⟩⟩
              have c1 := same_upd na0 (o := .lst [])
              have c2 := same_upd na1 (o := .lst [.str "fact", .int 120])
              have c3' := same_upd na2 (o := .lst [.ref a0, .ref a1])
              refine ⟨_, rfl, MD, ms, rfl, .inl (SqL.of (((s10.trans c1).trans c2).trans c3' _ _ ems)), _, _, rfl, rfl, .inr ⟨_, rfl, a2, _, _, .ref a1, rfl, rfl, SqL.of upd_same, (by rw [decide_eq_true (show (120 : Int) < (ms.length : Int) by omega)]; exact atI_nat (j := 1) rfl), _, _, dp_two ((c1.trans c2).trans c3' _ _ el), dp_two (c3' _ _ upd_same), sha_two _ (by decide +kernel) _, sha_two _ (by decide +kernel) _, _, rfl, ?_⟩⟩
              rw [eqv_two]
              refine iteF ?_
              refine ⟨.str "a1", rfl, okv_w (by decide +kernel), fun Hf1 sf1 => ?_⟩
              rw [show nameV (.str "a1") = true from by decide +kernel]
              refine ⟨_, _, rfl, rfl, _, rfl, iteT ⟨.str "crown", rfl, okv_w (by decide +kernel), fun Hf2 sf2 => ?_⟩⟩
              rw [show nameV (.str "crown") = false from by decide +kernel]
              refine ⟨_, _, rfl, rfl, _, rfl, iteT ⟨.int 1000000000, rfl, rfl, ?_⟩⟩
              rw [show amtV (.int 1000000000) = true from by decide +kernel]
              refine ⟨_, _, rfl, rfl, _, rfl, iteT ⟨.bl true, rfl, rfl, ⟨_, _, rfl, rfl, go _⟩⟩⟩
            · refine ⟨_, rfl, MD, ms, (many nn).map some, _, rfl, ems, ims, .ok FM (by omega) tM.run (fun y hy => many_dsc (tM.dsc.mp hy)), fun l HE s10 nl el => ?_⟩
              refine ⟨Nat.zero_le _, fun a0 na0 => ⟨(by show 2 ≤ sizeLine; decide), fun a1 na1 => ⟨(by show 2 ≤ sizeLine; decide), fun a2 na2 => ?_⟩⟩⟩
              have c1 := same_upd na0 (o := .lst [])
              have c2 := same_upd na1 (o := .lst [.str "fact", .int 120])
              have c3' := same_upd na2 (o := .lst [.ref a0, .ref a1])
              refine ⟨_, rfl, MD, ms, rfl, .inl (SqL.of (((s10.trans c1).trans c2).trans c3' _ _ ems)), _, _, rfl, rfl, .inr ⟨_, rfl, a2, _, _, .ref a0, rfl, rfl, SqL.of upd_same, (by rw [decide_eq_false (show ¬ (120 : Int) < (ms.length : Int) by omega)]; exact atI_nat (j := 0) rfl), _, _, dp_nil ((c1.trans c2).trans c3' _ _ el), dp_nil ((c2.trans c3') _ _ upd_same), rfl, rfl, _, rfl, iteF ?_⟩⟩
              refine ⟨.str "a1", rfl, okv_w (by decide +kernel), fun Hf1 sf1 => ?_⟩
              rw [show nameV (.str "a1") = true from by decide +kernel]
              refine ⟨_, _, rfl, rfl, _, rfl, iteT ⟨.str "crown", rfl, okv_w (by decide +kernel), fun Hf2 sf2 => ?_⟩⟩
              rw [show nameV (.str "crown") = false from by decide +kernel]
              refine ⟨_, _, rfl, rfl, _, rfl, iteT ⟨.int 1000000000, rfl, rfl, ?_⟩⟩
              rw [show amtV (.int 1000000000) = true from by decide +kernel]
              refine ⟨_, _, rfl, rfl, _, rfl, iteT ⟨.bl true, rfl, rfl, ⟨_, _, rfl, rfl, go _⟩⟩⟩
end
end K1
namespace G
open PySem L2 PyProof.Rows PySem.W
section
variable {P : Program} {w : World} {K : PySem.W.Frag} {mg mb : Str → Option Value}
theorem law_callG {CX : CXT} {k : Nat} {fa a : Addr} {fd : FuncData} {x : Str} {sp : Sp} {s₁ : Shared} {vs : List Value} {ns : List Int}
    (KX : K.In s₁.heap) (hns : s₁.heap.Ns mainGlobals mg) (hb : s₁.heap.Ns builtinsNs mb) (hbb : ∀ (x : Str), x ≠ Str.ofString "__name__" → mb x = bootBuiltins x) (hlim : s₁.heap.NoLimit) (hg : s₁.gens = #[])
    (ha : s₁.heap.get? a = some { cls := Value.type "list", data := Data.seq vs.toArray }) (hi : IntsAre vs ns) (hl : ns.length ≤ sizeLine) (hr : Room k callerA)
    (F : ∀ (base : Heap), K.In base → base.Ns mainGlobals mg → FnG P w K mg base CX k fa fd [x] sp) (hbind : ∀ (s : Shared) (u : Value), BindsTo s fd { pos := [u] } [(x, u)])
    (hsp : ∀ (H : Hp), Only H → SqL K H a (List.map V.int ns) → sp [V.ref a] H (fun v _ => v = V.bl true) fun _ _ _ => False)
    (hCX : ∀ (H : Hp) (e : Value) (s' : Shared), CX [] H s₁ (fun _ _ _ => False) e s' → False) :
    codeAny (model P w) callerA (Code.call (Value.ref fa) { pos := [Value.ref a] }) (fun r s' => r = Except.ok (Flow.ret (Value.bool true)) ∧ OldK s₁.heap s'.heap ∧ s'.os = s₁.os ∧ AllBare s'.gens) s₁ := by
  have rv := vals_ints hi
  have lenV := IntsAre.length hi
  have core : ∀ H : Hp, Only H → SqL K H a (ns.map V.int) → HOk P w H s₁.heap → (∀ b, H b ≠ none → b = a) → (H a ≠ none → List.lookup a K = none) →
      codeAny (model P w) callerA (Code.call (Value.ref fa) { pos := [Value.ref a] }) (fun r s' => r = Except.ok (Flow.ret (Value.bool true)) ∧ OldK s₁.heap s'.heap ∧ s'.os = s₁.os ∧ AllBare s'.gens) s₁ := by
    intro H hO hS hok hA hK
    have noA : ∀ {b : Addr} {o : Obj} {es : Array DictEntry} {ep : Nat}, s₁.heap.get? b = some o → o.data = .dict es ep → H b = none := by
      intro b o es ep e d
      cases q : H b with
      | none => rfl
      | some u =>
        have e' := hA b (by rw [q]; exact fun z => by cases z)
        subst e'
        rw [ha] at e
        rw [← Option.some.inj e] at d
        cases d
    have nsK : ∀ {b : Addr} {m : Str → Option Value}, s₁.heap.Ns b m → (hidT s₁.heap H).Ns b m := fun ⟨o, es, ep, e, d, r⟩ => ⟨o, es, ep, hidT_get e (noA e d), d, r⟩
    have hKb : K.In (hidT s₁.heap H) := fun b o e => hidT_get (KX b o e) (by
      cases q : H b with
      | none => rfl
      | some u =>
        have e' := hA b (by rw [q]; exact fun z => by cases z)
        subst e'
        rw [hK (by rw [q]; exact fun z => by cases z)] at e
        cases e)
    have hM : L2.Mod K mg (hidT s₁.heap H) := ⟨hKb, nsK hns, ⟨mb, nsK hb, hbb⟩, match hlim with
      | ⟨mc, h1, h2⟩ => ⟨mc, nsK h1, h2⟩⟩
    have e0 : Env0 P w K mg (hidT s₁.heap H) callerA [] s₁ H := { frames := rfl, mod := hM, bs := fun b o e => of_hidT e, bsz := Nat.le_of_eq (hidT_size s₁.heap H), funs := trivial, frf := (fun b hb => by cases hb), hok := hok, bare := AllBare.of_eq hg }
    refine codeAny_mono ((F (hidT s₁.heap H) hKb (nsK hns)).run callerA [] s₁ H { pos := [Value.ref a] } [Value.ref a] [V.ref a] (fun v x => v = V.bl true) (fun x x_1 x_2 => False) hr rfl e0 (hbind s₁ (Value.ref a)) (Paired.cons rfl Paired.nil) (hsp H hO hS)) fun r s' h => ?_
    cases r with
    | error e => exact (hCX H e s' h).elim
    | ok fl =>
      cases fl with
      | next => exact h.elim
      | brk => exact h.elim
      | cont => exact h.elim
      | ret u =>
        obtain ⟨v, H', os, bare, un, hok', r', q⟩ := h
        subst q
        obtain rfl : u = Value.bool true := r'
        refine ⟨rfl, OldK.of_keep fun b o e => ?_, os, bare⟩
        cases q : H b with
        | none => exact un.keep b o e q (by simp [frs]) (by simp)
        | some u =>
          rcases hO b with z | ⟨ob, xs, z⟩
          · rw [q] at z
            cases z
          · have z2 := un.frzs b ob (HO.lst xs) z
            have e1 := (hok b _ z).1
            have e2 := (hok' b _ z2).1
            rw [e] at e1
            rw [Option.some.inj e1]
            exact e2
  cases hk : List.lookup a K with
  | none =>
    refine core (fun b => if b = a then some (HO.frz { cls := Value.type "list", data := Data.seq vs.toArray } (HO.lst (List.map V.int ns))) else none) (fun b => ?_) (.inl (.inr ⟨_, if_pos rfl⟩)) (fun b u z => ?_) (fun b z => ?_) fun _ => hk
    · by_cases hb : b = a
      · exact .inr ⟨_, _, if_pos hb⟩
      · exact .inl (if_neg hb)
    · by_cases hb : b = a
      · have z' := (if_pos hb).symm.trans z
        obtain rfl := Option.some.inj z'
        subst hb
        exact ⟨ha, by rw [List.length_map]; exact hl, vs, 0, rv, ha⟩
      · have z' := (if_neg hb).symm.trans z
        cases z'
    · by_cases hb : b = a
      · exact hb
      · exact absurd (if_neg hb) z
  | some o =>
    have e := KX a o hk
    rw [ha] at e
    obtain rfl := Option.some.inj e
    refine core (fun x => none) (fun x => .inl rfl) (.inr ⟨_, vs.toArray, 0, hk, rfl, rfl, rfl, ?_, ?_⟩) (fun b u z => by cases z) (fun b z => absurd rfl z) fun z => absurd rfl z
    · rw [List.size_toArray, lenV]
      exact hl
    · exact rv
end
theorem walk_ofBG {l : PySem.W.OpenLaw} {n k : Nat} {q : Program} {loose : List Str} {XP : (Str → Option Value) → Heap → Prop} {YP : World → Heap → Prop} {d : DefRec} {K : Params → PySem.W.Frag} {CX : World → CXT} {sp : World → Sp} {x : Str}
    (hn : l.most = some n) (hn2 : n ≤ sizeLine) (hdf : d.params.defaults = []) (hr : Room k callerA) (hY : ∀ (w : World) (h : Heap), YP w h → (K w.params).In h)
    (F : ∀ (w : World) (mg : Str → Option Value) (fa : Addr) (h : Heap), (K w.params).In h → h.Ns mainGlobals mg → mg d.name = some (Value.ref fa) → ∃ fd : FuncData, (∀ (s : Shared) (u : Value), BindsTo s fd { pos := [u] } [(x, u)]) ∧ ∀ (base : Heap), (K w.params).In base → base.Ns mainGlobals mg → FnG l.prog w (K w.params) mg base (CX w) k fa fd [x] (sp w))
    (hsp : ∀ (w : World) (H : Hp) (a : Addr) (ns : List Int), ns.length ≤ n → (∀ (z : Int), z ∈ ns → Builtin.Int.intBits z ≤ 1048576) → Only H → SqL (K w.params) H a (List.map V.int ns) → sp w [V.ref a] H (fun v _ => v = V.bl true) fun _ _ _ => False)
    (hCX : ∀ (w : World) (H : Hp) (s : Shared) (e : Value) (s' : Shared), CX w [] H s (fun _ _ _ => False) e s' → False) :
    W.WalkO q loose XP YP l.row.toRowW d [] fun f vs => PySem.call f vs :=
  Att.attach_callB hn hdf fun w s₀ s₁ mg mb fa o pm cd doc a vs ns Gr Y ho hd hcd hmg hobj hints hlen hbits hg => by
    have KX := hY w s₁.heap Y
    obtain ⟨fd, hb, hF⟩ := F w mg fa s₁.heap KX Gr.T.g hmg
    exact law_callG KX Gr.T.g Gr.T.b Gr.T.builtins Gr.T.nolimit hg hobj hints (Nat.le_trans hlen hn2) hr hF hb (fun H hO hS => hsp w H a ns hlen hbits hO hS) fun H e s' => hCX w H s₁ e s'
end G
namespace K1
open PySem L2 PyProof.Rows PySem.Spec G
/-! what the top has written -/
theorem all_mk {l : PySem.W.OpenLaw} {w : World} {K : PySem.W.Frag} {h : Heap} {mg : Str → Option Value} {fa C CB CC CRB CRC fNam fAmt fFac fJoi fCel fNum fFee fTak fFts fOnc fBel fRef fWro fTol fLaw fFamI fCon fLea fChi fPar fSpo fDay fRen fAdv fRea fBadI fCirI : Addr} (X : K.In h) (G : h.Ns mainGlobals mg) (hfa : mg "law" = some (.ref fa))
    {odNam anNam odAmt anAmt odFac anFac odJoi anJoi odCel anCel odNum anNum odFee anFee odTak anTak odFts anFts odOnc anOnc odBel anBel odRef anRef odWro anWro odTol anTol odLaw anLaw odFamI anFamI odCon anCon odLea anLea odChi anChi odPar anPar odSpo anSpo odDay anDay odRen anRen odAdv anAdv odRea anRea odBadI anBadI odCirI anCirI : Option Addr} {slNam slAmt slFac slJoi slCel slNum slFee slTak slFts slOnc slBel slRef slWro slTol slLaw slFamI slCon slLea slChi slPar slSpo slDay slRen slAdv slRea slBadI slCirI : Array (Option Value)} {ocNam kVNam dcNam pmNam cdNam ctNam ocAmt kVAmt dcAmt pmAmt cdAmt ctAmt ocFac kVFac dcFac pmFac cdFac ctFac ocJoi kVJoi dcJoi pmJoi cdJoi ctJoi ocCel kVCel dcCel pmCel cdCel ctCel ocNum kVNum dcNum pmNum cdNum ctNum ocFee kVFee dcFee pmFee cdFee ctFee ocTak kVTak dcTak pmTak cdTak ctTak ocFts kVFts dcFts pmFts cdFts ctFts ocOnc kVOnc dcOnc pmOnc cdOnc ctOnc ocBel kVBel dcBel pmBel cdBel ctBel ocRef kVRef dcRef pmRef cdRef ctRef ocWro kVWro dcWro pmWro cdWro ctWro ocTol kVTol dcTol pmTol cdTol ctTol ocLaw kVLaw dcLaw pmLaw cdLaw ctLaw ocFamI kVFamI dcFamI pmFamI cdFamI ctFamI ocCon kVCon dcCon pmCon cdCon ctCon ocLea kVLea dcLea pmLea cdLea ctLea ocChi kVChi dcChi pmChi cdChi ctChi ocPar kVPar dcPar pmPar cdPar ctPar ocSpo kVSpo dcSpo pmSpo cdSpo ctSpo ocDay kVDay dcDay pmDay cdDay ctDay ocRen kVRen dcRen pmRen cdRen ctRen ocAdv kVAdv dcAdv pmAdv cdAdv ctAdv ocRea kVRea dcRea pmRea cdRea ctRea ocBadI kVBadI dcBadI pmBadI cdBadI ctBadI ocCirI kVCirI dcCirI pmCirI cdCirI ctCirI : Value} {tSg tLn tCr tGr tMo tTw : Tok}
    (aNam : PySem.W.nsIn K mainGlobals "is_name" = some (some (.ref fNam)))
    (lNam : K.lookup fNam = some ⟨ocNam, odNam, .func (PySem.W.fnOf "is_name" "is_name" (defArgs sNam) (defBody sNam) (defScope sNam) .none kVNam dcNam pmNam anNam cdNam ctNam), slNam⟩)
    (cNam : PySem.W.codeIn K cdNam "is_name" = true)
    (kNam : PySem.W.keepIn K (.ref fNam) = true)
    (aAmt : PySem.W.nsIn K mainGlobals "is_amount" = some (some (.ref fAmt)))
    (lAmt : K.lookup fAmt = some ⟨ocAmt, odAmt, .func (PySem.W.fnOf "is_amount" "is_amount" (defArgs sAmt) (defBody sAmt) (defScope sAmt) .none kVAmt dcAmt pmAmt anAmt cdAmt ctAmt), slAmt⟩)
    (cAmt : PySem.W.codeIn K cdAmt "is_amount" = true)
    (kAmt : PySem.W.keepIn K (.ref fAmt) = true)
    (aFac : PySem.W.nsIn K mainGlobals "is_fact" = some (some (.ref fFac)))
    (lFac : K.lookup fFac = some ⟨ocFac, odFac, .func (PySem.W.fnOf "is_fact" "is_fact" (defArgs sFac) (defBody sFac) (defScope sFac) .none kVFac dcFac pmFac anFac cdFac ctFac), slFac⟩)
    (cFac : PySem.W.codeIn K cdFac "is_fact" = true)
    (kFac : PySem.W.keepIn K (.ref fFac) = true)
    (aJoi : PySem.W.nsIn K mainGlobals "_joined" = some (some (.ref fJoi)))
    (lJoi : K.lookup fJoi = some ⟨ocJoi, odJoi, .func (PySem.W.fnOf "_joined" "_joined" (defArgs sJoi) (defBody sJoi) (defScope sJoi) .none kVJoi dcJoi pmJoi anJoi cdJoi ctJoi), slJoi⟩)
    (cJoi : PySem.W.codeIn K cdJoi "_joined" = true)
    (kJoi : PySem.W.keepIn K (.ref fJoi) = true)
    (aCel : PySem.W.nsIn K mainGlobals "_law_cell" = some (some (.ref fCel)))
    (lCel : K.lookup fCel = some ⟨ocCel, odCel, .func (PySem.W.fnOf "_law_cell" "_law_cell" (defArgs sCel) (defBody sCel) (defScope sCel) .none kVCel dcCel pmCel anCel cdCel ctCel), slCel⟩)
    (cCel : PySem.W.codeIn K cdCel "_law_cell" = true)
    (kCel : PySem.W.keepIn K (.ref fCel) = true)
    (aNum : PySem.W.nsIn K mainGlobals "_law_numbers" = some (some (.ref fNum)))
    (lNum : K.lookup fNum = some ⟨ocNum, odNum, .func (PySem.W.fnOf "_law_numbers" "_law_numbers" (defArgs sNum) (defBody sNum) (defScope sNum) .none kVNum dcNum pmNum anNum cdNum ctNum), slNum⟩)
    (cNum : PySem.W.codeIn K cdNum "_law_numbers" = true)
    (kNum : PySem.W.keepIn K (.ref fNum) = true)
    (aFee : PySem.W.nsIn K mainGlobals "_law_feed" = some (some (.ref fFee)))
    (lFee : K.lookup fFee = some ⟨ocFee, odFee, .func (PySem.W.fnOf "_law_feed" "_law_feed" (defArgs sFee) (defBody sFee) (defScope sFee) .none kVFee dcFee pmFee anFee cdFee ctFee), slFee⟩)
    (cFee : PySem.W.codeIn K cdFee "_law_feed" = true)
    (kFee : PySem.W.keepIn K (.ref fFee) = true)
    (aTak : PySem.W.nsIn K mainGlobals "_law_take" = some (some (.ref fTak)))
    (lTak : K.lookup fTak = some ⟨ocTak, odTak, .func (PySem.W.fnOf "_law_take" "_law_take" (defArgs sTak) (defBody sTak) (defScope sTak) .none kVTak dcTak pmTak anTak cdTak ctTak), slTak⟩)
    (cTak : PySem.W.codeIn K cdTak "_law_take" = true)
    (kTak : PySem.W.keepIn K (.ref fTak) = true)
    (aFts : PySem.W.nsIn K mainGlobals "_law_facts" = some (some (.ref fFts)))
    (lFts : K.lookup fFts = some ⟨ocFts, odFts, .func (PySem.W.fnOf "_law_facts" "_law_facts" (defArgs sFts) (defBody sFts) (defScope sFts) .none kVFts dcFts pmFts anFts cdFts ctFts), slFts⟩)
    (cFts : PySem.W.codeIn K cdFts "_law_facts" = true)
    (kFts : PySem.W.keepIn K (.ref fFts) = true)
    (aOnc : PySem.W.nsIn K mainGlobals "_law_once" = some (some (.ref fOnc)))
    (lOnc : K.lookup fOnc = some ⟨ocOnc, odOnc, .func (PySem.W.fnOf "_law_once" "_law_once" (defArgs sOnc) (defBody sOnc) (defScope sOnc) .none kVOnc dcOnc pmOnc anOnc cdOnc ctOnc), slOnc⟩)
    (cOnc : PySem.W.codeIn K cdOnc "_law_once" = true)
    (kOnc : PySem.W.keepIn K (.ref fOnc) = true)
    (aBel : PySem.W.nsIn K mainGlobals "_law_below" = some (some (.ref fBel)))
    (lBel : K.lookup fBel = some ⟨ocBel, odBel, .func (PySem.W.fnOf "_law_below" "_law_below" (defArgs sBel) (defBody sBel) (defScope sBel) .none kVBel dcBel pmBel anBel cdBel ctBel), slBel⟩)
    (cBel : PySem.W.codeIn K cdBel "_law_below" = true)
    (kBel : PySem.W.keepIn K (.ref fBel) = true)
    (aRef : PySem.W.nsIn K mainGlobals "_law_refusal" = some (some (.ref fRef)))
    (lRef : K.lookup fRef = some ⟨ocRef, odRef, .func (PySem.W.fnOf "_law_refusal" "_law_refusal" (defArgs sRef) (defBody sRef) (defScope sRef) .none kVRef dcRef pmRef anRef cdRef ctRef), slRef⟩)
    (cRef : PySem.W.codeIn K cdRef "_law_refusal" = true)
    (kRef : PySem.W.keepIn K (.ref fRef) = true)
    (aWro : PySem.W.nsIn K mainGlobals "_law_wrong" = some (some (.ref fWro)))
    (lWro : K.lookup fWro = some ⟨ocWro, odWro, .func (PySem.W.fnOf "_law_wrong" "_law_wrong" (defArgs sWro) (defBody sWro) (defScope sWro) .none kVWro dcWro pmWro anWro cdWro ctWro), slWro⟩)
    (cWro : PySem.W.codeIn K cdWro "_law_wrong" = true)
    (kWro : PySem.W.keepIn K (.ref fWro) = true)
    (aTol : PySem.W.nsIn K mainGlobals "_law_told" = some (some (.ref fTol)))
    (lTol : K.lookup fTol = some ⟨ocTol, odTol, .func (PySem.W.fnOf "_law_told" "_law_told" (defArgs sTol) (defBody sTol) (defScope sTol) .none kVTol dcTol pmTol anTol cdTol ctTol), slTol⟩)
    (cTol : PySem.W.codeIn K cdTol "_law_told" = true)
    (kTol : PySem.W.keepIn K (.ref fTol) = true)
    (aLaw : PySem.W.nsIn K mainGlobals "law" = some (some (.ref fLaw)))
    (lLaw : K.lookup fLaw = some ⟨ocLaw, odLaw, .func (PySem.W.fnOf "law" "law" (defArgs sLaw) (defBody sLaw) (defScope sLaw) .none kVLaw dcLaw pmLaw anLaw cdLaw ctLaw), slLaw⟩)
    (cLaw : PySem.W.codeIn K cdLaw "law" = true)
    (kLaw : PySem.W.keepIn K (.ref fLaw) = true)
    (aFm : PySem.W.nsIn K mainGlobals "Family" = some (some (.ref C)))
    (aFamI : PySem.W.findIn K (.ref C) "__init__" = some (some (.ref fFamI)))
    (iFamI : PySem.W.isFn K (.ref fFamI) = true)
    (lFamI : K.lookup fFamI = some ⟨ocFamI, odFamI, .func (PySem.W.fnOf "__init__" "Family.__init__" (defArgs sFamI) (defBody sFamI) (defScope sFamI) .none kVFamI dcFamI pmFamI anFamI cdFamI ctFamI), slFamI⟩)
    (cFamI : PySem.W.codeIn K cdFamI "Family.__init__" = true)
    (kFamI : PySem.W.keepIn K (.ref fFamI) = true)
    (aCon : PySem.W.findIn K (.ref C) "_contradicts" = some (some (.ref fCon)))
    (iCon : PySem.W.isFn K (.ref fCon) = true)
    (lCon : K.lookup fCon = some ⟨ocCon, odCon, .func (PySem.W.fnOf "_contradicts" "Family._contradicts" (defArgs sCon) (defBody sCon) (defScope sCon) .none kVCon dcCon pmCon anCon cdCon ctCon), slCon⟩)
    (cCon : PySem.W.codeIn K cdCon "Family._contradicts" = true)
    (kCon : PySem.W.keepIn K (.ref fCon) = true)
    (aLea : PySem.W.findIn K (.ref C) "_learn" = some (some (.ref fLea)))
    (iLea : PySem.W.isFn K (.ref fLea) = true)
    (lLea : K.lookup fLea = some ⟨ocLea, odLea, .func (PySem.W.fnOf "_learn" "Family._learn" (defArgs sLea) (defBody sLea) (defScope sLea) .none kVLea dcLea pmLea anLea cdLea ctLea), slLea⟩)
    (cLea : PySem.W.codeIn K cdLea "Family._learn" = true)
    (kLea : PySem.W.keepIn K (.ref fLea) = true)
    (aChi : PySem.W.findIn K (.ref C) "children" = some (some (.ref fChi)))
    (iChi : PySem.W.isFn K (.ref fChi) = true)
    (lChi : K.lookup fChi = some ⟨ocChi, odChi, .func (PySem.W.fnOf "children" "Family.children" (defArgs sChi) (defBody sChi) (defScope sChi) .none kVChi dcChi pmChi anChi cdChi ctChi), slChi⟩)
    (cChi : PySem.W.codeIn K cdChi "Family.children" = true)
    (kChi : PySem.W.keepIn K (.ref fChi) = true)
    (aPar : PySem.W.findIn K (.ref C) "parents" = some (some (.ref fPar)))
    (iPar : PySem.W.isFn K (.ref fPar) = true)
    (lPar : K.lookup fPar = some ⟨ocPar, odPar, .func (PySem.W.fnOf "parents" "Family.parents" (defArgs sPar) (defBody sPar) (defScope sPar) .none kVPar dcPar pmPar anPar cdPar ctPar), slPar⟩)
    (cPar : PySem.W.codeIn K cdPar "Family.parents" = true)
    (kPar : PySem.W.keepIn K (.ref fPar) = true)
    (aSpo : PySem.W.findIn K (.ref C) "spouses" = some (some (.ref fSpo)))
    (iSpo : PySem.W.isFn K (.ref fSpo) = true)
    (lSpo : K.lookup fSpo = some ⟨ocSpo, odSpo, .func (PySem.W.fnOf "spouses" "Family.spouses" (defArgs sSpo) (defBody sSpo) (defScope sSpo) .none kVSpo dcSpo pmSpo anSpo cdSpo ctSpo), slSpo⟩)
    (cSpo : PySem.W.codeIn K cdSpo "Family.spouses" = true)
    (kSpo : PySem.W.keepIn K (.ref fSpo) = true)
    (aDay : PySem.W.findIn K (.ref C) "day" = some (some (.ref fDay)))
    (iDay : PySem.W.isFn K (.ref fDay) = true)
    (lDay : K.lookup fDay = some ⟨ocDay, odDay, .func (PySem.W.fnOf "day" "Family.day" (defArgs sDay) (defBody sDay) (defScope sDay) .none kVDay dcDay pmDay anDay cdDay ctDay), slDay⟩)
    (cDay : PySem.W.codeIn K cdDay "Family.day" = true)
    (kDay : PySem.W.keepIn K (.ref fDay) = true)
    (aRen : PySem.W.findIn K (.ref C) "has_renounced" = some (some (.ref fRen)))
    (iRen : PySem.W.isFn K (.ref fRen) = true)
    (lRen : K.lookup fRen = some ⟨ocRen, odRen, .func (PySem.W.fnOf "has_renounced" "Family.has_renounced" (defArgs sRen) (defBody sRen) (defScope sRen) .none kVRen dcRen pmRen anRen cdRen ctRen), slRen⟩)
    (cRen : PySem.W.codeIn K cdRen "Family.has_renounced" = true)
    (kRen : PySem.W.keepIn K (.ref fRen) = true)
    (aAdv : PySem.W.findIn K (.ref C) "advance" = some (some (.ref fAdv)))
    (iAdv : PySem.W.isFn K (.ref fAdv) = true)
    (lAdv : K.lookup fAdv = some ⟨ocAdv, odAdv, .func (PySem.W.fnOf "advance" "Family.advance" (defArgs sAdv) (defBody sAdv) (defScope sAdv) .none kVAdv dcAdv pmAdv anAdv cdAdv ctAdv), slAdv⟩)
    (cAdv : PySem.W.codeIn K cdAdv "Family.advance" = true)
    (kAdv : PySem.W.keepIn K (.ref fAdv) = true)
    (aRea : PySem.W.findIn K (.ref C) "reaches" = some (some (.ref fRea)))
    (iRea : PySem.W.isFn K (.ref fRea) = true)
    (lRea : K.lookup fRea = some ⟨ocRea, odRea, .func (PySem.W.fnOf "reaches" "Family.reaches" (defArgs sRea) (defBody sRea) (defScope sRea) .none kVRea dcRea pmRea anRea cdRea ctRea), slRea⟩)
    (cRea : PySem.W.codeIn K cdRea "Family.reaches" = true)
    (kRea : PySem.W.keepIn K (.ref fRea) = true)
    (pg : PySem.W.plainGet K C Str.empty = true)
    (hd : PySem.W.hasDictIn K C = true)
    (po : PySem.W.plainOver K C = true)
    (sa : PySem.W.findIn K (.ref C) "__setattr__" = some (some (.builtin "object.__setattr__")))
    (mk : PySem.W.makesIn K C = true)
    (kc : PySem.W.keepIn K (.ref C) = true)
    (n1 : PySem.W.findIn K (.ref C) "_children" = some none)
    (n2 : PySem.W.findIn K (.ref C) "_parents" = some none)
    (n3 : PySem.W.findIn K (.ref C) "_wed" = some none)
    (n4 : PySem.W.findIn K (.ref C) "_parted" = some none)
    (n5 : PySem.W.findIn K (.ref C) "_days" = some none)
    (n6 : PySem.W.findIn K (.ref C) "_renounced" = some none)
    (n7 : PySem.W.findIn K (.ref C) "_advances" = some none)
    {nmB qB : _} {NB bsB snB subB abB colB ddB m0B m1B m2B m3B m5B : _}
    (aB : PySem.W.nsIn K mainGlobals "BadFact" = some (some (.ref CB)))
    (xB : K.lookup CB = some (excClassObj nmB qB CB NB bsB [.ref CRB, .type "ValueError", .type "Exception", .type "BaseException", .type "object"] true snB subB abB colB ddB m0B m1B m2B m3B m5B "ValueError.__new__"))
    (saB : PySem.W.findIn K (.ref CB) "__setattr__" = some (some (.builtin "object.__setattr__")))
    (exB : PySem.W.subIn K (.ref CB) (.type "BaseException") = some true)
    (tyB : PySem.W.typeIn K (.ref CB) = some (.type "type"))
    (kcB : PySem.W.keepIn K (.ref CB) = true)
    (noB : PySem.W.findIn K (.ref CB) "at" = some none)
    (inB : PySem.W.findIn K (.ref CB) "__init__" = some (some (.ref fBadI)))
    (tiB : PySem.W.typeIn K (.ref fBadI) = some (.type "function"))
    (lBadI : K.lookup fBadI = some ⟨ocBadI, odBadI, .func (PySem.W.fnOf "__init__" "BadFact.__init__" (defArgs sBadI) (defBody sBadI) (defScope sBadI) .none kVBadI dcBadI pmBadI anBadI cdBadI ctBadI), slBadI⟩)
    (cBadI : PySem.W.codeIn K cdBadI "BadFact.__init__" = true)
    (kBadI : PySem.W.keepIn K (.ref fBadI) = true)
    (gaB : PySem.W.findIn K (.ref CB) "__getattribute__" = some (some (.builtin "BaseException.__getattribute__")))
    (ggB : PySem.W.findIn K (.ref CB) "__getattr__" = some none)
    (hdB : PySem.W.hasDictIn K CB = true)
    {nmC qC : _} {NC bsC snC subC abC colC ddC m0C m1C m2C m3C m5C : _}
    (aC : PySem.W.nsIn K mainGlobals "Circular" = some (some (.ref CC)))
    (xC : K.lookup CC = some (excClassObj nmC qC CC NC bsC [.ref CRC, .type "ValueError", .type "Exception", .type "BaseException", .type "object"] true snC subC abC colC ddC m0C m1C m2C m3C m5C "ValueError.__new__"))
    (saC : PySem.W.findIn K (.ref CC) "__setattr__" = some (some (.builtin "object.__setattr__")))
    (exC : PySem.W.subIn K (.ref CC) (.type "BaseException") = some true)
    (tyC : PySem.W.typeIn K (.ref CC) = some (.type "type"))
    (kcC : PySem.W.keepIn K (.ref CC) = true)
    (noC : PySem.W.findIn K (.ref CC) "name" = some none)
    (inC : PySem.W.findIn K (.ref CC) "__init__" = some (some (.ref fCirI)))
    (tiC : PySem.W.typeIn K (.ref fCirI) = some (.type "function"))
    (lCirI : K.lookup fCirI = some ⟨ocCirI, odCirI, .func (PySem.W.fnOf "__init__" "Circular.__init__" (defArgs sCirI) (defBody sCirI) (defScope sCirI) .none kVCirI dcCirI pmCirI anCirI cdCirI ctCirI), slCirI⟩)
    (cCirI : PySem.W.codeIn K cdCirI "Circular.__init__" = true)
    (kCirI : PySem.W.keepIn K (.ref fCirI) = true)
    (gaC : PySem.W.findIn K (.ref CC) "__getattribute__" = some (some (.builtin "BaseException.__getattribute__")))
    (ggC : PySem.W.findIn K (.ref CC) "__getattr__" = some none)
    (hdC : PySem.W.hasDictIn K CC = true)
    (u1 : PySem.W.subIn K (.ref CB) (.ref CB) = some true)
    (u2 : PySem.W.subIn K (.ref CC) (.ref CB) = some false)
    (u3 : PySem.W.subIn K (.ref CC) (.ref CC) = some true)
    (vSg : PySem.W.nsIn K mainGlobals "NAME_SIGNS" = some (some (.str signs tSg)))
    (vLn : PySem.W.nsIn K mainGlobals "LONGEST_NAME" = some (some (.int 12 tLn)))
    (vCr : PySem.W.nsIn K mainGlobals "CROWN" = some (some (.str "crown" tCr)))
    (vGr : PySem.W.nsIn K mainGlobals "GREATEST_AMOUNT" = some (some (.int 1000000000 tGr)))
    (vMo : PySem.W.nsIn K mainGlobals "MOST_FACTS" = some (some (.int 120 tMo)))
    (vTw : PySem.W.nsIn K mainGlobals "MOST_PARENTS" = some (some (.int 2 tTw)))
    (zisinstance : PySem.W.nsIn K mainGlobals "isinstance" = some none)
    (zstr : PySem.W.nsIn K mainGlobals "str" = some none)
    (zint : PySem.W.nsIn K mainGlobals "int" = some none)
    (zbool : PySem.W.nsIn K mainGlobals "bool" = some none)
    (ztuple : PySem.W.nsIn K mainGlobals "tuple" = some none)
    (zlen : PySem.W.nsIn K mainGlobals "len" = some none)
    (zall : PySem.W.nsIn K mainGlobals "all" = some none)
    (zsorted : PySem.W.nsIn K mainGlobals "sorted" = some none)
    (zlist : PySem.W.nsIn K mainGlobals "list" = some none)
    (zenumerate : PySem.W.nsIn K mainGlobals "enumerate" = some none)
    (zabs : PySem.W.nsIn K mainGlobals "abs" = some none)
    (zrange : PySem.W.nsIn K mainGlobals "range" = some none)
    (zmax : PySem.W.nsIn K mainGlobals "max" = some none)
    (zsum : PySem.W.nsIn K mainGlobals "sum" = some none)
    (zrepr : PySem.W.nsIn K mainGlobals "repr" = some none) :
    ∃ fd : FuncData, (∀ (s : Shared) (v : Value), BindsTo s fd ⟨[v], []⟩ [("script", v)]) ∧ ∀ base : Heap, K.In base → base.Ns mainGlobals mg → FnG l.prog w K mg base CX0 7 fa fd ["script"] (spLaw K) := by
  cases hfa.symm.trans (PySem.W.mg_of X G aLaw)
  have FNam := fun_mk (st := sNam) lNam cNam kNam
  have FAmt := fun_mk (st := sAmt) lAmt cAmt kAmt
  have FFac := fun_mk (st := sFac) lFac cFac kFac
  have FJoi := fun_mk (st := sJoi) lJoi cJoi kJoi
  have FCel := fun_mk (st := sCel) lCel cCel kCel
  have FNum := fun_mk (st := sNum) lNum cNum kNum
  have FFee := fun_mk (st := sFee) lFee cFee kFee
  have FTak := fun_mk (st := sTak) lTak cTak kTak
  have FFts := fun_mk (st := sFts) lFts cFts kFts
  have FOnc := fun_mk (st := sOnc) lOnc cOnc kOnc
  have FBel := fun_mk (st := sBel) lBel cBel kBel
  have FRef := fun_mk (st := sRef) lRef cRef kRef
  have FWro := fun_mk (st := sWro) lWro cWro kWro
  have FTol := fun_mk (st := sTol) lTol cTol kTol
  have FLaw := fun_mk (st := sLaw) lLaw cLaw kLaw
  have FFamI := fun_mk (st := sFamI) lFamI cFamI kFamI
  have FCon := fun_mk (st := sCon) lCon cCon kCon
  have FLea := fun_mk (st := sLea) lLea cLea kLea
  have FChi := fun_mk (st := sChi) lChi cChi kChi
  have FPar := fun_mk (st := sPar) lPar cPar kPar
  have FSpo := fun_mk (st := sSpo) lSpo cSpo kSpo
  have FDay := fun_mk (st := sDay) lDay cDay kDay
  have FRen := fun_mk (st := sRen) lRen cRen kRen
  have FAdv := fun_mk (st := sAdv) lAdv cAdv kAdv
  have FRea := fun_mk (st := sRea) lRea cRea kRea
  have FBadI := fun_mk (st := sBadI) lBadI cBadI kBadI
  have FCirI := fun_mk (st := sCirI) lCirI cCirI kCirI
  have bNam := FNam.binds (ps := ["value"]) fun _ _ _ _ _ _ us hl => match us, hl with | [_], _ => rfl
  have bAmt := FAmt.binds (ps := ["value"]) fun _ _ _ _ _ _ us hl => match us, hl with | [_], _ => rfl
  have bFac := FFac.binds (ps := ["fact"]) fun _ _ _ _ _ _ us hl => match us, hl with | [_], _ => rfl
  have bJoi := FJoi.binds (ps := ["names", "name"]) fun _ _ _ _ _ _ us hl => match us, hl with | [_, _], _ => rfl
  have bCel := FCel.binds (ps := ["script", "k"]) fun _ _ _ _ _ _ us hl => match us, hl with | [_, _], _ => rfl
  have bNum := FNum.binds (ps := ["cell", "many"]) fun _ _ _ _ _ _ us hl => match us, hl with | [_, _], _ => rfl
  have bFee := FFee.binds (ps := ["cell", "many"]) fun _ _ _ _ _ _ us hl => match us, hl with | [_, _], _ => rfl
  have bTak := FTak.binds (ps := ["feed", "limit"]) fun _ _ _ _ _ _ us hl => match us, hl with | [_, _], _ => rfl
  have bFts := FFts.binds (ps := ["cell"]) fun _ _ _ _ _ _ us hl => match us, hl with | [_], _ => rfl
  have bOnc := FOnc.binds (ps := ["names"]) fun _ _ _ _ _ _ us hl => match us, hl with | [_], _ => rfl
  have bBel := FBel.binds (ps := ["facts", "name"]) fun _ _ _ _ _ _ us hl => match us, hl with | [_, _], _ => rfl
  have bRef := FRef.binds (ps := ["facts"]) fun _ _ _ _ _ _ us hl => match us, hl with | [_], _ => rfl
  have bWro := FWro.binds (ps := ["kind"]) fun _ _ _ _ _ _ us hl => match us, hl with | [_], _ => rfl
  have bTol := FTol.binds (ps := ["family", "facts", "name"]) fun _ _ _ _ _ _ us hl => match us, hl with | [_, _, _], _ => rfl
  have bFamI := FFamI.binds (ps := ["self", "facts"]) fun _ _ _ _ _ _ us hl => match us, hl with | [_, _], _ => rfl
  have bCon := FCon.binds (ps := ["self", "fact"]) fun _ _ _ _ _ _ us hl => match us, hl with | [_, _], _ => rfl
  have bLea := FLea.binds (ps := ["self", "fact"]) fun _ _ _ _ _ _ us hl => match us, hl with | [_, _], _ => rfl
  have bChi := FChi.binds (ps := ["self", "name"]) fun _ _ _ _ _ _ us hl => match us, hl with | [_, _], _ => rfl
  have bPar := FPar.binds (ps := ["self", "name"]) fun _ _ _ _ _ _ us hl => match us, hl with | [_, _], _ => rfl
  have bSpo := FSpo.binds (ps := ["self", "name"]) fun _ _ _ _ _ _ us hl => match us, hl with | [_, _], _ => rfl
  have bDay := FDay.binds (ps := ["self", "name"]) fun _ _ _ _ _ _ us hl => match us, hl with | [_, _], _ => rfl
  have bRen := FRen.binds (ps := ["self", "name"]) fun _ _ _ _ _ _ us hl => match us, hl with | [_, _], _ => rfl
  have bAdv := FAdv.binds (ps := ["self", "name"]) fun _ _ _ _ _ _ us hl => match us, hl with | [_, _], _ => rfl
  have bRea := FRea.binds (ps := ["self", "name", "wanted"]) fun _ _ _ _ _ _ us hl => match us, hl with | [_, _, _], _ => rfl
  have bBadI := FBadI.binds (ps := ["self", "at"]) fun _ _ _ _ _ _ us hl => match us, hl with | [_, _], _ => rfl
  have bCirI := FCirI.binds (ps := ["self", "name"]) fun _ _ _ _ _ _ us hl => match us, hl with | [_, _], _ => rfl
  have misinstance := PySem.W.mg_none_of X G zisinstance
  have mstr := PySem.W.mg_none_of X G zstr
  have mint := PySem.W.mg_none_of X G zint
  have mbool := PySem.W.mg_none_of X G zbool
  have mtuple := PySem.W.mg_none_of X G ztuple
  have mlen := PySem.W.mg_none_of X G zlen
  have mall := PySem.W.mg_none_of X G zall
  have msorted := PySem.W.mg_none_of X G zsorted
  have mlist := PySem.W.mg_none_of X G zlist
  have menumerate := PySem.W.mg_none_of X G zenumerate
  have mabs := PySem.W.mg_none_of X G zabs
  have mrange := PySem.W.mg_none_of X G zrange
  have mmax := PySem.W.mg_none_of X G zmax
  have msum := PySem.W.mg_none_of X G zsum
  have mrepr := PySem.W.mg_none_of X G zrepr
  refine ⟨PySem.W.fnOf "law" "law" (defArgs sLaw) (defBody sLaw) (defScope sLaw) .none kVLaw dcLaw pmLaw anLaw cdLaw ctLaw, fun s v => .of_eq rfl, fun base _ _ => ?_⟩
  have T : Txt mg := ⟨⟨tSg, PySem.W.mg_of X G vSg⟩, ⟨tLn, PySem.W.mg_of X G vLn⟩, ⟨tCr, PySem.W.mg_of X G vCr⟩, ⟨tGr, PySem.W.mg_of X G vGr⟩, ⟨tMo, PySem.W.mg_of X G vMo⟩, ⟨tTw, PySem.W.mg_of X G vTw⟩, misinstance, mstr, mint, mbool, mtuple, mlen, mall, msorted, mlist, menumerate⟩
  have cl : Cls K C := ⟨pg, hd, po, sa⟩
  have D : FT K C := ⟨cl, n1, n2, n3, n4, n5, n6, n7⟩
  have hNam : Has l.prog w K mg base CX0 "is_name" ["value"] 1 (spNam) := ⟨_, _, PySem.W.mg_of X G aNam, kNam, bNam, ok_name FNam T⟩
  have hAmt : Has l.prog w K mg base CX0 "is_amount" ["value"] 1 (spAmt) := ⟨_, _, PySem.W.mg_of X G aAmt, kAmt, bAmt, ok_amount FAmt T⟩
  have hFac : Has l.prog w K mg base CX0 "is_fact" ["fact"] 2 (spFac) := ⟨_, _, PySem.W.mg_of X G aFac, kFac, bFac, ok_fact FFac T hNam hAmt⟩
  have hJoi : Has l.prog w K mg base CX0 "_joined" ["names", "name"] 1 (spJoi K) := ⟨_, _, PySem.W.mg_of X G aJoi, kJoi, bJoi, ok_joined FJoi T⟩
  have hChi : HasM l.prog w K mg base CX0 C "children" ["self", "name"] 1 (spLs C fun F k => F.ch k) := ⟨_, _, ⟨aChi, iChi, kChi⟩, bChi, ok_children FChi T D⟩
  have hPar : HasM l.prog w K mg base CX0 C "parents" ["self", "name"] 1 (spLs C fun F k => F.pa k) := ⟨_, _, ⟨aPar, iPar, kPar⟩, bPar, ok_parents FPar T D⟩
  have hSpo : HasM l.prog w K mg base CX0 C "spouses" ["self", "name"] 1 (spSpo C) := ⟨_, _, ⟨aSpo, iSpo, kSpo⟩, bSpo, ok_spouses FSpo D⟩
  have hDay : HasM l.prog w K mg base CX0 C "day" ["self", "name"] 1 (spVal C dayV) := ⟨_, _, ⟨aDay, iDay, kDay⟩, bDay, ok_day FDay D⟩
  have hRen : HasM l.prog w K mg base CX0 C "has_renounced" ["self", "name"] 1 (spVal C fun F k => .bl (F.rn k)) := ⟨_, _, ⟨aRen, iRen, kRen⟩, bRen, ok_renounced FRen D⟩
  have hAdv : HasM l.prog w K mg base CX0 C "advance" ["self", "name"] 1 (spVal C fun F k => .int ((F.ad k).getD 0)) := ⟨_, _, ⟨aAdv, iAdv, kAdv⟩, bAdv, ok_advance FAdv D⟩
  have hRea : HasM l.prog w K mg base CX0 C "reaches" ["self", "name", "wanted"] 2 (spRea C) := ⟨_, _, ⟨aRea, iRea, kRea⟩, bRea, ok_reaches FRea D hChi⟩
  have hCon : HasM l.prog w K mg base CX0 C "_contradicts" ["self", "fact"] 2 (spCon C) := ⟨_, _, ⟨aCon, iCon, kCon⟩, bCon, ok_contra FCon T D hPar⟩
  have hLea : HasM l.prog w K mg base CX0 C "_learn" ["self", "fact"] 2 (spLea C) := ⟨_, _, ⟨aLea, iLea, kLea⟩, bLea, ok_learn FLea D hJoi hPar hChi hAdv⟩
  have xBt : XT l.prog w K mg base "BadFact" "at" CB := ⟨⟨⟨nmB, qB, NB, bsB, _, snB, subB, abB, colB, ddB, m0B, m1B, m2B, m3B, m5B, xB, rfl⟩, saB, exB, tyB, kcB⟩, PySem.W.mg_of X G aB, noB, ⟨_, _, inB, tiB, bBadI, ok_badI FBadI⟩⟩
  have xCt : XT l.prog w K mg base "Circular" "name" CC := ⟨⟨⟨nmC, qC, NC, bsC, _, snC, subC, abC, colC, ddC, m0C, m1C, m2C, m3C, m5C, xC, rfl⟩, saC, exC, tyC, kcC⟩, PySem.W.mg_of X G aC, noC, ⟨_, _, inC, tiC, bCirI, ok_cirI FCirI⟩⟩
  have R : RT l.prog w K mg base C CB CC := ⟨⟨_, _, ⟨mk, aFamI, iFamI, kc⟩, bFamI, ok_famI FFamI T D xBt xCt hFac hCon hLea hRea⟩, PySem.W.mg_of X G aFm, PySem.W.mg_of X G aB, PySem.W.mg_of X G aC, ⟨gaB, ggB, exB, hdB⟩, ⟨gaC, ggC, exC, hdC⟩, noB, noC, PySem.W.exm_ref exB hdB tyB u1, PySem.W.exm_ref exB hdB tyB u2, PySem.W.exm_ref exC hdC tyC u3⟩
  have hCel : Has l.prog w K mg base CX0 "_law_cell" ["script", "k"] 1 (spCel K) := ⟨_, _, PySem.W.mg_of X G aCel, kCel, bCel, ok_cell FCel mlen mint⟩
  have hTak : Has l.prog w K mg base CX0 "_law_take" ["feed", "limit"] 1 (spTak) := ⟨_, _, PySem.W.mg_of X G aTak, kTak, bTak, ok_take FTak mint mlen⟩
  have hFee : Has l.prog w K mg base CX0 "_law_feed" ["cell", "many"] 2 (spFee) := ⟨_, _, PySem.W.mg_of X G aFee, kFee, bFee, ok_feed FFee (ok_numbers FNum mabs mint mrange) (PySem.W.mg_of X G aNum) kNum bNum⟩
  have hFts : Has l.prog w K mg base CX0 "_law_facts" ["cell"] 3 (spFts) := ⟨_, _, PySem.W.mg_of X G aFts, kFts, bFts, ok_facts FFts ⟨mrange, mmax, mstr⟩ hTak hFee⟩
  have hOnc : Has l.prog w K mg base CX0 "_law_once" ["names"] 1 (spOnc) := ⟨_, _, PySem.W.mg_of X G aOnc, kOnc, bOnc, ok_once FOnc msorted mrange mlen⟩
  have hBel : Has l.prog w K mg base CX0 "_law_below" ["facts", "name"] 1 (spBel) := ⟨_, _, PySem.W.mg_of X G aBel, kBel, bBel, ok_below FBel mrange⟩
  have hRef : Has l.prog w K mg base CX0 "_law_refusal" ["facts"] 5 (spRef) := ⟨_, _, PySem.W.mg_of X G aRef, kRef, bRef, ok_refusal FRef R⟩
  have hWro : Has l.prog w K mg base CX0 "_law_wrong" ["kind"] 1 (spWro) := ⟨_, _, PySem.W.mg_of X G aWro, kWro, bWro, ok_wrong FWro mlen⟩
  have TDt : TD l.prog w K mg base C := ⟨cl, hChi, hPar, hSpo, hDay, hRen, hAdv, hOnc, msum, mrepr⟩
  exact law_terms FLaw ⟨mabs, mlen, mint, mrange, mstr, msorted⟩ R TDt hRea (ok_told FTol TDt) (PySem.W.mg_of X G aTol) kTol bTol hFts hCel hBel hWro hRef hFac hNam hAmt
end K1
open PySem PySem.W PyProof.Rows
set_option maxRecDepth 100000 in
set_option maxHeartbeats 0 in
theorem PySem.Challenge.cw_parcener_k01_families_of_facts_holds : PySem.Challenge.rw_parcener_k01_families_of_facts.Holds := by
  w_on; o_law; k_head; (case hw => w_witness2)
  k_fill
  refine G.walk_ofBG (l := PySem.Challenge.rw_parcener_k01_families_of_facts) (n := 63) (k := 7) (x := "script") (CX := fun _ => L2.CX0) (sp := fun w => K1.spLaw _) rfl (by decide) rfl ⟨rfl, by decide, by decide⟩ (fun w h Y => PySem.W.kIn_of Y) ?F (fun _ _ a ns hl hb _ hS => ⟨a, ns, rfl, hS, hl, hb, fun _ => rfl⟩) (fun _ _ _ _ _ h => h)
  case F =>
    intro w mg fa h KX G hmg
    refine' K1.all_mk KX G hmg ?aNam ?lNam ?cNam ?kNam ?aAmt ?lAmt ?cAmt ?kAmt ?aFac ?lFac ?cFac ?kFac ?aJoi ?lJoi ?cJoi ?kJoi ?aCel ?lCel ?cCel ?kCel ?aNum ?lNum ?cNum ?kNum ?aFee ?lFee ?cFee ?kFee ?aTak ?lTak ?cTak ?kTak ?aFts ?lFts ?cFts ?kFts ?aOnc ?lOnc ?cOnc ?kOnc ?aBel ?lBel ?cBel ?kBel ?aRef ?lRef ?cRef ?kRef ?aWro ?lWro ?cWro ?kWro ?aTol ?lTol ?cTol ?kTol ?aLaw ?lLaw ?cLaw ?kLaw ?aFm ?aFamI ?iFamI ?lFamI ?cFamI ?kFamI ?aCon ?iCon ?lCon ?cCon ?kCon ?aLea ?iLea ?lLea ?cLea ?kLea ?aChi ?iChi ?lChi ?cChi ?kChi ?aPar ?iPar ?lPar ?cPar ?kPar ?aSpo ?iSpo ?lSpo ?cSpo ?kSpo ?aDay ?iDay ?lDay ?cDay ?kDay ?aRen ?iRen ?lRen ?cRen ?kRen ?aAdv ?iAdv ?lAdv ?cAdv ?kAdv ?aRea ?iRea ?lRea ?cRea ?kRea ?pg ?hd ?po ?sa ?mk ?kc ?n1 ?n2 ?n3 ?n4 ?n5 ?n6 ?n7 ?aB ?xB ?saB ?exB ?tyB ?kcB ?noB ?inB ?tiB ?lBadI ?cBadI ?kBadI ?gaB ?ggB ?hdB ?aC ?xC ?saC ?exC ?tyC ?kcC ?noC ?inC ?tiC ?lCirI ?cCirI ?kCirI ?gaC ?ggC ?hdC ?u1 ?u2 ?u3 ?vSg ?vLn ?vCr ?vGr ?vMo ?vTw ?zisinstance ?zstr ?zint ?zbool ?ztuple ?zlen ?zall ?zsorted ?zlist ?zenumerate ?zabs ?zrange ?zmax ?zsum ?zrepr
    (case aNam => k_is)
    (case lNam => k_is)
    (case cNam => k_is)
    (case kNam => k_is)
    (case aAmt => k_is)
    (case lAmt => k_is)
    (case cAmt => k_is)
    (case kAmt => k_is)
    (case aFac => k_is)
    (case lFac => k_is)
    (case cFac => k_is)
    (case kFac => k_is)
    (case aJoi => k_is)
    (case lJoi => k_is)
    (case cJoi => k_is)
    (case kJoi => k_is)
    (case aCel => k_is)
    (case lCel => k_is)
    (case cCel => k_is)
    (case kCel => k_is)
    (case aNum => k_is)
    (case lNum => k_is)
    (case cNum => k_is)
    (case kNum => k_is)
    (case aFee => k_is)
    (case lFee => k_is)
    (case cFee => k_is)
    (case kFee => k_is)
    (case aTak => k_is)
    (case lTak => k_is)
    (case cTak => k_is)
    (case kTak => k_is)
    (case aFts => k_is)
    (case lFts => k_is)
    (case cFts => k_is)
    (case kFts => k_is)
    (case aOnc => k_is)
    (case lOnc => k_is)
    (case cOnc => k_is)
    (case kOnc => k_is)
    (case aBel => k_is)
    (case lBel => k_is)
    (case cBel => k_is)
    (case kBel => k_is)
    (case aRef => k_is)
    (case lRef => k_is)
    (case cRef => k_is)
    (case kRef => k_is)
    (case aWro => k_is)
    (case lWro => k_is)
    (case cWro => k_is)
    (case kWro => k_is)
    (case aTol => k_is)
    (case lTol => k_is)
    (case cTol => k_is)
    (case kTol => k_is)
    (case aLaw => k_is)
    (case lLaw => k_is)
    (case cLaw => k_is)
    (case kLaw => k_is)
    (case aFm => k_is)
    (case aFamI => k_is)
    (case iFamI => k_is)
    (case lFamI => k_is)
    (case cFamI => k_is)
    (case kFamI => k_is)
    (case aCon => k_is)
    (case iCon => k_is)
    (case lCon => k_is)
    (case cCon => k_is)
    (case kCon => k_is)
    (case aLea => k_is)
    (case iLea => k_is)
    (case lLea => k_is)
    (case cLea => k_is)
    (case kLea => k_is)
    (case aChi => k_is)
    (case iChi => k_is)
    (case lChi => k_is)
    (case cChi => k_is)
    (case kChi => k_is)
    (case aPar => k_is)
    (case iPar => k_is)
    (case lPar => k_is)
    (case cPar => k_is)
    (case kPar => k_is)
    (case aSpo => k_is)
    (case iSpo => k_is)
    (case lSpo => k_is)
    (case cSpo => k_is)
    (case kSpo => k_is)
    (case aDay => k_is)
    (case iDay => k_is)
    (case lDay => k_is)
    (case cDay => k_is)
    (case kDay => k_is)
    (case aRen => k_is)
    (case iRen => k_is)
    (case lRen => k_is)
    (case cRen => k_is)
    (case kRen => k_is)
    (case aAdv => k_is)
    (case iAdv => k_is)
    (case lAdv => k_is)
    (case cAdv => k_is)
    (case kAdv => k_is)
    (case aRea => k_is)
    (case iRea => k_is)
    (case lRea => k_is)
    (case cRea => k_is)
    (case kRea => k_is)
    (case pg => k_is)
    (case hd => k_is)
    (case po => k_is)
    (case sa => k_is)
    (case mk => k_is)
    (case kc => k_is)
    (case n1 => k_is)
    (case n2 => k_is)
    (case n3 => k_is)
    (case n4 => k_is)
    (case n5 => k_is)
    (case n6 => k_is)
    (case n7 => k_is)
    (case aB => k_is)
    (case xB => k_is)
    (case saB => k_is)
    (case exB => k_is)
    (case tyB => k_is)
    (case kcB => k_is)
    (case noB => k_is)
    (case inB => k_is)
    (case tiB => k_is)
    (case lBadI => k_is)
    (case cBadI => k_is)
    (case kBadI => k_is)
    (case gaB => k_is)
    (case ggB => k_is)
    (case hdB => k_is)
    (case aC => k_is)
    (case xC => k_is)
    (case saC => k_is)
    (case exC => k_is)
    (case tyC => k_is)
    (case kcC => k_is)
    (case noC => k_is)
    (case inC => k_is)
    (case tiC => k_is)
    (case lCirI => k_is)
    (case cCirI => k_is)
    (case kCirI => k_is)
    (case gaC => k_is)
    (case ggC => k_is)
    (case hdC => k_is)
    (case u1 => first | rfl | k_is)
    (case u2 => first | rfl | k_is)
    (case u3 => first | rfl | k_is)
    (case vSg => k_is)
    (case vLn => k_is)
    (case vCr => k_is)
    (case vGr => k_is)
    (case vMo => k_is)
    (case vTw => k_is)
    (case zisinstance => k_is)
    (case zstr => k_is)
    (case zint => k_is)
    (case zbool => k_is)
    (case ztuple => k_is)
    (case zlen => k_is)
    (case zall => k_is)
    (case zsorted => k_is)
    (case zlist => k_is)
    (case zenumerate => k_is)
    (case zabs => k_is)
    (case zrange => k_is)
    (case zmax => k_is)
    (case zsum => k_is)
    (case zrepr => k_is)
