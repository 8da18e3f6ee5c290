import PyProof.Rows.All
import Wide.All
import OpenK.AllK
import Wide.FinOn
import HandS.ForMost
import HandS.Wide
import HandS.SortOrd
import HandS.DictComp
import HandS.More
import HandS.EndBits
import HandS.Walk
import HandS.TupLe
import HandS.NoneIn
import KE.KDictList
import KE.KDictSum
import HandS.IsInst
import HandS.ExcInit
import HandS.ExcField
import HandS.TryMany
import HandS.CallSlots
import HandS.SortInts
import HandS.WordsExc
import HandS.Deep
import HandS.Defaults
import HandS.MakeKwOnly
import HandS.Gcd
import HandS.Steps
import HandS.SetBool
import HandS.Set
import HandS.Strs
import HandS.Style
import HandS.List
import HandS.Star
import PyProof.ReprLen
import PyProof.P3Eq
import HandS.TupAny
import HandS.ExcIs
import PySem.Challenge.RW_parcener_k11_papers_of_cases
set_option Elab.async false
set_option maxRecDepth 100000
set_option maxHeartbeats 8000000
namespace G
open PySem L2 PyProof.Rows PySem.Spec SrtO
/-- a number of at most k bits -/
structure Bt (k : Nat) (x : Int) : Prop where
  lt : x.natAbs < 2 ^ k
theorem Bt.mono {k m : Nat} {x : Int} (h : Bt k x) (l : k ≤ m) : Bt m x := ⟨Nat.lt_of_lt_of_le h.lt (Nat.pow_le_pow_right (by decide) l)⟩
theorem Bt.mul {k m : Nat} {x y : Int} (h : Bt k x) (g : Bt m y) : Bt (k + m) (x * y) := ⟨wide_lt h.lt g.lt⟩
theorem Bt.neg {k : Nat} {x : Int} (h : Bt k x) : Bt k (-x) := ⟨by rw [Int.natAbs_neg]; exact h.lt⟩
theorem Bt.add {k : Nat} {x y : Int} (h : Bt k x) (g : Bt k y) : Bt (k + 1) (x + y) := ⟨by
  have a := h.lt
  have b := g.lt
  have c := Int.natAbs_add_le x y
  rw [Nat.pow_succ]
  generalize 2 ^ k = z at *
  omega⟩
theorem Bt.sub {k : Nat} {x y : Int} (h : Bt k x) (g : Bt k y) : Bt (k + 1) (x - y) := by
  rw [Int.sub_eq_add_neg]
  exact h.add g.neg
theorem Bt.le {k : Nat} {x y : Int} (h : Bt k y) (l : x.natAbs ≤ y.natAbs) : Bt k x := ⟨Nat.lt_of_le_of_lt l h.lt⟩
theorem Bt.log {k : Nat} {x : Int} (h : Bt k x) (hk : 0 < k) : x.natAbs.log2 < k := PySem.Flt.log2_lt_of hk h.lt
theorem Bt.ok {k m : Nat} {x y : Int} (h : Bt k x) (g : Bt m y) (hk : 0 < k) (hm : 0 < m) (l : k + m ≤ 100000000) : IntMulOk x y := by
  have bits : ∀ z : Int, Builtin.Int.intBits z ≤ z.natAbs.log2 + 1 := fun z => by
    unfold Builtin.Int.intBits
    split <;> omega
  have b1 := bits x
  have b2 := bits y
  have l1 := h.log hk
  have l2 := g.log hm
  have e : bitsLine = 134217728 := by decide
  unfold IntMulOk
  intro z
  have z2 := (Bool.and_eq_true _ _ ▸ z).2
  unfold Builtin.Int.intTooBig at z2
  have z3 := of_decide_eq_true z2
  rw [e] at z3
  omega
theorem Bt.of_bits {k : Nat} {x : Int} (h : Builtin.Int.intBits x ≤ k) : Bt k x := by
  unfold Builtin.Int.intBits at h
  split at h
  · next e =>
    have e' : x = 0 := by simpa using e
    subst e'
    exact ⟨Nat.two_pow_pos _⟩
  · exact ⟨Nat.lt_of_lt_of_le Nat.lt_log2_self (Nat.pow_le_pow_right (by decide) h)⟩
theorem Bt.small {x : Int} (h : -1073741824 < x) (g : x < 1073741824) : Bt 30 x := ⟨by show x.natAbs < 1073741824; omega⟩
theorem same_upd {H : Hp} {p : Addr} {o : HO} (h : H p = none) : Same H (upd H p o) := fun b x e => by
  rw [upd_ne (ne_of_none e h)]
  exact e
theorem sameT {K : PySem.W.Frag} {H H' : Hp} {a : Addr} {xs : List V} (e : Same H H') (h : SqT K H a xs) : SqT K H' a xs := by
  rcases h with (h | ⟨o, h⟩) | h
  · exact .inl (.inl (e _ _ h))
  · exact .inl (.inr ⟨o, e _ _ h⟩)
  · exact .inr h
theorem valV_nth {kvs : List (Key × V)} (nd : (kvs.map (·.1)).Nodup) {i : Nat} {k : Key} {v : V} (h : kvs[i]? = some (k, v)) : valV kvs k = some v := by
  induction kvs generalizing i with
  | nil => cases h
  | cons p r ih =>
    rw [List.map_cons, List.nodup_cons] at nd
    cases i with
    | zero =>
      have e : p = (k, v) := Option.some.inj h
      rw [e]
      exact valV_pos rfl
    | succ i =>
      have h' : r[i]? = some (k, v) := h
      have ne : ¬ p.1 = k := fun e => nd.1 (by
        rw [e]
        exact List.mem_map.mpr ⟨(k, v), List.mem_of_getElem? h', rfl⟩)
      rw [valV_neg ne]
      exact ih nd.2 h'
def dig (i : Int) : Str := toString i
def mk (a j : Int) : Str := ((("k" : Str) ++ dig a) ++ ("x" : Str)) ++ dig j
theorem len_app (a b : Str) : (a ++ b).length = a.length + b.length := by
  show (a.cps ++ b.cps).size = _
  rw [Array.size_append]
  rfl
theorem cps_app (a b : Str) : (a ++ b).cps.toList = a.cps.toList ++ b.cps.toList := by
  show (a.cps ++ b.cps).toList = _
  rw [Array.toList_append]
theorem dig_fin : ∀ i : _root_.Fin 50, (dig ((i.val : Nat) : Int)).length ≤ 2 := by decide +kernel
theorem dig_len {i : Int} (h0 : 0 ≤ i) (h : i < 50) : (dig i).length ≤ 2 := by
  have := dig_fin ⟨i.toNat, by omega⟩
  rw [show i = ((i.toNat : Nat) : Int) by omega]
  exact this
theorem end_fin : ∀ i j : _root_.Fin 20, ((dig ((i.val : Nat) : Int)).cps.toList.reverse ++ [120]).take 2 = ((dig ((j.val : Nat) : Int)).cps.toList.reverse ++ [120]).take 2 → i = j := by decide +kernel
theorem dig_pos : ∀ i : _root_.Fin 20, 1 ≤ (dig ((i.val : Nat) : Int)).cps.toList.length := by decide +kernel
theorem mk_end (a : Int) (j : _root_.Fin 20) : (mk a ((j.val : Nat) : Int)).cps.toList.reverse.take 2 = ((dig ((j.val : Nat) : Int)).cps.toList.reverse ++ [120]).take 2 := by
  unfold mk
  rw [cps_app, cps_app, List.reverse_append, List.reverse_append, ← List.append_assoc]
  rw [List.take_append_of_le_length]
  · rfl
  · have := dig_pos j
    rw [List.length_append, List.length_reverse]
    show 2 ≤ _ + 1
    omega
theorem mk_inj {a b i j : Int} (i0 : 0 ≤ i) (i1 : i < 20) (j0 : 0 ≤ j) (j1 : j < 20) (h : mk a i = mk b j) : i = j := by
  have e1 := mk_end a ⟨i.toNat, by omega⟩
  have e2 := mk_end b ⟨j.toNat, by omega⟩
  rw [show (((⟨i.toNat, by omega⟩ : _root_.Fin 20).val : Nat) : Int) = i from Int.toNat_of_nonneg i0] at e1
  rw [show (((⟨j.toNat, by omega⟩ : _root_.Fin 20).val : Nat) : Int) = j from Int.toNat_of_nonneg j0] at e2
  rw [h] at e1
  have e3 := end_fin ⟨i.toNat, by omega⟩ ⟨j.toNat, by omega⟩ (by
    show List.take 2 ((dig ((i.toNat : Nat) : Int)).cps.toList.reverse ++ [120]) = List.take 2 ((dig ((j.toNat : Nat) : Int)).cps.toList.reverse ++ [120])
    rw [Int.toNat_of_nonneg i0, Int.toNat_of_nonneg j0]
    exact e1.symm.trans e2)
  have e4 : i.toNat = j.toNat := congrArg _root_.Fin.val e3
  omega
theorem rising_pw : ∀ (l : List Str) (p : Str), risingS p l = true → (p :: l).Pairwise fun a b => ¬ b.cps.toList < a.cps.toList
  | [], p, _ => List.pairwise_singleton _ _
  | x :: r, p, h => by
    unfold risingS at h
    rw [Bool.and_eq_true, ltCps_eq] at h
    have h1 : ¬ x.cps.toList < p.cps.toList := by
      have := h.1
      simpa using this
    have ih := rising_pw r x h.2
    refine List.pairwise_cons.mpr ⟨fun y hy => ?_, ih⟩
    rcases List.mem_cons.mp hy with e | hy
    · rw [e]
      exact h1
    · have h2 := (List.pairwise_cons.mp ih).1 y hy
      exact List.not_lt.mpr (List.le_trans (List.not_lt.mp h1) (List.not_lt.mp h2))
theorem sortedS_pw {l : List Str} (h : sortedS l = true) : l.Pairwise fun a b => ¬ b.cps.toList < a.cps.toList := by
  cases l with
  | nil => exact .nil
  | cons x r => exact rising_pw r x h
theorem str_ext {a b : Str} (h : a.cps.toList = b.cps.toList) : a = b := by
  cases a
  cases b
  exact congrArg PySem.Str.mk (Array.toList_inj.mp h)
theorem sortedS_one {l m : List Str} (h : sortedS l = true) (g : sortedS m = true) (p : l.Perm m) : l = m :=
  p.eq_of_pairwise (fun a b _ _ h1 h2 => str_ext (List.le_antisymm (List.not_lt.mp h1) (List.not_lt.mp h2))) (sortedS_pw h) (sortedS_pw g)
theorem dig_ok_fin : ∀ i : _root_.Fin 50, PyData.strOk (dig ((i.val : Nat) : Int)) = true := by decide +kernel
theorem dig_ok {i : Int} (h0 : 0 ≤ i) (h : i < 50) : PyData.strOk (dig i) = true := by
  have := dig_ok_fin ⟨i.toNat, by omega⟩
  rw [show i = ((i.toNat : Nat) : Int) by omega]
  exact this
theorem ok_app {a b : Str} (h : PyData.strOk a = true) (g : PyData.strOk b = true) : PyData.strOk (a ++ b) = true := by
  show (a.cps ++ b.cps).all (· < 0x110000) = true
  rw [Array.all_append]
  exact Bool.and_eq_true_iff.mpr ⟨h, g⟩
theorem mk_ok {a i : Int} (a0 : 0 ≤ a) (a1 : a < 50) (i0 : 0 ≤ i) (i1 : i < 50) : PyData.strOk (mk a i) = true :=
  ok_app (ok_app (ok_app (by decide +kernel) (dig_ok a0 a1)) (by decide +kernel)) (dig_ok i0 i1)
theorem nat_num {xs : List Int} {i : Nat} (h : i < xs.length) : atI (xs.map V.int) ((i : Nat) : Int) = some (.int xs[i]) := atI_nat (by rw [List.getElem?_map, List.getElem?_eq_getElem h]; rfl)
theorem lg {x : Int} (h0 : 0 ≤ x) (h1 : x < 1000) : x.natAbs.log2 < 1920 := Nat.lt_trans ((Bt.small (x := x) (by omega) (by omega)).log (by decide)) (by decide)
def cell (ns : List Int) (k : Int) : Int := (ns[k.toNat]?).getD 0
def Nums (xs : List Int) : Prop := ∀ x ∈ xs, 0 ≤ x ∧ x < 1048576
theorem Nums.snoc {xs : List Int} {x : Int} (h : Nums xs) (a : 0 ≤ x) (b : x < 1048576) : Nums (xs ++ [x]) := fun y hy => by
  rcases List.mem_append.mp hy with z | z
  · exact h y z
  · rw [List.mem_singleton.mp z]
    exact ⟨a, b⟩
end G
namespace ZF
open PySem L2 PyProof.Rows G
def topS (i : Nat) : Stmt := PySem.Challenge.pw_parcener_k11_papers_of_cases.main.body.getD i (.Pass ⟨0, 0, 0, 0⟩)
abbrev sBadI : Stmt := inClass (topS 3) 0
abbrev sCirI : Stmt := inClass (topS 4) 0
abbrev sNam : Stmt := topS 15
abbrev sAmt : Stmt := topS 16
abbrev sFac : Stmt := topS 17
abbrev sJoi : Stmt := topS 18
abbrev sFamI : Stmt := inClass (topS 19) 0
abbrev sCon : Stmt := inClass (topS 19) 1
abbrev sLea : Stmt := inClass (topS 19) 2
abbrev sChi : Stmt := inClass (topS 19) 3
abbrev sPar : Stmt := inClass (topS 19) 4
abbrev sSpo : Stmt := inClass (topS 19) 5
abbrev sDay : Stmt := inClass (topS 19) 6
abbrev sRen : Stmt := inClass (topS 19) 7
abbrev sAdv : Stmt := inClass (topS 19) 8
abbrev sRea : Stmt := inClass (topS 19) 9
abbrev sCel : Stmt := topS 68
abbrev sNum : Stmt := topS 69
abbrev sFee : Stmt := topS 70
abbrev sTak : Stmt := topS 71
abbrev sFts : Stmt := topS 72
/-! the mirror of names, amounts and facts -/
def signs : Str := "abcdefghijklmnopqrstuvwxyz0123456789"
def isNm (x : Str) : Bool := !decide (x = ("crown" : Str)) && (decide (1 ≤ x.length) && decide (x.length ≤ 12)) && x.cps.toList.all fun c => decide (c ∈ signs.cps.toList)
def nameV : V → Bool
  | .str x => isNm x
  | _ => false
def amtV : V → Bool
  | .int i => decide (0 ≤ i) && decide (i ≤ 1000000000)
  | _ => false
def threeV (w n z : V) : Bool := if w = .str "child" ∨ w = .str "wed" ∨ w = .str "parted" then nameV z && !decide (n = z) else (decide (w = .str "died") || decide (w = .str "advance")) && amtV z
def isStr : V → Bool
  | .str _ => true
  | _ => false
def factV : List V → Bool
  | [w, n] => isStr w && nameV n && decide (w = .str "renounced")
  | [w, n, z] => isStr w && nameV n && threeV w n z
  | _ => false
/-- a built-in's kind, of a plain value -/
def tyV : V → String
  | .non => "NoneType"
  | .bl _ => "bool"
  | .int _ => "int"
  | .str _ => "str"
  | _ => "?"
theorem ty_flat {K : PySem.W.Frag} {H : Hp} {v : V} (h : flatV v = true) : TyX K H v (.type (tyV v)) := by
  cases v with
  | non => exact .base .non
  | bl b => exact .base (.bl b)
  | int i => exact .base (.int i)
  | str x => exact .base (.str x)
  | byt b => cases h
  | flt b => cases h
  | ref a => cases h
  | ty n => cases h
theorem kit_str {K : PySem.W.Frag} {v : V} (h : flatV v = true) : PySem.W.kitOne K (.type (tyV v)) (.type "str") = some (isStr v) := by
  cases v with
  | non => exact kit_ty (show kitB "NoneType" "str" = some false by decide +kernel)
  | bl b => exact kit_ty (show kitB "bool" "str" = some false by decide +kernel)
  | int i => exact kit_ty (show kitB "int" "str" = some false by decide +kernel)
  | str x => exact kit_ty (show kitB "str" "str" = some true by decide +kernel)
  | byt b => cases h
  | flt b => cases h
  | ref a => cases h
  | ty n => cases h
def isIntV : V → Bool
  | .int _ => true
  | .bl _ => true
  | _ => false
theorem kit_int {K : PySem.W.Frag} {v : V} (h : flatV v = true) : PySem.W.kitOne K (.type (tyV v)) (.type "int") = some (isIntV v) := by
  cases v with
  | non => exact kit_ty (show kitB "NoneType" "int" = some false by decide +kernel)
  | bl b => exact kit_ty (show kitB "bool" "int" = some true by decide +kernel)
  | int i => exact kit_ty (show kitB "int" "int" = some true by decide +kernel)
  | str x => exact kit_ty (show kitB "str" "int" = some false by decide +kernel)
  | byt b => cases h
  | flt b => cases h
  | ref a => cases h
  | ty n => cases h
def isBlV : V → Bool
  | .bl _ => true
  | _ => false
theorem kit_bl {K : PySem.W.Frag} {v : V} (h : flatV v = true) : PySem.W.kitOne K (.type (tyV v)) (.type "bool") = some (isBlV v) := by
  cases v with
  | non => exact kit_ty (show kitB "NoneType" "bool" = some false by decide +kernel)
  | bl b => exact kit_ty (show kitB "bool" "bool" = some true by decide +kernel)
  | int i => exact kit_ty (show kitB "int" "bool" = some false by decide +kernel)
  | str x => exact kit_ty (show kitB "str" "bool" = some false by decide +kernel)
  | byt b => cases h
  | flt b => cases h
  | ref a => cases h
  | ty n => cases h
/-- a def of the top that stands: its promise kept at a level -/
structure Has (P : Program) (w : World) (K : PySem.W.Frag) (mg : Str → Option Value) (base : Heap) (CX : CXT) (x : Str) (ps : List Str) (k : Nat) (sp : Sp) : Prop where
  ok : ∃ (f : Addr) (fd : FuncData), mg x = some (.ref f) ∧ PySem.W.keepIn K (.ref f) = true ∧ Binds K fd ps [] ∧ FnOk P w K mg base CX k f fd ps sp
/-- the module's constants and built-ins that the family's text asks -/
structure Txt (mg : Str → Option Value) : Prop where
  signs : ∃ t, mg "NAME_SIGNS" = some (.str signs t)
  longest : ∃ t, mg "LONGEST_NAME" = some (.int 12 t)
  crown : ∃ t, mg "CROWN" = some (.str "crown" t)
  great : ∃ t, mg "GREATEST_AMOUNT" = some (.int 1000000000 t)
  most : ∃ t, mg "MOST_FACTS" = some (.int 120 t)
  two : ∃ t, mg "MOST_PARENTS" = some (.int 2 t)
  isi : mg "isinstance" = none
  str : mg "str" = none
  int : mg "int" = none
  bool : mg "bool" = none
  tuple : mg "tuple" = none
  len : mg "len" = none
  all : mg "all" = none
  sorted : mg "sorted" = none
  list : mg "list" = none
  enum : mg "enumerate" = none
section
variable {P : Program} {w : World} {K : PySem.W.Frag} {mg : Str → Option Value} {base : Heap}
theorem scNam : FnScope ["value", "sign"] ["value"] (defScope sNam) := ⟨rfl, rfl, rfl, by decide +kernel, rfl, by decide +kernel, by decide +kernel⟩
/-- a plain value, its text short -/
structure OkV (v : V) : Prop where
  fl : flatV v = true
  sh : ∀ x, v = .str x → x.length ≤ 1000
/-- is_name, of a plain value -/
def spNam : Sp := fun vs H Q _ => ∃ v : V, vs = [v] ∧ OkV v ∧ ∀ H', Same H H' → Q (.bl (nameV v)) H'
theorem ok_name {f : Addr} {fd : FuncData} (F : Fun K "is_name" "is_name" sNam f fd) (T : Txt mg) : FnOk P w K mg base CX0 1 f fd ["value"] spNam := by
  obtain ⟨t1, m1⟩ := T.signs
  obtain ⟨t2, m2⟩ := T.longest
  obtain ⟨t3, m3⟩ := T.crown
  refine F.ok scNam (fun vs H Q E h => ?_) (fun cdv A outer s H vs Q E hr h => ?_)
  · obtain ⟨v, rfl, _⟩ := h
    rfl
  · obtain ⟨v, rfl, hv, go⟩ := h
    refine ⟨_, pss_cons (ps_if (PW.pt (pw_or (pt_not (pt_val (pe_callB call_isi (by rfl) T.isi (by decide +kernel) (pa_cons (pv 0) (pa_cons (pe_bltn (v := .ty "str") (u := .type "str") (by rfl) T.str (by decide +kernel) rfl) pa_nil))))) (pw_or1 (pt_cmpR op_eq (pv 0) (pe_glob (v := .str "crown") (by rfl) m3 ⟨_, rfl⟩) (nomark _))))) (pss_one (ps_ret pe_bl)) pss_nil)
      (pss_cons (ps_if (pt_not (pt_chain op_le op_le pe_int (pe_callB call_len_str (by rfl) T.len PySem.boot_len (pa_cons (pv 0) pa_nil)) (pe_glob (v := .int 12) (by rfl) m2 ⟨_, rfl⟩))) (pss_one (ps_ret pe_bl)) pss_nil)
      (pss_one (ps_ret (pe_callB (cr_all rfl) (by rfl) T.all (by decide +kernel) (pa_cons (pe_lc (own := [("sign", 1)]) (g := gName 1) (tt := tYes) rfl scNam.nd (pi_str (pv 0)) (blkOk_by (N := ["value", "sign"]) (sc := defScope sNam) (by decide +kernel))
        (fun _ _ _ _ _ => pg_name (i := 1) scNam.nd rfl (.inl rfl) (.inr rfl)) (fun _ _ _ _ _ => pts_nil) (fun _ _ _ _ _ => pe_cmpR op_in_sign (pv 1) (pe_glob (v := .str signs) (by rfl) m1 ⟨_, rfl⟩) rfl)) pa_nil))))), ?_⟩
    have tail (Y : Prop) (h1 : isStr v = false → Y) (h2 : ∀ x, v = .str x → Y) : Y := by
      cases v with
      | str x => exact h2 x rfl
      | non => exact h1 rfl
      | bl b => exact h1 rfl
      | int i => exact h1 rfl
      | byt b => exact h1 rfl
      | flt b => exact h1 rfl
      | ref b => exact h1 rfl
      | ty b => exact h1 rfl
    refine ⟨_, rfl, v, .ty "str", _, _, _, rfl, .ty _, ty_flat hv.fl, kit_str hv.fl, _, rfl, ?_⟩
    refine tail _ (fun e => ?_) (fun x e => ?_)
    · have en : nameV v = false := by
        cases v <;> first | rfl | cases e
      rw [en] at go
      rw [e]
      exact go H (Same.refl H)
    · subst e
      refine iteF ⟨_, rfl, rfl, _, rfl, ite2 (fun ec => ?_) (fun ec => ?_)⟩
      · have en : nameV (.str x) = false := by
          have e2 := V.str.inj (of_decide_eq_true ec)
          show isNm x = false
          unfold isNm
          rw [e2]
          rfl
        rw [en] at go
        exact go H (Same.refl H)
      · have ec' : ¬ x = ("crown" : Str) := fun z => ec (decide_eq_true (congrArg V.str z))
        have xl := hv.sh x rfl
        refine ⟨_, rfl, x, rfl, Nat.le_trans xl (by decide), ?_⟩
        have no (hb : ¬ (1 ≤ x.length ∧ x.length ≤ 12)) : Q (.bl false) H := by
          have en : nameV (.str x) = false := by
            show isNm x = false
            unfold isNm
            have : (decide (1 ≤ x.length) && decide (x.length ≤ 12)) = false := by
              rw [Bool.eq_false_iff]
              intro z
              rw [Bool.and_eq_true, decide_eq_true_eq, decide_eq_true_eq] at z
              exact hb z
            rw [this, Bool.and_false, Bool.false_and]
          rw [en] at go
          exact go H (Same.refl H)
        refine ⟨_, _, rfl, rfl, _, rfl, ite2 (fun a => ?_) (fun a => ?_)⟩
        · have a1 : (1 : Int) ≤ (x.length : Int) := of_decide_eq_true a
          refine ⟨_, _, rfl, rfl, _, rfl, ite2 (fun b => ?_) (fun b => ?_)⟩
          · refine no fun z => ?_
            have b1 : ¬ (x.length : Int) ≤ 12 := fun c => by
              rw [decide_eq_true c] at b
              cases b
            omega
          · have b1 : (x.length : Int) ≤ 12 := by
              by_cases c : (x.length : Int) ≤ 12
              · exact c
              · exact absurd (by rw [decide_eq_false c]; rfl) b
            refine ⟨_, rfl, x, rfl, fun D hD => lc_it walk_str (fun i Hy => (∀ b o, H b = some o → Hy b = some o) ∧ Hy D = some (.lst (((x.cps.toList.take i).map fun c => decide (c ∈ signs.cps.toList)).map V.bl))) ⟨fun b o hb => ?_, upd_same⟩ (fun _ _ _ _ => trivial) ?_ ?_⟩
            · rw [upd_ne (ne_of_none hb hD)]
              exact hb
            · rintro i y Hy H' hi ⟨k1, k2⟩ ⟨rfl, c, ec2, rfl⟩
              refine ⟨rfl, _, rfl, c, signs, rfl, rfl, _, k2, ?_, ?_, ?_⟩
              · rw [List.length_map, List.length_map, List.length_take]
                have : x.cps.toList.length = x.length := Array.length_toList
                exact small1000 (by omega)
              · intro b o hb
                rw [upd_ne (ne_of_none hb hD)]
                exact k1 b o hb
              · rw [upd_same, List.take_add_one, Array.getElem?_toList, ec2, List.map_append, List.map_append]
                rfl
            · rintro Hy ⟨k1, k2⟩
              rw [show x.cps.size = x.cps.toList.length from Array.length_toList.symm, List.take_length] at k2
              refine ⟨D, _, rfl, SqL.of k2, ?_⟩
              have en : nameV (.str x) = (x.cps.toList.map fun c => decide (c ∈ signs.cps.toList)).all id := by
                show isNm x = _
                unfold isNm
                rw [decide_eq_false ec', decide_eq_true (show 1 ≤ x.length by omega), decide_eq_true (show x.length ≤ 12 by omega), List.all_map]
                rfl
              rw [← en]
              exact go Hy k1
        · refine ⟨_, rfl, ?_⟩
          exact no fun z => a (decide_eq_true (show (1 : Int) ≤ (x.length : Int) by omega))
theorem scAmt : FnScope ["value"] ["value"] (defScope sAmt) := ⟨rfl, rfl, rfl, by decide +kernel, rfl, by decide +kernel, by decide +kernel⟩
def spAmt : Sp := fun vs H Q _ => ∃ v : V, vs = [v] ∧ flatV v = true ∧ Q (.bl (amtV v)) H
theorem ok_amount {f : Addr} {fd : FuncData} (F : Fun K "is_amount" "is_amount" sAmt f fd) (T : Txt mg) : FnOk P w K mg base CX0 1 f fd ["value"] spAmt := by
  obtain ⟨t1, m1⟩ := T.great
  refine F.ok scAmt (fun vs H Q E h => ?_) (fun cdv A outer s H vs Q E hr h => ?_)
  · obtain ⟨v, rfl, _⟩ := h
    rfl
  · obtain ⟨v, rfl, hv, go⟩ := h
    refine ⟨_, pss_cons (ps_if (PW.pt (pw_or (pt_not (pt_val (pe_callB call_isi (by rfl) T.isi (by decide +kernel) (pa_cons (pv 0) (pa_cons (pe_bltn (v := .ty "int") (u := .type "int") (by rfl) T.int (by decide +kernel) rfl) pa_nil))))) (pw_or1 (pt_val (pe_callB call_isi (by rfl) T.isi (by decide +kernel) (pa_cons (pv 0) (pa_cons (pe_bltn (v := .ty "bool") (u := .type "bool") (by rfl) T.bool (by decide +kernel) rfl) pa_nil))))))) (pss_one (ps_ret pe_bl)) pss_nil)
      (pss_one (ps_ret (pe_chain op_le op_le pe_int (pv 0) (pe_glob (v := .int 1000000000) (by rfl) m1 ⟨_, rfl⟩)))), ?_⟩
    refine ⟨_, rfl, v, .ty "int", _, _, _, rfl, .ty _, ty_flat hv, kit_int hv, _, rfl, ?_⟩
    cases v with
    | int i =>
      refine iteF ⟨_, rfl, _, .ty "bool", _, _, _, rfl, .ty _, ty_flat hv, kit_bl hv, _, rfl, iteF ?_⟩
      refine ⟨_, rfl, _, _, rfl, rfl, _, rfl, ite2 (fun a => ?_) (fun a => ?_)⟩
      · have a1 : (0 : Int) ≤ i := of_decide_eq_true a
        refine ⟨_, _, rfl, rfl, ?_⟩
        have en : amtV (.int i) = decide (i ≤ 1000000000) := by
          show (decide (0 ≤ i) && decide (i ≤ 1000000000)) = _
          rw [decide_eq_true a1]
          rfl
        rw [en] at go
        exact go
      · have a1 : ¬ (0 : Int) ≤ i := fun z => a (decide_eq_true z)
        have en : amtV (.int i) = false := by
          show (decide (0 ≤ i) && decide (i ≤ 1000000000)) = _
          rw [decide_eq_false a1]
          rfl
        rw [en] at go
        exact go
    | bl b => exact iteF ⟨_, rfl, _, .ty "bool", _, _, _, rfl, .ty _, ty_flat hv, kit_bl hv, _, rfl, iteT go⟩
    | non => exact go
    | str x => exact go
    | byt b => cases hv
    | flt b => cases hv
    | ref b => cases hv
    | ty b => cases hv
end
end ZF
namespace ZF
open PySem L2 PyProof.Rows G
theorem kit_tup {K : PySem.W.Frag} {v : V} (h : flatV v = true) : PySem.W.kitOne K (.type (tyV v)) (.type "tuple") = some false := by
  cases v with
  | non => exact kit_ty (show kitB "NoneType" "tuple" = some false by decide +kernel)
  | bl b => exact kit_ty (show kitB "bool" "tuple" = some false by decide +kernel)
  | int i => exact kit_ty (show kitB "int" "tuple" = some false by decide +kernel)
  | str x => exact kit_ty (show kitB "str" "tuple" = some false by decide +kernel)
  | byt b => cases h
  | flt b => cases h
  | ref a => cases h
  | ty n => cases h
/-- no tuple: a plain value or a list -/
def NoTup (H : Hp) (v : V) : Prop := flatV v = true ∨ ∃ a xs, v = .ref a ∧ H a = some (.lst xs)
theorem NoTup.kit {K : PySem.W.Frag} {H : Hp} {v : V} (h : NoTup H v) : ∃ t, TyX K H v t ∧ PySem.W.kitOne K t (.type "tuple") = some false := by
  rcases h with h | ⟨a, xs, rfl, h⟩
  · exact ⟨_, ty_flat h, kit_tup h⟩
  · exact ⟨_, .base (.lst h), kit_ty (show kitB "list" "tuple" = some false by decide +kernel)⟩
theorem factV_len {xs : List V} (h : xs.length ≠ 2) (g : xs.length ≠ 3) : factV xs = false := by
  match xs, h, g with
  | [], _, _ => rfl
  | [_], _, _ => rfl
  | [_, _], h, _ => exact absurd rfl h
  | [_, _, _], _, g => exact absurd rfl g
  | _ :: _ :: _ :: _ :: _, _, _ => rfl
theorem in23 (n : Int) : inV (.int n) [.int 2, .int 3] = decide (n = 2 ∨ n = 3) := by
  show ((2 == n) || ((3 == n) || false)) = _
  rw [Bool.or_false, Bool.eq_iff_iff, Bool.or_eq_true, decide_eq_true_eq, beq_iff_eq, beq_iff_eq]
  constructor <;> rintro (h | h) <;> omega
theorem in3s (w a b c : Str) : inV (.str w) [.str a, .str b, .str c] = decide (V.str w = .str a ∨ V.str w = .str b ∨ V.str w = .str c) := by
  show ((a == w) || ((b == w) || ((c == w) || false))) = _
  rw [Bool.or_false, Bool.eq_iff_iff, Bool.or_eq_true, Bool.or_eq_true, decide_eq_true_eq, beq_iff_eq, beq_iff_eq, beq_iff_eq]
  exact ⟨fun h => h.imp (fun z => congrArg V.str z.symm) fun h => h.imp (fun z => congrArg V.str z.symm) fun z => congrArg V.str z.symm, fun h => h.imp (fun z => (V.str.inj z).symm) fun h => h.imp (fun z => (V.str.inj z).symm) fun z => (V.str.inj z).symm⟩
theorem in2s (w a b : Str) : inV (.str w) [.str a, .str b] = (decide (V.str w = .str a) || decide (V.str w = .str b)) := by
  show ((a == w) || ((b == w) || false)) = _
  rw [Bool.or_false, Bool.eq_iff_iff, Bool.or_eq_true, Bool.or_eq_true, decide_eq_true_eq, decide_eq_true_eq, beq_iff_eq, beq_iff_eq]
  exact ⟨fun h => h.imp (fun z => congrArg V.str z.symm) fun z => congrArg V.str z.symm, fun h => h.imp (fun z => (V.str.inj z).symm) fun z => (V.str.inj z).symm⟩
theorem str_of {v : V} (h : isStr v = true) : ∃ x, v = .str x := by
  cases v <;> first | exact ⟨_, rfl⟩ | cases h
theorem name_str {v : V} (h : nameV v = true) : ∃ x, v = .str x := by
  cases v <;> first | exact ⟨_, rfl⟩ | cases h
section
variable {P : Program} {w : World} {K : PySem.W.Frag} {mg : Str → Option Value} {base : Heap}
theorem scFac : FnScope ["fact", "word"] ["fact"] (defScope sFac) := ⟨rfl, rfl, rfl, by decide +kernel, rfl, by decide +kernel, by decide +kernel⟩
/-- is_fact, of a tuple of plain values or of something else -/
def spFac : Sp := fun vs H Q _ => ∃ v : V, vs = [v] ∧ ((∃ a xs, v = .ref a ∧ H a = some (.tup xs) ∧ (∀ x ∈ xs, OkV x) ∧ ∀ H', Same H H' → Q (.bl (factV xs)) H') ∨ (NoTup H v ∧ ∀ H', Same H H' → Q (.bl false) H'))
theorem ok_fact {f : Addr} {fd : FuncData} (F : Fun K "is_fact" "is_fact" sFac f fd) (T : Txt mg) (TN : Has P w K mg base CX0 "is_name" ["value"] 1 spNam) (TA : Has P w K mg base CX0 "is_amount" ["value"] 1 spAmt) : FnOk P w K mg base CX0 2 f fd ["fact"] spFac := by
  obtain ⟨fN, fdN, mN, kN, bN, GN⟩ := TN.ok
  obtain ⟨fA, fdA, mA, kA, bA, GA⟩ := TA.ok
  refine F.ok scFac (fun vs H Q E h => ?_) (fun cdv A outer s H vs Q E hr h => ?_)
  · obtain ⟨v, rfl, _⟩ := h
    rfl
  · obtain ⟨v, rfl, h⟩ := h
    have ix (j : Int) : True := trivial
    refine ⟨_, pss_cons (ps_if (PW.pt (pw_or (pt_not (pt_val (pe_callB call_isi (by rfl) T.isi (by decide +kernel) (pa_cons (pv 0) (pa_cons (pe_bltn (v := .ty "tuple") (u := .type "tuple") (by rfl) T.tuple (by decide +kernel) rfl) pa_nil)))))
          (pw_or1 (pt_cmpR op_notIn_seq (pe_callB call_len_seq (by rfl) T.len PySem.boot_len (pa_cons (pv 0) pa_nil)) (pe_tup (pa_cons pe_int (pa_cons pe_int pa_nil))) (by rfl))))) (pss_one (ps_ret pe_bl)) pss_nil)
      (pss_cons (ps_set (i := 1) scFac.nd rfl (.inl rfl) (pe_ix ix_tup (pv 0) pe_int (fun _ _ => rfl)))
      (pss_cons (ps_if (PW.pt (pw_or (pt_not (pt_val (pe_callB call_isi (by rfl) T.isi (by decide +kernel) (pa_cons (pv 1) (pa_cons (pe_bltn (v := .ty "str") (u := .type "str") (by rfl) T.str (by decide +kernel) rfl) pa_nil)))))
          (pw_or1 (pt_not (pt_val (pe_call GN hr (by rfl) mN kN bN .nil pass0 (pa_cons (pe_ix ix_tup (pv 0) pe_int (fun _ _ => rfl)) pa_nil))))))) (pss_one (ps_ret pe_bl)) pss_nil)
      (pss_cons (ps_if (pt_cmpR op_eq (pe_callB call_len_seq (by rfl) T.len PySem.boot_len (pa_cons (pv 0) pa_nil)) pe_int (nomark _)) (pss_one (ps_ret (pe_cmpR op_eq (pv 1) pe_str (nomark _)))) pss_nil)
      (pss_cons (ps_if (pt_cmpR op_in_seq (pv 1) (pe_tup (pa_cons pe_str (pa_cons pe_str (pa_cons pe_str pa_nil)))) (by rfl))
          (pss_one (ps_ret (pe_and (pe_call GN hr (by rfl) mN kN bN .nil pass0 (pa_cons (pe_ix ix_tup (pv 0) pe_int (fun _ _ => rfl)) pa_nil)) (pe_one (pe_cmpR op_ne (pe_ix ix_tup (pv 0) pe_int (fun _ _ => rfl)) (pe_ix ix_tup (pv 0) pe_int (fun _ _ => rfl)) (nomark _)))))) pss_nil)
      (pss_one (ps_ret (pe_and (pe_cmpR op_in_seq (pv 1) (pe_tup (pa_cons pe_str (pa_cons pe_str pa_nil))) (by rfl)) (pe_one (pe_call GA hr (by rfl) mA kA bA .nil pass0 (pa_cons (pe_ix ix_tup (pv 0) pe_int (fun _ _ => rfl)) pa_nil)))))))))), ?_⟩
    rcases h with ⟨a, xs, rfl, ha, hok, go⟩ | ⟨hv, go⟩
    · refine ⟨_, rfl, _, .ty "tuple", _, _, true, rfl, .ty _, .base (.tup ha), kit_ty (show kitB "tuple" "tuple" = some true by decide +kernel), _, rfl, iteF ?_⟩
      refine ⟨_, rfl, a, xs, rfl, .inr (SqT.of ha), by show 2 ≤ sizeLine; decide, fun T2 n2 => ⟨T2, _, rfl, .inr (SqT.of upd_same), rfl, rfl, _, rfl, ?_⟩⟩
      rw [show (if true = true then !inV (V.int (xs.length : Int)) [V.int 2, V.int 3] else inV (V.int (xs.length : Int)) [V.int 2, V.int 3]) = !inV (V.int (xs.length : Int)) [V.int 2, V.int 3] from if_pos rfl, in23]
      by_cases h23 : xs.length = 2 ∨ xs.length = 3
      · rw [decide_eq_true (show (xs.length : Int) = 2 ∨ (xs.length : Int) = 3 by omega)]
        have s2 : ∀ o, Same H (upd H T2 o) := fun o => same_upd n2
        have a2 : ∀ o, SqT K (upd H T2 o) a xs := fun o => sameT (s2 o) (SqT.of ha)
        obtain ⟨wv, nv, r, rfl⟩ : ∃ wv nv r, xs = wv :: nv :: r := by
          match xs, h23 with
          | wv :: nv :: r, _ => exact ⟨wv, nv, r, rfl⟩
          | [], h => simp at h
          | [_], h => simp at h
        have okw := hok wv List.mem_cons_self
        have okn := hok nv (List.mem_cons_of_mem _ List.mem_cons_self)
        refine iteF ⟨_, rfl, a, _, 0, wv, rfl, rfl, a2 _, atI_nat (j := 0) rfl, ?_⟩
        refine ⟨_, rfl, wv, .ty "str", _, _, _, rfl, .ty _, ty_flat okw.fl, kit_str okw.fl, _, rfl, ?_⟩
        have dead (e : isStr wv = false ∨ nameV nv = false) : ∀ H', Same H H' → Q (.bl false) H' := fun H' sm => by
          have en : factV (wv :: nv :: r) = false := by
            match r, h23 with
            | [], _ =>
              show (isStr wv && nameV nv && _) = false
              rcases e with e | e <;> rw [e] <;> simp
            | [z], _ =>
              show (isStr wv && nameV nv && _) = false
              rcases e with e | e <;> rw [e] <;> simp
            | _ :: _ :: _, h => simp at h
          rw [en] at go
          exact go H' sm
        cases ew : isStr wv with
        | false => exact dead (.inl ew) _ (s2 _)
        | true =>
          obtain ⟨wx, rfl⟩ := str_of ew
          refine iteF ⟨_, rfl, a, _, 1, nv, rfl, rfl, a2 _, atI_nat (j := 1) rfl, nv, rfl, okn, fun H3 sm3 => ⟨_, rfl, ?_⟩⟩
          have sm3' : Same H H3 := (s2 _).trans sm3
          have a3 : SqT K H3 a (.str wx :: nv :: r) := sameT sm3 (a2 _)
          cases en : nameV nv with
          | false => exact dead (.inr en) _ sm3'
          | true =>
            obtain ⟨nx, rfl⟩ := name_str en
            refine iteF ⟨_, rfl, a, _, rfl, .inr a3, rfl, _, rfl, ?_⟩
            match r, h23 with
            | [], _ =>
              refine iteT ⟨_, rfl, rfl, ?_⟩
              have ev : factV [.str wx, .str nx] = decide (V.str wx = .str "renounced") := by
                show (isStr (.str wx) && nameV (.str nx) && _) = _
                rw [en]
                rfl
              rw [ev] at go
              exact go H3 sm3'
            | [z], _ =>
              have okz := hok z (List.mem_cons_of_mem _ (List.mem_cons_of_mem _ List.mem_cons_self))
              have ev : factV [.str wx, .str nx, z] = threeV (.str wx) (.str nx) z := by
                show (isStr (.str wx) && nameV (.str nx) && _) = _
                rw [en]
                rfl
              rw [ev] at go
              refine iteF ⟨_, rfl, by show 3 ≤ sizeLine; decide, fun T4 n4 => ⟨T4, _, rfl, .inr (SqT.of upd_same), rfl, rfl, _, rfl, ?_⟩⟩
              have sm4 : ∀ o, Same H3 (upd H3 T4 o) := fun o => same_upd n4
              have a4 : ∀ o, SqT K (upd H3 T4 o) a [.str wx, .str nx, z] := fun o => sameT (sm4 o) a3
              rw [show (if false = true then !inV (V.str wx) [V.str "child", V.str "wed", V.str "parted"] else inV (V.str wx) [V.str "child", V.str "wed", V.str "parted"]) = inV (V.str wx) [V.str "child", V.str "wed", V.str "parted"] from if_neg (by decide), in3s]
              by_cases c : V.str wx = .str "child" ∨ V.str wx = .str "wed" ∨ V.str wx = .str "parted"
              · rw [decide_eq_true c]
                have e3 : threeV (.str wx) (.str nx) z = (nameV z && !decide (V.str nx = z)) := by
                  unfold threeV
                  rw [if_pos c]
                rw [e3] at go
                refine iteT ⟨_, rfl, a, _, 2, z, rfl, rfl, a4 _, atI_nat (j := 2) rfl, z, rfl, okz, fun H5 sm5 => ⟨_, rfl, ?_⟩⟩
                have sm5' := sm3'.trans ((sm4 _).trans sm5)
                cases ez : nameV z with
                | false =>
                  rw [ez] at go
                  exact go H5 sm5'
                | true =>
                  rw [ez] at go
                  obtain ⟨zx, rfl⟩ := name_str ez
                  have a5 := sameT sm5 (a4 _)
                  exact iteT ⟨_, rfl, a, _, 1, _, rfl, rfl, a5, atI_nat (j := 1) rfl, _, rfl, a, _, 2, _, rfl, rfl, a5, atI_nat (j := 2) rfl, rfl, go H5 sm5'⟩
              · rw [decide_eq_false c]
                have e3 : threeV (.str wx) (.str nx) z = ((decide (V.str wx = .str "died") || decide (V.str wx = .str "advance")) && amtV z) := by
                  unfold threeV
                  rw [if_neg c]
                rw [e3] at go
                refine iteF ⟨_, rfl, by show 2 ≤ sizeLine; decide, fun T6 n6 => ⟨T6, _, rfl, .inr (SqT.of upd_same), rfl, rfl, _, rfl, ?_⟩⟩
                have sm6 : ∀ o', Same (upd H3 T4 (.tup [.str "child", .str "wed", .str "parted"])) (upd (upd H3 T4 (.tup [.str "child", .str "wed", .str "parted"])) T6 o') := fun o' => same_upd n6
                rw [show (if false = true then !inV (V.str wx) [V.str "died", V.str "advance"] else inV (V.str wx) [V.str "died", V.str "advance"]) = inV (V.str wx) [V.str "died", V.str "advance"] from if_neg (by decide), in2s]
                cases ed : (decide (V.str wx = .str "died") || decide (V.str wx = .str "advance")) with
                | false =>
                  rw [ed] at go
                  exact iteF (go _ (sm3'.trans ((sm4 _).trans (sm6 _))))
                | true =>
                  rw [ed] at go
                  exact iteT ⟨_, rfl, a, _, 2, z, rfl, rfl, sameT (sm6 _) (a4 _), atI_nat (j := 2) rfl, z, rfl, okz.fl, go _ (sm3'.trans ((sm4 _).trans (sm6 _)))⟩
            | _ :: _ :: _, h => simp at h
      · rw [decide_eq_false (show ¬ ((xs.length : Int) = 2 ∨ (xs.length : Int) = 3) by omega)]
        have en := factV_len (xs := xs) (fun z => h23 (.inl z)) fun z => h23 (.inr z)
        rw [en] at go
        exact iteT (go _ (same_upd n2))
    · obtain ⟨t, ht, hk⟩ := hv.kit (K := K)
      exact ⟨_, rfl, v, .ty "tuple", _, _, _, rfl, .ty _, ht, hk, _, rfl, iteT (go H (Same.refl H))⟩
end
end ZF
namespace G
open PySem L2 PyProof.Rows PySem.Spec SrtO
/-! texts in order, any number of them -/
def leT (a b : Str) : Bool := !decide (b.cps.toList < a.cps.toList)
/-- the texts of a list, ascending -/
def srt (l : List Str) : List Str := l.mergeSort leT
theorem leT_iff {a b : Str} : leT a b = true ↔ ¬ b.cps.toList < a.cps.toList := by
  unfold leT
  simp
theorem leT_trans (a b c : Str) (h : leT a b = true) (g : leT b c = true) : leT a c = true :=
  leT_iff.mpr (List.not_lt.mpr (List.le_trans (List.not_lt.mp (leT_iff.mp h)) (List.not_lt.mp (leT_iff.mp g))))
theorem leT_total (a b : Str) : (leT a b || leT b a) = true := by
  by_cases h : b.cps.toList < a.cps.toList
  · rw [leT_iff.mpr (List.lt_asymm h), Bool.or_true]
  · rw [leT_iff.mpr h, Bool.true_or]
theorem leT_anti {a b : Str} (h : leT a b = true) (g : leT b a = true) : a = b :=
  str_ext (List.le_antisymm (List.not_lt.mp (leT_iff.mp h)) (List.not_lt.mp (leT_iff.mp g)))
theorem srt_perm (l : List Str) : (srt l).Perm l := List.mergeSort_perm l leT
theorem srt_pw (l : List Str) : (srt l).Pairwise fun a b => leT a b = true := List.pairwise_mergeSort leT_trans leT_total l
theorem srt_one {l m : List Str} (p : m.Perm l) (s : m.Pairwise fun a b => leT a b = true) : m = srt l :=
  (p.trans (srt_perm l).symm).eq_of_pairwise (fun _ _ _ _ h g => leT_anti h g) s (srt_pw l)
theorem srt_mem {l : List Str} {x : Str} : x ∈ srt l ↔ x ∈ l := (srt_perm l).mem_iff
theorem srt_len (l : List Str) : (srt l).length = l.length := (srt_perm l).length_eq
/-- the text of a value -/
def tx : Value → Str
  | .str x _ => x
  | _ => Str.empty
def ltTv (v u : Value) : Bool := decide ((tx v).cps.toList < (tx u).cps.toList)
theorem swoT : Swo ltTv := by
  refine ⟨fun x y h => ?_, fun x y z h1 h2 => ?_⟩
  · exact decide_eq_false (List.lt_asymm (of_decide_eq_true h))
  · have a : ¬ (tx y).cps.toList < (tx x).cps.toList := of_decide_eq_false h1
    have b : ¬ (tx z).cps.toList < (tx y).cps.toList := of_decide_eq_false h2
    exact decide_eq_false (List.not_lt.mpr (List.le_trans (List.not_lt.mp a) (List.not_lt.mp b)))
section
variable {prog : Program} {w : World} {A : Around} {s : Shared}
theorem cmpT {vs : List Value} (hT : ∀ v ∈ vs, ∃ x t, v = Value.str x t) : Cmp prog w A s oneType' (fun p => p.1 ∈ vs) (lt2 ltTv) := by
  intro p q hm hm'
  obtain ⟨x, t, e⟩ := hT _ hm
  obtain ⟨y, u, e'⟩ := hT _ hm'
  show wpAny (model prog w) A (keyLt' oneType' p.1 q.1) (fun r s' => s' = s ∧ r = ltTv p.1 q.1) (fun _ _ => False) s
  rw [e, e']
  exact PySem.W.kas_lt_str ⟨rfl, rfl⟩
theorem sortableT {a : Addr} {vs : List Value} {ss : List Str} (hT : StrsAre vs ss) (h2 : 2 ≤ vs.length) : SortableO prog w A s a vs ltTv := by
  intro h' _
  refine ⟨oneType', fun Q E hq => ?_, cmpT fun v hv => hT.all v hv⟩
  match vs, hT, h2 with
  | v1 :: v2 :: rest, hT, _ =>
    rw [keyKind_strs hT]
    exact wpAny_pure hq
  | [], _, h => exact absurd h (by decide)
  | [v], _, h => exact absurd h (by simp)
end
theorem tx_strs : ∀ {vs : List Value} {ss : List Str}, StrsAre vs ss → vs.map tx = ss
  | _, _, .nil => rfl
  | _, _, .cons x t r => congrArg (x :: ·) (tx_strs r)
theorem tx_vals : ∀ {vs : List Value}, (∀ v ∈ vs, ∃ x t, v = Value.str x t) → Vals ((vs.map tx).map V.str) vs
  | [], _ => .nil
  | v :: vs, h => by
    obtain ⟨x, t, rfl⟩ := h v List.mem_cons_self
    exact .cons ⟨t, rfl⟩ (tx_vals fun u hu => h u (List.mem_cons_of_mem _ hu))
theorem strs_vals : ∀ {zs : List Str} {vs : List Value}, Vals (zs.map V.str) vs → StrsAre vs zs
  | [], _, .nil => .nil
  | z :: zs, _, .cons ⟨t, e⟩ r => by
    subst e
    exact .cons z t (strs_vals r)
theorem srt_out {vs out : List Value} {zs : List Str} (hT : StrsAre vs zs) (hs : Srtd ltTv out) (hb : Stb ltTv out vs) : out.map tx = srt zs ∧ Vals ((srt zs).map V.str) out := by
  have e : out.map tx = srt zs := by
    refine srt_one ?_ ?_
    · rw [← tx_strs hT]
      exact hb.perm.map tx
    · refine List.pairwise_map.mpr (hs.imp fun {a b} h => ?_)
      exact leT_iff.mpr (of_decide_eq_false h)
  refine ⟨e, ?_⟩
  rw [← e]
  exact tx_vals fun v hv => hT.all v (hb.perm.mem_iff.mp hv)
/-- sorted(xs), xs a list of texts -/
def rSortTx (K : PySem.W.Frag) : List V → Hp → VK → Prop := fun vs H Q => ∃ (a : Addr) (zs : List Str), vs = [V.ref a] ∧ SqL K H a (zs.map V.str) ∧ ∀ p, H p = none → Q (.ref p) (upd H p (.lst ((srt zs).map V.str)))
section
variable {X : Cx}
theorem cr_sortTx : CallR X (.builtin "sorted") (rSortTx X.K) := by
  intro pins s σ H vs us Q I r h
  obtain ⟨a, zs, rfl, hs, go⟩ := h
  obtain ⟨its, rv, hl, hz⟩ := I.list hs
  obtain ⟨u, rfl, ru⟩ := vals1 r
  obtain rfl : u = Value.ref a := ru
  have hT := strs_vals rv
  refine sorted_ord swoT hl.isList (by rw [← rv.length]; exact hz) (fun h2 h₁ b _ _ => sortableT hT h2) fun out h1 h2 => ?_
  obtain ⟨e1, e2⟩ := srt_out hT h1 h2
  obtain ⟨ep, he⟩ := sortedAll_at s.heap its out.toArray
  refine ⟨.ref _, upd H (s.heap.objs.size + 1) (.lst ((srt zs).map V.str)), I.laid (t' := s.toks) (fun _ _ => sortedAll_old) (Nat.le_succ _) ⟨?_, out, ep, e2, he⟩, rfl, go _ (I.hok.fresh (Nat.le_succ _))⟩
  rw [List.length_map, srt_len]
  rw [List.length_map] at hz
  exact hz
/-- sorted(d), d a dict of texts -/
def rSortTxD : List V → Hp → VK → Prop := fun vs H Q => ∃ (a : Addr) (kvs : List (Key × V)) (ks : List Str), vs = [V.ref a] ∧ Rd H a (.dK kvs) ∧ kvs.map (·.1) = ks.map Sum.inr ∧ ∀ p, H p = none → Q (.ref p) (upd H p (.lst ((srt ks).map V.str)))
theorem cr_sortTxD (calm : X.calm = true) : CallR X (.builtin "sorted") rSortTxD := by
  intro pins s σ H xs us Q I r h
  obtain ⟨a, kvs, ks, rfl, hd, hks, go⟩ := h
  obtain ⟨u, rfl, ru⟩ := vals1 r
  obtain rfl : u = Value.ref a := ru
  obtain ⟨z, lo, vs, rel, dd⟩ := dk_rd I.hok hd
  obtain ⟨ep, hat⟩ := dd.dictAt
  have hkeys : vs.map (·.1) = ks.map Sum.inr := rel.keys.symm.trans hks
  have hl : vs.length = ks.length := by
    have e := congrArg List.length hkeys
    rwa [List.length_map, List.length_map] at e
  have hz : vs.length ≤ sizeLine := by
    rw [← (Paired.length rel)]
    exact z
  refine Calls.call_function_entry PyProof.Rows.kind_sorted PyProof.Rows.plain_sorted PyProof.Rows.entry_sorted (PyProof.Rows.args_sorted1 _) ?_
  unfold Builtin.«sorted»
  refine wpAny_bind (m := checkCount "sorted" 1 1 _) (wpAny_pure ?_)
  refine wpAny_bind (PySem.W.kdu_collect (A := X.A.in1) (PySem.W.kdl_dict (knd := mixKind X.prog X.w) (kvs := vs) (ep := ep) lo) (I.ok.hd calm) hat hz fun h' tk acc keep items => ?_)
  have hal : acc.toList.length = ks.length := by rw [Array.length_toList, items.1, hl]
  have hT : StrsAre acc.toList ks := strs_at hal fun j v e => by
    obtain ⟨k, x, g1, g2⟩ := items.2 j v (by rw [← Array.getElem?_toList]; exact e)
    have g3 : (vs.map (·.1))[j]? = some k := by rw [List.getElem?_map, g1] <;> rfl
    rw [hkeys, List.getElem?_map] at g3
    cases g4 : ks[j]? with
    | none =>
      rw [g4] at g3
      cases g3
    | some y =>
      rw [g4] at g3
      obtain rfl : Sum.inr y = k := Option.some.inj g3
      obtain ⟨t, ev⟩ := Value.isStrOf_shape (x := y) (v := v) g2
      exact ⟨y, t, rfl, ev⟩
  have I1 : Inv X pins σ H { s with heap := h', toks := tk } := I.kept keep
  refine wpAny_bind (wpAny_newList ?_ (by rw [hal, ← hl]; exact hz))
  have there : (h'.push (seqObj "list" acc.toList.toArray 0)).get? h'.objs.size = some (seqObj "list" acc.toList.toArray 0) := Heap.get?_push_size _ rfl
  show wpAny _ _ _ _ _ { s with heap := h'.push (seqObj "list" acc.toList.toArray 0), toks := tk }
  refine wpAny_bind (wpAny_holding (wpAny_call_entry PyProof.Rows.slot_list_sort ⟨_, there, rfl⟩ PyProof.Rows.entry_list_sort
    (list_sort_ord (s := { s with heap := h'.push (seqObj "list" acc.toList.toArray 0), toks := tk }) swoT there (by rw [hal, ← hl]; exact hz) (fun h2 => sortableT hT h2) fun out h1 h2 => ⟨_, rfl, ?_⟩) (PyProof.Rows.args_list_sort _)))
  obtain ⟨e1, e2⟩ := srt_out hT h1 h2
  obtain ⟨e', he'⟩ := PyProof.Rows.sortedHeap_at (vs := acc.toList) (out := out.toArray) there
  refine wpAny_pure ⟨_, rfl, .ref h'.objs.size, upd H h'.objs.size (.lst ((srt ks).map V.str)), I1.laid (t' := tk) (fun b u e => ?_) (Nat.le_refl _) ⟨?_, out, e', e2, he'⟩, rfl, go _ (I1.hok.fresh (Nat.le_refl _))⟩
  · have hb : b < h'.objs.size := Heap.lt_size e
    rw [PyProof.Rows.sortedHeap_old (Nat.ne_of_lt hb) (by rw [size_push']; exact Nat.lt_succ_of_lt hb)]
    exact Heap.get?_push_of_some _ e
  · rw [List.length_map, srt_len, ← hl]
    exact hz
end
end G
namespace G
open PySem L2 PyProof.Rows PySem.Spec
/-! what a family knows -/
structure Fm where
  ch : Str → List Str
  pa : Str → List Str
  we : Str → List Str
  pt : Str → List Str
  dy : Str → Option Int
  rn : Str → Bool
  ad : Str → Option Int
def Fm.none : Fm := ⟨fun _ => [], fun _ => [], fun _ => [], fun _ => [], fun _ => Option.none, fun _ => false, fun _ => Option.none⟩
/-- one more name, if it is not there -/
def jn (zs : List Str) (x : Str) : List Str := if x ∈ zs then zs else srt (zs ++ [x])
def up {α : Type} (f : Str → α) (k : Str) (y : α) : Str → α := fun j => if j = k then y else f j
theorem up_same {α : Type} {f : Str → α} {k : Str} {y : α} : up f k y k = y := if_pos rfl
theorem up_ne {α : Type} {f : Str → α} {k j : Str} {y : α} (h : j ≠ k) : up f k y j = f j := if_neg h
inductive Fct where
  | child (c p : Str) | wed (a b : Str) | parted (a b : Str) | died (a : Str) (d : Int) | renounced (a : Str) | advance (a : Str) (n : Int)
  deriving DecidableEq
/-- what a fact's tuple holds -/
def Fct.vs : Fct → List V
  | .child c p => [.str "child", .str c, .str p]
  | .wed a b => [.str "wed", .str a, .str b]
  | .parted a b => [.str "parted", .str a, .str b]
  | .died a d => [.str "died", .str a, .int d]
  | .renounced a => [.str "renounced", .str a]
  | .advance a n => [.str "advance", .str a, .int n]
def both (f : Str → List Str) (a b : Str) : Str → List Str := up (up f a (jn (f a) b)) b (jn (up f a (jn (f a) b) b) a)
def Fm.learn (F : Fm) : Fct → Fm
  | .child c p => { F with pa := up F.pa c (jn (F.pa c) p), ch := up F.ch p (jn (F.ch p) c) }
  | .wed a b => { F with we := both F.we a b }
  | .parted a b => { F with pt := both F.pt a b }
  | .died a d => { F with dy := up F.dy a (some d) }
  | .renounced a => { F with rn := up F.rn a true }
  | .advance a n => { F with ad := up F.ad a (some ((F.ad a).getD 0 + n)) }
/-- a third parent, another day of death -/
def Fm.bad (F : Fm) : Fct → Bool
  | .child c p => decide ((F.pa c).length = 2) && !decide (p ∈ F.pa c)
  | .died a d => !decide ((F.dy a).getD d = d)
  | _ => false
theorem jn_len (zs : List Str) (x : Str) : (jn zs x).length ≤ zs.length + 1 := by
  unfold jn
  split
  · omega
  · rw [srt_len, List.length_append]
    exact Nat.le_refl _
theorem jn_mem {zs : List Str} {x y : Str} : y ∈ jn zs x ↔ y ∈ zs ∨ y = x := by
  unfold jn
  split
  · next h => exact ⟨.inl, fun g => g.elim id fun e => e ▸ h⟩
  · rw [srt_mem, List.mem_append, List.mem_singleton]
theorem jn_ne {zs : List Str} {x : Str} : jn zs x ≠ [] := fun e => by
  have : x ∈ jn zs x := jn_mem.mpr (.inr rfl)
  rw [e] at this
  cases this
/-! tables of texts -/
/-- a dict of texts: its pairs, few of them -/
structure Dt (H : Hp) (d : Addr) (n : Nat) (kvs : List (Key × V)) : Prop where
  dk : H d = some (.dK kvs)
  ks : ∃ l : List Str, kvs.map (·.1) = l.map Sum.inr ∧ l.Nodup
  ln : kvs.length ≤ n
theorem putK_len (kvs : List (Key × V)) (k : Key) (v : V) : (putK kvs k v).length ≤ kvs.length + 1 := by
  unfold putK
  split
  · rw [List.length_map]
    omega
  · rw [List.length_append]
    exact Nat.le_refl _
theorem putK_keys (kvs : List (Key × V)) (k : Str) (v : V) {l : List Str} (h : kvs.map (·.1) = l.map Sum.inr) (nd : l.Nodup) : ∃ m : List Str, (putK kvs (Sum.inr k) v).map (·.1) = m.map Sum.inr ∧ m.Nodup := by
  cases e : valV kvs (Sum.inr k : Key) with
  | none =>
    refine ⟨l ++ [k], ?_, List.nodup_append.mpr ⟨nd, List.pairwise_singleton _ _, fun a ha b hb z => ?_⟩⟩
    · rw [putK_new v e, List.map_append, List.map_append, h]
      rfl
    · rw [List.mem_singleton.mp hb] at z
      have m := valV_not e
      rw [h] at m
      exact m (List.mem_map.mpr ⟨a, ha, congrArg Sum.inr z⟩)
  | some x =>
    refine ⟨l, ?_, nd⟩
    have e2 : putK kvs (Sum.inr k : Key) v = kvs.map fun kv => if kv.1 = (Sum.inr k : Key) then (kv.1, v) else kv := by
      unfold putK
      rw [valV_any, e]
      rfl
    rw [← h, e2, List.map_map]
    refine List.map_congr_left fun p _ => ?_
    show (if p.1 = Sum.inr k then (p.1, v) else p).1 = p.1
    split <;> rfl
theorem Dt.put {H H' : Hp} {d : Addr} {n : Nat} {kvs : List (Key × V)} (D : Dt H d n kvs) {k : Str} {v : V} (h : H' d = some (.dK (putK kvs (Sum.inr k) v))) : Dt H' d (n + 1) (putK kvs (Sum.inr k) v) := by
  obtain ⟨l, e, nd⟩ := D.ks
  exact ⟨h, putK_keys kvs k v e nd, Nat.le_trans (putK_len _ _ _) (Nat.succ_le_succ D.ln)⟩
/-- a table of lists of texts -/
structure TabL (H : Hp) (d : Addr) (n : Nat) (f : Str → List Str) : Prop where
  ex : ∃ kvs, Dt H d n kvs ∧ ∀ k, (f k = [] ∧ valV kvs (Sum.inr k : Key) = Option.none) ∨ (f k ≠ [] ∧ ∃ l, valV kvs (Sum.inr k : Key) = some (.ref l) ∧ H l = some (.lst ((f k).map V.str)))
/-- a table of plain values -/
structure TabV (H : Hp) (d : Addr) (n : Nat) (f : Str → Option V) : Prop where
  ex : ∃ kvs, Dt H d n kvs ∧ ∀ k, valV kvs (Sum.inr k : Key) = f k
theorem Dt.keep {H H' : Hp} {d : Addr} {n : Nat} {kvs : List (Key × V)} (D : Dt H d n kvs) (h : H' d = some (.dK kvs)) : Dt H' d n kvs := ⟨h, D.ks, D.ln⟩
theorem Dt.mono {H : Hp} {d : Addr} {n m : Nat} {kvs : List (Key × V)} (D : Dt H d n kvs) (h : n ≤ m) : Dt H d m kvs := ⟨D.dk, D.ks, Nat.le_trans D.ln h⟩
theorem TabL.mono {H : Hp} {d : Addr} {n m : Nat} {f : Str → List Str} (T : TabL H d n f) (h : n ≤ m) : TabL H d m f := by
  obtain ⟨kvs, D, g⟩ := T.ex
  exact ⟨kvs, D.mono h, g⟩
theorem TabV.mono {H : Hp} {d : Addr} {n m : Nat} {f : Str → Option V} (T : TabV H d n f) (h : n ≤ m) : TabV H d m f := by
  obtain ⟨kvs, D, g⟩ := T.ex
  exact ⟨kvs, D.mono h, g⟩
/-- all but the dict at a stays -/
def But (a : Addr) (H H' : Hp) : Prop := ∀ b o, H b = some o → b ≠ a → H' b = some o
theorem But.of_same {a : Addr} {H H' : Hp} (s : Same H H') : But a H H' := fun b o h _ => s b o h
theorem But.trans {a : Addr} {H H1 H2 : Hp} (s : But a H H1) (t : But a H1 H2) : But a H H2 := fun b o h g => t b o (s b o h g) g
theorem TabL.keep {H H' : Hp} {a d : Addr} {n : Nat} {f : Str → List Str} {ks : List (Key × V)} (T : TabL H d n f) (s : But a H H') (ha : H a = some (.dK ks)) (h : d ≠ a) : TabL H' d n f := by
  obtain ⟨kvs, D, g⟩ := T.ex
  refine ⟨kvs, D.keep (s _ _ D.dk h), fun k => ?_⟩
  rcases g k with g | ⟨g1, l, g2, g3⟩
  · exact .inl g
  · exact .inr ⟨g1, l, g2, s _ _ g3 (ne_of g3 ha (by intro e; cases e))⟩
theorem TabL.same {H H' : Hp} {d : Addr} {n : Nat} {f : Str → List Str} (T : TabL H d n f) (s : Same H H') : TabL H' d n f := by
  obtain ⟨kvs, D, g⟩ := T.ex
  refine ⟨kvs, D.keep (s _ _ D.dk), fun k => ?_⟩
  rcases g k with g | ⟨g1, l, g2, g3⟩
  · exact .inl g
  · exact .inr ⟨g1, l, g2, s _ _ g3⟩
theorem TabV.same {H H' : Hp} {d : Addr} {n : Nat} {f : Str → Option V} (T : TabV H d n f) (s : Same H H') : TabV H' d n f := by
  obtain ⟨kvs, D, g⟩ := T.ex
  exact ⟨kvs, D.keep (s _ _ D.dk), g⟩
theorem TabV.keep {H H' : Hp} {a d : Addr} {n : Nat} {f : Str → Option V} (T : TabV H d n f) (s : But a H H') (h : d ≠ a) : TabV H' d n f := by
  obtain ⟨kvs, D, g⟩ := T.ex
  exact ⟨kvs, D.keep (s _ _ D.dk h), g⟩
/-- d[k] = the list at l -/
theorem TabL.put {H H' : Hp} {d l : Addr} {n : Nat} {f : Str → List Str} {kvs : List (Key × V)} {k : Str} {zs : List Str} (D : Dt H d n kvs) (g : ∀ k, (f k = [] ∧ valV kvs (Sum.inr k : Key) = Option.none) ∨ (f k ≠ [] ∧ ∃ l, valV kvs (Sum.inr k : Key) = some (.ref l) ∧ H l = some (.lst ((f k).map V.str))))
    (s : But d H H') (hd : H' d = some (.dK (putK kvs (Sum.inr k) (.ref l)))) (hl : H' l = some (.lst (zs.map V.str))) (ne : zs ≠ []) : TabL H' d (n + 1) (up f k zs) := by
  refine ⟨_, D.put hd, fun j => ?_⟩
  rw [valV_put]
  by_cases e : j = k
  · subst e
    rw [up_same, if_pos rfl]
    exact .inr ⟨ne, l, rfl, hl⟩
  · rw [up_ne e, if_neg fun z => e (Sum.inr.inj z)]
    rcases g j with g | ⟨g1, m, g2, g3⟩
    · exact .inl g
    · exact .inr ⟨g1, m, g2, s _ _ g3 (ne_of g3 D.dk (by intro e; cases e))⟩
theorem TabV.put {H H' : Hp} {d : Addr} {n : Nat} {f : Str → Option V} {kvs : List (Key × V)} {k : Str} {v : V} (D : Dt H d n kvs) (g : ∀ k, valV kvs (Sum.inr k : Key) = f k) (hd : H' d = some (.dK (putK kvs (Sum.inr k) v))) : TabV H' d (n + 1) (up f k (some v)) := by
  refine ⟨_, D.put hd, fun j => ?_⟩
  rw [valV_put]
  by_cases e : j = k
  · subst e
    rw [up_same, if_pos rfl]
  · rw [up_ne e, if_neg fun z => e (Sum.inr.inj z)]
    exact g j
/-! the object -/
def flds (a1 a2 a3 a4 a5 a6 a7 : Addr) : List (Str × V) := [("_children", .ref a1), ("_parents", .ref a2), ("_wed", .ref a3), ("_parted", .ref a4), ("_days", .ref a5), ("_renounced", .ref a6), ("_advances", .ref a7)]
section
variable {a1 a2 a3 a4 a5 a6 a7 : Addr}
theorem fl_1 : (flds a1 a2 a3 a4 a5 a6 a7).lookup ("_children" : Str) = some (.ref a1) := by kernel_rfl
theorem fl_2 : (flds a1 a2 a3 a4 a5 a6 a7).lookup ("_parents" : Str) = some (.ref a2) := by kernel_rfl
theorem fl_3 : (flds a1 a2 a3 a4 a5 a6 a7).lookup ("_wed" : Str) = some (.ref a3) := by kernel_rfl
theorem fl_4 : (flds a1 a2 a3 a4 a5 a6 a7).lookup ("_parted" : Str) = some (.ref a4) := by kernel_rfl
theorem fl_5 : (flds a1 a2 a3 a4 a5 a6 a7).lookup ("_days" : Str) = some (.ref a5) := by kernel_rfl
theorem fl_6 : (flds a1 a2 a3 a4 a5 a6 a7).lookup ("_renounced" : Str) = some (.ref a6) := by kernel_rfl
theorem fl_7 : (flds a1 a2 a3 a4 a5 a6 a7).lookup ("_advances" : Str) = some (.ref a7) := by kernel_rfl
end
/-- a family stands at p: its class C, what it knows F, in tables of at most n pairs -/
structure FamAt (C : Addr) (H : Hp) (p : Addr) (n : Nat) (F : Fm) : Prop where
  ex : ∃ dx a1 a2 a3 a4 a5 a6 a7, H p = some (.ins C dx (flds a1 a2 a3 a4 a5 a6 a7)) ∧ TabL H a1 n F.ch ∧ TabL H a2 n F.pa ∧ TabL H a3 n F.we ∧ TabL H a4 n F.pt ∧ TabV H a5 n (fun k => (F.dy k).map V.int) ∧
    TabV H a6 n (fun k => if F.rn k = true then some (.bl true) else Option.none) ∧ TabV H a7 n (fun k => (F.ad k).map V.int) ∧ [a1, a2, a3, a4, a5, a6, a7].Nodup
theorem FamAt.same {C : Addr} {H H' : Hp} {p : Addr} {n : Nat} {F : Fm} (T : FamAt C H p n F) (s : Same H H') : FamAt C H' p n F := by
  obtain ⟨dx, a1, a2, a3, a4, a5, a6, a7, hp, t1, t2, t3, t4, t5, t6, t7, nd⟩ := T.ex
  exact ⟨dx, a1, a2, a3, a4, a5, a6, a7, s _ _ hp, t1.same s, t2.same s, t3.same s, t4.same s, t5.same s, t6.same s, t7.same s, nd⟩
theorem FamAt.mono {C : Addr} {H : Hp} {p : Addr} {n m : Nat} {F : Fm} (T : FamAt C H p n F) (h : n ≤ m) : FamAt C H p m F := by
  obtain ⟨dx, a1, a2, a3, a4, a5, a6, a7, hp, t1, t2, t3, t4, t5, t6, t7, nd⟩ := T.ex
  exact ⟨dx, a1, a2, a3, a4, a5, a6, a7, hp, t1.mono h, t2.mono h, t3.mono h, t4.mono h, t5.mono h, t6.mono h, t7.mono h, nd⟩
end G
namespace ZF
open PySem L2 PyProof.Rows G
/-- the class Family as the top has made it -/
structure FT (K : PySem.W.Frag) (C : Addr) : Prop where
  cl : Cls K C
  n1 : NoAttr K C "_children"
  n2 : NoAttr K C "_parents"
  n3 : NoAttr K C "_wed"
  n4 : NoAttr K C "_parted"
  n5 : NoAttr K C "_days"
  n6 : NoAttr K C "_renounced"
  n7 : NoAttr K C "_advances"
/-- d.get(k, []) of a table of lists: what comes is a list of the texts -/
theorem tl_get {H : Hp} {a : Addr} {n : Nat} {f : Str → List Str} (T : TabL H a n f) (k : Str) {e : Addr} (he : H e = none) :
    ∃ o, DGet (upd H e (.lst [])) a (.str k) o ∧ ∃ l, o.getD (.ref e) = .ref l ∧ upd H e (.lst []) l = some (.lst ((f k).map V.str)) := by
  obtain ⟨kvs, D, g⟩ := T.ex
  have ae : a ≠ e := ne_of_none D.dk he
  have hd : upd H e (.lst []) a = some (.dK kvs) := by
    rw [upd_ne ae]
    exact D.dk
  rcases g k with ⟨g1, g2⟩ | ⟨g1, l, g2, g3⟩
  · refine ⟨none, .inl ⟨kvs, Sum.inr k, .inl hd, rfl, g2.symm⟩, e, rfl, ?_⟩
    rw [upd_same, g1]
    rfl
  · refine ⟨some (.ref l), .inl ⟨kvs, Sum.inr k, .inl hd, rfl, g2.symm⟩, l, rfl, ?_⟩
    rw [upd_ne (ne_of_none g3 he)]
    exact g3
theorem TabL.isD {H : Hp} {a : Addr} {n : Nat} {f : Str → List Str} (T : TabL H a n f) : IsD H a := by
  obtain ⟨kvs, D, g⟩ := T.ex
  exact .inl ⟨kvs, .inl D.dk⟩
theorem TabV.isD {H : Hp} {a : Addr} {n : Nat} {f : Str → Option V} (T : TabV H a n f) : IsD H a := by
  obtain ⟨kvs, D, g⟩ := T.ex
  exact .inl ⟨kvs, .inl D.dk⟩
theorem TabV.get {H : Hp} {a : Addr} {n : Nat} {f : Str → Option V} (T : TabV H a n f) (k : Str) : DGet H a (.str k) (f k) := by
  obtain ⟨kvs, D, g⟩ := T.ex
  exact .inl ⟨kvs, Sum.inr k, .inl D.dk, rfl, (g k).symm⟩
section
variable {P : Program} {w : World} {K : PySem.W.Frag} {mg : Str → Option Value} {base : Heap}
theorem scJoi : FnScope ["names", "name"] ["names", "name"] (defScope sJoi) := ⟨rfl, rfl, rfl, by decide +kernel, rfl, by decide +kernel, by decide +kernel⟩
theorem inV_str (x : Str) (zs : List Str) : inV (.str x) (zs.map V.str) = decide (x ∈ zs) := by
  unfold inV
  rw [List.any_map, Bool.eq_iff_iff, List.any_eq_true, decide_eq_true_eq]
  constructor
  · rintro ⟨y, hy, e⟩
    have e2 : (y == x) = true := e
    rw [← (beq_iff_eq.mp e2)]
    exact hy
  · intro h
    exact ⟨x, h, beq_self_eq_true x⟩
theorem flat_strs (zs : List Str) : (zs.map V.str).all flatV = true := by
  rw [List.all_map]
  exact List.all_eq_true.mpr fun _ _ => rfl
/-- _joined: the list itself, or a new one -/
def spJoi (K : PySem.W.Frag) : Sp := fun vs H Q _ => ∃ (l : Addr) (zs : List Str) (x : Str), vs = [.ref l, .str x] ∧ H l = some (.lst (zs.map V.str)) ∧ zs.length ≤ 900 ∧ ∀ p H', Same H H' → H' p = some (.lst ((jn zs x).map V.str)) → Q (.ref p) H'
theorem ok_joined {f : Addr} {fd : FuncData} (F : Fun K "_joined" "_joined" sJoi f fd) (T : Txt mg) : FnOk P w K mg base CX0 1 f fd ["names", "name"] (spJoi K) := by
  refine F.ok scJoi (fun vs H Q E h => ?_) (fun cdv A outer s H vs Q E hr h => ?_)
  · obtain ⟨l, zs, x, rfl, _⟩ := h
    rfl
  · obtain ⟨l, zs, x, rfl, hl, hz, go⟩ := h
    refine ⟨_, pss_cons (ps_if (pt_cmpR op_in_seq (pv 1) (pv 0) (by rfl)) (pss_one (ps_ret (pv 0))) pss_nil)
      (pss_one (ps_ret (pe_callB cr_sortTx (by rfl) T.sorted (by decide +kernel) (pa_cons (pe_op op_cat (pv 0) (pe_lst (pa_cons (pv 1) pa_nil))) pa_nil)))), ?_⟩
    refine ⟨_, rfl, _, rfl, l, _, rfl, .inl (SqL.of hl), rfl, flat_strs zs, _, rfl, ?_⟩
    rw [show (if false = true then !inV (V.str x) (zs.map V.str) else inV (V.str x) (zs.map V.str)) = inV (V.str x) (zs.map V.str) from if_neg (by decide), inV_str]
    by_cases h : x ∈ zs
    · rw [decide_eq_true h]
      refine iteT ⟨_, rfl, go l H (Same.refl H) ?_⟩
      unfold jn
      rw [if_pos h]
      exact hl
    · rw [decide_eq_false h]
      refine iteF ⟨_, rfl, _, rfl, by show 1 ≤ sizeLine; decide, fun e he => ?_⟩
      have hl2 : ∀ o, upd H e o l = some (.lst (zs.map V.str)) := fun o => by
        rw [upd_ne (ne_of_none hl he)]
        exact hl
      refine ⟨l, e, _, _, rfl, rfl, hl2 _, upd_same, ?_, fun c hc => ?_⟩
      · rw [List.length_map]
        exact Nat.le_of_lt (small1000 (by show zs.length + 1 ≤ 1000; omega))
      · refine ⟨c, zs ++ [x], rfl, SqL.of (by rw [upd_same, List.map_append]; rfl), fun p np => ?_⟩
        refine go p _ (((same_upd he).trans (same_upd hc)).trans (same_upd np)) ?_
        unfold jn
        rw [if_neg h, upd_same]
/-! the readers -/
/-- a method that hands out a new list of texts -/
def spLs (C : Addr) (g : Fm → Str → List Str) : Sp := fun vs H Q _ => ∃ (p : Addr) (k : Str) (n : Nat) (F : Fm), vs = [.ref p, .str k] ∧ FamAt C H p n F ∧ ∀ l H', Same H H' → H l = none → H' l = some (.lst ((g F k).map V.str)) → Q (.ref l) H'
theorem scChi : FnScope ["self", "name"] ["self", "name"] (defScope sChi) := ⟨rfl, rfl, rfl, by decide +kernel, rfl, by decide +kernel, by decide +kernel⟩
theorem scPar : FnScope ["self", "name"] ["self", "name"] (defScope sPar) := ⟨rfl, rfl, rfl, by decide +kernel, rfl, by decide +kernel, by decide +kernel⟩
theorem ok_children {f C : Addr} {fd : FuncData} (F : Fun K "children" "Family.children" sChi f fd) (T : Txt mg) (D : FT K C) : FnOk P w K mg base CX0 1 f fd ["self", "name"] (spLs C fun F k => F.ch k) := by
  refine F.ok scChi (fun vs H Q E h => ?_) (fun cdv A outer s H vs Q E hr h => ?_)
  · obtain ⟨p, k, n, F, rfl, _⟩ := h
    rfl
  · obtain ⟨p, k, n, F, rfl, hF, go⟩ := h
    obtain ⟨dx, a1, a2, a3, a4, a5, a6, a7, hp, t1, t2, t3, t4, t5, t6, t7, nd⟩ := hF.ex
    have hu := hu_of hr
    refine ⟨_, pss_one (ps_ret (pe_callTy call_list_of (by rfl) T.list (by decide +kernel) (pa_cons (pe_dget2 hu (pe_fld (pv 0) rfl) (pv 1) (pe_lst pa_nil) ⟨rfl, rfl, rfl, rfl⟩) pa_nil))), ?_⟩
    refine ⟨_, rfl, p, C, dx, _, _, rfl, hp, D.cl, D.n1, fl_1, a1, rfl, TabL.isD t1, _, rfl, Nat.zero_le _, fun e he => ?_⟩
    obtain ⟨o, g1, l, g2, g3⟩ := tl_get t1 k he
    refine ⟨o, g1, l, _, by rw [g2], .inl (SqL.of g3), fun q nq => ?_⟩
    exact go q _ ((same_upd he).trans (same_upd nq)) ((same_upd he).free nq) upd_same
theorem ok_parents {f C : Addr} {fd : FuncData} (F : Fun K "parents" "Family.parents" sPar f fd) (T : Txt mg) (D : FT K C) : FnOk P w K mg base CX0 1 f fd ["self", "name"] (spLs C fun F k => F.pa k) := by
  refine F.ok scPar (fun vs H Q E h => ?_) (fun cdv A outer s H vs Q E hr h => ?_)
  · obtain ⟨p, k, n, F, rfl, _⟩ := h
    rfl
  · obtain ⟨p, k, n, F, rfl, hF, go⟩ := h
    obtain ⟨dx, a1, a2, a3, a4, a5, a6, a7, hp, t1, t2, t3, t4, t5, t6, t7, nd⟩ := hF.ex
    have hu := hu_of hr
    refine ⟨_, pss_one (ps_ret (pe_callTy call_list_of (by rfl) T.list (by decide +kernel) (pa_cons (pe_dget2 hu (pe_fld (pv 0) rfl) (pv 1) (pe_lst pa_nil) ⟨rfl, rfl, rfl, rfl⟩) pa_nil))), ?_⟩
    refine ⟨_, rfl, p, C, dx, _, _, rfl, hp, D.cl, D.n2, fl_2, a2, rfl, TabL.isD t2, _, rfl, Nat.zero_le _, fun e he => ?_⟩
    obtain ⟨o, g1, l, g2, g3⟩ := tl_get t2 k he
    refine ⟨o, g1, l, _, by rw [g2], .inl (SqL.of g3), fun q nq => ?_⟩
    exact go q _ ((same_upd he).trans (same_upd nq)) ((same_upd he).free nq) upd_same
theorem scDay : FnScope ["self", "name"] ["self", "name"] (defScope sDay) := ⟨rfl, rfl, rfl, by decide +kernel, rfl, by decide +kernel, by decide +kernel⟩
def dayV (F : Fm) (k : Str) : V := ((F.dy k).map V.int).getD .non
def spVal (C : Addr) (g : Fm → Str → V) : Sp := fun vs H Q _ => ∃ (p : Addr) (k : Str) (n : Nat) (F : Fm), vs = [.ref p, .str k] ∧ FamAt C H p n F ∧ Q (g F k) H
theorem ok_day {f C : Addr} {fd : FuncData} (F : Fun K "day" "Family.day" sDay f fd) (D : FT K C) : FnOk P w K mg base CX0 1 f fd ["self", "name"] (spVal C dayV) := by
  refine F.ok scDay (fun vs H Q E h => ?_) (fun cdv A outer s H vs Q E hr h => ?_)
  · obtain ⟨p, k, n, F, rfl, _⟩ := h
    rfl
  · obtain ⟨p, k, n, F, rfl, hF, go⟩ := h
    obtain ⟨dx, a1, a2, a3, a4, a5, a6, a7, hp, t1, t2, t3, t4, t5, t6, t7, nd⟩ := hF.ex
    have hu := hu_of hr
    refine ⟨_, pss_one (ps_ret (pe_dget1 hu (pe_fld (pv 0) rfl) (pv 1) ⟨rfl, rfl, rfl, rfl⟩)), ?_⟩
    exact ⟨_, rfl, p, C, dx, _, _, rfl, hp, D.cl, D.n5, fl_5, a5, rfl, TabV.isD t5, _, rfl, _, TabV.get t5 k, go⟩
theorem scRen : FnScope ["self", "name"] ["self", "name"] (defScope sRen) := ⟨rfl, rfl, rfl, by decide +kernel, rfl, by decide +kernel, by decide +kernel⟩
theorem ok_renounced {f C : Addr} {fd : FuncData} (F : Fun K "has_renounced" "Family.has_renounced" sRen f fd) (D : FT K C) : FnOk P w K mg base CX0 1 f fd ["self", "name"] (spVal C fun F k => .bl (F.rn k)) := by
  refine F.ok scRen (fun vs H Q E h => ?_) (fun cdv A outer s H vs Q E hr h => ?_)
  · obtain ⟨p, k, n, F, rfl, _⟩ := h
    rfl
  · obtain ⟨p, k, n, F, rfl, hF, go⟩ := h
    obtain ⟨dx, a1, a2, a3, a4, a5, a6, a7, hp, t1, t2, t3, t4, t5, t6, t7, nd⟩ := hF.ex
    have hu := hu_of hr
    refine ⟨_, pss_one (ps_ret (pe_cmp (pc_din hu (pv 1) (pe_fld (pv 0) rfl)) rfl)), ?_⟩
    refine ⟨_, rfl, _, rfl, p, C, dx, _, _, rfl, hp, D.cl, D.n6, fl_6, a6, _, rfl, TabV.get t6 k, ?_⟩
    replace go : Q (.bl (F.rn k)) H := go
    cases e : F.rn k with
    | true =>
      rw [e] at go
      rw [if_pos rfl]
      exact go
    | false =>
      rw [e] at go
      rw [if_neg (by decide)]
      exact go
theorem scAdv : FnScope ["self", "name"] ["self", "name"] (defScope sAdv) := ⟨rfl, rfl, rfl, by decide +kernel, rfl, by decide +kernel, by decide +kernel⟩
theorem ok_advance {f C : Addr} {fd : FuncData} (F : Fun K "advance" "Family.advance" sAdv f fd) (D : FT K C) : FnOk P w K mg base CX0 1 f fd ["self", "name"] (spVal C fun F k => .int ((F.ad k).getD 0)) := by
  refine F.ok scAdv (fun vs H Q E h => ?_) (fun cdv A outer s H vs Q E hr h => ?_)
  · obtain ⟨p, k, n, F, rfl, _⟩ := h
    rfl
  · obtain ⟨p, k, n, F, rfl, hF, go⟩ := h
    obtain ⟨dx, a1, a2, a3, a4, a5, a6, a7, hp, t1, t2, t3, t4, t5, t6, t7, nd⟩ := hF.ex
    have hu := hu_of hr
    refine ⟨_, pss_one (ps_ret (pe_dget2 hu (pe_fld (pv 0) rfl) (pv 1) pe_int ⟨rfl, rfl, rfl, rfl⟩)), ?_⟩
    refine ⟨_, rfl, p, C, dx, _, _, rfl, hp, D.cl, D.n7, fl_7, a7, rfl, TabV.isD t7, _, rfl, _, TabV.get t7 k, ?_⟩
    replace go : Q (.int ((F.ad k).getD 0)) H := go
    cases e : F.ad k with
    | none =>
      rw [e] at go
      exact go
    | some z =>
      rw [e] at go
      exact go
end
end ZF
namespace ZF
open PySem L2 PyProof.Rows G
/-- the seven dicts of a family -/
structure FA where
  a1 : Addr
  a2 : Addr
  a3 : Addr
  a4 : Addr
  a5 : Addr
  a6 : Addr
  a7 : Addr
abbrev FA.all (A : FA) : List Addr := [A.a1, A.a2, A.a3, A.a4, A.a5, A.a6, A.a7]
abbrev FA.fl (A : FA) : List (Str × V) := flds A.a1 A.a2 A.a3 A.a4 A.a5 A.a6 A.a7
structure FamX (C : Addr) (H : Hp) (p dx : Addr) (A : FA) (n : Nat) (F : Fm) : Prop where
  hp : H p = some (.ins C dx A.fl)
  t1 : TabL H A.a1 n F.ch
  t2 : TabL H A.a2 n F.pa
  t3 : TabL H A.a3 n F.we
  t4 : TabL H A.a4 n F.pt
  t5 : TabV H A.a5 n fun k => (F.dy k).map V.int
  t6 : TabV H A.a6 n fun k => if F.rn k = true then some (.bl true) else none
  t7 : TabV H A.a7 n fun k => (F.ad k).map V.int
  nd : A.all.Nodup
theorem FamX.at' {C : Addr} {H : Hp} {p dx : Addr} {A : FA} {n : Nat} {F : Fm} (X : FamX C H p dx A n F) : FamAt C H p n F := ⟨dx, A.a1, A.a2, A.a3, A.a4, A.a5, A.a6, A.a7, X.hp, X.t1, X.t2, X.t3, X.t4, X.t5, X.t6, X.t7, X.nd⟩
theorem FamX.same {C : Addr} {H H' : Hp} {p dx : Addr} {A : FA} {n : Nat} {F : Fm} (X : FamX C H p dx A n F) (s : Same H H') : FamX C H' p dx A n F :=
  ⟨s _ _ X.hp, X.t1.same s, X.t2.same s, X.t3.same s, X.t4.same s, X.t5.same s, X.t6.same s, X.t7.same s, X.nd⟩
theorem FamX.mono {C : Addr} {H : Hp} {p dx : Addr} {A : FA} {n m : Nat} {F : Fm} (X : FamX C H p dx A n F) (h : n ≤ m) : FamX C H p dx A m F :=
  ⟨X.hp, X.t1.mono h, X.t2.mono h, X.t3.mono h, X.t4.mono h, X.t5.mono h, X.t6.mono h, X.t7.mono h, X.nd⟩
/-- all but the family's dicts stays -/
def Bar (A : FA) (H H' : Hp) : Prop := ∀ b o, H b = some o → b ∉ A.all → H' b = some o
theorem Bar.of_same {A : FA} {H H' : Hp} (s : Same H H') : Bar A H H' := fun b o h _ => s b o h
theorem Bar.of_but {A : FA} {a : Addr} {H H' : Hp} (s : But a H H') (m : a ∈ A.all) : Bar A H H' := fun b o h g => s b o h fun e => g (e ▸ m)
theorem Bar.trans {A : FA} {H H1 H2 : Hp} (s : Bar A H H1) (t : Bar A H1 H2) : Bar A H H2 := fun b o h g => t b o (s b o h g) g
/-- a change of one table: the others stand -/
theorem FamX.but {C : Addr} {H H' : Hp} {p dx a : Addr} {A : FA} {n : Nat} {F : Fm} {ks : List (Key × V)} (X : FamX C H p dx A n F) (s : But a H H') (ha : H a = some (.dK ks)) :
    H' p = some (.ins C dx A.fl) ∧ (A.a1 ≠ a → TabL H' A.a1 n F.ch) ∧ (A.a2 ≠ a → TabL H' A.a2 n F.pa) ∧ (A.a3 ≠ a → TabL H' A.a3 n F.we) ∧ (A.a4 ≠ a → TabL H' A.a4 n F.pt) ∧
    (A.a5 ≠ a → TabV H' A.a5 n fun k => (F.dy k).map V.int) ∧ (A.a6 ≠ a → TabV H' A.a6 n fun k => if F.rn k = true then some (.bl true) else none) ∧ (A.a7 ≠ a → TabV H' A.a7 n fun k => (F.ad k).map V.int) :=
  ⟨s _ _ X.hp (ne_of X.hp ha (by intro e; cases e)), fun h => X.t1.keep s ha h, fun h => X.t2.keep s ha h, fun h => X.t3.keep s ha h, fun h => X.t4.keep s ha h, fun h => X.t5.keep s h, fun h => X.t6.keep s h, fun h => X.t7.keep s h⟩
/-- the table at a1 changed -/
theorem FamX.set1 {C : Addr} {H H' : Hp} {p dx : Addr} {A : FA} {n : Nat} {F : Fm} {f : Str → List Str} (X : FamX C H p dx A n F) (s : But A.a1 H H') (t : TabL H' A.a1 (n + 1) f) : FamX C H' p dx A (n + 1) { F with ch := f } := by
  obtain ⟨kvs, D, _⟩ := X.t1.ex
  obtain ⟨h0, h1, h2, h3, h4, h5, h6, h7⟩ := X.but s D.dk
  have nd := X.nd
  simp only [FA.all, List.nodup_cons, List.mem_cons, not_or, List.not_mem_nil, not_false_eq_true, and_true] at nd
  obtain ⟨⟨e12, e13, e14, e15, e16, e17⟩, ⟨e23, e24, e25, e26, e27⟩, ⟨e34, e35, e36, e37⟩, ⟨e45, e46, e47⟩, ⟨e56, e57⟩, e67, _⟩ := nd
  exact ⟨h0, t, (h2 (Ne.symm e12)).mono (Nat.le_succ _), (h3 (Ne.symm e13)).mono (Nat.le_succ _), (h4 (Ne.symm e14)).mono (Nat.le_succ _), (h5 (Ne.symm e15)).mono (Nat.le_succ _), (h6 (Ne.symm e16)).mono (Nat.le_succ _), (h7 (Ne.symm e17)).mono (Nat.le_succ _), X.nd⟩
theorem FamX.set2 {C : Addr} {H H' : Hp} {p dx : Addr} {A : FA} {n : Nat} {F : Fm} {f : Str → List Str} (X : FamX C H p dx A n F) (s : But A.a2 H H') (t : TabL H' A.a2 (n + 1) f) : FamX C H' p dx A (n + 1) { F with pa := f } := by
  obtain ⟨kvs, D, _⟩ := X.t2.ex
  obtain ⟨h0, h1, h2, h3, h4, h5, h6, h7⟩ := X.but s D.dk
  have nd := X.nd
  simp only [FA.all, List.nodup_cons, List.mem_cons, not_or, List.not_mem_nil, not_false_eq_true, and_true] at nd
  obtain ⟨⟨e12, e13, e14, e15, e16, e17⟩, ⟨e23, e24, e25, e26, e27⟩, ⟨e34, e35, e36, e37⟩, ⟨e45, e46, e47⟩, ⟨e56, e57⟩, e67, _⟩ := nd
  exact ⟨h0, (h1 e12).mono (Nat.le_succ _), t, (h3 (Ne.symm e23)).mono (Nat.le_succ _), (h4 (Ne.symm e24)).mono (Nat.le_succ _), (h5 (Ne.symm e25)).mono (Nat.le_succ _), (h6 (Ne.symm e26)).mono (Nat.le_succ _), (h7 (Ne.symm e27)).mono (Nat.le_succ _), X.nd⟩
theorem FamX.set3 {C : Addr} {H H' : Hp} {p dx : Addr} {A : FA} {n : Nat} {F : Fm} {f : Str → List Str} (X : FamX C H p dx A n F) (s : But A.a3 H H') (t : TabL H' A.a3 (n + 1) f) : FamX C H' p dx A (n + 1) { F with we := f } := by
  obtain ⟨kvs, D, _⟩ := X.t3.ex
  obtain ⟨h0, h1, h2, h3, h4, h5, h6, h7⟩ := X.but s D.dk
  have nd := X.nd
  simp only [FA.all, List.nodup_cons, List.mem_cons, not_or, List.not_mem_nil, not_false_eq_true, and_true] at nd
  obtain ⟨⟨e12, e13, e14, e15, e16, e17⟩, ⟨e23, e24, e25, e26, e27⟩, ⟨e34, e35, e36, e37⟩, ⟨e45, e46, e47⟩, ⟨e56, e57⟩, e67, _⟩ := nd
  exact ⟨h0, (h1 e13).mono (Nat.le_succ _), (h2 e23).mono (Nat.le_succ _), t, (h4 (Ne.symm e34)).mono (Nat.le_succ _), (h5 (Ne.symm e35)).mono (Nat.le_succ _), (h6 (Ne.symm e36)).mono (Nat.le_succ _), (h7 (Ne.symm e37)).mono (Nat.le_succ _), X.nd⟩
theorem FamX.set4 {C : Addr} {H H' : Hp} {p dx : Addr} {A : FA} {n : Nat} {F : Fm} {f : Str → List Str} (X : FamX C H p dx A n F) (s : But A.a4 H H') (t : TabL H' A.a4 (n + 1) f) : FamX C H' p dx A (n + 1) { F with pt := f } := by
  obtain ⟨kvs, D, _⟩ := X.t4.ex
  obtain ⟨h0, h1, h2, h3, h4, h5, h6, h7⟩ := X.but s D.dk
  have nd := X.nd
  simp only [FA.all, List.nodup_cons, List.mem_cons, not_or, List.not_mem_nil, not_false_eq_true, and_true] at nd
  obtain ⟨⟨e12, e13, e14, e15, e16, e17⟩, ⟨e23, e24, e25, e26, e27⟩, ⟨e34, e35, e36, e37⟩, ⟨e45, e46, e47⟩, ⟨e56, e57⟩, e67, _⟩ := nd
  exact ⟨h0, (h1 e14).mono (Nat.le_succ _), (h2 e24).mono (Nat.le_succ _), (h3 e34).mono (Nat.le_succ _), t, (h5 (Ne.symm e45)).mono (Nat.le_succ _), (h6 (Ne.symm e46)).mono (Nat.le_succ _), (h7 (Ne.symm e47)).mono (Nat.le_succ _), X.nd⟩
theorem FamX.set5 {C : Addr} {H H' : Hp} {p dx : Addr} {A : FA} {n : Nat} {F : Fm} {f : Str → Option Int} (X : FamX C H p dx A n F) (s : But A.a5 H H') (t : TabV H' A.a5 (n + 1) fun k => (f k).map V.int) : FamX C H' p dx A (n + 1) { F with dy := f } := by
  obtain ⟨kvs, D, _⟩ := X.t5.ex
  obtain ⟨h0, h1, h2, h3, h4, h5, h6, h7⟩ := X.but s D.dk
  have nd := X.nd
  simp only [FA.all, List.nodup_cons, List.mem_cons, not_or, List.not_mem_nil, not_false_eq_true, and_true] at nd
  obtain ⟨⟨e12, e13, e14, e15, e16, e17⟩, ⟨e23, e24, e25, e26, e27⟩, ⟨e34, e35, e36, e37⟩, ⟨e45, e46, e47⟩, ⟨e56, e57⟩, e67, _⟩ := nd
  exact ⟨h0, (h1 e15).mono (Nat.le_succ _), (h2 e25).mono (Nat.le_succ _), (h3 e35).mono (Nat.le_succ _), (h4 e45).mono (Nat.le_succ _), t, (h6 (Ne.symm e56)).mono (Nat.le_succ _), (h7 (Ne.symm e57)).mono (Nat.le_succ _), X.nd⟩
theorem FamX.set6 {C : Addr} {H H' : Hp} {p dx : Addr} {A : FA} {n : Nat} {F : Fm} {f : Str → Bool} (X : FamX C H p dx A n F) (s : But A.a6 H H') (t : TabV H' A.a6 (n + 1) fun k => if f k = true then some (.bl true) else none) : FamX C H' p dx A (n + 1) { F with rn := f } := by
  obtain ⟨kvs, D, _⟩ := X.t6.ex
  obtain ⟨h0, h1, h2, h3, h4, h5, h6, h7⟩ := X.but s D.dk
  have nd := X.nd
  simp only [FA.all, List.nodup_cons, List.mem_cons, not_or, List.not_mem_nil, not_false_eq_true, and_true] at nd
  obtain ⟨⟨e12, e13, e14, e15, e16, e17⟩, ⟨e23, e24, e25, e26, e27⟩, ⟨e34, e35, e36, e37⟩, ⟨e45, e46, e47⟩, ⟨e56, e57⟩, e67, _⟩ := nd
  exact ⟨h0, (h1 e16).mono (Nat.le_succ _), (h2 e26).mono (Nat.le_succ _), (h3 e36).mono (Nat.le_succ _), (h4 e46).mono (Nat.le_succ _), (h5 e56).mono (Nat.le_succ _), t, (h7 (Ne.symm e67)).mono (Nat.le_succ _), X.nd⟩
theorem FamX.set7 {C : Addr} {H H' : Hp} {p dx : Addr} {A : FA} {n : Nat} {F : Fm} {f : Str → Option Int} (X : FamX C H p dx A n F) (s : But A.a7 H H') (t : TabV H' A.a7 (n + 1) fun k => (f k).map V.int) : FamX C H' p dx A (n + 1) { F with ad := f } := by
  obtain ⟨kvs, D, _⟩ := X.t7.ex
  obtain ⟨h0, h1, h2, h3, h4, h5, h6, h7⟩ := X.but s D.dk
  have nd := X.nd
  simp only [FA.all, List.nodup_cons, List.mem_cons, not_or, List.not_mem_nil, not_false_eq_true, and_true] at nd
  obtain ⟨⟨e12, e13, e14, e15, e16, e17⟩, ⟨e23, e24, e25, e26, e27⟩, ⟨e34, e35, e36, e37⟩, ⟨e45, e46, e47⟩, ⟨e56, e57⟩, e67, _⟩ := nd
  exact ⟨h0, (h1 e17).mono (Nat.le_succ _), (h2 e27).mono (Nat.le_succ _), (h3 e37).mono (Nat.le_succ _), (h4 e47).mono (Nat.le_succ _), (h5 e57).mono (Nat.le_succ _), (h6 e67).mono (Nat.le_succ _), t, X.nd⟩
end ZF
namespace ZF
open PySem L2 PyProof.Rows G
section
variable {P : Program} {w : World} {K : PySem.W.Frag} {mg : Str → Option Value} {base : Heap}
/-- a method of the family that stands -/
structure HasM (P : Program) (w : World) (K : PySem.W.Frag) (mg : Str → Option Value) (base : Heap) (CX : CXT) (C : Addr) (x : Str) (ps : List Str) (k : Nat) (sp : Sp) : Prop where
  ok : ∃ (f : Addr) (fd : FuncData), Meth K C x f ∧ Binds K fd ps [] ∧ FnOk P w K mg base CX k f fd ps sp
theorem scCon : FnScope ["self", "fact", "word", "parents"] ["self", "fact"] (defScope sCon) := ⟨rfl, rfl, rfl, by decide +kernel, rfl, by decide +kernel, by decide +kernel⟩
def spCon (C : Addr) : Sp := fun vs H Q _ => ∃ (p a : Addr) (n : Nat) (F : Fm) (fc : Fct), vs = [.ref p, .ref a] ∧ FamAt C H p n F ∧ H a = some (.tup fc.vs) ∧ ∀ H', Same H H' → Q (.bl (F.bad fc)) H'
theorem no_m1 (A : FA) : A.fl.lookup ("parents" : Str) = none := by kernel_rfl
theorem ok_contra {f C : Addr} {fd : FuncData} (F : Fun K "_contradicts" "Family._contradicts" sCon f fd) (T : Txt mg) (D : FT K C) (MP : HasM P w K mg base CX0 C "parents" ["self", "name"] 1 (spLs C fun F k => F.pa k)) : FnOk P w K mg base CX0 2 f fd ["self", "fact"] (spCon C) := by
  obtain ⟨fP, fdP, meP, bP, GP⟩ := MP.ok
  obtain ⟨t2, m2⟩ := T.two
  refine F.ok scCon (fun vs H Q E h => ?_) (fun cdv A outer s H vs Q E hr h => ?_)
  · obtain ⟨p, a, n, F, fc, rfl, _⟩ := h
    rfl
  · obtain ⟨p, a, n, F, fc, rfl, hF, ha, go⟩ := h
    obtain ⟨dx, a1, a2, a3, a4, a5, a6, a7, hp, q1, q2, q3, q4, q5, q6, q7, nd⟩ := id hF.ex
    have hu := hu_of hr
    have hT : SqT K H a fc.vs := SqT.of ha
    refine ⟨_, pss_cons (ps_set (i := 2) scCon.nd rfl (.inl rfl) (pe_ix ix_tup (pv 1) pe_int (fun _ _ => rfl)))
      (pss_cons (ps_if (pt_cmpR op_eq (pv 2) pe_str (nomark _)) (pss_cons (ps_set (i := 3) scCon.nd rfl (.inl rfl) (pe_meth (pv 0) D.cl meP GP hr bP .nil pass0 (pa_cons (pe_ix ix_tup (pv 1) pe_int (fun _ _ => rfl)) pa_nil)))
          (pss_one (ps_ret (pe_and (pe_cmpR op_eq (pe_callB call_len_seq (by rfl) T.len PySem.boot_len (pa_cons (pv 3) pa_nil)) (pe_glob (v := .int 2) (by rfl) m2 ⟨_, rfl⟩) (nomark _)) (pe_one (pe_cmpR op_notIn_seq (pe_ix ix_tup (pv 1) pe_int (fun _ _ => rfl)) (pv 3) (by rfl))))))) pss_nil)
      (pss_cons (ps_if (pt_cmpR op_eq (pv 2) pe_str (nomark _)) (pss_one (ps_ret (pe_cmpR op_ne (pe_dget2 hu (pe_fld (pv 0) rfl) (pe_ix ix_tup (pv 1) pe_int (fun _ _ => rfl)) (pe_ix ix_tup (pv 1) pe_int (fun _ _ => rfl)) ⟨rfl, rfl, rfl, rfl⟩) (pe_ix ix_tup (pv 1) pe_int (fun _ _ => rfl)) (nomark _)))) pss_nil)
      (pss_one (ps_ret pe_bl)))), ?_⟩
    have plain (wd : Str) (e0 : fc.vs[0]? = some (.str wd)) (h1 : ¬ wd = "child") (h2 : ¬ wd = "died") (eb : F.bad fc = false) : True := trivial
    cases fc with
    | child c q =>
      refine ⟨_, rfl, a, _, 0, .str "child", rfl, rfl, hT, atI_nat (j := 0) rfl, ?_⟩
      refine ⟨_, rfl, rfl, _, rfl, ?_⟩
      rw [decide_eq_true (rfl : V.str ("child" : Str) = .str ("child" : Str))]
      refine iteT ⟨_, rfl, p, dx, _, rfl, hp, no_m1 ⟨a1, a2, a3, a4, a5, a6, a7⟩, _, rfl, a, _, 1, .str c, rfl, rfl, hT, atI_nat (j := 1) rfl, p, c, n, F, rfl, hF, fun l H' sm nl el => ?_⟩
      have hT2 : SqT K H' a (Fct.child c q).vs := sameT sm hT
      refine ⟨_, rfl, l, _, rfl, .inl (SqL.of el), rfl, _, rfl, ?_⟩
      rw [List.length_map]
      have ebad : F.bad (.child c q) = (decide ((F.pa c).length = 2) && !decide (q ∈ F.pa c)) := rfl
      rw [ebad] at go
      by_cases h2 : (F.pa c).length = 2
      · rw [h2] at go ⊢
        rw [decide_eq_true rfl] at go
        rw [decide_eq_true (show V.int ((2 : Nat) : Int) = V.int 2 from rfl)]
        refine iteT ⟨_, rfl, a, _, 2, .str q, rfl, rfl, hT2, atI_nat (j := 2) rfl, _, rfl, l, _, rfl, .inl (SqL.of el), rfl, flat_strs _, ?_⟩
        rw [show (if true = true then !inV (V.str q) ((F.pa c).map V.str) else inV (V.str q) ((F.pa c).map V.str)) = !inV (V.str q) ((F.pa c).map V.str) from if_pos rfl, inV_str]
        exact go H' sm
      · rw [decide_eq_false h2] at go
        rw [decide_eq_false (show ¬ V.int ((F.pa c).length : Int) = .int 2 from fun z => h2 (by have := V.int.inj z; omega))]
        exact iteF (go H' sm)
    | died x d =>
      refine ⟨_, rfl, a, _, 0, .str "died", rfl, rfl, hT, atI_nat (j := 0) rfl, ?_⟩
      refine ⟨_, rfl, rfl, _, rfl, ?_⟩
      rw [decide_eq_false (show ¬ V.str ("died" : Str) = .str ("child" : Str) by decide +kernel)]
      refine iteF ⟨_, rfl, rfl, _, rfl, ?_⟩
      rw [decide_eq_true (rfl : V.str ("died" : Str) = .str ("died" : Str))]
      refine iteT ⟨_, rfl, p, C, dx, _, _, rfl, hp, D.cl, D.n5, fl_5, a5, rfl, TabV.isD q5, _, rfl, a, _, 1, .str x, rfl, rfl, hT, atI_nat (j := 1) rfl, _, rfl, a, _, 2, .int d, rfl, rfl, hT, atI_nat (j := 2) rfl, _, TabV.get q5 x, _, rfl, a, _, 2, .int d, rfl, rfl, hT, atI_nat (j := 2) rfl, ?_⟩
      have ebad : F.bad (.died x d) = !decide ((F.dy x).getD d = d) := rfl
      rw [ebad] at go
      cases e : F.dy x with
      | none =>
        rw [e] at go
        refine ⟨rfl, ?_⟩
        have := go H (Same.refl H)
        rw [decide_eq_true (show (none : Option Int).getD d = d from rfl)] at this
        show Q (.bl (!decide (V.int d = V.int d))) H
        rw [decide_eq_true rfl]
        exact this
      | some z =>
        rw [e] at go
        refine ⟨rfl, ?_⟩
        have := go H (Same.refl H)
        show Q (.bl (!decide (V.int z = V.int d))) H
        rw [show decide (V.int z = V.int d) = decide ((some z).getD d = d) from decide_eq_decide.mpr ⟨fun h => V.int.inj h, fun h => congrArg V.int h⟩]
        exact this
    | wed x y =>
      refine ⟨_, rfl, a, _, 0, .str "wed", rfl, rfl, hT, atI_nat (j := 0) rfl, ?_⟩
      refine ⟨_, rfl, rfl, _, rfl, ?_⟩
      rw [decide_eq_false (show ¬ V.str ("wed" : Str) = .str ("child" : Str) by decide +kernel)]
      refine iteF ⟨_, rfl, rfl, _, rfl, ?_⟩
      rw [decide_eq_false (show ¬ V.str ("wed" : Str) = .str ("died" : Str) by decide +kernel)]
      exact iteF (go H (Same.refl H))
    | parted x y =>
      refine ⟨_, rfl, a, _, 0, .str "parted", rfl, rfl, hT, atI_nat (j := 0) rfl, ?_⟩
      refine ⟨_, rfl, rfl, _, rfl, ?_⟩
      rw [decide_eq_false (show ¬ V.str ("parted" : Str) = .str ("child" : Str) by decide +kernel)]
      refine iteF ⟨_, rfl, rfl, _, rfl, ?_⟩
      rw [decide_eq_false (show ¬ V.str ("parted" : Str) = .str ("died" : Str) by decide +kernel)]
      exact iteF (go H (Same.refl H))
    | renounced x =>
      refine ⟨_, rfl, a, _, 0, .str "renounced", rfl, rfl, hT, atI_nat (j := 0) rfl, ?_⟩
      refine ⟨_, rfl, rfl, _, rfl, ?_⟩
      rw [decide_eq_false (show ¬ V.str ("renounced" : Str) = .str ("child" : Str) by decide +kernel)]
      refine iteF ⟨_, rfl, rfl, _, rfl, ?_⟩
      rw [decide_eq_false (show ¬ V.str ("renounced" : Str) = .str ("died" : Str) by decide +kernel)]
      exact iteF (go H (Same.refl H))
    | advance x y =>
      refine ⟨_, rfl, a, _, 0, .str "advance", rfl, rfl, hT, atI_nat (j := 0) rfl, ?_⟩
      refine ⟨_, rfl, rfl, _, rfl, ?_⟩
      rw [decide_eq_false (show ¬ V.str ("advance" : Str) = .str ("child" : Str) by decide +kernel)]
      refine iteF ⟨_, rfl, rfl, _, rfl, ?_⟩
      rw [decide_eq_false (show ¬ V.str ("advance" : Str) = .str ("died" : Str) by decide +kernel)]
      exact iteF (go H (Same.refl H))
end
end ZF
namespace ZF
open PySem L2 PyProof.Rows G
theorem up_int (f : Str → Option Int) (a : Str) (d : Int) : (fun k => ((up f a (some d)) k).map V.int) = up (fun k => (f k).map V.int) a (some (.int d)) := by
  funext k
  unfold up
  split <;> rfl
theorem up_bl (f : Str → Bool) (a : Str) : (fun k => if (up f a true) k = true then some (V.bl true) else none) = up (fun k => if f k = true then some (.bl true) else none) a (some (.bl true)) := by
  funext k
  unfold up
  by_cases e : k = a
  · rw [if_pos e, if_pos e]
    rfl
  · rw [if_neg e, if_neg e]
theorem but_upd {H : Hp} {a : Addr} {o : HO} : But a H (upd H a o) := fun b u h g => by
  rw [upd_ne g]
  exact h
theorem no_mc (A : FA) : A.fl.lookup ("children" : Str) = none := by kernel_rfl
theorem no_ma (A : FA) : A.fl.lookup ("advance" : Str) = none := by kernel_rfl
theorem dk_all {C : Addr} {H : Hp} {p dx : Addr} {A : FA} {n : Nat} {F : Fm} (X : FamX C H p dx A n F) {x : Addr} (hx : x ∈ A.all) : ∃ kv, H x = some (.dK kv) := by
  simp only [FA.all, List.mem_cons, List.not_mem_nil, or_false] at hx
  rcases hx with rfl | rfl | rfl | rfl | rfl | rfl | rfl
  · obtain ⟨kv, D, _⟩ := X.t1.ex; exact ⟨kv, D.dk⟩
  · obtain ⟨kv, D, _⟩ := X.t2.ex; exact ⟨kv, D.dk⟩
  · obtain ⟨kv, D, _⟩ := X.t3.ex; exact ⟨kv, D.dk⟩
  · obtain ⟨kv, D, _⟩ := X.t4.ex; exact ⟨kv, D.dk⟩
  · obtain ⟨kv, D, _⟩ := X.t5.ex; exact ⟨kv, D.dk⟩
  · obtain ⟨kv, D, _⟩ := X.t6.ex; exact ⟨kv, D.dk⟩
  · obtain ⟨kv, D, _⟩ := X.t7.ex; exact ⟨kv, D.dk⟩
/-- lists of at most m texts -/
structure LenOk (F : Fm) (m : Nat) : Prop where
  ch : ∀ k, (F.ch k).length ≤ m
  pa : ∀ k, (F.pa k).length ≤ m
  we : ∀ k, (F.we k).length ≤ m
  pt : ∀ k, (F.pt k).length ≤ m
section
variable {P : Program} {w : World} {K : PySem.W.Frag} {mg : Str → Option Value} {base : Heap}
theorem scLea : FnScope ["self", "fact", "word", "name"] ["self", "fact"] (defScope sLea) := ⟨rfl, rfl, rfl, by decide +kernel, rfl, by decide +kernel, by decide +kernel⟩
def spLea (C : Addr) : Sp := fun vs H Q _ => ∃ (p a dx : Addr) (A : FA) (n : Nat) (F : Fm) (fc : Fct), vs = [.ref p, .ref a] ∧ FamX C H p dx A n F ∧ H a = some (.tup fc.vs) ∧ n ≤ 800 ∧ LenOk F 800 ∧ ∀ H', FamX C H' p dx A (n + 2) (F.learn fc) → Bar A H H' → Q .non H'
theorem ok_learn {f C : Addr} {fd : FuncData} (F : Fun K "_learn" "Family._learn" sLea f fd) (D : FT K C) (TJ : Has P w K mg base CX0 "_joined" ["names", "name"] 1 (spJoi K))
    (MP : HasM P w K mg base CX0 C "parents" ["self", "name"] 1 (spLs C fun F k => F.pa k)) (MC : HasM P w K mg base CX0 C "children" ["self", "name"] 1 (spLs C fun F k => F.ch k)) (MA : HasM P w K mg base CX0 C "advance" ["self", "name"] 1 (spVal C fun F k => .int ((F.ad k).getD 0))) :
    FnOk P w K mg base CX0 2 f fd ["self", "fact"] (spLea C) := by
  obtain ⟨fJ, fdJ, mJ, kJ, bJ, GJ⟩ := TJ.ok
  obtain ⟨fP, fdP, meP, bP, GP⟩ := MP.ok
  obtain ⟨fC, fdC, meC, bC, GC⟩ := MC.ok
  obtain ⟨fA, fdA, meA, bA, GA⟩ := MA.ok
  refine F.ok scLea (fun vs H Q E h => ?_) (fun cdv A outer s H vs Q E hr h => ?_)
  · obtain ⟨p, a, dx, A, n, F, fc, rfl, _⟩ := h
    rfl
  · obtain ⟨p, a, dx, B, n, F, fc, rfl, X, ha, hn, hL, go⟩ := h
    have hu := hu_of hr
    have hr1 := hr
    have hT : SqT K H a fc.vs := SqT.of ha
    refine ⟨_, pss_cons (ps_par (i := 2) (j := 3) (by rfl) scLea.nd rfl rfl (by decide) rfl rfl (pa_cons (pe_ix ix_tup (pv 1) pe_int (fun _ _ => rfl)) (pa_cons (pe_ix ix_tup (pv 1) pe_int (fun _ _ => rfl)) pa_nil)) (by rfl)) (pss_one (ps_if (pt_cmpR op_eq (pv 2) pe_str (nomark _)) (pss_cons (ps_dput hu (pe_fld (pv 0) rfl) (pv 3) (pe_call GJ hr1 (by rfl) mJ kJ bJ .nil pass0 (pa_cons (pe_meth (pv 0) D.cl meP GP (hr.mono (by decide)) bP .nil pass0 (pa_cons (pv 3) pa_nil)) (pa_cons (pe_ix ix_tup (pv 1) pe_int (fun _ _ => rfl)) pa_nil))) rfl) (pss_one (ps_dput hu (pe_fld (pv 0) rfl) (pe_ix ix_tup (pv 1) pe_int (fun _ _ => rfl)) (pe_call GJ hr1 (by rfl) mJ kJ bJ .nil pass0 (pa_cons (pe_meth (pv 0) D.cl meC GC (hr.mono (by decide)) bC .nil pass0 (pa_cons (pe_ix ix_tup (pv 1) pe_int (fun _ _ => rfl)) pa_nil)) (pa_cons (pv 3) pa_nil))) rfl))) (pss_one (ps_if (pt_cmpR op_eq (pv 2) pe_str (nomark _)) (pss_cons (ps_dput hu (pe_fld (pv 0) rfl) (pv 3) (pe_call GJ hr1 (by rfl) mJ kJ bJ .nil pass0 (pa_cons (pe_dget2 hu (pe_fld (pv 0) rfl) (pv 3) (pe_lst pa_nil) ⟨rfl, rfl, rfl, rfl⟩) (pa_cons (pe_ix ix_tup (pv 1) pe_int (fun _ _ => rfl)) pa_nil))) rfl) (pss_one (ps_dput hu (pe_fld (pv 0) rfl) (pe_ix ix_tup (pv 1) pe_int (fun _ _ => rfl)) (pe_call GJ hr1 (by rfl) mJ kJ bJ .nil pass0 (pa_cons (pe_dget2 hu (pe_fld (pv 0) rfl) (pe_ix ix_tup (pv 1) pe_int (fun _ _ => rfl)) (pe_lst pa_nil) ⟨rfl, rfl, rfl, rfl⟩) (pa_cons (pv 3) pa_nil))) rfl))) (pss_one (ps_if (pt_cmpR op_eq (pv 2) pe_str (nomark _)) (pss_cons (ps_dput hu (pe_fld (pv 0) rfl) (pv 3) (pe_call GJ hr1 (by rfl) mJ kJ bJ .nil pass0 (pa_cons (pe_dget2 hu (pe_fld (pv 0) rfl) (pv 3) (pe_lst pa_nil) ⟨rfl, rfl, rfl, rfl⟩) (pa_cons (pe_ix ix_tup (pv 1) pe_int (fun _ _ => rfl)) pa_nil))) rfl) (pss_one (ps_dput hu (pe_fld (pv 0) rfl) (pe_ix ix_tup (pv 1) pe_int (fun _ _ => rfl)) (pe_call GJ hr1 (by rfl) mJ kJ bJ .nil pass0 (pa_cons (pe_dget2 hu (pe_fld (pv 0) rfl) (pe_ix ix_tup (pv 1) pe_int (fun _ _ => rfl)) (pe_lst pa_nil) ⟨rfl, rfl, rfl, rfl⟩) (pa_cons (pv 3) pa_nil))) rfl))) (pss_one (ps_if (pt_cmpR op_eq (pv 2) pe_str (nomark _)) (pss_one (ps_dput hu (pe_fld (pv 0) rfl) (pv 3) (pe_ix ix_tup (pv 1) pe_int (fun _ _ => rfl)) rfl)) (pss_one (ps_if (pt_cmpR op_eq (pv 2) pe_str (nomark _)) (pss_one (ps_dput hu (pe_fld (pv 0) rfl) (pv 3) pe_bl rfl)) (pss_one (ps_dput hu (pe_fld (pv 0) rfl) (pv 3) (pe_op op_add (pe_meth (pv 0) D.cl meA GA (hr.mono (by decide)) bA .nil pass0 (pa_cons (pv 3) pa_nil)) (pe_ix ix_tup (pv 1) pe_int (fun _ _ => rfl))) rfl)))))))))))), ?_⟩
    cases fc with
    | child c q =>
      refine ⟨_, rfl, a, _, 0, .str "child", rfl, rfl, hT, atI_nat (j := 0) rfl, _, rfl, a, _, 1, .str c, rfl, rfl, hT, atI_nat (j := 1) rfl, _, _, rfl, ?_⟩
      refine ⟨_, rfl, rfl, _, rfl, ?_⟩
      rw [decide_eq_true (show V.str ("child" : Str) = .str ("child" : Str) from rfl)]
      refine iteT ?_
      refine ⟨_, rfl, p, dx, _, rfl, X.hp, no_m1 B, _, rfl, p, c, n, F, rfl, X.at', fun l H1 sm1 nl el => ⟨_, rfl, a, _, 2, .str q, rfl, rfl, (sameT sm1 hT), atI_nat (j := 2) rfl, l, F.pa c, q, rfl, el, by have := hL.pa c; omega, fun j H2 sm2 ej => ?_⟩⟩
      have X2 := (X.same sm1).same sm2
      obtain ⟨kvs, Dk, g⟩ := X2.t2.ex
      refine ⟨_, rfl, p, C, dx, _, _, rfl, X2.hp, D.cl, D.n2, fl_2, _, rfl, B.a2, _, rfl, DPut.k (k := Sum.inr c) Dk.dk (small1000 (by have := Dk.ln; omega)), ?_⟩
      have ja : j ≠ B.a2 := ne_of ej Dk.dk (by intro e; cases e)
      have X3 := X2.set2 but_upd (TabL.put Dk g but_upd upd_same (l := j) (k := c) (zs := jn (F.pa c) q) (by rw [upd_ne ja]; exact ej) jn_ne)
      have br3 : Bar B H _ := (Bar.of_same (sm1.trans sm2)).trans (Bar.of_but (but_upd (H := H2) (a := B.a2) (o := .dK (putK kvs (Sum.inr c) (.ref j)))) (by simp))
      have aT : ∀ x ∈ B.all, ∃ kv, H x = some (.dK kv) := fun x hx => dk_all X hx
      have an : a ∉ B.all := fun hx => by
        obtain ⟨kv, e⟩ := aT a hx
        rw [ha] at e
        cases e
      have hT3 : SqT K _ a (Fct.child c q).vs := SqT.of (br3 _ _ ha an)
      generalize eH3 : upd H2 B.a2 (.dK (putK kvs (Sum.inr c) (.ref j))) = H3 at X3 br3 hT3 ⊢
      refine ⟨_, rfl, p, dx, _, rfl, X3.hp, no_mc B, _, rfl, a, _, 2, .str q, rfl, rfl, hT3, atI_nat (j := 2) rfl, p, q, n + 1, _, rfl, X3.at', fun l4 H4 sm4 nl4 el4 => ⟨_, rfl, l4, F.ch q, c, rfl, el4, by have := hL.ch q; omega, fun j5 H5 sm5 ej5 => ?_⟩⟩
      have X5 := (X3.same sm4).same sm5
      obtain ⟨kvs5, Dk5, g5⟩ := X5.t1.ex
      have hT5 := sameT (K := K) sm5 (sameT sm4 hT3)
      refine ⟨_, rfl, p, C, dx, _, _, rfl, X5.hp, D.cl, D.n1, fl_1, _, rfl, a, _, 2, .str q, rfl, rfl, hT5, atI_nat (j := 2) rfl, B.a1, _, rfl, DPut.k (k := Sum.inr q) Dk5.dk (small1000 (by have := Dk5.ln; omega)), ?_⟩
      have ja5 : j5 ≠ B.a1 := ne_of ej5 Dk5.dk (by intro e; cases e)
      exact go _ (X5.set1 but_upd (TabL.put Dk5 g5 but_upd upd_same (l := j5) (k := q) (zs := jn (F.ch q) c) (by rw [upd_ne ja5]; exact ej5) jn_ne)) ((br3.trans (Bar.of_same (sm4.trans sm5))).trans (Bar.of_but but_upd (by simp)))
    | wed x y =>
      refine ⟨_, rfl, a, _, 0, .str "wed", rfl, rfl, hT, atI_nat (j := 0) rfl, _, rfl, a, _, 1, .str x, rfl, rfl, hT, atI_nat (j := 1) rfl, _, _, rfl, ?_⟩
      refine ⟨_, rfl, rfl, _, rfl, ?_⟩
      rw [decide_eq_false (show ¬ V.str ("wed" : Str) = .str ("child" : Str) by decide +kernel)]
      refine iteF ?_
      refine ⟨_, rfl, rfl, _, rfl, ?_⟩
      rw [decide_eq_true (show V.str ("wed" : Str) = .str ("wed" : Str) from rfl)]
      refine iteT ?_
      refine ⟨_, rfl, p, C, dx, _, _, rfl, X.hp, D.cl, D.n3, fl_3, B.a3, rfl, TabL.isD X.t3, _, rfl, Nat.zero_le _, fun e1 he1 => ?_⟩
      obtain ⟨o1, gd1, l1, go1, el1⟩ := tl_get X.t3 x he1
      have sm1 : Same H (upd H e1 (.lst [])) := same_upd he1
      refine ⟨o1, gd1, _, rfl, a, _, 2, .str y, rfl, rfl, (sameT sm1 hT), atI_nat (j := 2) rfl, l1, F.we x, y, by rw [go1]; rfl, el1, by have := hL.we x; omega, fun j H2 sm2 ej => ?_⟩
      have X2 := (X.same sm1).same sm2
      obtain ⟨kvs, Dk, g⟩ := X2.t3.ex
      refine ⟨_, rfl, p, C, dx, _, _, rfl, X2.hp, D.cl, D.n3, fl_3, _, rfl, B.a3, _, rfl, DPut.k (k := Sum.inr x) Dk.dk (small1000 (by have := Dk.ln; omega)), ?_⟩
      have ja : j ≠ B.a3 := ne_of ej Dk.dk (by intro e; cases e)
      have X3 := X2.set3 but_upd (TabL.put Dk g but_upd upd_same (l := j) (k := x) (zs := jn (F.we x) y) (by rw [upd_ne ja]; exact ej) jn_ne)
      have br3 : Bar B H _ := (Bar.of_same (sm1.trans sm2)).trans (Bar.of_but (but_upd (H := H2) (a := B.a3) (o := .dK (putK kvs (Sum.inr x) (.ref j)))) (by simp))
      have an : a ∉ B.all := fun hx => by
        obtain ⟨kv, e⟩ := dk_all X hx
        rw [ha] at e
        cases e
      have hT3 : SqT K _ a (Fct.wed x y).vs := SqT.of (br3 _ _ ha an)
      generalize eH3 : upd H2 B.a3 (.dK (putK kvs (Sum.inr x) (.ref j))) = H3 at X3 br3 hT3 ⊢
      refine ⟨_, rfl, p, C, dx, _, _, rfl, X3.hp, D.cl, D.n3, fl_3, B.a3, rfl, TabL.isD X3.t3, _, rfl, a, _, 2, .str y, rfl, rfl, hT3, atI_nat (j := 2) rfl, Nat.zero_le _, fun e4 he4 => ?_⟩
      obtain ⟨o4, gd4, l4, go4, el4⟩ := tl_get X3.t3 y he4
      have sm4 : Same H3 (upd H3 e4 (.lst [])) := same_upd he4
      refine ⟨o4, gd4, _, rfl, l4, _, x, by rw [go4]; rfl, el4, ?_, fun j5 H5 sm5 ej5 => ?_⟩
      · have h1 := hL.we x
        have h2 := hL.we y
        have h3 := jn_len (F.we x) y
        show (up F.we x (jn (F.we x) y) y).length ≤ 900
        unfold up
        split <;> omega
      · have X5 := (X3.same sm4).same sm5
        obtain ⟨kvs5, Dk5, g5⟩ := X5.t3.ex
        have hT5 := sameT (K := K) sm5 (sameT sm4 hT3)
        refine ⟨_, rfl, p, C, dx, _, _, rfl, X5.hp, D.cl, D.n3, fl_3, _, rfl, a, _, 2, .str y, rfl, rfl, hT5, atI_nat (j := 2) rfl, B.a3, _, rfl, DPut.k (k := Sum.inr y) Dk5.dk (small1000 (by have := Dk5.ln; omega)), ?_⟩
        have ja5 : j5 ≠ B.a3 := ne_of ej5 Dk5.dk (by intro e; cases e)
        exact go _ (X5.set3 but_upd (TabL.put Dk5 g5 but_upd upd_same (l := j5) (k := y) (zs := jn (up F.we x (jn (F.we x) y) y) x) (by rw [upd_ne ja5]; exact ej5) jn_ne)) ((br3.trans (Bar.of_same (sm4.trans sm5))).trans (Bar.of_but but_upd (by simp)))
    | parted x y =>
      refine ⟨_, rfl, a, _, 0, .str "parted", rfl, rfl, hT, atI_nat (j := 0) rfl, _, rfl, a, _, 1, .str x, rfl, rfl, hT, atI_nat (j := 1) rfl, _, _, rfl, ?_⟩
      refine ⟨_, rfl, rfl, _, rfl, ?_⟩
      rw [decide_eq_false (show ¬ V.str ("parted" : Str) = .str ("child" : Str) by decide +kernel)]
      refine iteF ?_
      refine ⟨_, rfl, rfl, _, rfl, ?_⟩
      rw [decide_eq_false (show ¬ V.str ("parted" : Str) = .str ("wed" : Str) by decide +kernel)]
      refine iteF ?_
      refine ⟨_, rfl, rfl, _, rfl, ?_⟩
      rw [decide_eq_true (show V.str ("parted" : Str) = .str ("parted" : Str) from rfl)]
      refine iteT ?_
      refine ⟨_, rfl, p, C, dx, _, _, rfl, X.hp, D.cl, D.n4, fl_4, B.a4, rfl, TabL.isD X.t4, _, rfl, Nat.zero_le _, fun e1 he1 => ?_⟩
      obtain ⟨o1, gd1, l1, go1, el1⟩ := tl_get X.t4 x he1
      have sm1 : Same H (upd H e1 (.lst [])) := same_upd he1
      refine ⟨o1, gd1, _, rfl, a, _, 2, .str y, rfl, rfl, (sameT sm1 hT), atI_nat (j := 2) rfl, l1, F.pt x, y, by rw [go1]; rfl, el1, by have := hL.pt x; omega, fun j H2 sm2 ej => ?_⟩
      have X2 := (X.same sm1).same sm2
      obtain ⟨kvs, Dk, g⟩ := X2.t4.ex
      refine ⟨_, rfl, p, C, dx, _, _, rfl, X2.hp, D.cl, D.n4, fl_4, _, rfl, B.a4, _, rfl, DPut.k (k := Sum.inr x) Dk.dk (small1000 (by have := Dk.ln; omega)), ?_⟩
      have ja : j ≠ B.a4 := ne_of ej Dk.dk (by intro e; cases e)
      have X3 := X2.set4 but_upd (TabL.put Dk g but_upd upd_same (l := j) (k := x) (zs := jn (F.pt x) y) (by rw [upd_ne ja]; exact ej) jn_ne)
      have br3 : Bar B H _ := (Bar.of_same (sm1.trans sm2)).trans (Bar.of_but (but_upd (H := H2) (a := B.a4) (o := .dK (putK kvs (Sum.inr x) (.ref j)))) (by simp))
      have an : a ∉ B.all := fun hx => by
        obtain ⟨kv, e⟩ := dk_all X hx
        rw [ha] at e
        cases e
      have hT3 : SqT K _ a (Fct.parted x y).vs := SqT.of (br3 _ _ ha an)
      generalize eH3 : upd H2 B.a4 (.dK (putK kvs (Sum.inr x) (.ref j))) = H3 at X3 br3 hT3 ⊢
      refine ⟨_, rfl, p, C, dx, _, _, rfl, X3.hp, D.cl, D.n4, fl_4, B.a4, rfl, TabL.isD X3.t4, _, rfl, a, _, 2, .str y, rfl, rfl, hT3, atI_nat (j := 2) rfl, Nat.zero_le _, fun e4 he4 => ?_⟩
      obtain ⟨o4, gd4, l4, go4, el4⟩ := tl_get X3.t4 y he4
      have sm4 : Same H3 (upd H3 e4 (.lst [])) := same_upd he4
      refine ⟨o4, gd4, _, rfl, l4, _, x, by rw [go4]; rfl, el4, ?_, fun j5 H5 sm5 ej5 => ?_⟩
      · have h1 := hL.pt x
        have h2 := hL.pt y
        have h3 := jn_len (F.pt x) y
        show (up F.pt x (jn (F.pt x) y) y).length ≤ 900
        unfold up
        split <;> omega
      · have X5 := (X3.same sm4).same sm5
        obtain ⟨kvs5, Dk5, g5⟩ := X5.t4.ex
        have hT5 := sameT (K := K) sm5 (sameT sm4 hT3)
        refine ⟨_, rfl, p, C, dx, _, _, rfl, X5.hp, D.cl, D.n4, fl_4, _, rfl, a, _, 2, .str y, rfl, rfl, hT5, atI_nat (j := 2) rfl, B.a4, _, rfl, DPut.k (k := Sum.inr y) Dk5.dk (small1000 (by have := Dk5.ln; omega)), ?_⟩
        have ja5 : j5 ≠ B.a4 := ne_of ej5 Dk5.dk (by intro e; cases e)
        exact go _ (X5.set4 but_upd (TabL.put Dk5 g5 but_upd upd_same (l := j5) (k := y) (zs := jn (up F.pt x (jn (F.pt x) y) y) x) (by rw [upd_ne ja5]; exact ej5) jn_ne)) ((br3.trans (Bar.of_same (sm4.trans sm5))).trans (Bar.of_but but_upd (by simp)))
    | died x d =>
      refine ⟨_, rfl, a, _, 0, .str "died", rfl, rfl, hT, atI_nat (j := 0) rfl, _, rfl, a, _, 1, .str x, rfl, rfl, hT, atI_nat (j := 1) rfl, _, _, rfl, ?_⟩
      refine ⟨_, rfl, rfl, _, rfl, ?_⟩
      rw [decide_eq_false (show ¬ V.str ("died" : Str) = .str ("child" : Str) by decide +kernel)]
      refine iteF ?_
      refine ⟨_, rfl, rfl, _, rfl, ?_⟩
      rw [decide_eq_false (show ¬ V.str ("died" : Str) = .str ("wed" : Str) by decide +kernel)]
      refine iteF ?_
      refine ⟨_, rfl, rfl, _, rfl, ?_⟩
      rw [decide_eq_false (show ¬ V.str ("died" : Str) = .str ("parted" : Str) by decide +kernel)]
      refine iteF ?_
      refine ⟨_, rfl, rfl, _, rfl, ?_⟩
      rw [decide_eq_true (show V.str ("died" : Str) = .str ("died" : Str) from rfl)]
      refine iteT ?_
      obtain ⟨kvs, Dk, g⟩ := X.t5.ex
      refine ⟨_, rfl, a, _, 2, .int d, rfl, rfl, hT, atI_nat (j := 2) rfl, _, rfl, p, C, dx, _, _, rfl, X.hp, D.cl, D.n5, fl_5, _, rfl, B.a5, _, rfl, DPut.k (k := Sum.inr x) Dk.dk (small1000 (by have := Dk.ln; omega)), ?_⟩
      have t := TabV.put Dk g (k := x) (v := .int d) (H' := upd H B.a5 (.dK (putK kvs (Sum.inr x) (.int d)))) upd_same
      rw [← up_int] at t
      exact go _ ((X.set5 but_upd t).mono (Nat.le_succ _)) (Bar.of_but but_upd (by simp))
    | renounced x =>
      refine ⟨_, rfl, a, _, 0, .str "renounced", rfl, rfl, hT, atI_nat (j := 0) rfl, _, rfl, a, _, 1, .str x, rfl, rfl, hT, atI_nat (j := 1) rfl, _, _, rfl, ?_⟩
      refine ⟨_, rfl, rfl, _, rfl, ?_⟩
      rw [decide_eq_false (show ¬ V.str ("renounced" : Str) = .str ("child" : Str) by decide +kernel)]
      refine iteF ?_
      refine ⟨_, rfl, rfl, _, rfl, ?_⟩
      rw [decide_eq_false (show ¬ V.str ("renounced" : Str) = .str ("wed" : Str) by decide +kernel)]
      refine iteF ?_
      refine ⟨_, rfl, rfl, _, rfl, ?_⟩
      rw [decide_eq_false (show ¬ V.str ("renounced" : Str) = .str ("parted" : Str) by decide +kernel)]
      refine iteF ?_
      refine ⟨_, rfl, rfl, _, rfl, ?_⟩
      rw [decide_eq_false (show ¬ V.str ("renounced" : Str) = .str ("died" : Str) by decide +kernel)]
      refine iteF ?_
      refine ⟨_, rfl, rfl, _, rfl, ?_⟩
      rw [decide_eq_true (show V.str ("renounced" : Str) = .str ("renounced" : Str) from rfl)]
      refine iteT ?_
      obtain ⟨kvs, Dk, g⟩ := X.t6.ex
      refine ⟨_, rfl, p, C, dx, _, _, rfl, X.hp, D.cl, D.n6, fl_6, _, rfl, B.a6, _, rfl, DPut.k (k := Sum.inr x) Dk.dk (small1000 (by have := Dk.ln; omega)), ?_⟩
      have t := TabV.put Dk g (k := x) (v := .bl true) (H' := upd H B.a6 (.dK (putK kvs (Sum.inr x) (.bl true)))) upd_same
      rw [← up_bl] at t
      exact go _ ((X.set6 but_upd t).mono (Nat.le_succ _)) (Bar.of_but but_upd (by simp))
    | advance x m =>
      refine ⟨_, rfl, a, _, 0, .str "advance", rfl, rfl, hT, atI_nat (j := 0) rfl, _, rfl, a, _, 1, .str x, rfl, rfl, hT, atI_nat (j := 1) rfl, _, _, rfl, ?_⟩
      refine ⟨_, rfl, rfl, _, rfl, ?_⟩
      rw [decide_eq_false (show ¬ V.str ("advance" : Str) = .str ("child" : Str) by decide +kernel)]
      refine iteF ?_
      refine ⟨_, rfl, rfl, _, rfl, ?_⟩
      rw [decide_eq_false (show ¬ V.str ("advance" : Str) = .str ("wed" : Str) by decide +kernel)]
      refine iteF ?_
      refine ⟨_, rfl, rfl, _, rfl, ?_⟩
      rw [decide_eq_false (show ¬ V.str ("advance" : Str) = .str ("parted" : Str) by decide +kernel)]
      refine iteF ?_
      refine ⟨_, rfl, rfl, _, rfl, ?_⟩
      rw [decide_eq_false (show ¬ V.str ("advance" : Str) = .str ("died" : Str) by decide +kernel)]
      refine iteF ?_
      refine ⟨_, rfl, rfl, _, rfl, ?_⟩
      rw [decide_eq_false (show ¬ V.str ("advance" : Str) = .str ("renounced" : Str) by decide +kernel)]
      refine iteF ?_
      obtain ⟨kvs, Dk, g⟩ := X.t7.ex
      refine ⟨_, rfl, p, dx, _, rfl, X.hp, no_ma B, _, rfl, p, x, n, F, rfl, X.at', _, rfl, a, _, 2, .int m, rfl, rfl, hT, atI_nat (j := 2) rfl, _, _, rfl, rfl, _, rfl, p, C, dx, _, _, rfl, X.hp, D.cl, D.n7, fl_7, _, rfl, B.a7, _, rfl, DPut.k (k := Sum.inr x) Dk.dk (small1000 (by have := Dk.ln; omega)), ?_⟩
      have t := TabV.put Dk g (k := x) (v := .int ((F.ad x).getD 0 + m)) (H' := upd H B.a7 (.dK (putK kvs (Sum.inr x) (.int ((F.ad x).getD 0 + m))))) upd_same
      rw [← up_int] at t
      exact go _ ((X.set7 but_upd t).mono (Nat.le_succ _)) (Bar.of_but but_upd (by simp))
end
end ZF
namespace ZF
open PySem L2 PyProof.Rows G
/-- a descendant -/
inductive Dsc (R : Str → List Str) : Str → Str → Prop
  | one {x y : Str} (h : y ∈ R x) : Dsc R x y
  | more {x y z : Str} (h : Dsc R x y) (g : z ∈ R y) : Dsc R x z
/-- the dict of those found -/
def fdict (fs : List Str) : List (Key × V) := fs.map fun k => (Sum.inr k, V.bl true)
theorem fdict_val (fs : List Str) (x : Str) : valV (fdict fs) (Sum.inr x : Key) = if x ∈ fs then some (.bl true) else none := by
  unfold fdict
  induction fs with
  | nil => rfl
  | cons y fs ih =>
    by_cases e : y = x
    · subst e
      rw [List.map_cons, valV_pos rfl, if_pos List.mem_cons_self]
    · rw [List.map_cons, valV_neg (fun z => e (Sum.inr.inj z)), ih]
      by_cases m : x ∈ fs
      · rw [if_pos m, if_pos (List.mem_cons_of_mem _ m)]
      · rw [if_neg m, if_neg fun q => (List.mem_cons.mp q).elim (fun z => e z.symm) m]
theorem fdict_put {fs : List Str} {x : Str} (h : x ∉ fs) : putK (fdict fs) (Sum.inr x : Key) (.bl true) = fdict (fs ++ [x]) := by
  rw [putK_new _ (by rw [fdict_val, if_neg h])]
  unfold fdict
  rw [List.map_append]
  rfl
theorem nodup_le : ∀ {fs U : List Str}, fs.Nodup → (∀ x ∈ fs, x ∈ U) → fs.length ≤ U.length
  | [], U, _, _ => Nat.zero_le _
  | x :: fs, U, n, h => by
    have n' := List.nodup_cons.mp n
    have m : x ∈ U := h x List.mem_cons_self
    have := nodup_le (U := U.erase x) n'.2 fun y hy => (List.mem_erase_of_ne (fun e : y = x => n'.1 (by rw [← e]; exact hy))).mpr (h y (List.mem_cons_of_mem _ hy))
    rw [List.length_erase_of_mem m] at this
    have := List.length_pos_of_mem m
    simp only [List.length_cons]
    omega
/-- what holds between two turns -/
structure Go (R : Str → List Str) (x0 : Str) (U fs ws : List Str) : Prop where
  d : ∀ x ∈ fs, Dsc R x0 x
  w : ∀ x ∈ ws, x = x0 ∨ x ∈ fs
  c : ∀ x, x = x0 ∨ x ∈ fs → x ∈ ws ∨ ∀ y ∈ R x, y ∈ fs
  n : fs.Nodup
  u : ∀ x ∈ fs, x ∈ U
theorem Go.le {R : Str → List Str} {x0 : Str} {U fs ws : List Str} (g : Go R x0 U fs ws) : fs.length ≤ U.length := nodup_le g.n g.u
/-- within a turn: the children of x up to the i-th are found -/
structure In (R : Str → List Str) (x0 x : Str) (U fs ws : List Str) (i : Nat) : Prop where
  d : ∀ z ∈ fs, Dsc R x0 z
  w : ∀ z ∈ ws, z = x0 ∨ z ∈ fs
  c : ∀ z, z = x0 ∨ z ∈ fs → z ∈ ws ∨ z = x ∨ ∀ y ∈ R z, y ∈ fs
  n : fs.Nodup
  u : ∀ z ∈ fs, z ∈ U
  i : ∀ y ∈ (R x).take i, y ∈ fs
theorem In.le {R : Str → List Str} {x0 x : Str} {U fs ws : List Str} {i : Nat} (g : In R x0 x U fs ws i) : fs.length ≤ U.length := nodup_le g.n g.u
theorem Go.pop {R : Str → List Str} {x0 x : Str} {U fs ws : List Str} (g : Go R x0 U fs (ws ++ [x])) : In R x0 x U fs ws 0 :=
  ⟨g.d, fun z h => g.w z (List.mem_append_left _ h), fun z h => (g.c z h).elim (fun m => (List.mem_append.mp m).elim .inl fun e => .inr (.inl (List.mem_singleton.mp e))) fun m => .inr (.inr m), g.n, g.u, fun y h => by cases h⟩
theorem In.out {R : Str → List Str} {x0 x : Str} {U fs ws : List Str} {i : Nat} (g : In R x0 x U fs ws i) (h : (R x).length ≤ i) : Go R x0 U fs ws := by
  refine ⟨g.d, g.w, fun z hz => ?_, g.n, g.u⟩
  rcases g.c z hz with m | rfl | m
  · exact .inl m
  · have := g.i
    rw [List.take_of_length_le h] at this
    exact .inr this
  · exact .inr m
theorem In.skip {R : Str → List Str} {x0 x y : Str} {U fs ws : List Str} {i : Nat} (g : In R x0 x U fs ws i) (hy : (R x)[i]? = some y) (h : y ∈ fs) : In R x0 x U fs ws (i + 1) :=
  ⟨g.d, g.w, g.c, g.n, g.u, fun z hz => by
    rw [List.take_add_one, hy] at hz
    rcases List.mem_append.mp hz with m | m
    · exact g.i z m
    · rw [List.mem_singleton.mp m]
      exact h⟩
theorem In.add {R : Str → List Str} {x0 x y : Str} {U fs ws : List Str} {i : Nat} (g : In R x0 x U fs ws i) (hx : x = x0 ∨ x ∈ fs) (hy : (R x)[i]? = some y) (hU : ∀ x, ∀ y ∈ R x, y ∈ U) (h : y ∉ fs) : In R x0 x U (fs ++ [y]) (ws ++ [y]) (i + 1) := by
  have my : y ∈ R x := List.mem_of_getElem? hy
  refine ⟨fun z hz => ?_, fun z hz => ?_, fun z hz => ?_, ?_, fun z hz => ?_, fun z hz => ?_⟩
  · rcases List.mem_append.mp hz with m | m
    · exact g.d z m
    · rw [List.mem_singleton.mp m]
      rcases hx with rfl | hx
      · exact .one my
      · exact .more (g.d x hx) my
  · rcases List.mem_append.mp hz with m | m
    · exact (g.w z m).imp id fun q => List.mem_append_left _ q
    · exact .inr (List.mem_append_right _ m)
  · have old (q : z = x0 ∨ z ∈ fs) : z ∈ ws ++ [y] ∨ z = x ∨ ∀ v ∈ R z, v ∈ fs ++ [y] :=
      (g.c z q).imp (fun m => List.mem_append_left _ m) fun m => m.imp id fun m v hv => List.mem_append_left _ (m v hv)
    rcases hz with q | q
    · exact old (.inl q)
    · rcases List.mem_append.mp q with m | m
      · exact old (.inr m)
      · exact .inl (List.mem_append_right _ m)
  · exact List.nodup_append.mpr ⟨g.n, List.pairwise_singleton _ _, fun a ha b hb e => h (by rw [← List.mem_singleton.mp hb, ← e]; exact ha)⟩
  · rcases List.mem_append.mp hz with m | m
    · exact g.u z m
    · rw [List.mem_singleton.mp m]
      exact hU x y my
  · rw [List.take_add_one, hy] at hz
    rcases List.mem_append.mp hz with m | m
    · exact List.mem_append_left _ (g.i z m)
    · exact List.mem_append_right _ m
theorem Go.done {R : Str → List Str} {x0 z : Str} {U fs : List Str} (g : Go R x0 U fs []) : z ∈ fs ↔ Dsc R x0 z := by
  have cl : ∀ x, x = x0 ∨ x ∈ fs → ∀ y ∈ R x, y ∈ fs := fun x hx => (g.c x hx).elim (fun m => by cases m) id
  refine ⟨g.d z, fun h => ?_⟩
  induction h with
  | one h => exact cl _ (.inl rfl) _ h
  | more _ h ih => exact cl _ (.inr ih) _ h
section
variable {P : Program} {w : World} {K : PySem.W.Frag} {mg : Str → Option Value} {base : Heap}
abbrev nRea : List Str := ["self", "name", "wanted", "found", "waiting", "person", "child"]
theorem scRea : FnScope nRea ["self", "name", "wanted"] (defScope sRea) := ⟨rfl, rfl, rfl, by decide +kernel, rfl, by decide +kernel, by decide +kernel⟩
theorem no_mC (A : FA) : A.fl.lookup ("children" : Str) = none := by kernel_rfl
def spRea (C : Addr) : Sp := fun vs H Q _ => ∃ (p : Addr) (x y : Str) (n : Nat) (F : Fm) (U : List Str), vs = [.ref p, .str x, .str y] ∧ FamAt C H p n F ∧ U.length ≤ 400 ∧ (∀ x, ∀ y ∈ F.ch x, y ∈ U) ∧ (∀ x, (F.ch x).length ≤ 900) ∧ ∀ H' b, Same H H' → (b = true ↔ Dsc F.ch x y) → Q (.bl b) H'
theorem ok_reaches {f C : Addr} {fd : FuncData} (F : Fun K "reaches" "Family.reaches" sRea f fd) (D : FT K C) (MC : HasM P w K mg base CX0 C "children" ["self", "name"] 1 (spLs C fun F k => F.ch k)) : FnOk P w K mg base CX0 2 f fd ["self", "name", "wanted"] (spRea C) := by
  obtain ⟨fC, fdC, meC, bC, GC⟩ := MC.ok
  refine F.ok scRea (fun vs H Q E h => ?_) (fun cdv A outer s H vs Q E hr h => ?_)
  · obtain ⟨p, x, y, n, F, U, rfl, _⟩ := h
    rfl
  · obtain ⟨p, x0, y0, n, F, U, rfl, hF, hU9, hU, hlen, go⟩ := h
    have hu := hu_of hr
    refine ⟨_, pss_cons (ps_set (i := 3) scRea.nd rfl (.inl rfl) pe_dnewK)
      (pss_cons (ps_set (i := 4) scRea.nd rfl (.inl rfl) (pe_lst (pa_cons (pv 1) pa_nil)))
      (pss_cons (ps_while PassesOwn.never (pt_truth (pv 4) (by intro _; rfl))
        (pss_cons (ps_set (i := 5) scRea.nd rfl (.inl rfl) (pe_bm0 PySem.F.plainAttrs_list PySem.F.slot_list_pop PySem.F.type_list_pop mt_pop (pv 4)))
        (pss_one (ps_for PassesOwn.never rfl (pi_list (pe_meth (pv 0) D.cl meC GC hr bC .nil pass0 (pa_cons (pv 5) pa_nil))) (pg_name (i := 6) scRea.nd rfl (.inl rfl))
          (pss_one (ps_if (pt_cmp (pc_dnotin hu (pv 6) (pv 3))) (pss_cons (ps_dput hu (pv 3) (pv 6) pe_bl rfl)
            (pss_one (ps_expr (pe_bm PySem.F.plainAttrs_list PySem.F.slot_list_append PySem.F.type_list_append mt_append (pv 4) (pa_cons (pv 6) pa_nil))))) pss_nil))))))
      (pss_one (ps_ret (pe_cmp (pc_din hu (pv 2) (pv 3)) rfl))))), ?_⟩
    intro d hd
    refine ⟨_, rfl, by show 1 ≤ sizeLine; decide, fun l hl => ?_⟩
    have dl : d ≠ l := ne_of_none upd_same hl
    have s1 : Same H (upd (upd H d (.dK [])) l (.lst [.str x0])) := (same_upd hd).trans (same_upd hl)
    have hnl : H l = none := (same_upd hd).free hl
    refine ⟨fun m σ Hx => ∃ (fs ws : List Str) (y5 y6 : Option V), σ = [some (.ref p), some (.str x0), some (.str y0), some (.ref d), some (.ref l), y5, y6] ∧ Same H Hx ∧ Hx d = some (.dK (fdict fs)) ∧ Hx l = some (.lst (ws.map V.str)) ∧ Go F.ch x0 U fs ws ∧ m = 2 * (U.length - fs.length) + ws.length ∧ 2 * (U.length - fs.length) + ws.length ≤ 900,
      ⟨2 * U.length + 1, [], [x0], none, none, rfl, s1, by rw [upd_ne dl, upd_same]; rfl, upd_same, ⟨(fun x h => by cases h), (fun x h => .inl (List.mem_singleton.mp h)), (fun x h => ?_), List.nodup_nil, (fun x h => by cases h)⟩, rfl, by simp only [List.length_nil, List.length_singleton]; omega⟩, ?_⟩
    · rcases h with rfl | h
      · exact .inl (List.mem_singleton.mpr rfl)
      · cases h
    · rintro m σ Hx ⟨fs, ws, y5, y6, rfl, sm, hd1, hl1, g, rfl, hm⟩
      refine ⟨_, rfl, _, .inl ⟨_, SqL.of hl1, rfl⟩, ?_⟩
      rcases List.eq_nil_or_concat ws with rfl | ⟨ws', x, rfl⟩
      · refine ⟨_, rfl, _, rfl, d, _, rfl, .inl ⟨_, Sum.inr y0, .inl hd1, rfl, rfl⟩, ?_⟩
        rw [fdict_val]
        refine go Hx _ sm ?_
        rw [← g.done]
        by_cases h : y0 ∈ fs
        · rw [if_pos h]
          exact ⟨fun _ => h, fun _ => rfl⟩
        · rw [if_neg h]
          exact ⟨fun z => (by cases z), fun z => absurd z h⟩
      · rw [List.concat_eq_append] at hl1 g hm ⊢
        have ne : (!((ws' ++ [x]).map V.str).isEmpty) = true := by simp
        rw [ne]
        rw [if_pos rfl]
        refine ⟨fun σ1 H1 => ∃ (fs1 ws1 : List Str) (y5 y6 : Option V), σ1 = [some (.ref p), some (.str x0), some (.str y0), some (.ref d), some (.ref l), y5, y6] ∧ Same H H1 ∧ H1 d = some (.dK (fdict fs1)) ∧ H1 l = some (.lst (ws1.map V.str)) ∧ Go F.ch x0 U fs1 ws1 ∧ 2 * (U.length - fs1.length) + ws1.length < 2 * (U.length - fs.length) + (ws' ++ [x]).length, ?_, ?_⟩
        · rintro σ1 H1 ⟨fs1, ws1, z5, z6, rfl, sm1, hd2, hl2, g1, lt⟩
          exact ⟨_, lt, fs1, ws1, z5, z6, rfl, sm1, hd2, hl2, g1, rfl, by omega⟩
        · refine ⟨_, rfl, .inl ⟨rfl, _, .inl (.inl hl1)⟩, l, _, .str x, rfl, rfl, hl1, ?_, ?_⟩
          · rw [List.length_map, List.length_append, List.map_append]
            simp
          · rw [show ((ws' ++ [x]).map V.str).dropLast = ws'.map V.str by rw [List.map_append]; exact List.dropLast_concat]
            rw [List.length_append, List.length_singleton] at hm
            have dl' : d ≠ l := ne_of hd1 hl1 (by intro z; cases z)
            have hd2 : upd Hx l (.lst (ws'.map V.str)) d = some (.dK (fdict fs)) := by rw [upd_ne dl']; exact hd1
            have smU (o) : Same H (upd Hx l o) := fun b o hb => by
              rw [upd_ne (ne_of_none hb hnl)]
              exact sm b o hb
            have sm2 : Same H (upd Hx l (.lst (ws'.map V.str))) := smU _
            obtain ⟨dx, a1, a2, a3, a4, a5, a6, a7, hp, -, -, -, -, -, -, -, -⟩ := (hF.same sm2).ex
            refine ⟨_, rfl, p, dx, _, rfl, hp, no_mC ⟨a1, a2, a3, a4, a5, a6, a7⟩, _, rfl, p, x, n, F, rfl, hF.same sm2, fun c H3 sm3 nc ec => ?_⟩
            have cd : c ≠ d := fun e => by
              rw [e, hd2] at nc
              cases nc
            have cl : c ≠ l := fun e => by
              rw [e, upd_same] at nc
              cases nc
            have sm3' : Same H H3 := sm2.trans sm3
            have hx : x = x0 ∨ x ∈ fs := g.w x (List.mem_append_right _ (List.mem_singleton.mpr rfl))
            refine ⟨c, rfl, ⟨_, SqL.of ec⟩, for_list (K := K) (a := c) (xs := (F.ch x).map V.str) (fun i σ Hy => ∃ (fs1 ws1 : List Str) (y6 : Option V), σ = [some (.ref p), some (.str x0), some (.str y0), some (.ref d), some (.ref l), some (.str x), y6] ∧ Same H Hy ∧ Hy c = some (.lst ((F.ch x).map V.str)) ∧ Hy d = some (.dK (fdict fs1)) ∧ Hy l = some (.lst (ws1.map V.str)) ∧ In F.ch x0 x U fs1 ws1 i ∧ (x = x0 ∨ x ∈ fs1) ∧ 2 * (U.length - fs1.length) + ws1.length ≤ 2 * (U.length - fs.length) + ws'.length)
              ⟨fs, ws', y6, rfl, sm3', ec, sm3 _ _ hd2, sm3 _ _ upd_same, g.pop, hx, Nat.le_refl _⟩ (fun i σ Hy _ ⟨_, _, _, _, _, z, _⟩ => SqL.of z) ?_ ?_⟩
            · rintro i v σ Hy hi ⟨fs1, ws1, z6, rfl, smy, yc, yd, yl, gi, hx1, le⟩
              obtain ⟨y, ey, rfl⟩ : ∃ y, (F.ch x)[i]? = some y ∧ v = .str y := by
                rw [List.getElem?_map] at hi
                obtain ⟨k, h1, h2⟩ := Option.map_eq_some_iff.mp hi
                exact ⟨k, h1, h2.symm⟩
              refine ⟨_, rfl, _, rfl, d, _, rfl, .inl ⟨_, Sum.inr y, .inl yd, rfl, rfl⟩, _, rfl, ?_⟩
              rw [fdict_val]
              by_cases my : y ∈ fs1
              · rw [if_pos my]
                exact iteF ⟨fs1, ws1, _, rfl, smy, yc, yd, yl, gi.skip ey my, hx1, le⟩
              · rw [if_neg my]
                have gi2 := gi.add hx1 ey hU my
                have le2 := gi2.le
                rw [List.length_append, List.length_singleton] at le2
                refine iteT ⟨_, rfl, _, rfl, d, _, rfl, DPut.k (k := Sum.inr y) yd ?_, ?_⟩
                · unfold fdict
                  rw [List.length_map]
                  exact small1000 (by omega)
                · rw [fdict_put my]
                  have l3 : upd Hy d (.dK (fdict (fs1 ++ [y]))) l = some (.lst (ws1.map V.str)) := by
                    rw [upd_ne dl'.symm]
                    exact yl
                  refine ⟨_, rfl, .inl ⟨rfl, _, .inl (.inl l3)⟩, _, rfl, l, _, _, rfl, rfl, l3, ?_, ?_⟩
                  · rw [List.length_map]
                    exact small1000 (by omega)
                  · refine ⟨fs1 ++ [y], ws1 ++ [y], _, rfl, fun b o hb => ?_, ?_, ?_, ?_, gi2, hx1.imp id fun m => List.mem_append_left _ m, ?_⟩
                    · rw [upd_ne (ne_of_none hb hnl), upd_ne (ne_of_none hb hd)]
                      exact smy b o hb
                    · rw [upd_ne cl, upd_ne cd]
                      exact yc
                    · rw [upd_ne dl', upd_same]
                    · rw [upd_same, List.map_append]
                      rfl
                    · rw [List.length_append, List.length_append, List.length_singleton]
                      omega
            · rintro σ Hy ⟨fs1, ws1, z6, rfl, smy, yc, yd, yl, gi, hx1, le⟩
              refine ⟨fs1, ws1, _, _, rfl, smy, yd, yl, gi.out (by rw [List.length_map]; exact Nat.le_refl _), ?_⟩
              rw [List.length_append, List.length_singleton]
              omega
end
end ZF
namespace ZF
open PySem L2 PyProof.Rows G
/-- those wed to somebody and not parted -/
def sp (F : Fm) (k : Str) : List Str := (F.we k).filter fun y => !decide (y ∈ F.pt k)
section
variable {P : Program} {w : World} {K : PySem.W.Frag} {mg : Str → Option Value} {base : Heap}
theorem filt_step {α : Type} (l : List α) (f : α → Bool) {i : Nat} {y : α} (h : l[i]? = some y) : (l.take (i + 1)).filter f = (l.take i).filter f ++ (if f y = true then [y] else []) := by
  rw [List.take_add_one, h, List.filter_append]
  congr 1
  show List.filter f [y] = _
  rw [List.filter_cons]
  rfl
abbrev nSpo : List Str := ["self", "name", "parted", "other"]
theorem scSpo : FnScope nSpo ["self", "name"] (defScope sSpo) := ⟨rfl, rfl, rfl, by decide +kernel, rfl, by decide +kernel, by decide +kernel⟩
def spSpo (C : Addr) : Sp := fun vs H Q _ => ∃ (p : Addr) (k : Str) (n : Nat) (F : Fm), vs = [.ref p, .str k] ∧ FamAt C H p n F ∧ (F.we k).length ≤ 900 ∧ ∀ l H', Same H H' → H l = none → H' l = some (.lst ((sp F k).map V.str)) → Q (.ref l) H'
theorem ok_spouses {f C : Addr} {fd : FuncData} (F : Fun K "spouses" "Family.spouses" sSpo f fd) (D : FT K C) : FnOk P w K mg base CX0 1 f fd ["self", "name"] (spSpo C) := by
  refine F.ok scSpo (fun vs H Q E h => ?_) (fun cdv A outer s H vs Q E hr h => ?_)
  · obtain ⟨p, k, n, F, rfl, _⟩ := h
    rfl
  · obtain ⟨p, k, n, F, rfl, hF, hl, go⟩ := h
    obtain ⟨dx, a1, a2, a3, a4, a5, a6, a7, hp, t1, t2, t3, t4, t5, t6, t7, nd⟩ := hF.ex
    have hu := hu_of hr
    refine ⟨_, pss_cons (ps_set (i := 2) scSpo.nd rfl (.inr rfl) (pe_dget2 hu (pe_fld (pv 0) rfl) (pv 1) (pe_lst pa_nil) ⟨rfl, rfl, rfl, rfl⟩))
      (pss_one (ps_ret (pe_lc (own := [("other", 3)]) (g := gName 3) rfl scSpo.nd (pi_list (pe_dget2 hu (pe_fld (pv 0) rfl) (pv 1) (pe_lst pa_nil) ⟨rfl, rfl, rfl, rfl⟩)) (blkOk_by (N := nSpo) (sc := defScope sSpo) (by decide +kernel))
        (fun _ _ _ _ _ => pg_name (i := 3) scSpo.nd rfl (.inl rfl) (.inr rfl)) (fun _ _ _ _ _ => pts_one (pt_cmpR (show OpR _ _ (rIn K true) from op_notIn_seq) (pv 3) (pv 2) (by rfl))) (fun _ _ _ _ _ => pv 3)))), ?_⟩
    refine ⟨_, rfl, p, C, dx, _, _, rfl, hp, D.cl, D.n4, fl_4, a4, rfl, TabL.isD t4, _, rfl, Nat.zero_le _, fun e he => ?_⟩
    obtain ⟨o, g1, lp, g2, g3⟩ := tl_get t4 k he
    refine ⟨o, g1, ?_⟩
    rw [g2]
    have s1 : Same H (upd H e (.lst [])) := same_upd he
    refine ⟨_, rfl, p, C, dx, _, _, rfl, s1 _ _ hp, D.cl, D.n3, fl_3, a3, rfl, TabL.isD (t3.same s1), _, rfl, Nat.zero_le _, fun e2 he2 => ?_⟩
    obtain ⟨o2, h1, lw, h2, h3⟩ := tl_get (t3.same s1) k he2
    have s2 := s1.trans (same_upd (o := .lst []) he2)
    have gp : upd (upd H e (.lst [])) e2 (.lst []) lp = some (.lst ((F.pt k).map V.str)) := by
      rw [upd_ne (ne_of_none g3 he2)]
      exact g3
    refine ⟨o2, h1, lw, h2, ⟨_, SqL.of h3⟩, fun Dn hD => lc_it walk_list (fun i Hy => Same H Hy ∧ Hy lp = some (.lst ((F.pt k).map V.str)) ∧ Hy lw = some (.lst ((F.we k).map V.str)) ∧ Hy Dn = some (.lst ((((F.we k).take i).filter fun y => !decide (y ∈ F.pt k)).map V.str)))
      ⟨s2.trans (same_upd hD), by rw [upd_ne (ne_of_none gp hD)]; exact gp, by rw [upd_ne (ne_of_none h3 hD)]; exact h3, upd_same⟩ (fun i Hy _ z => SqL.of z.2.2.1) ?_ ?_⟩
    · rintro i v Hy H' hi ⟨k1, k2, k3, k4⟩ ⟨rfl, ev⟩
      obtain ⟨y, ey, rfl⟩ : ∃ y, (F.we k)[i]? = some y ∧ v = .str y := by
        rw [List.getElem?_map] at ev
        obtain ⟨k, h1, h2⟩ := Option.map_eq_some_iff.mp ev
        exact ⟨k, h1, h2.symm⟩
      refine ⟨rfl, _, rfl, _, rfl, lp, _, rfl, .inl (SqL.of k2), rfl, flat_strs _, _, rfl, ?_⟩
      rw [show (if true = true then !inV (V.str y) ((F.pt k).map V.str) else inV (V.str y) ((F.pt k).map V.str)) = !inV (V.str y) ((F.pt k).map V.str) from if_pos rfl, inV_str]
      have st := filt_step (F.we k) (fun y => !decide (y ∈ F.pt k)) ey
      refine ite2 (fun c => ?_) (fun c => ?_)
      · refine ⟨_, rfl, _, k4, ?_, ?_, ?_, ?_, ?_⟩
        · rw [List.length_map]
          have := List.length_filter_le (fun y => !decide (y ∈ F.pt k)) ((F.we k).take i)
          rw [List.length_take] at this
          exact small1000 (by omega)
        · intro b o hb
          have hDn : H Dn = none := s2.free hD
          rw [upd_ne (ne_of_none hb hDn)]
          exact k1 b o hb
        · rw [upd_ne (ne_of_none gp hD)]
          exact k2
        · rw [upd_ne (ne_of_none h3 hD)]
          exact k3
        · rw [upd_same, st, if_pos c, List.map_append]
          rfl
      · refine ⟨k1, k2, k3, ?_⟩
        rw [st, if_neg c, List.append_nil]
        exact k4
    · rintro Hy ⟨k1, k2, k3, k4⟩
      rw [List.length_map, List.take_length] at k4
      exact go Dn Hy k1 (s2.free hD) k4
end
end ZF
namespace ZF
open PySem L2 PyProof.Rows G
/-- the __init__ of an own error that keeps one field -/
def spEI (K : PySem.W.Frag) (nm : Str) : Sp := fun vs H Q _ => ∃ (a C : Addr) (v : V), vs = [.ref a, v] ∧ OexC K C ∧ PySem.W.findIn K (.ref C) nm = some none ∧ H a = some (exo a C none) ∧ ∀ dx, H dx = none → dx ≠ a → Q .non (upd (upd H dx (exd dx [(nm, v)])) a (exo a C (some dx)))
/-- an own error of one field -/
structure XT (P : Program) (w : World) (K : PySem.W.Frag) (mg : Str → Option Value) (base : Heap) (x nm : Str) (C : Addr) : Prop where
  o : OexC K C
  g : mg x = some (.ref C)
  n : PySem.W.findIn K (.ref C) nm = some none
  i : ∃ (fI : Addr) (fd : FuncData), PySem.W.findIn K (.ref C) "__init__" = some (some (.ref fI)) ∧ PySem.W.typeIn K (.ref fI) = some (.type "function") ∧ Binds K fd ["self", nm] [] ∧ FnOk P w K mg base CX0 1 fI fd ["self", nm] (spEI K nm)
section
variable {P : Program} {w : World} {K : PySem.W.Frag} {mg : Str → Option Value} {base : Heap}
theorem scBadI : FnScope ["self", "at"] ["self", "at"] (defScope sBadI) := ⟨rfl, rfl, rfl, by decide +kernel, rfl, by decide +kernel, by decide +kernel⟩
theorem ok_badI {f : Addr} {fd : FuncData} (F : Fun K "__init__" "BadFact.__init__" sBadI f fd) : FnOk P w K mg base CX0 1 f fd ["self", "at"] (spEI K "at") := by
  refine F.ok scBadI (fun vs H Q E h => ?_) (fun cdv A outer s H vs Q E hr h => ?_)
  · obtain ⟨a, C, v, rfl, _⟩ := h
    rfl
  · obtain ⟨a, C, v, rfl, o, n, ha, go⟩ := h
    refine ⟨_, pss_one (ps_ost (pv 0) (pv 1)), ?_⟩
    exact ⟨_, rfl, _, rfl, a, C, rfl, o, n, .inl ⟨ha, fun dx h ne => go dx h ne⟩⟩
theorem scCirI : FnScope ["self", "name"] ["self", "name"] (defScope sCirI) := ⟨rfl, rfl, rfl, by decide +kernel, rfl, by decide +kernel, by decide +kernel⟩
theorem ok_cirI {f : Addr} {fd : FuncData} (F : Fun K "__init__" "Circular.__init__" sCirI f fd) : FnOk P w K mg base CX0 1 f fd ["self", "name"] (spEI K "name") := by
  refine F.ok scCirI (fun vs H Q E h => ?_) (fun cdv A outer s H vs Q E hr h => ?_)
  · obtain ⟨a, C, v, rfl, _⟩ := h
    rfl
  · obtain ⟨a, C, v, rfl, o, n, ha, go⟩ := h
    refine ⟨_, pss_one (ps_ost (pv 0) (pv 1)), ?_⟩
    exact ⟨_, rfl, _, rfl, a, C, rfl, o, n, .inl ⟨ha, fun dx h ne => go dx h ne⟩⟩
/-- the making of such an error -/
theorem mk_read {C : Addr} {nm : Str} {v : V} {H1 : Hp} {Q : XK} (o : OexC K C) (n : PySem.W.findIn K (.ref C) nm = some none)
    (go : ∀ d H', H1 d = none → Same H1 H' → H' d = some (.xd [(nm, v)]) → Q (.ref C) (some d) H') :
    ([v] : List V).length ≤ 1000 ∧ ∀ a, H1 a = none → spEI K nm (.ref a :: ([v] ++ [])) (upd H1 a (exo a C none)) (fun v H2 => v = .non ∧ ∃ (d : Addr) (fs : List (Str × V)), H2 a = some (exo a C (some d)) ∧ H2 d = some (exd d fs) ∧ H1 d = none ∧ Q (.ref C) (some d) (upd (del H2 a) d (.xd fs))) (fun _ _ _ => False) := by
  refine ⟨(by show 1 ≤ 1000; omega), fun a ha => ⟨a, C, v, rfl, o, n, upd_same, fun dx hdx ne => ⟨rfl, dx, [(nm, v)], upd_same, ?_, ?_, ?_⟩⟩⟩
  · rw [upd_ne ne, upd_same]
  · rw [upd_ne ne] at hdx
    exact hdx
  · rw [upd_ne ne] at hdx
    refine go dx _ hdx (fun b u hb => ?_) upd_same
    have e1 : b ≠ dx := ne_of_none hb hdx
    have e2 : b ≠ a := ne_of_none hb ha
    rw [upd_ne e1, del_ne e2, upd_ne e2, upd_ne e1, upd_ne e2]
    exact hb
end
end ZF
namespace ZF
open PySem L2 PyProof.Rows G
/-- what the walk over the facts comes to: what is known, or the index of the first that is none -/
def run : Fm → Nat → List (Option Fct) → Fm ⊕ Nat
  | F, _, [] => .inl F
  | _, i, none :: _ => .inr i
  | F, i, some fc :: r => if F.bad fc then .inr i else run (F.learn fc) (i + 1) r
/-- an item of the list of facts -/
def Itm (H : Hp) (x : V) : Option Fct → Prop
  | some fc => ∃ q, x = .ref q ∧ H q = some (.tup fc.vs) ∧ factV fc.vs = true
  | none => (∃ q ys, x = .ref q ∧ H q = some (.tup ys) ∧ (∀ y ∈ ys, OkV y) ∧ factV ys = false) ∨ NoTup H x
theorem nm_len {x : Str} (h : isNm x = true) : x.length ≤ 12 := by
  unfold isNm at h
  rw [Bool.and_eq_true, Bool.and_eq_true, Bool.and_eq_true] at h
  exact of_decide_eq_true h.1.2.2
theorem okv_nm {x : Str} (h : isNm x = true) : OkV (.str x) := ⟨rfl, fun y e => by
  have := V.str.inj e
  rw [← this]
  have := nm_len h
  omega⟩
theorem okv_int (i : Int) : OkV (.int i) := ⟨rfl, fun y e => by cases e⟩
theorem okv_w {x : Str} (h : x.length ≤ 1000) : OkV (.str x) := ⟨rfl, fun y e => by
  have := V.str.inj e
  rw [← this]
  exact h⟩
theorem fact_nm {w n : V} {r : List V} (h : factV (w :: n :: r) = true) : nameV n = true := by
  match r, h with
  | [], h =>
    have h' : (isStr w && nameV n && _) = true := h
    rw [Bool.and_eq_true, Bool.and_eq_true] at h'
    exact h'.1.2
  | [z], h =>
    have h' : (isStr w && nameV n && _) = true := h
    rw [Bool.and_eq_true, Bool.and_eq_true] at h'
    exact h'.1.2
  | _ :: _ :: _, h => cases h
theorem fact_nm3 {w n z : V} (h : factV [w, n, z] = true) (c : w = .str "child" ∨ w = .str "wed" ∨ w = .str "parted") : nameV z = true ∧ n ≠ z := by
  have h' : (isStr w && nameV n && threeV w n z) = true := h
  rw [Bool.and_eq_true] at h'
  have h2 := h'.2
  unfold threeV at h2
  rw [if_pos c, Bool.and_eq_true] at h2
  refine ⟨h2.1, fun e => ?_⟩
  have := h2.2
  rw [decide_eq_true e] at this
  cases this
theorem okvs {fc : Fct} (h : factV fc.vs = true) : ∀ x ∈ fc.vs, OkV x := by
  intro x hx
  cases fc with
  | child c q =>
    have a := fact_nm h
    have b := (fact_nm3 h (.inl rfl)).1
    simp only [Fct.vs, List.mem_cons, List.not_mem_nil, or_false] at hx
    rcases hx with rfl | rfl | rfl
    · exact okv_w (by decide +kernel)
    · exact okv_nm a
    · exact okv_nm b
  | wed c q =>
    have a := fact_nm h
    have b := (fact_nm3 h (.inr (.inl rfl))).1
    simp only [Fct.vs, List.mem_cons, List.not_mem_nil, or_false] at hx
    rcases hx with rfl | rfl | rfl
    · exact okv_w (by decide +kernel)
    · exact okv_nm a
    · exact okv_nm b
  | parted c q =>
    have a := fact_nm h
    have b := (fact_nm3 h (.inr (.inr rfl))).1
    simp only [Fct.vs, List.mem_cons, List.not_mem_nil, or_false] at hx
    rcases hx with rfl | rfl | rfl
    · exact okv_w (by decide +kernel)
    · exact okv_nm a
    · exact okv_nm b
  | died c d =>
    have a := fact_nm h
    simp only [Fct.vs, List.mem_cons, List.not_mem_nil, or_false] at hx
    rcases hx with rfl | rfl | rfl
    · exact okv_w (by decide +kernel)
    · exact okv_nm a
    · exact okv_int _
  | renounced c =>
    have a := fact_nm h
    simp only [Fct.vs, List.mem_cons, List.not_mem_nil, or_false] at hx
    rcases hx with rfl | rfl
    · exact okv_w (by decide +kernel)
    · exact okv_nm a
  | advance c d =>
    have a := fact_nm h
    simp only [Fct.vs, List.mem_cons, List.not_mem_nil, or_false] at hx
    rcases hx with rfl | rfl | rfl
    · exact okv_w (by decide +kernel)
    · exact okv_nm a
    · exact okv_int _
theorem up_le {f : Str → List Str} {m : Nat} {k : Str} {y : List Str} (h : ∀ k, (f k).length ≤ m) (g : y.length ≤ m) : ∀ j, (up f k y j).length ≤ m := fun j => by
  unfold up
  split
  · exact g
  · exact h j
theorem up_jn {f : Str → List Str} {m : Nat} {k x : Str} (h : ∀ k, (f k).length ≤ m) : ∀ j, (up f k (jn (f k) x) j).length ≤ m + 1 :=
  up_le (fun k => Nat.le_succ_of_le (h k)) (Nat.le_trans (jn_len _ _) (Nat.succ_le_succ (h k)))
theorem both_le {f : Str → List Str} {m : Nat} {a b : Str} (h : ∀ k, (f k).length ≤ m) : ∀ j, (both f a b j).length ≤ m + 2 := up_jn (up_jn h)
theorem LenOk.learn {F : Fm} {m : Nat} (L : LenOk F m) (fc : Fct) : LenOk (F.learn fc) (m + 2) := by
  have s : ∀ {f : Str → List Str}, (∀ k, (f k).length ≤ m) → ∀ k, (f k).length ≤ m + 2 := fun h k => Nat.le_trans (h k) (Nat.le_add_right _ _)
  cases fc with
  | child c q => exact ⟨fun j => Nat.le_succ_of_le (up_jn L.ch j), fun j => Nat.le_succ_of_le (up_jn L.pa j), s L.we, s L.pt⟩
  | wed a b => exact ⟨s L.ch, s L.pa, both_le L.we, s L.pt⟩
  | parted a b => exact ⟨s L.ch, s L.pa, s L.we, both_le L.pt⟩
  | died a d => exact ⟨s L.ch, s L.pa, s L.we, s L.pt⟩
  | renounced a => exact ⟨s L.ch, s L.pa, s L.we, s L.pt⟩
  | advance a n => exact ⟨s L.ch, s L.pa, s L.we, s L.pt⟩
theorem LenOk.mono {F : Fm} {m n : Nat} (L : LenOk F m) (h : m ≤ n) : LenOk F n := ⟨fun k => Nat.le_trans (L.ch k) h, fun k => Nat.le_trans (L.pa k) h, fun k => Nat.le_trans (L.we k) h, fun k => Nat.le_trans (L.pt k) h⟩
theorem LenOk.none : LenOk Fm.none 0 := ⟨fun _ => Nat.le_refl 0, fun _ => Nat.le_refl 0, fun _ => Nat.le_refl 0, fun _ => Nat.le_refl 0⟩
theorem learn_ch {F : Fm} {fc : Fct} {x y : Str} (h : y ∈ (F.learn fc).ch x) : y ∈ F.ch x ∨ fc = .child y x := by
  cases fc with
  | child c q =>
    have h' : y ∈ up F.ch q (jn (F.ch q) c) x := h
    by_cases e : x = q
    · subst e
      rw [up_same] at h'
      rcases jn_mem.mp h' with m | m
      · exact .inl m
      · rw [m]
        exact .inr rfl
    · rw [up_ne e] at h'
      exact .inl h'
  | wed a b => exact .inl h
  | parted a b => exact .inl h
  | died a d => exact .inl h
  | renounced a => exact .inl h
  | advance a n => exact .inl h
/-- the children told of -/
def kids (os : List (Option Fct)) : List Str := os.filterMap fun o => match o with
  | some (.child c _) => some c
  | _ => none
theorem kids_len (os : List (Option Fct)) : (kids os).length ≤ os.length := List.length_filterMap_le _ _
theorem kids_mem {os : List (Option Fct)} {x y : Str} (h : some (.child y x) ∈ os) : y ∈ kids os := List.mem_filterMap.mpr ⟨_, h, rfl⟩
end ZF
namespace ZF
open PySem L2 PyProof.Rows G
/-- all but the new object stays -/
def Kp (p : Addr) (H H' : Hp) : Prop := ∀ b o, H b = some o → b ≠ p → H' b = some o
/-- while the dicts are laid -/
structure Lay (C : Addr) (H Hk : Hp) (p dx : Addr) (fs : List (Str × V)) (ds : List Addr) : Prop where
  hp : Hk p = some (.ins C dx fs)
  kp : Kp p H Hk
  em : ∀ d ∈ ds, Hk d = some (.dK [])
  fr : ∀ d ∈ ds, H d = none
  np : ∀ d ∈ ds, d ≠ p
  nd : ds.Nodup
theorem Lay.step {C : Addr} {H Hk : Hp} {p dx d : Addr} {fs gs : List (Str × V)} {ds : List Addr} (L : Lay C H Hk p dx fs ds) (h : Hk d = none) : Lay C H (upd (upd Hk d (.dK [])) p (.ins C dx gs)) p dx gs (ds ++ [d]) := by
  have dp : d ≠ p := fun e => by
    rw [e, L.hp] at h
    cases h
  have Hd : H d = none := by
    cases e : H d with
    | none => rfl
    | some o => rw [L.kp d o e dp] at h; cases h
  refine ⟨upd_same, fun b o hb ne => ?_, fun x hx => ?_, fun x hx => ?_, fun x hx => ?_, ?_⟩
  · rw [upd_ne ne, upd_ne (ne_of_none hb Hd)]
    exact L.kp b o hb ne
  · rcases List.mem_append.mp hx with m | m
    · rw [upd_ne (L.np x m), upd_ne (ne_of_none (L.em x m) h)]
      exact L.em x m
    · rw [List.mem_singleton.mp m, upd_ne dp, upd_same]
  · rcases List.mem_append.mp hx with m | m
    · exact L.fr x m
    · rw [List.mem_singleton.mp m]
      exact Hd
  · rcases List.mem_append.mp hx with m | m
    · exact L.np x m
    · rw [List.mem_singleton.mp m]
      exact dp
  · refine List.nodup_append.mpr ⟨L.nd, List.pairwise_singleton _ _, fun a ha b hb e => ?_⟩
    rw [List.mem_singleton.mp hb] at e
    have := L.em a ha
    rw [e, h] at this
    cases this
theorem Lay.tabL {C : Addr} {H Hk : Hp} {p dx d : Addr} {fs : List (Str × V)} {ds : List Addr} (L : Lay C H Hk p dx fs ds) (m : d ∈ ds) : TabL Hk d 0 fun _ => [] :=
  ⟨[], ⟨L.em d m, ⟨[], rfl, List.nodup_nil⟩, Nat.le_refl 0⟩, fun _ => .inl ⟨rfl, rfl⟩⟩
theorem Lay.tabV {C : Addr} {H Hk : Hp} {p dx d : Addr} {fs : List (Str × V)} {ds : List Addr} (L : Lay C H Hk p dx fs ds) (m : d ∈ ds) : TabV Hk d 0 fun _ => none :=
  ⟨[], ⟨L.em d m, ⟨[], rfl, List.nodup_nil⟩, Nat.le_refl 0⟩, fun _ => rfl⟩
theorem Lay.fam {C : Addr} {H Hk : Hp} {p dx : Addr} {A : FA} (L : Lay C H Hk p dx A.fl A.all) : FamX C Hk p dx A 0 Fm.none :=
  ⟨L.hp, L.tabL (by simp), L.tabL (by simp), L.tabL (by simp), L.tabL (by simp), L.tabV (by simp), L.tabV (by simp), L.tabV (by simp), L.nd⟩
section
variable {P : Program} {w : World} {K : PySem.W.Frag} {mg : Str → Option Value} {base : Heap}
abbrev nFamI : List Str := ["self", "facts", "at", "fact", "name"]
theorem scFamI : FnScope nFamI ["self", "facts"] (defScope sFamI) := ⟨rfl, rfl, rfl, by decide +kernel, rfl, by decide +kernel, by decide +kernel⟩
/-- Family(facts) -/
def spFamI (C CB CC : Addr) : Sp := fun vs H Q E => ∃ (p a dx : Addr) (xs : List V) (os : List (Option Fct)), vs = [.ref p, .ref a] ∧ H p = some (.ins C dx []) ∧ H a = some (.lst xs) ∧ os.length = xs.length ∧ (∀ (i : Nat) (x : V) (o : Option Fct), xs[i]? = some x → os[i]? = some o → Itm H x o) ∧
  (120 < xs.length → ∀ d H', Kp p H H' → H d = none → H' d = some (.xd [("at", .int 120)]) → E (.ref CB) (some d) H') ∧
  (∀ i : Nat, xs.length ≤ 120 → run Fm.none 0 os = .inr i → ∀ d H', Kp p H H' → H d = none → H' d = some (.xd [("at", .int i)]) → E (.ref CB) (some d) H') ∧
  (∀ F x, xs.length ≤ 120 → run Fm.none 0 os = .inl F → Dsc F.ch x x → (∀ y, Dsc F.ch y y → leT x y = true) → ∀ d H', Kp p H H' → H d = none → H' d = some (.xd [("name", .str x)]) → E (.ref CC) (some d) H') ∧
  (∀ F n, xs.length ≤ 120 → run Fm.none 0 os = .inl F → (∀ y, ¬ Dsc F.ch y y) → ∀ H', Kp p H H' → FamAt C H' p n F → Q .non H')
theorem no_mK (A : FA) : A.fl.lookup ("_contradicts" : Str) = none := by kernel_rfl
theorem no_mL (A : FA) : A.fl.lookup ("_learn" : Str) = none := by kernel_rfl
theorem no_mR (A : FA) : A.fl.lookup ("reaches" : Str) = none := by kernel_rfl
theorem putF_len (f : Str) (v : V) : ∀ fs : List (Str × V), (putF f v fs).length ≤ fs.length + 1
  | [] => Nat.le_refl _
  | kv :: r => by
    show (if kv.1 = f then (kv.1, v) :: r else kv :: putF f v r).length ≤ r.length + 1 + 1
    split
    · simp
    · have := putF_len f v r
      simp only [List.length_cons]
      omega
theorem put7 (a1 a2 a3 a4 a5 a6 a7 : Addr) : putF "_advances" (.ref a7) (putF "_renounced" (.ref a6) (putF "_days" (.ref a5) (putF "_parted" (.ref a4) (putF "_wed" (.ref a3) (putF "_parents" (.ref a2) (putF "_children" (.ref a1) [])))))) = flds a1 a2 a3 a4 a5 a6 a7 := by kernel_rfl
theorem dsc_in {R : Str → List Str} {x y : Str} (h : Dsc R x y) : R x ≠ [] := by
  induction h with
  | one h => exact fun e => by rw [e] at h; cases h
  | more _ _ ih => exact ih
theorem ok_famI {f C CB CC : Addr} {fd : FuncData} (F : Fun K "__init__" "Family.__init__" sFamI f fd) (T : Txt mg) (D : FT K C) (XB : XT P w K mg base "BadFact" "at" CB) (XC : XT P w K mg base "Circular" "name" CC)
    (TF : Has P w K mg base CX0 "is_fact" ["fact"] 2 spFac) (MK : HasM P w K mg base CX0 C "_contradicts" ["self", "fact"] 2 (spCon C)) (ML : HasM P w K mg base CX0 C "_learn" ["self", "fact"] 2 (spLea C)) (MR : HasM P w K mg base CX0 C "reaches" ["self", "name", "wanted"] 2 (spRea C)) :
    FnOk P w K mg base (L2.CX P w) 3 f fd ["self", "facts"] (spFamI C CB CC) := by
  obtain ⟨fF, fdF, mF, kF, bF, GF⟩ := TF.ok
  obtain ⟨fK, fdK, meK, bK, GK⟩ := MK.ok
  obtain ⟨fL, fdL, meL, bL, GL⟩ := ML.ok
  obtain ⟨fR, fdR, meR, bR, GR⟩ := MR.ok
  obtain ⟨fB, fdB, iB, tB, bB, GB⟩ := XB.i
  obtain ⟨fC, fdC, iC, tC, bC, GC⟩ := XC.i
  obtain ⟨t1, m1⟩ := T.most
  refine F.okX scFamI (fun vs H Q E h => ?_) (fun cdv A outer s H vs Q E hr h => ?_)
  · obtain ⟨p, a, dx, xs, os, rfl, _⟩ := h
    rfl
  · obtain ⟨p, a, dx, xs, os, rfl, hp, ha, ho, hI, g1, g2, g3, g4⟩ := h
    have hu := hu_of hr
    refine ⟨_, pss_cons (ps_if (pt_cmpR op_gt (pe_callB call_len_seq (by rfl) T.len PySem.boot_len (pa_cons (pv 1) pa_nil)) (pe_glob (v := .int 120) (by rfl) m1 ⟨_, rfl⟩) (nomark _)) (pss_one (ps_raise rfl (takes_of rfl rfl rfl rfl) (pmk_oex XB.o iB tB GB hr bB .nil pass0 (by rfl) XB.g (pa_cons (pe_glob (v := .int 120) (by rfl) m1 ⟨_, rfl⟩) pa_nil)))) pss_nil)
      (pss_cons (ps_fld (pv 0) pe_dnewK rfl) (pss_cons (ps_fld (pv 0) pe_dnewK rfl) (pss_cons (ps_fld (pv 0) pe_dnewK rfl) (pss_cons (ps_fld (pv 0) pe_dnewK rfl) (pss_cons (ps_fld (pv 0) pe_dnewK rfl) (pss_cons (ps_fld (pv 0) pe_dnewK rfl) (pss_cons (ps_fld (pv 0) pe_dnewK rfl)
      (pss_cons (ps_for (passes_of rfl) rfl (pi_enum (by rfl) T.enum (pa_cons (pv 1) pa_nil)) (pg_tup (n := 2) rfl (pgs_cons (pg_name (i := 2) scFamI.nd rfl (.inl rfl)) (pgs_cons (pg_name (i := 3) scFamI.nd rfl (.inl rfl)) pgs_nil)))
        (pss_cons (ps_if (PW.pt (pw_or (pt_not (pt_val (pe_call GF hr (by rfl) mF kF bF .nil pass0 (pa_cons (pv 3) pa_nil)))) (pw_or1 (pt_val (pe_meth (pv 0) D.cl meK GK hr bK .nil pass0 (pa_cons (pv 3) pa_nil)))))) (pss_one (ps_raise rfl (takes_of rfl rfl rfl rfl) (pmk_oex XB.o iB tB GB hr bB .nil pass0 (by rfl) XB.g (pa_cons (pv 2) pa_nil)))) pss_nil)
        (pss_one (ps_expr (pe_meth (pv 0) D.cl meL GL hr bL .nil pass0 (pa_cons (pv 3) pa_nil))))))
      (pss_one (ps_for (passes_of rfl) rfl (pi_list (pe_callB (cr_sortTxD rfl) (by rfl) T.sorted (by decide +kernel) (pa_cons (pe_fld (pv 0) rfl) pa_nil))) (pg_name (i := 4) scFamI.nd rfl (.inl rfl))
        (pss_one (ps_if (pt_val (pe_meth (pv 0) D.cl meR GR hr bR .nil pass0 (pa_cons (pv 4) (pa_cons (pv 4) pa_nil)))) (pss_one (ps_raise rfl (takes_of rfl rfl rfl rfl) (pmk_oex XC.o iC tC GC hr bC .nil pass0 (by rfl) XC.g (pa_cons (pv 4) pa_nil)))) pss_nil)))))))))))), ?_⟩
    refine ⟨_, rfl, a, xs, rfl, .inl (SqL.of ha), _, _, rfl, rfl, _, rfl, ite2 (fun c => ?_) (fun c => ?_)⟩
    · have c1 : 120 < xs.length := by
        have : (120 : Int) < (xs.length : Int) := of_decide_eq_true c
        omega
      exact mk_read XB.o XB.n fun d H' nd sm e => g1 c1 d H' (fun b o hb _ => sm b o hb) nd e
    · have c1 : xs.length ≤ 120 := by
        have : ¬ (120 : Int) < (xs.length : Int) := fun z => c (decide_eq_true z)
        omega
      have L0 : Lay C H H p dx [] [] := ⟨hp, fun b o hb _ => hb, fun d m => (by cases m), fun d m => (by cases m), fun d m => (by cases m), List.nodup_nil⟩
      intro d1 e1
      refine ⟨_, rfl, p, C, dx, _, rfl, by rw [upd_ne (ne_of_none L0.hp e1)]; exact L0.hp, D.cl, D.n1, by decide, ?_⟩
      have L1 := L0.step (gs := putF "_children" (.ref d1) []) e1
      intro d2 e2
      refine ⟨_, rfl, p, C, dx, _, rfl, by rw [upd_ne (ne_of_none L1.hp e2)]; exact L1.hp, D.cl, D.n2, Nat.lt_of_le_of_lt (show _ ≤ 1 from Nat.le_trans (putF_len _ _ _) (Nat.succ_le_succ (Nat.le_of_eq List.length_nil))) (by decide), ?_⟩
      have L2 := L1.step (gs := putF "_parents" (.ref d2) (putF "_children" (.ref d1) [])) e2
      intro d3 e3
      refine ⟨_, rfl, p, C, dx, _, rfl, by rw [upd_ne (ne_of_none L2.hp e3)]; exact L2.hp, D.cl, D.n3, Nat.lt_of_le_of_lt (show _ ≤ 2 from Nat.le_trans (putF_len _ _ _) (Nat.succ_le_succ (Nat.le_trans (putF_len _ _ _) (Nat.succ_le_succ (Nat.le_of_eq List.length_nil))))) (by decide), ?_⟩
      have L3 := L2.step (gs := putF "_wed" (.ref d3) (putF "_parents" (.ref d2) (putF "_children" (.ref d1) []))) e3
      intro d4 e4
      refine ⟨_, rfl, p, C, dx, _, rfl, by rw [upd_ne (ne_of_none L3.hp e4)]; exact L3.hp, D.cl, D.n4, Nat.lt_of_le_of_lt (show _ ≤ 3 from Nat.le_trans (putF_len _ _ _) (Nat.succ_le_succ (Nat.le_trans (putF_len _ _ _) (Nat.succ_le_succ (Nat.le_trans (putF_len _ _ _) (Nat.succ_le_succ (Nat.le_of_eq List.length_nil))))))) (by decide), ?_⟩
      have L4 := L3.step (gs := putF "_parted" (.ref d4) (putF "_wed" (.ref d3) (putF "_parents" (.ref d2) (putF "_children" (.ref d1) [])))) e4
      intro d5 e5
      refine ⟨_, rfl, p, C, dx, _, rfl, by rw [upd_ne (ne_of_none L4.hp e5)]; exact L4.hp, D.cl, D.n5, Nat.lt_of_le_of_lt (show _ ≤ 4 from Nat.le_trans (putF_len _ _ _) (Nat.succ_le_succ (Nat.le_trans (putF_len _ _ _) (Nat.succ_le_succ (Nat.le_trans (putF_len _ _ _) (Nat.succ_le_succ (Nat.le_trans (putF_len _ _ _) (Nat.succ_le_succ (Nat.le_of_eq List.length_nil))))))))) (by decide), ?_⟩
      have L5 := L4.step (gs := putF "_days" (.ref d5) (putF "_parted" (.ref d4) (putF "_wed" (.ref d3) (putF "_parents" (.ref d2) (putF "_children" (.ref d1) []))))) e5
      intro d6 e6
      refine ⟨_, rfl, p, C, dx, _, rfl, by rw [upd_ne (ne_of_none L5.hp e6)]; exact L5.hp, D.cl, D.n6, Nat.lt_of_le_of_lt (show _ ≤ 5 from Nat.le_trans (putF_len _ _ _) (Nat.succ_le_succ (Nat.le_trans (putF_len _ _ _) (Nat.succ_le_succ (Nat.le_trans (putF_len _ _ _) (Nat.succ_le_succ (Nat.le_trans (putF_len _ _ _) (Nat.succ_le_succ (Nat.le_trans (putF_len _ _ _) (Nat.succ_le_succ (Nat.le_of_eq List.length_nil))))))))))) (by decide), ?_⟩
      have L6 := L5.step (gs := putF "_renounced" (.ref d6) (putF "_days" (.ref d5) (putF "_parted" (.ref d4) (putF "_wed" (.ref d3) (putF "_parents" (.ref d2) (putF "_children" (.ref d1) [])))))) e6
      intro d7 e7
      refine ⟨_, rfl, p, C, dx, _, rfl, by rw [upd_ne (ne_of_none L6.hp e7)]; exact L6.hp, D.cl, D.n7, Nat.lt_of_le_of_lt (show _ ≤ 6 from Nat.le_trans (putF_len _ _ _) (Nat.succ_le_succ (Nat.le_trans (putF_len _ _ _) (Nat.succ_le_succ (Nat.le_trans (putF_len _ _ _) (Nat.succ_le_succ (Nat.le_trans (putF_len _ _ _) (Nat.succ_le_succ (Nat.le_trans (putF_len _ _ _) (Nat.succ_le_succ (Nat.le_trans (putF_len _ _ _) (Nat.succ_le_succ (Nat.le_of_eq List.length_nil))))))))))))) (by decide), ?_⟩
      have L7 := L6.step (gs := flds d1 d2 d3 d4 d5 d6 d7) e7
      have L7' : Lay C H _ p dx (FA.mk d1 d2 d3 d4 d5 d6 d7).fl (FA.mk d1 d2 d3 d4 d5 d6 d7).all := L7
      rw [show putF "_advances" (V.ref d7) (putF "_renounced" (V.ref d6) (putF "_days" (V.ref d5) (putF "_parted" (V.ref d4) (putF "_wed" (V.ref d3) (putF "_parents" (V.ref d2) (putF "_children" (V.ref d1) [])))))) = flds d1 d2 d3 d4 d5 d6 d7 from put7 _ _ _ _ _ _ _]
      clear L6 L5 L4 L3 L2 L1 L0 e7 e6 e5 e4 e3 e2 e1
      generalize upd (upd (upd (upd (upd (upd (upd (upd (upd (upd (upd (upd (upd (upd H d1 (HO.dK [])) p _) d2 (HO.dK [])) p _) d3 (HO.dK [])) p _) d4 (HO.dK [])) p _) d5 (HO.dK [])) p _) d6 (HO.dK [])) p _) d7 (HO.dK [])) p _ = H7 at L7' ⊢
      have frA : ∀ d ∈ (FA.mk d1 d2 d3 d4 d5 d6 d7).all, H d = none := L7'.fr
      have npA : ∀ d ∈ (FA.mk d1 d2 d3 d4 d5 d6 d7).all, d ≠ p := L7'.np
      have X0 : FamX C H7 p dx (FA.mk d1 d2 d3 d4 d5 d6 d7) 0 Fm.none := L7'.fam
      have kp0 : Kp p H H7 := L7'.kp
      clear L7'
      generalize FA.mk d1 d2 d3 d4 d5 d6 d7 = A at frA npA X0
      have ap : a ≠ p := ne_of ha hp (by intro e; cases e)
      have kbar {H1 H2 : Hp} (k : Kp p H H1) (b : Bar A H1 H2) : Kp p H H2 := fun x o hx ne => b x o (k x o hx ne) fun m => by rw [frA x m] at hx; cases hx
      have ksame {H1 H2 : Hp} (k : Kp p H H1) (b : Same H1 H2) : Kp p H H2 := fun x o hx ne => b x o (k x o hx ne)
      have itm {H1 : Hp} (k : Kp p H H1) {x : V} {o : Option Fct} (h : Itm H x o) : Itm H1 x o := by
        cases o with
        | some fc =>
          obtain ⟨q, e1, e2, e3⟩ := h
          exact ⟨q, e1, k _ _ e2 (ne_of e2 hp (by intro e; cases e)), e3⟩
        | none =>
          rcases h with ⟨q, ys, e1, e2, e3⟩ | h
          · exact .inl ⟨q, ys, e1, k _ _ e2 (ne_of e2 hp (by intro e; cases e)), e3⟩
          · rcases h with h | ⟨q, ys, e1, e2⟩
            · exact .inr (.inl h)
            · exact .inr (.inr ⟨q, ys, e1, k _ _ e2 (ne_of e2 hp (by intro e; cases e))⟩)
      refine ⟨_, rfl, a, xs, rfl, SqL.of (kp0 _ _ ha ap), for_it walk_enum (fun i σ Hy => ∃ (F : Fm) (y2 y3 : Option V), σ = [some (.ref p), some (.ref a), y2, y3, none] ∧ run Fm.none 0 os = run F i (os.drop i) ∧ FamX C Hy p dx A (2 * i) F ∧ LenOk F (2 * i) ∧ (∀ x y, y ∈ F.ch x → some (.child y x) ∈ os) ∧ Kp p H Hy)
        ⟨Fm.none, none, none, rfl, rfl, X0, LenOk.none, (fun x y h => (by cases h)), kp0⟩ (fun i σ Hy _ ⟨_, _, _, _, _, _, _, _, k⟩ => SqL.of (k _ _ ha ap)) ?_ ?_⟩
      · rintro i v σ Hy H' hi ⟨F, y2, y3, rfl, er, X, LO, lk, kp⟩ ⟨T, x1, fv, rfl, nT, rfl, e1, e2⟩
        obtain rfl : V.int (i : Int) = x1 := Option.some.inj e1
        obtain ⟨o, eo⟩ : ∃ o, os[i]? = some o := ⟨_, List.getElem?_eq_getElem (by rw [ho]; exact hi)⟩
        have ds : os.drop i = o :: os.drop (i + 1) := List.drop_eq_getElem?_toList_append ▸ by rw [eo]; rfl
        have smT : Same Hy (upd Hy T (.tup [.int i, fv])) := same_upd nT
        have kp1 := ksame kp smT
        have X1 := X.same smT
        refine ⟨T, _, rfl, SqT.of upd_same, rfl, _, _, rfl, _, _, rfl, rfl, ?_⟩
        have it := itm kp1 (hI i fv o e2 eo)
        have free {H2 : Hp} {d : Addr} (k2 : Kp p H H2) (h2 : H2 p = some (.ins C dx A.fl)) (nd : H2 d = none) : H d = none := by
          cases eH : H d with
          | none => rfl
          | some u =>
            by_cases dp : d = p
            · rw [dp, h2] at nd
              cases nd
            · rw [k2 d u eH dp] at nd
              cases nd
        have bad (er2 : run Fm.none 0 os = .inr i) {H2 : Hp} (k2 : Kp p H H2) (h2 : H2 p = some (.ins C dx A.fl)) : ∀ d H', H2 d = none → Same H2 H' → H' d = some (.xd [("at", .int i)]) → E (.ref CB) (some d) H' := fun d H' nd sm e =>
          g2 i c1 er2 d H' (ksame k2 sm) (free k2 h2 nd) e
        rw [ds] at er
        cases o with
        | none =>
          have er2 : run Fm.none 0 os = .inr i := er
          rcases it with ⟨q, ys, rfl, e3, e4, e5⟩ | nt
          · refine ⟨_, rfl, _, rfl, .inl ⟨q, ys, rfl, e3, e4, fun H2 sm2 => ⟨_, rfl, ?_⟩⟩⟩
            rw [e5]
            exact iteT ⟨_, rfl, mk_read XB.o XB.n (bad er2 (ksame kp1 sm2) (sm2 _ _ X1.hp))⟩
          · exact ⟨_, rfl, _, rfl, .inr ⟨nt, fun H2 sm2 => ⟨_, rfl, iteT ⟨_, rfl, mk_read XB.o XB.n (bad er2 (ksame kp1 sm2) (sm2 _ _ X1.hp))⟩⟩⟩⟩
        | some fc =>
          obtain ⟨q, rfl, hq, hf⟩ := it
          refine ⟨_, rfl, _, rfl, .inl ⟨q, fc.vs, rfl, hq, okvs hf, fun H2 sm2 => ⟨_, rfl, ?_⟩⟩⟩
          rw [hf]
          refine iteF ⟨_, rfl, p, dx, _, rfl, sm2 _ _ X1.hp, no_mK A, _, rfl, p, q, 2 * i, F, fc, rfl, (X1.same sm2).at', sm2 _ _ hq, fun H3 sm3 => ⟨_, rfl, ?_⟩⟩
          have sm23 := sm2.trans sm3
          have X3 := X1.same sm23
          have kp3 := ksame kp1 sm23
          have er1 : run Fm.none 0 os = if F.bad fc = true then .inr i else run (F.learn fc) (i + 1) (os.drop (i + 1)) := er
          refine ite2 (fun b => ?_) (fun b => ?_)
          · rw [if_pos b] at er1
            exact ⟨_, rfl, mk_read XB.o XB.n (bad er1 kp3 X3.hp)⟩
          · rw [if_neg b] at er1
            refine ⟨_, rfl, p, dx, _, rfl, X3.hp, no_mL A, _, rfl, p, q, dx, A, 2 * i, F, fc, rfl, X3, sm23 _ _ hq, by omega, LO.mono (by omega), fun H4 X4 br => ?_⟩
            exact ⟨F.learn fc, _, _, rfl, er1, X4, LO.learn fc, fun x y hy => (learn_ch hy).elim (lk x y) fun e => by rw [← e]; exact List.mem_of_getElem? eo, kbar kp3 br⟩
      · rintro σ Hy ⟨F, y2, y3, rfl, er, X, LO, lk, kp⟩
        have er2 : run Fm.none 0 os = .inl F := by
          rw [er, ← ho, List.drop_length]
          rfl
        obtain ⟨kvs, Dk, gk⟩ := X.t1.ex
        obtain ⟨ks, ek, nk⟩ := Dk.ks
        have mem_ks : ∀ y, Dsc F.ch y y → y ∈ srt ks := fun y hy => by
          rcases gk y with ⟨z, _⟩ | ⟨_, l, z, _⟩
          · exact absurd z (dsc_in hy)
          · rw [srt_mem]
            have m : (Sum.inr y : Key) ∈ kvs.map (·.1) := by
              have an := valV_any (Sum.inr y : Key) kvs
              rw [z] at an
              obtain ⟨p, h1, h2⟩ := List.any_eq_true.mp an
              exact List.mem_map.mpr ⟨p, h1, of_decide_eq_true h2⟩
            rw [ek] at m
            obtain ⟨z, hz, e⟩ := List.mem_map.mp m
            rw [← Sum.inr.inj e]
            exact hz
        refine ⟨_, rfl, p, C, dx, _, _, rfl, X.hp, D.cl, D.n1, fl_1, A.a1, kvs, ks, rfl, .inl Dk.dk, ek, fun L nL => ?_⟩
        have smL : Same Hy (upd Hy L (.lst ((srt ks).map V.str))) := same_upd nL
        refine ⟨L, rfl, ⟨_, SqL.of upd_same⟩, for_list (K := K) (a := L) (xs := (srt ks).map V.str) (fun j σ Hz => ∃ y4, σ = [some (.ref p), some (.ref a), y2, y3, y4] ∧ Same (upd Hy L (.lst ((srt ks).map V.str))) Hz ∧ ∀ x ∈ (srt ks).take j, ¬ Dsc F.ch x x)
          ⟨none, rfl, Same.refl _, fun x m => (by cases m)⟩ (fun j σ Hz _ ⟨_, _, z, _⟩ => SqL.of (z _ _ upd_same)) ?_ ?_⟩
        · rintro j v σ Hz hj ⟨y4, rfl, smz, no⟩
          obtain ⟨x, ex, rfl⟩ : ∃ x, (srt ks)[j]? = some x ∧ v = .str x := by
            rw [List.getElem?_map] at hj
            obtain ⟨k, h1, h2⟩ := Option.map_eq_some_iff.mp hj
            exact ⟨k, h1, h2.symm⟩
          have sm1 := smL.trans smz
          refine ⟨_, rfl, p, dx, _, rfl, sm1 _ _ X.hp, no_mR A, _, rfl, _, rfl, p, x, x, 2 * xs.length, F, kids os, rfl, (X.same sm1).at', by have := kids_len os; omega, fun x y hy => kids_mem (lk x y hy), fun x => by have := LO.ch x; omega, fun H2 b sm2 hb => ?_⟩
          cases b with
          | true =>
            refine ⟨_, rfl, iteT ⟨_, rfl, mk_read XC.o XC.n fun d H' nd sm e => ?_⟩⟩
            have kp2 := ksame kp (sm1.trans sm2)
            refine g3 F x c1 er2 (hb.mp rfl) (fun y hy => ?_) d H' (ksame kp2 sm) ?_ e
            · obtain ⟨m, hm⟩ := List.mem_iff_getElem?.mp (mem_ks y hy)
              have mj : j ≤ m := Nat.le_of_not_lt fun lt => no y (List.mem_iff_getElem?.mpr ⟨m, by rw [List.getElem?_take_of_lt lt]; exact hm⟩) hy
              rcases Nat.lt_or_eq_of_le mj with lt | e
              · obtain ⟨h1, e1⟩ := List.getElem?_eq_some_iff.mp ex
                obtain ⟨h2, e2⟩ := List.getElem?_eq_some_iff.mp hm
                rw [← e1, ← e2]
                exact List.pairwise_iff_getElem.mp (srt_pw ks) j m h1 h2 lt
              · subst e
                rw [ex] at hm
                rw [← Option.some.inj hm]
                have := leT_total x x
                rwa [Bool.or_self] at this
            · have h2 : H2 p = some (.ins C dx A.fl) := (sm1.trans sm2) _ _ X.hp
              cases eH : H d with
              | none => rfl
              | some u =>
                by_cases dp : d = p
                · rw [dp, h2] at nd
                  cases nd
                · rw [kp2 d u eH dp] at nd
                  cases nd
          | false =>
            refine ⟨_, rfl, iteF ⟨_, rfl, smz.trans sm2, fun z hz => ?_⟩⟩
            rw [List.take_add_one, ex] at hz
            rcases List.mem_append.mp hz with m | m
            · exact no z m
            · rw [List.mem_singleton.mp m]
              intro q
              have := hb.mpr q
              cases this
        · rintro σ Hz ⟨y4, rfl, smz, no⟩
          rw [List.length_map, List.take_length] at no
          have sm1 := smL.trans smz
          exact g4 F _ c1 er2 (fun y hy => no y (mem_ks y hy) hy) Hz (ksame kp sm1) (X.same sm1).at'
end
end ZF
namespace ZF
open PySem L2 PyProof.Rows PySem.Spec G
section
variable {P : Program} {w : World} {K : PySem.W.Frag} {mg : Str → Option Value} {base : Heap}
/-! _law_cell -/
theorem scCel : FnScope ["script", "k"] ["script", "k"] (defScope sCel) := ⟨rfl, rfl, rfl, by decide +kernel, rfl, by decide +kernel, by decide +kernel⟩
def spCel (K : PySem.W.Frag) : Sp := fun vs H Q _ => ∃ (a : Addr) (ns : List Int) (k : Int), vs = [.ref a, .int k] ∧ SqL K H a (ns.map V.int) ∧ 0 ≤ k ∧ Q (.int (cell ns k)) H
theorem ok_cell {f : Addr} {fd : FuncData} (F : Fun K "_law_cell" "_law_cell" sCel f fd) (mgLen : mg "len" = none) (mgInt : mg "int" = none) : FnOk P w K mg base CX0 1 f fd ["script", "k"] (spCel K) := by
  refine F.ok scCel (fun vs H Q E h => ?_) (fun cdv A outer s H vs Q E hr h => ?_)
  · obtain ⟨a, ns, k, rfl, _⟩ := h
    rfl
  · obtain ⟨a, ns, k, rfl, hS, hk, go⟩ := h
    refine ⟨_, pss_cons (ps_if (pt_cmpR op_lt (pv 1) (pe_callB call_len_seq (by rfl) mgLen PySem.boot_len (pa_cons (pv 0) pa_nil)) (nomark _))
      (pss_one (ps_ret (pe_callTy call_int1 (by rfl) mgInt (by decide +kernel) (pa_cons (pe_ix ix_list (pv 0) (pv 1) (fun _ _ => rfl)) pa_nil)))) pss_nil) (pss_one (ps_ret pe_int)), ?_⟩
    obtain ⟨j, rfl⟩ : ∃ j : Nat, k = (j : Int) := ⟨k.toNat, by omega⟩
    refine ⟨_, rfl, _, rfl, a, ns.map V.int, rfl, .inl hS, _, _, rfl, rfl, _, rfl, ite2 (fun e => ?_) (fun e => ?_)⟩
    · have e1 : (j : Int) < ((ns.map V.int).length : Int) := of_decide_eq_true e
      rw [List.length_map] at e1
      have hj : j < ns.length := by omega
      refine ⟨_, rfl, _, rfl, a, _, _, .int ns[j], rfl, rfl, hS, atI_nat (by rw [List.getElem?_map, List.getElem?_eq_getElem hj]; rfl), .inl ⟨_, rfl, ?_⟩⟩
      unfold cell at go
      rw [Int.toNat_natCast, List.getElem?_eq_getElem hj] at go
      exact go
    · have e1 : ¬ (j : Int) < ((ns.map V.int).length : Int) := fun z => e (decide_eq_true z)
      rw [List.length_map] at e1
      unfold cell at go
      rw [Int.toNat_natCast, List.getElem?_eq_none_iff.mpr (by omega)] at go
      exact go
/-! _law_numbers -/
theorem scNum : FnScope ["cell", "many", "found", "rest", "k"] ["cell", "many"] (defScope sNum) := ⟨rfl, rfl, rfl, by decide +kernel, rfl, by decide +kernel, by decide +kernel⟩
def spNum : Sp := fun vs H Q _ => ∃ (c : Int) (m : Nat), vs = [.int c, .int (m : Int)] ∧ m ≤ 1000 ∧ ∀ p H' (xs : List Int), Same H H' → H p = none → H' p = some (.lst (xs.map V.int)) → xs.length = m → Nums xs → Q (.ref p) H'
theorem ok_numbers {f : Addr} {fd : FuncData} (F : Fun K "_law_numbers" "_law_numbers" sNum f fd) (mgAbs : mg "abs" = none) (mgInt : mg "int" = none) (mgRange : mg "range" = none) : FnOk P w K mg base CX0 1 f fd ["cell", "many"] spNum := by
  refine F.ok scNum (fun vs H Q E h => ?_) (fun cdv A outer s H vs Q E hr h => ?_)
  · obtain ⟨c, m, rfl, _⟩ := h
    rfl
  · obtain ⟨c, m, rfl, hm, go⟩ := h
    refine ⟨_, pss_cons (ps_set (i := 2) scNum.nd rfl (.inl rfl) (pe_lst pa_nil))
      (pss_cons (ps_set (i := 3) scNum.nd rfl (.inl rfl) (pe_callB call_abs (by rfl) mgAbs (by decide +kernel) (pa_cons (pv 0) pa_nil)))
      (pss_cons (ps_if (pt_cmpR op_ge (pv 3) pe_int (nomark _))
        (pss_cons (ps_for PassesOwn.never rfl (pi_range1 rfl mgRange (pa_cons (pv 1) pa_nil)) (pg_name (i := 4) scNum.nd rfl (.inl rfl))
          (pss_cons (ps_expr (pe_bm PySem.F.plainAttrs_list PySem.F.slot_list_append PySem.F.type_list_append mt_append (pv 2) (pa_cons (pe_op op_mod (pe_callTy call_int1 (by rfl) mgInt (by decide +kernel) (pa_cons (pv 3) pa_nil)) pe_int) pa_nil)))
          (pss_one (ps_set (i := 3) scNum.nd rfl (.inl rfl) (pe_op op_fdiv (pv 3) pe_int)))))
        (pss_one (ps_ret (pv 2)))) pss_nil)
      (pss_cons (ps_for PassesOwn.never rfl (pi_range1 rfl mgRange (pa_cons (pv 1) pa_nil)) (pg_name (i := 4) scNum.nd rfl (.inl rfl))
        (pss_cons (ps_set (i := 3) scNum.nd rfl (.inl rfl) (pe_op op_mod (pe_callTy call_int1 (by rfl) mgInt (by decide +kernel) (pa_cons (pe_op op_add (pe_op op_add (pe_op op_mul (pv 3) pe_int) (pe_op op_mul (pv 4) pe_int)) pe_int) pa_nil)) pe_int))
        (pss_one (ps_expr (pe_bm PySem.F.plainAttrs_list PySem.F.slot_list_append PySem.F.type_list_append mt_append (pv 2) (pa_cons (pe_op op_mod (pe_op op_mod (pe_callTy call_int1 (by rfl) mgInt (by decide +kernel) (pa_cons (pe_op op_mul (pv 3) pe_int) pa_nil)) pe_int) pe_int) pa_nil))))))
      (pss_one (ps_ret (pv 2)))))), ?_⟩
    refine ⟨Nat.zero_le _, fun p np => ⟨_, rfl, _, rfl, ?_⟩⟩
    generalize ea : (if c < 0 then -c else c) = r0
    have r00 : 0 ≤ r0 := by
      rw [← ea]
      split <;> omega
    have keep (Hx : Hp) (xs : List V) : (∀ b o, H b = some o → b ≠ p → Hx b = some o) → ∀ b o, H b = some o → b ≠ p → upd Hx p (.lst xs) b = some o := fun h b o hb hbp => by
      rw [upd_ne hbp]
      exact h b o hb hbp
    refine ⟨_, rfl, _, _, rfl, rfl, _, rfl, ite2 (fun e => ?_) (fun e => ?_)⟩
    · refine ⟨_, rfl, (m : Int), rfl, by omega, by omega, ?_⟩
      rw [Int.toNat_natCast]
      refine for_range (lo := 0) (n := m) (fun i σ Hx => ∃ (xs : List Int) (r : Int) (y : Option V), σ = [some (.int c), some (.int (m : Int)), some (.ref p), some (.int r), y] ∧ (∀ b o, H b = some o → b ≠ p → Hx b = some o) ∧ Hx p = some (.lst (xs.map V.int)) ∧ xs.length = i ∧ Nums xs)
        ⟨[], r0, none, rfl, fun b o hb hbp => by rw [upd_ne hbp]; exact hb, upd_same, rfl, fun x hx => by cases hx⟩ ?_ ?_
      · rintro i σ Hx hi ⟨xs, r, y, rfl, kp, hp, hl, hn⟩
        refine ⟨.ref p, rfl, .inl ⟨rfl, _, SqL.of hp⟩, _, rfl, .inl ⟨_, rfl, _, _, rfl, rfl, (by show (0 : Int) < 1048576; decide), p, _, _, rfl, rfl, hp, by rw [List.length_map]; exact small1000 (by omega), ?_⟩⟩
        refine ⟨_, rfl, _, _, rfl, rfl, ⟨by decide, by decide⟩, xs ++ [r % 1048576], r / 1048576, some (.int (0 + (i : Int))), rfl, keep _ _ kp, ?_, by rw [List.length_append, hl]; rfl, hn.snoc (Int.emod_nonneg _ (by decide)) (Int.emod_lt_of_pos _ (by decide))⟩
        rw [upd_same, List.map_append]
        rfl
      · rintro σ Hx ⟨xs, r, y, rfl, kp, hp, hl, hn⟩
        exact ⟨_, rfl, go p Hx xs (fun b o hb => kp b o hb (ne_of_none hb np)) np hp hl hn⟩
    · have e1 : r0 < 1000000000000000000 := Int.not_le.mp fun z => e (decide_eq_true z)
      refine ⟨_, rfl, (m : Int), rfl, by omega, by omega, ?_⟩
      rw [Int.toNat_natCast]
      refine for_range (lo := 0) (n := m) (fun i σ Hx => ∃ (xs : List Int) (r : Int) (y : Option V), σ = [some (.int c), some (.int (m : Int)), some (.ref p), some (.int r), y] ∧ (∀ b o, H b = some o → b ≠ p → Hx b = some o) ∧ Hx p = some (.lst (xs.map V.int)) ∧ xs.length = i ∧ Nums xs ∧ 0 ≤ r ∧ r < 1000000000000000000)
        ⟨[], r0, none, rfl, fun b o hb hbp => by rw [upd_ne hbp]; exact hb, upd_same, rfl, (fun x hx => by cases hx), r00, e1⟩ ?_ ?_
      · rintro i σ Hx hi ⟨xs, r, y, rfl, kp, hp, hl, hn, b0, b1⟩
        refine ⟨_, rfl, _, _, rfl, rfl, .inl ⟨by omega, by omega⟩, _, rfl, _, _, rfl, rfl, .inl ⟨by omega, by omega⟩, _, _, rfl, rfl, _, _, rfl, rfl, .inl ⟨_, rfl, _, _, rfl, rfl, (by show (0 : Int) < 2147483647; decide), ?_⟩⟩
        have c0 := Int.emod_nonneg (r * 48271 + (0 + (i : Int)) * 7919 + 11) (b := 2147483647) (by decide)
        have c1 := Int.emod_lt_of_pos (r * 48271 + (0 + (i : Int)) * 7919 + 11) (b := 2147483647) (by decide)
        refine ⟨.ref p, rfl, .inl ⟨rfl, _, SqL.of hp⟩, _, rfl, _, _, rfl, rfl, .inl ⟨Int.lt_of_lt_of_le (by decide) c0, Int.lt_trans c1 (by decide)⟩, .inl ⟨_, rfl, _, _, rfl, rfl, (by show (0 : Int) < 2147483629; decide), _, _, rfl, rfl, (by show (0 : Int) < 1048576; decide), p, _, _, rfl, rfl, hp, by rw [List.length_map]; exact small1000 (by omega), ?_⟩⟩
        refine ⟨xs ++ [(r * 48271 + (0 + (i : Int)) * 7919 + 11) % 2147483647 * 69621 % 2147483629 % 1048576], (r * 48271 + (0 + (i : Int)) * 7919 + 11) % 2147483647, some (.int (0 + (i : Int))), rfl, keep _ _ kp, ?_, by rw [List.length_append, hl]; rfl, hn.snoc (Int.emod_nonneg _ (by decide)) (Int.emod_lt_of_pos _ (by decide)), c0, by omega⟩
        rw [upd_same, List.map_append]
        rfl
      · rintro σ Hx ⟨xs, r, y, rfl, kp, hp, hl, hn, b0, b1⟩
        exact ⟨_, rfl, go p Hx xs (fun b o hb => kp b o hb (ne_of_none hb np)) np hp hl hn⟩
/-! _law_feed, _law_take -/
/-- a feed: its dict, its list of numbers -/
structure Feed (H : Hp) (d l : Addr) (at' : Nat) (xs : List Int) : Prop where
  hd : H d = some (.dK [(Sum.inr "at", .int (at' : Int)), (Sum.inr "numbers", .ref l)])
  hl : H l = some (.lst (xs.map V.int))
  ne : 0 < xs.length
  sm : xs.length ≤ 1000
  nu : Nums xs
theorem scFee : FnScope ["cell", "many"] ["cell", "many"] (defScope sFee) := ⟨rfl, rfl, rfl, by decide +kernel, rfl, by decide +kernel, by decide +kernel⟩
def spFee : Sp := fun vs H Q _ => ∃ (c : Int) (m : Nat), vs = [.int c, .int (m : Int)] ∧ 0 < m ∧ m ≤ 1000 ∧ ∀ d l H' (xs : List Int), Same H H' → H d = none → H l = none → Feed H' d l 0 xs → Q (.ref d) H'
theorem ok_feed {f fN : Addr} {fd fdN : FuncData} (F : Fun K "_law_feed" "_law_feed" sFee f fd) (GN : FnOk P w K mg base CX0 1 fN fdN ["cell", "many"] spNum) (mN : mg "_law_numbers" = some (.ref fN)) (kN : PySem.W.keepIn K (.ref fN) = true) (bN : Binds K fdN ["cell", "many"] []) : FnOk P w K mg base CX0 2 f fd ["cell", "many"] spFee := by
  refine F.ok scFee (fun vs H Q E h => ?_) (fun cdv A outer s H vs Q E hr h => ?_)
  · obtain ⟨c, m, rfl, _⟩ := h
    rfl
  · obtain ⟨c, m, rfl, h0, hm, go⟩ := h
    refine ⟨_, pss_one (ps_ret (pe_disp (pps_cons pe_str pe_int (pps_cons pe_str (pe_call GN hr (by rfl) mN kN bN .nil pass0 (pa_cons (pv 0) (pa_cons (pv 1) pa_nil))) pps_nil)) rfl rfl (by simp) (by decide))), ?_⟩
    intro d nd
    refine ⟨_, rfl, _, rfl, c, m, rfl, hm, fun l H' xs sm nl el ln nu => ?_⟩
    have nl' : H l = none := (same_upd nd).free nl
    refine ⟨sm _ _ upd_same, [(Sum.inr "at", .int 0), (Sum.inr "numbers", .ref l)], rfl, (by simp), ?_⟩
    have e : mergeK [] ([(Sum.inr "at", V.int 0), (Sum.inr "numbers", V.ref l)] : List (Key × V)) = ([(Sum.inr "at", V.int ((0 : Nat) : Int)), (Sum.inr "numbers", V.ref l)] : List (Key × V)) := by kernel_rfl
    rw [e]
    have ld : l ≠ d := fun z => by
      rw [z, upd_same] at nl
      cases nl
    refine go d l _ xs (fun b o hb => ?_) nd nl' ⟨upd_same, by rw [upd_ne ld]; exact el, by omega, by omega, nu⟩
    rw [upd_ne (ne_of_none hb nd)]
    exact sm _ _ (by rw [upd_ne (ne_of_none hb nd)]; exact hb)
theorem scTak : FnScope ["feed", "limit", "numbers", "at"] ["feed", "limit"] (defScope sTak) := ⟨rfl, rfl, rfl, by decide +kernel, rfl, by decide +kernel, by decide +kernel⟩
/-- some number below the limit; the feed goes on -/
def spTak : Sp := fun vs H Q _ => ∃ (d l : Addr) (a : Nat) (xs : List Int) (m : Int), vs = [.ref d, .int m] ∧ Feed H d l a xs ∧ a < 100000 ∧ 0 < m ∧ ∀ r H', 0 ≤ r → r < m → But d H H' → Feed H' d l (a + 1) xs → Q (.int r) H'
theorem take_put (a : Int) (l : Addr) : putK ([(Sum.inr "at", V.int a), (Sum.inr "numbers", V.ref l)] : List (Key × V)) (Sum.inr "at" : Key) (V.int (a + 1)) = ([(Sum.inr "at", V.int (a + 1)), (Sum.inr "numbers", V.ref l)] : List (Key × V)) := by kernel_rfl
theorem ok_take {f : Addr} {fd : FuncData} (F : Fun K "_law_take" "_law_take" sTak f fd) (mgInt : mg "int" = none) (mgLen : mg "len" = none) : FnOk P w K mg base CX0 1 f fd ["feed", "limit"] spTak := by
  refine F.ok scTak (fun vs H Q E h => ?_) (fun cdv A outer s H vs Q E hr h => ?_)
  · obtain ⟨d, l, a, xs, m, rfl, _⟩ := h
    rfl
  · obtain ⟨d, l, a, xs, m, rfl, fe, ha, hm, go⟩ := h
    have hu := hu_of hr
    refine ⟨_, pss_cons (ps_set (i := 2) scTak.nd rfl (.inl rfl) (pe_dget hu (pv 0) pe_str (fun _ _ => rfl)))
      (pss_cons (ps_set (i := 3) scTak.nd rfl (.inl rfl) (pe_dget hu (pv 0) pe_str (fun _ _ => rfl)))
      (pss_cons (ps_dput hu (pv 0) pe_str (pe_op op_add (pv 3) pe_int) rfl)
      (pss_one (ps_ret (pe_op op_mod (pe_callTy call_int1 (by rfl) mgInt (by decide +kernel) (pa_cons (pe_op op_fdivW (pe_ix ix_list (pv 2) (pe_op op_mod (pv 3) (pe_callB call_len_seq (by rfl) mgLen PySem.boot_len (pa_cons (pv 2) pa_nil))) (fun _ _ => rfl)) (pe_op op_add pe_int (pe_op op_mul (pe_op op_fdivW (pv 3) (pe_callB call_len_seq (by rfl) mgLen PySem.boot_len (pa_cons (pv 2) pa_nil))) pe_int))) pa_nil)) (pv 1)))))), ?_⟩
    have g1 : DGet H d (.str "numbers") (some (.ref l)) := .inl ⟨_, Sum.inr "numbers", .inl fe.hd, rfl, by kernel_rfl⟩
    have g2 : DGet H d (.str "at") (some (.int (a : Int))) := .inl ⟨_, Sum.inr "at", .inl fe.hd, rfl, by kernel_rfl⟩
    refine ⟨_, rfl, d, _, rfl, g1, _, rfl, d, _, rfl, g2, _, rfl, _, _, rfl, rfl, _, rfl, d, _, rfl, DPut.k (k := Sum.inr "at") fe.hd (small1000 (by simp)), ?_⟩
    rw [take_put]
    have ld : l ≠ d := ne_of fe.hl fe.hd (by intro z; cases z)
    have F2 : Feed (upd H d (.dK [(Sum.inr "at", .int ((a : Int) + 1)), (Sum.inr "numbers", .ref l)])) d l (a + 1) xs := ⟨upd_same, by rw [upd_ne ld]; exact fe.hl, fe.ne, fe.sm, fe.nu⟩
    have p0 : (0 : Int) < (xs.length : Int) := by have := fe.ne; omega
    have r0 := Int.emod_nonneg (a : Int) (b := (xs.length : Int)) (by omega)
    have r1 := Int.emod_lt_of_pos (a : Int) p0
    have hj : ((a : Int) % (xs.length : Int)).toNat < xs.length := by omega
    have q0 : 0 ≤ (a : Int) / (xs.length : Int) := Int.ediv_nonneg (by omega) (by omega)
    have q1 : (a : Int) / (xs.length : Int) ≤ (a : Int) := Int.ediv_le_self _ (by omega)
    have at0 : atI (xs.map V.int) ((a : Int) % (xs.length : Int)) = some (.int xs[((a : Int) % (xs.length : Int)).toNat]) := by
      have := nat_num (xs := xs) hj
      rwa [Int.toNat_of_nonneg r0] at this
    have nx := fe.nu _ (List.getElem_mem hj)
    refine ⟨_, rfl, _, rfl, _, rfl, l, _, rfl, .inl (SqL.of F2.hl), _, _, rfl, rfl, by rw [List.length_map]; exact p0, ?_⟩
    rw [List.length_map]
    have cdv : CDivW (a : Int) (xs.length : Int) := wide_div (b := 64) p0 (by have := fe.sm; rw [Int.natAbs_natCast]; exact Nat.lt_of_le_of_lt this (by decide)) (by decide) (by decide)
    refine ⟨l, _, _, _, rfl, rfl, SqL.of F2.hl, at0, _, rfl, _, rfl, l, _, rfl, .inl (SqL.of F2.hl), _, _, rfl, rfl, by rw [List.length_map]; exact cdv, ?_⟩
    rw [List.length_map]
    refine ⟨_, _, rfl, rfl, .inl ⟨by omega, by omega⟩, _, _, rfl, rfl, _, _, rfl, rfl, ?_, .inl ⟨_, rfl, _, rfl, _, _, rfl, rfl, hm, ?_⟩⟩
    · exact wide_div (b := 64) (by omega) (by omega) (by decide) (by decide)
    · exact go _ _ (Int.emod_nonneg _ (by omega)) (Int.emod_lt_of_pos _ hm) (fun b o hb ne => by rw [upd_ne ne]; exact hb) F2
end
end ZF
namespace ZF
open PySem L2 PyProof.Rows PySem.Spec G
/-- a text n times -/
def repS (z : Str) (n : Nat) : Str := { cps := List.foldl (fun x1 x2 => x1 ++ x2) #[] (List.replicate n z.cps) }
theorem rep_size (c : Array Nat) : ∀ (n : Nat) (acc : Array Nat), (List.foldl (fun x1 x2 => x1 ++ x2) acc (List.replicate n c)).size = acc.size + n * c.size
  | 0, acc => by simp
  | n + 1, acc => by
    rw [List.replicate_succ, List.foldl_cons, rep_size c n, Array.size_append, Nat.succ_mul]
    omega
theorem rep_len (z : Str) (n : Nat) : (repS z n).length = n * z.length := by
  show (List.foldl (fun x1 x2 => x1 ++ x2) #[] (List.replicate n z.cps)).size = _
  rw [rep_size]
  show 0 + n * z.cps.size = n * z.cps.size
  omega
def rMulS : R2 := fun x y H Q => ∃ (z : Str) (n : Nat), x = .str z ∧ y = .int (n : Int) ∧ 2 ≤ n ∧ n ≤ 1000 ∧ 1 ≤ z.length ∧ z.length ≤ 1000 ∧ Q (.str (repS z n)) H
theorem op_mulS {X : Cx} : OpR X (binaryOp .Mult) rMulS := by
  intro pins s σ H x y v u Q I rx ry h
  obtain ⟨z, n, rfl, rfl, n2, nm, z1, zm, go⟩ := h
  obtain ⟨t, rfl⟩ := rx
  obtain ⟨t', rfl⟩ := ry
  have e : ((n : Int) == 1 || z.length == 0) = false := by
    rw [Bool.or_eq_false_iff]
    exact ⟨by simpa using (by omega : ¬ (n : Int) = 1), by simpa using (by omega : ¬ z.length = 0)⟩
  refine PySem.P.mul_str (by rw [Bool.or_eq_false_iff]; exact ⟨decide_eq_false (by omega), decide_eq_false (by omega)⟩) (fun _ _ => ?_) (fun _ _ => ?_) ?_
  · have h1 : (1000 : Int) ≤ (2 ^ 63 - 1) / (n : Int) := (Int.le_ediv_iff_mul_le (by omega)).mpr (by omega)
    omega
  · have h1 : z.length * ((n : Int)).toNat ≤ 1000 * 1000 := Nat.mul_le_mul zm (by omega)
    exact decide_eq_false (by rw [sizeLine_eq]; omega)
  · rw [if_neg (by omega), e]
    rw [if_neg (by decide), Int.toNat_natCast]
    refine ⟨?_, .str (repS z n), H, I.tok _, ⟨_, rfl⟩, go⟩
    show (repS z n).length ≤ sizeLine
    rw [rep_len, sizeLine_eq]
    have h1 : n * z.length ≤ 1000 * 1000 := Nat.mul_le_mul nm zm
    omega
/-! _law_wrong -/
theorem NoTup.same {H H' : Hp} {v : V} (h : NoTup H v) (s : Same H H') : NoTup H' v := by
  rcases h with h | ⟨q, ys, e1, e2⟩
  · exact .inl h
  · exact .inr ⟨q, ys, e1, s _ _ e2⟩
theorem Itm.same {H H' : Hp} {v : V} {o : Option Fct} (h : Itm H v o) (s : Same H H') : Itm H' v o := by
  cases o with
  | some fc =>
    obtain ⟨q, e1, e2, e3⟩ := h
    exact ⟨q, e1, s _ _ e2, e3⟩
  | none =>
    rcases h with ⟨q, ys, e1, e2, e3⟩ | h
    · exact .inl ⟨q, ys, e1, s _ _ e2, e3⟩
    · exact .inr (h.same s)
/-- all of these are no facts -/
def Bads (H0 H : Hp) (vs : List V) : Prop := Same H0 H ∧ ∀ v ∈ vs, Itm H v none
theorem first_itm (H : Hp) : Bads H H [] := ⟨Same.refl H, fun v h => by cases h⟩
theorem add_itm {H0 H : Hp} {vs : List V} (b : Bads H0 H vs) {v : V} (h : Itm H v none) : Bads H0 H (vs ++ [v]) := ⟨b.1, fun u hu => by
  rcases List.mem_append.mp hu with m | m
  · exact b.2 u m
  · rw [List.mem_singleton.mp m]
    exact h⟩
theorem Bads.go {H0 H H' : Hp} {vs : List V} (b : Bads H0 H vs) (s : Same H H') : Bads H0 H' vs := ⟨b.1.trans s, fun v h => (b.2 v h).same s⟩
theorem new_itm {H0 H : Hp} {vs ys : List V} (hok : ∀ y ∈ ys, OkV y) (hf : factV ys = false) (b : Bads H0 H vs) {T : Addr} (nT : H T = none) : Bads H0 (upd H T (.tup ys)) (vs ++ [.ref T]) :=
  add_itm (b.go (same_upd nT)) (.inl ⟨T, ys, rfl, upd_same, hok, hf⟩)
theorem new_lst {H0 H : Hp} {vs ys : List V} (b : Bads H0 H vs) {T : Addr} (nT : H T = none) : Bads H0 (upd H T (.lst ys)) (vs ++ [.ref T]) :=
  add_itm (b.go (same_upd nT)) (.inr (.inr ⟨T, ys, rfl, upd_same⟩))
def okvB : V → Bool
  | .non => true
  | .bl _ => true
  | .int _ => true
  | .str x => decide (x.length ≤ 1000)
  | _ => false
theorem okv_by {v : V} (h : okvB v = true) : OkV v := by
  cases v with
  | non => exact ⟨rfl, fun x e => by cases e⟩
  | bl b => exact ⟨rfl, fun x e => by cases e⟩
  | int i => exact ⟨rfl, fun x e => by cases e⟩
  | str x => exact okv_w (of_decide_eq_true h)
  | byt b => cases h
  | flt b => cases h
  | ref b => cases h
  | ty b => cases h
section
variable {P : Program} {w : World} {K : PySem.W.Frag} {mg : Str → Option Value} {base : Heap}
def spWro : Sp := fun vs H Q _ => ∃ k : Int, vs = [.int k] ∧ ∀ v H', Same H H' → Itm H' v none → Q v H'
end
end ZF
namespace ZF
open PySem L2 PyProof.Rows PySem.Spec G
theorem cut_take (xs : List V) (k : Nat) (h : k ≤ xs.length) : cutV xs none (some (k : Int)) = xs.take k := by
  have e1 : HT.sIx xs.length 0 none = 0 := rfl
  have e2 : HT.sIx xs.length xs.length (some (k : Int)) = k := by
    unfold HT.sIx
    simp only
    rw [if_neg (by omega)]
    omega
  unfold cutV
  rw [e1, e2]
  rfl
theorem cut_drop (xs : List V) (k : Nat) (h : k ≤ xs.length) : cutV xs (some (k : Int)) none = xs.drop k := by
  have e1 : HT.sIx xs.length xs.length none = xs.length := rfl
  have e2 : HT.sIx xs.length 0 (some (k : Int)) = k := by
    unfold HT.sIx
    simp only
    rw [if_neg (by omega)]
    omega
  unfold cutV
  rw [e1, e2, List.take_of_length_le (by rw [List.length_drop]; exact Nat.le_refl _)]
/-- each text once, in the order of the first ones -/
def uniq : List Str → List Str
  | [] => []
  | x :: r => x :: (uniq r).filter fun y => !decide (y = x)
theorem uniq_mem {x : Str} : ∀ {l : List Str}, x ∈ uniq l ↔ x ∈ l
  | [] => Iff.rfl
  | y :: r => by
    show x ∈ y :: (uniq r).filter _ ↔ _
    rw [List.mem_cons, List.mem_cons, List.mem_filter, uniq_mem (l := r)]
    by_cases e : x = y
    · exact ⟨fun _ => .inl e, fun _ => .inl e⟩
    · exact ⟨fun h => h.imp id (·.1), fun h => h.imp id fun m => ⟨m, by rw [decide_eq_false e]; rfl⟩⟩
theorem uniq_nd : ∀ {l : List Str}, (uniq l).Nodup
  | [] => List.nodup_nil
  | y :: r => by
    refine List.nodup_cons.mpr ⟨fun h => ?_, (uniq_nd (l := r)).filter _⟩
    have := (List.mem_filter.mp h).2
    rw [decide_eq_true rfl] at this
    cases this
theorem uniq_snoc (l : List Str) (x : Str) : uniq (l ++ [x]) = uniq l ++ (if x ∈ l then [] else [x]) := by
  induction l with
  | nil => rfl
  | cons y r ih =>
    show y :: (uniq (r ++ [x])).filter _ = (y :: (uniq r).filter _) ++ _
    rw [ih, List.filter_append, List.cons_append]
    congr 2
    by_cases e : x = y
    · subst e
      rw [if_pos List.mem_cons_self]
      by_cases m : x ∈ r
      · rw [if_pos m]
        rfl
      · rw [if_neg m, List.filter_cons, decide_eq_true rfl]
        rfl
    · by_cases m : x ∈ r
      · rw [if_pos m, if_pos (List.mem_cons_of_mem _ m)]
        rfl
      · rw [if_neg m, if_neg fun h => (List.mem_cons.mp h).elim e m, List.filter_cons, decide_eq_false e]
        rfl
section
variable {P : Program} {w : World} {K : PySem.W.Frag} {mg : Str → Option Value} {base : Heap}
def spOnc : Sp := fun vs H Q _ => ∃ (a : Addr) (zs : List Str), vs = [.ref a] ∧ H a = some (.lst (zs.map V.str)) ∧ zs.length ≤ 900 ∧ ∀ l H', Same H H' → H l = none → H' l = some (.lst ((srt (uniq zs)).map V.str)) → Q (.ref l) H'
end
end ZF
namespace ZF
open PySem L2 PyProof.Rows PySem.Spec G
/-- a list of facts stands at a -/
def FactsAt (H : Hp) (a : Addr) (fs : List Fct) : Prop := ∃ qs : List Addr, H a = some (.lst (qs.map V.ref)) ∧ qs.length = fs.length ∧ ∀ (i : Nat) (q : Addr) (fc : Fct), qs[i]? = some q → fs[i]? = some fc → H q = some (.tup fc.vs)
theorem FactsAt.same {H H' : Hp} {a : Addr} {fs : List Fct} (h : FactsAt H a fs) (s : Same H H') : FactsAt H' a fs := by
  obtain ⟨qs, e1, e2, e3⟩ := h
  exact ⟨qs, s _ _ e1, e2, fun i q fc h1 h2 => s _ _ (e3 i q fc h1 h2)⟩
/-- the children that facts tell of -/
def chs (fs : List Fct) (x : Str) : List Str := fs.filterMap fun fc => match fc with
  | .child c p => if p = x then some c else none
  | _ => none
theorem chs_mem {fs : List Fct} {x y : Str} : y ∈ chs fs x ↔ Fct.child y x ∈ fs := by
  unfold chs
  rw [List.mem_filterMap]
  constructor
  · rintro ⟨fc, h, e⟩
    cases fc with
    | child c p =>
      have e' : (if p = x then some c else none) = some y := e
      by_cases q : p = x
      · rw [if_pos q] at e'
        rw [← q, ← Option.some.inj e']
        exact h
      · rw [if_neg q] at e'
        cases e'
    | _ => cases e
  · intro h
    exact ⟨_, h, if_pos rfl⟩
/-- children stand above their parents -/
def Rank (fs : List Fct) (rk : Str → Nat) : Prop := ∀ c p, Fct.child c p ∈ fs → rk p < rk c ∧ rk c ≤ 29
/-- what stands after some facts of the j-th round -/
structure Fnd (fs : List Fct) (rk : Str → Nat) (x : Str) (j i : Nat) (zs : List Str) : Prop where
  so : ∀ y ∈ zs, Dsc (chs fs) x y
  co : ∀ y, Dsc (chs fs) x y → rk y ≤ j → y ∈ zs
  nx : ∀ (m : Nat) (c p : Str), m < i → fs[m]? = some (.child c p) → (p = x ∨ (Dsc (chs fs) x p ∧ rk p ≤ j)) → c ∈ zs
  nd : zs.Nodup
theorem Fnd.sub {fs : List Fct} {rk : Str → Nat} {x : Str} {j i : Nat} {zs : List Str} (f : Fnd fs rk x j i zs) : ∀ y ∈ zs, y ∈ kids (fs.map some) := fun y hy => by
  have h := f.so y hy
  cases h with
  | one h => exact kids_mem (List.mem_map.mpr ⟨_, chs_mem.mp h, rfl⟩)
  | more _ h => exact kids_mem (List.mem_map.mpr ⟨_, chs_mem.mp h, rfl⟩)
theorem Fnd.len {fs : List Fct} {rk : Str → Nat} {x : Str} {j i : Nat} {zs : List Str} (f : Fnd fs rk x j i zs) : zs.length ≤ fs.length := by
  have h1 := nodup_le f.nd f.sub
  have h2 := kids_len (fs.map some)
  rw [List.length_map] at h2
  omega
theorem Fnd.round {fs : List Fct} {rk : Str → Nat} (R : Rank fs rk) {x : Str} {j : Nat} {zs : List Str} (f : Fnd fs rk x j fs.length zs) : Fnd fs rk x (j + 1) 0 zs := by
  refine ⟨f.so, fun y hy le => ?_, fun m c p h => by omega, f.nd⟩
  have last : ∃ p, Fct.child y p ∈ fs ∧ (p = x ∨ Dsc (chs fs) x p) := by
    cases hy with
    | one h => exact ⟨x, chs_mem.mp h, .inl rfl⟩
    | more h g => exact ⟨_, chs_mem.mp g, .inr h⟩
  obtain ⟨p, hp, hx⟩ := last
  obtain ⟨m, hm⟩ := List.mem_iff_getElem?.mp hp
  have lt : m < fs.length := (List.getElem?_eq_some_iff.mp hm).1
  have := (R y p hp).1
  exact f.nx m y p lt hm (hx.imp id fun d => ⟨d, by omega⟩)
theorem Fnd.pass {fs : List Fct} {rk : Str → Nat} {x : Str} {j i : Nat} {zs : List Str} (f : Fnd fs rk x j i zs) (h : ∀ c p, fs[i]? = some (.child c p) → (p = x ∨ (Dsc (chs fs) x p ∧ rk p ≤ j)) → c ∈ zs) : Fnd fs rk x j (i + 1) zs :=
  ⟨f.so, f.co, fun m c p lt e hx => (Nat.lt_or_eq_of_le (Nat.le_of_lt_succ lt)).elim (fun l => f.nx m c p l e hx) fun q => h c p (q ▸ e) hx, f.nd⟩
theorem Fnd.add {fs : List Fct} {rk : Str → Nat} {x : Str} {j i : Nat} {zs : List Str} (f : Fnd fs rk x j i zs) {c p : Str} (e : fs[i]? = some (.child c p)) (hp : p = x ∨ p ∈ zs) (hc : c ∉ zs) : Fnd fs rk x j (i + 1) (zs ++ [c]) := by
  have mc : c ∈ chs fs p := chs_mem.mpr (List.mem_of_getElem? e)
  refine ⟨fun y hy => ?_, fun y hy le => List.mem_append_left _ (f.co y hy le), fun m c' p' lt e' hx => ?_, ?_⟩
  · rcases List.mem_append.mp hy with m | m
    · exact f.so y m
    · rw [List.mem_singleton.mp m]
      rcases hp with rfl | hp
      · exact .one mc
      · exact .more (f.so p hp) mc
  · rcases Nat.lt_or_eq_of_le (Nat.le_of_lt_succ lt) with l | q
    · exact List.mem_append_left _ (f.nx m c' p' l e' hx)
    · subst q
      rw [e] at e'
      have := Fct.child.inj (Option.some.inj e')
      rw [← this.1]
      exact List.mem_append_right _ (List.mem_singleton.mpr rfl)
  · exact List.nodup_append.mpr ⟨f.nd, List.pairwise_singleton _ _, fun a ha b hb q => hc (by rw [← List.mem_singleton.mp hb, ← q]; exact ha)⟩
section
variable {P : Program} {w : World} {K : PySem.W.Frag} {mg : Str → Option Value} {base : Heap}
def spBel : Sp := fun vs H Q _ => ∃ (a : Addr) (x : Str) (fs : List Fct) (rk : Str → Nat), vs = [.ref a, .str x] ∧ FactsAt H a fs ∧ fs.length ≤ 200 ∧ Rank fs rk ∧ ∀ l H' (zs : List Str), Same H H' → H l = none → H' l = some (.lst (zs.map V.str)) → (∀ y, y ∈ zs ↔ Dsc (chs fs) x y) → Q (.ref l) H'
end
end ZF
/-! defs that show nested data: what they promise where no showing is under way -/
namespace G
open PySem L2 PyProof.Rows PySem.W
structure FnG (P : Program) (w : World) (K : PySem.W.Frag) (mg : Str → Option Value) (base : Heap) (CX : CXT) (k : Nat) (f : Addr) (fd : FuncData) (ps : List Str) (sp : Sp) : Prop where
  len : ∀ (vs : List V) (H : Hp) (Q : VK) (E : XK), sp vs H Q E → vs.length = ps.length
  run : ∀ (A : Around) (outer : List Env) (s : Shared) (H : Hp) (args : Args) (us : List Value) (vs : List V) (Q : VK) (E : XK),
    Room k A → A.guards = some [] → Env0 P w K mg base A outer s H → BindsTo s fd args (ps.zip us) → Vals vs us → sp vs H Q E → codeAny (model P w) A (Code.call (Value.ref f) args) (CR CX outer P w H s Q E) s
theorem FnG.of {P : Program} {w : World} {K : PySem.W.Frag} {mg : Str → Option Value} {base : Heap} {CX : CXT} {k : Nat} {f : Addr} {fd : FuncData} {ps : List Str} {sp : Sp} (F : FnOk P w K mg base CX k f fd ps sp) : FnG P w K mg base CX k f fd ps sp :=
  ⟨F.len, fun A outer s H args us vs Q E hr _ => F.run A outer s H args us vs Q E hr⟩
section
variable {CX : CXT} {P : Program} {w : World} {K : PySem.W.Frag} {mg : Str → Option Value} {base : Heap}
theorem fnG_of {k : Nat} {f : Addr} {name qual : Str} {params : Arguments} {body : List Stmt} {scope : Scope} {dV kV doc pm cdv ct oc : Value} {an od : Option Addr} {osl : Array (Option Value)} {N ps : List Str} {sp : Sp}
    (lk : List.lookup f K = some { cls := oc, dict := od, data := Data.func (fnOf name qual params body scope dV kV doc pm an cdv ct), slots := osl }) (hcd : codeIn K cdv qual = true) (S : FnScope N ps scope)
    (len : ∀ (vs : List V) (H : Hp) (Q : VK) (E : XK), sp vs H Q E → vs.length = ps.length)
    (hbody : ∀ (A : Around) (outer : List Env) (s : Shared) (H : Hp) (vs : List V) (Q : VK) (E : XK), Room k (A.deeper (envOfC qual scope s.heap.objs.size f cdv)) → A.guards = some [] → sp vs H Q E →
      ∃ t, PSs (cxOf CX P w K mg base N qual scope f cdv A outer s H E) body t ∧ t { nx := fun x H' => Q V.non H', rt := Q } (L2.start N vs) H) :
    FnG P w K mg base CX (k + 1) f (fnOf name qual params body scope dV kV doc pm an cdv ct) ps sp := by
  refine ⟨len, fun A outer s H args us vs Q E hr hg e0 hb r hsp => ?_⟩
  have hl := len vs H Q E hsp
  have KX : K.In s.heap := W.Frag.In.keeps e0.mod.kin fun b o e => (e0.bs b o e).1
  have lim := Heap.NoLimit.keeps e0.mod.nolimit fun b o e => (e0.bs b o e).1
  have hkind : ∀ (x : Str × Value), x ∈ ps.zip us → List.lookup x.fst scope.names = some NameKind.local ∨ List.lookup x.fst scope.names = some NameKind.cell ∧ (List.lookup x.fst (cellsFrom (s.heap.objs.size + 1) scope.names [])).isSome = true := by
    rintro ⟨n, v⟩ hy
    rcases S.par n (List.of_mem_zip hy).1 with q | q
    · exact .inl q
    · exact .inr ⟨q, W.cellsFrom_some scope.names (s.heap.objs.size + 1) [] (.inl q)⟩
  refine codeAny_call_function (Room.depth hr) (KX f _ lk) rfl S.co S.gen rfl (W.codeRec_of KX hcd) (hb (model P w) A.in1 (fun e s' => CR CX outer P w H s Q E (Except.error e) s') (fun binds s₁ => wpAny (model P w) A.in1 (newFunctionEnv (fnOf name qual params body scope dV kV doc pm an cdv ct).scope (fnOf name qual params body scope dV kV doc pm an cdv ct).globals (fnOf name qual params body scope dV kV doc pm an cdv ct).closure binds ((fnOf name qual params body scope dV kV doc pm an cdv ct).qualname ++ Str.ofString ".<locals>.") (some f) (fnOf name qual params body scope dV kV doc pm an cdv ct).code none (fnOf name qual params body scope dV kV doc pm an cdv ct).builtins) (fun env s₂ => s₂.heap.NoLimit ∧ codeAny (model P w) A (Code.func body env) (CR CX outer P w H s Q E) s₂) (fun e s' => CR CX outer P w H s Q E (Except.error e) s') s₁) ?_)
  refine wpAny_newFunctionEnv_cells S.kind hkind fun env he s1 x => ?_
  subst he
  refine ⟨Heap.NoLimit.keeps lim x.toInCall.keep, codeAny_func ?_⟩
  obtain ⟨t, ht, hq⟩ := hbody A outer s H vs Q E (Room.deeper hr (envOfC qual scope s.heap.objs.size f cdv)) hg hsp
  have I := inv_start (CX := CX) (E := E) S hr.hd e0 hl r x
  refine wpAny_mono (ht.run [] s1 (L2.start N vs) H { nx := fun x H' => Q V.non H', rt := Q } I hq) (fun fl s' hs => ?_) fun e s' hs => hs
  have fin : ∀ {σ' : L2.St} {H' : Hp} {v : V} {u : Value}, L2.Inv (cxOf CX P w K mg base N qual scope f cdv A outer s H E) [] σ' H' s' → L2.RelV v u → Q v H' → CE outer P w H s Q u s' := fun {σ'} {H'} {v} {u} J rv q => ⟨v, H', J.os, J.bare, J.base, J.hok, rv, q⟩
  cases fl with
  | next =>
    obtain ⟨σ', H', J, q⟩ := hs
    exact fin J (show L2.RelV V.non Value.none from rfl) q
  | brk =>
    obtain ⟨_, _, _, q⟩ := hs
    exact q.elim
  | cont =>
    obtain ⟨_, _, _, q⟩ := hs
    exact q.elim
  | ret u =>
    obtain ⟨v, σ', H', J, rv, q⟩ := hs
    exact fin J rv q
theorem okG {x qual : Str} {st : Stmt} {f : Addr} {fd : FuncData} {N ps : List Str} {k : Nat} {sp : Sp} (F : Fun K x qual st f fd) (S : FnScope N ps (defScope st)) (len : ∀ (vs : List V) (H : Hp) (Q : VK) (E : XK), sp vs H Q E → vs.length = ps.length)
    (hbody : ∀ (cdv : Value) (A : Around) (outer : List Env) (s : Shared) (H : Hp) (vs : List V) (Q : VK) (E : XK), Room k (A.deeper (envOfC qual (defScope st) s.heap.objs.size f cdv)) → A.guards = some [] → sp vs H Q E →
      ∃ t, PSs (cxOf CX0 P w K mg base N qual (defScope st) f cdv A outer s H E).nox (defBody st) t ∧ t { nx := fun x H' => Q V.non H', rt := Q } (L2.start N vs) H) :
    FnG P w K mg base CX0 (k + 1) f fd ps sp := by
  obtain ⟨oc, od, kV, doc, pm, an, cdv, ct, osl, rfl, lk, hcd⟩ := F.ex
  exact fnG_of lk hcd S len fun A outer s H vs Q E hr hg hsp => by
    obtain ⟨t, h, q⟩ := hbody cdv A outer s H vs Q E hr hg hsp
    exact ⟨t, h.nox, q⟩
end
theorem run_fnG {X : Cx} {CX : CXT} {k : Nat} {f : Addr} {fd : FuncData} {ps : List Str} {sp : Sp} {dvs : List V} {ds : List Value} {E : XK} {pins : List (Addr × Obj)} {σ : L2.St} {H : Hp} {s : Shared} {Q : VK} {us : List Value} {vs : List V}
    (F : FnG X.prog X.w X.K X.mg X.base CX k f fd ps sp) (hr : Room k X.A) (hg : X.A.guards = some []) (hb : L2.Binds X.K fd ps ds) (hd : Vals dvs ds) (hx : Passes CX X E) (I : L2.Inv X pins σ H s) (r : Vals vs us) (h : sp (vs ++ dvs) H Q E) :
    wpAny (model X.prog X.w) X.A (call (Value.ref f) us) (EP X pins σ Q) X.xe s := by
  have r2 := Vals.append r hd
  have hl : (us ++ ds).length = ps.length := by
    rw [← Vals.length r2]
    exact F.len _ _ _ _ h
  refine wpAny_call (codeAny_mono (F.run X.A X.stack s H { pos := us } (us ++ ds) (vs ++ dvs) Q E hr hg (Inv.env0 I) (hb s us (Inv.kIn I) hl) r2 h) fun r s' hq => ?_)
  cases r with
  | error e => exact hx pins σ H s e s' I hq
  | ok fl =>
    cases fl with
    | next => exact hq.elim
    | brk => exact hq.elim
    | cont => exact hq.elim
    | ret u => exact Inv.after I hq
theorem pe_callG {X : Cx} {CX : CXT} {k : Nat} {f : Addr} {fd : FuncData} {ps : List Str} {sp : Sp} {dvs : List V} {ds : List Value} {E : XK} {x : Str} {p pos : Pos} {e : Expr} {es : List Expr} {t : TA}
    (F : FnG X.prog X.w X.K X.mg X.base CX k f fd ps sp) (hr : Room k X.A) (hgd : X.A.guards = some []) (hg : Gl X x) (hm : X.mg x = some (Value.ref f)) (hk : PySem.W.keepIn X.K (Value.ref f) = true) (hb : L2.Binds X.K fd ps ds) (hd : Vals dvs ds) (hx : Passes CX X E) (ha : PA X (e :: es) t)
    (hdb : (x == Str.ofString "__debug__") = false := by decide) (he : starEach (e :: es) X.env = (false, eval e X.env) :: starEach es X.env := by rfl) (hpl : ((backTo pos (starEach es X.env)).any fun x => x.fst) = false := by rfl) :
    PE X ((Expr.Name x p).Call (e :: es) [] pos) (tCall sp dvs E t) :=
  ⟨fun pins s σ H Q I h => wpAny_Call_Name_kw (ld_glob I hg hm (W.callWith_K I.ok.mod.kin hk (thn (ha.run pos pins s σ H (fun vs H1 => sp (vs ++ dvs) H1 Q E) I h) fun us s1 hh => by
    obtain ⟨vs, H1, I1, r, q⟩ := hh
    exact ⟨Inv.kIn I1, run_fnG F hr hgd hb hd hx I1 r q⟩) he hpl) hdb)⟩
/-! repr of nested data -/
def rRepr (K : PySem.W.Frag) : List V → Hp → VK → Prop := fun vs H Q => ∃ (a : Addr) (d : PyData), vs = [.ref a] ∧ Dp K H (.ref a) d ∧ d.showable = true ∧ d.hasDict = false ∧ d.depth ≤ 64 ∧ d.shown.length ≤ sizeLine ∧ Q (.str d.shown) H
theorem cr_repr {X : Cx} (hg : X.A.guards = some []) (hu : X.A.units + 65 < cLine) : CallR X (.builtin "repr") (rRepr X.K) := by
  intro pins s σ H vs us Q I r h
  obtain ⟨a, d, rfl, hd, h1, h2, h3, h4, go⟩ := h
  obtain ⟨u, rfl, ru⟩ := vals1 r
  obtain rfl : u = Value.ref a := ru
  obtain ⟨as, hr⟩ := Dp.reads I d (.ref a) (.ref a) hd rfl
  refine repr_of_reads' hr h1 (fun e => by rw [h2] at e; cases e) hg (by omega) (fun b o e => e) (fun h' u tk k => ?_) h4
  exact ⟨.str d.shown, H, I.kept k, ⟨u, rfl⟩, go⟩
end G
namespace ZF
open PySem L2 PyProof.Rows PySem.Spec G
/-! facts as data -/
def _root_.G.Fct.ds : Fct → List PyData
  | .child c p => [.str "child", .str c, .str p]
  | .wed a b => [.str "wed", .str a, .str b]
  | .parted a b => [.str "parted", .str a, .str b]
  | .died a d => [.str "died", .str a, .int d]
  | .renounced a => [.str "renounced", .str a]
  | .advance a n => [.str "advance", .str a, .int n]
theorem dp_fct {K : PySem.W.Frag} {H : Hp} {q : Addr} {fc : Fct} (h : H q = some (.tup fc.vs)) : Dp K H (.ref q) (.tuple fc.ds) := by
  refine .tup (SqT.of h) ?_
  cases fc with
  | child c p => exact .cons (.str _) (.cons (.str _) (.cons (.str _) .nil))
  | wed c p => exact .cons (.str _) (.cons (.str _) (.cons (.str _) .nil))
  | parted c p => exact .cons (.str _) (.cons (.str _) (.cons (.str _) .nil))
  | died c p => exact .cons (.str _) (.cons (.str _) (.cons (.int _) .nil))
  | renounced c => exact .cons (.str _) (.cons (.str _) .nil)
  | advance c p => exact .cons (.str _) (.cons (.str _) (.cons (.int _) .nil))
def datas (fs : List Fct) : List PyData := fs.map fun fc => .tuple fc.ds
theorem dp_all {K : PySem.W.Frag} {H : Hp} : ∀ {qs : List Addr} {fs : List Fct}, qs.length = fs.length → (∀ (i : Nat) (q : Addr) (fc : Fct), qs[i]? = some q → fs[i]? = some fc → H q = some (.tup fc.vs)) → DpAll K H (qs.map V.ref) (datas fs)
  | [], [], _, _ => .nil
  | q :: qs, fc :: fs, e, h => .cons (dp_fct (h 0 q fc rfl rfl)) (dp_all (Nat.succ.inj e) fun i q' fc' h1 h2 => h (i + 1) q' fc' h1 h2)
theorem dp_facts {K : PySem.W.Frag} {H : Hp} {a : Addr} {fs : List Fct} (h : FactsAt H a fs) : Dp K H (.ref a) (.list (datas fs)) := by
  obtain ⟨qs, e1, e2, e3⟩ := h
  exact .lst (SqL.of e1) (dp_all e2 e3)
theorem eqv_cons (w v : Str) (r t : List PyData) : PyData.eqv (.tuple (.str w :: r)) (.tuple (.str v :: t)) = ((w == v) && PyData.eqv (.tuple r) (.tuple t)) := rfl
theorem eqv_consI (i j : Int) (r t : List PyData) : PyData.eqv (.tuple (.int i :: r)) (.tuple (.int j :: t)) = ((i == j) && PyData.eqv (.tuple r) (.tuple t)) := rfl
theorem eqv_nil : PyData.eqv (.tuple []) (.tuple []) = true := rfl
theorem eqv_ne {w v : Str} (r t : List PyData) (h : (w == v) = false) : PyData.eqv (.tuple (.str w :: r)) (.tuple (.str v :: t)) = false := by
  rw [eqv_cons, h]
  rfl
theorem eqv_fct (f g : Fct) : PyData.eqv (.tuple f.ds) (.tuple g.ds) = decide (f = g) := by
  cases f <;> cases g <;> first
    | exact (eqv_ne _ _ (by decide +kernel)).trans (decide_eq_false (by intro z; cases z)).symm
    | (simp only [Fct.ds, eqv_cons, eqv_consI, eqv_nil, Bool.and_true]
       rw [Bool.eq_iff_iff]
       simp)
theorem any_fct (fs : List Fct) (g : Fct) : ((datas fs).any fun z => PyData.eqv z (.tuple g.ds)) = decide (g ∈ fs) := by
  unfold datas
  rw [List.any_map, Bool.eq_iff_iff, List.any_eq_true, decide_eq_true_eq]
  constructor
  · rintro ⟨f, hf, e⟩
    have e' : PyData.eqv (.tuple f.ds) (.tuple g.ds) = true := e
    rw [eqv_fct] at e'
    rw [← of_decide_eq_true e']
    exact hf
  · intro h
    refine ⟨g, h, ?_⟩
    show PyData.eqv (.tuple g.ds) (.tuple g.ds) = true
    rw [eqv_fct]
    exact decide_eq_true rfl
theorem nm_ok {x : Str} (h : isNm x = true) : PyData.strOk x = true := by
  unfold isNm at h
  rw [Bool.and_eq_true, Bool.and_eq_true] at h
  have h2 := h.2
  rw [List.all_eq_true] at h2
  show x.cps.all (· < 0x110000) = true
  rw [← Array.all_toList, List.all_eq_true]
  intro c hc
  have m := of_decide_eq_true (h2 c hc)
  have all : ∀ c ∈ signs.cps.toList, c < 0x110000 := by decide +kernel
  exact decide_eq_true (all c m)
/-- names within a fact -/
def Fct.okN (fc : Fct) : Prop := ∀ x, V.str x ∈ fc.vs → PyData.strOk x = true
theorem okN_of {fc : Fct} (h : factV fc.vs = true) : Fct.okN fc := by
  have w6 : ∀ w ∈ (["child", "wed", "parted", "died", "renounced", "advance"] : List Str), PyData.strOk w = true := by decide +kernel
  intro x hx
  cases fc with
  | child c q =>
    have a := fact_nm h
    have b := (fact_nm3 h (.inl rfl)).1
    simp only [Fct.vs, List.mem_cons, List.not_mem_nil, or_false, V.str.injEq] at hx
    rcases hx with rfl | rfl | rfl
    · exact w6 _ (by simp)
    · exact nm_ok a
    · exact nm_ok b
  | wed c q =>
    have a := fact_nm h
    have b := (fact_nm3 h (.inr (.inl rfl))).1
    simp only [Fct.vs, List.mem_cons, List.not_mem_nil, or_false, V.str.injEq] at hx
    rcases hx with rfl | rfl | rfl
    · exact w6 _ (by simp)
    · exact nm_ok a
    · exact nm_ok b
  | parted c q =>
    have a := fact_nm h
    have b := (fact_nm3 h (.inr (.inr rfl))).1
    simp only [Fct.vs, List.mem_cons, List.not_mem_nil, or_false, V.str.injEq] at hx
    rcases hx with rfl | rfl | rfl
    · exact w6 _ (by simp)
    · exact nm_ok a
    · exact nm_ok b
  | died c d =>
    have a := fact_nm h
    simp only [Fct.vs, List.mem_cons, List.not_mem_nil, or_false, V.str.injEq, reduceCtorEq] at hx
    rcases hx with rfl | rfl
    · exact w6 _ (by simp)
    · exact nm_ok a
  | renounced c =>
    have a := fact_nm h
    simp only [Fct.vs, List.mem_cons, List.not_mem_nil, or_false, V.str.injEq] at hx
    rcases hx with rfl | rfl
    · exact w6 _ (by simp)
    · exact nm_ok a
  | advance c d =>
    have a := fact_nm h
    simp only [Fct.vs, List.mem_cons, List.not_mem_nil, or_false, V.str.injEq, reduceCtorEq] at hx
    rcases hx with rfl | rfl
    · exact w6 _ (by simp)
    · exact nm_ok a
theorem lay_fct {fc : Fct} (h : Fct.okN fc) : PyData.canLay0 (.tuple fc.ds) = true := by
  cases fc with
  | child c q =>
    have a := h "child" (by simp [Fct.vs]); have b := h c (by simp [Fct.vs]); have d := h q (by simp [Fct.vs])
    show (PyData.strOk "child" && (PyData.strOk c && (PyData.strOk q && true))) = true
    rw [a, b, d]; rfl
  | wed c q =>
    have a := h "wed" (by simp [Fct.vs]); have b := h c (by simp [Fct.vs]); have d := h q (by simp [Fct.vs])
    show (PyData.strOk "wed" && (PyData.strOk c && (PyData.strOk q && true))) = true
    rw [a, b, d]; rfl
  | parted c q =>
    have a := h "parted" (by simp [Fct.vs]); have b := h c (by simp [Fct.vs]); have d := h q (by simp [Fct.vs])
    show (PyData.strOk "parted" && (PyData.strOk c && (PyData.strOk q && true))) = true
    rw [a, b, d]; rfl
  | died c q =>
    have a := h "died" (by simp [Fct.vs]); have b := h c (by simp [Fct.vs])
    show (PyData.strOk "died" && (PyData.strOk c && true)) = true
    rw [a, b]; rfl
  | renounced c =>
    have a := h "renounced" (by simp [Fct.vs]); have b := h c (by simp [Fct.vs])
    show (PyData.strOk "renounced" && (PyData.strOk c && true)) = true
    rw [a, b]; rfl
  | advance c q =>
    have a := h "advance" (by simp [Fct.vs]); have b := h c (by simp [Fct.vs])
    show (PyData.strOk "advance" && (PyData.strOk c && true)) = true
    rw [a, b]; rfl
theorem dep_fct (fc : Fct) : PyData.depth (.tuple fc.ds) = 1 := by
  cases fc <;> rfl
theorem sha_fct {fc : Fct} (h : Fct.okN fc) : SeqAt.shaped (.tuple fc.ds) = true := by
  unfold SeqAt.shaped
  rw [lay_fct h, dep_fct]
  rfl
theorem lay_all : ∀ {fs : List Fct}, (∀ fc ∈ fs, Fct.okN fc) → PyData.canLayAll0 (datas fs) = true
  | [], _ => rfl
  | fc :: r, h => by
    show (PyData.canLay0 (.tuple fc.ds) && PyData.canLayAll0 (datas r)) = true
    rw [lay_fct (h fc List.mem_cons_self), lay_all fun g hg => h g (List.mem_cons_of_mem _ hg)]
    rfl
theorem dep_all : ∀ (fs : List Fct), PyData.depthAll (datas fs) ≤ 1
  | [] => Nat.zero_le _
  | fc :: r => by
    show max (PyData.depth (.tuple fc.ds)) (PyData.depthAll (datas r)) ≤ 1
    rw [dep_fct]
    have := dep_all r
    omega
theorem sha_all {fs : List Fct} (h : ∀ fc ∈ fs, Fct.okN fc) : SeqAt.shaped (.list (datas fs)) = true := by
  unfold SeqAt.shaped
  rw [Bool.and_eq_true]
  refine ⟨lay_all h, decide_eq_true ?_⟩
  show PyData.depthAll (datas fs) + 1 ≤ 64
  have := dep_all fs
  omega
/-! lists of names as data -/
def strD (zs : List Str) : PyData := .list (zs.map PyData.str)
theorem dp_strs {K : PySem.W.Frag} {H : Hp} : ∀ (zs : List Str), DpAll K H (zs.map V.str) (zs.map PyData.str)
  | [] => .nil
  | z :: r => .cons (.str z) (dp_strs r)
theorem dp_strD {K : PySem.W.Frag} {H : Hp} {a : Addr} {zs : List Str} (h : H a = some (.lst (zs.map V.str))) : Dp K H (.ref a) (strD zs) := .lst (SqL.of h) (dp_strs zs)
theorem show_strs : ∀ (zs : List Str), PyData.showableAll (zs.map PyData.str) = true
  | [] => rfl
  | z :: r => show_strs r
theorem dict_strs : ∀ (zs : List Str), PyData.hasDictAll (zs.map PyData.str) = false
  | [] => rfl
  | z :: r => dict_strs r
theorem depth_strs : ∀ (zs : List Str), PyData.depthAll (zs.map PyData.str) = 0
  | [] => rfl
  | z :: r => by
    show max 0 (PyData.depthAll (r.map PyData.str)) = 0
    rw [depth_strs r]
    rfl
theorem short_strs {zs : List Str} (h : ∀ z ∈ zs, PyData.strOk z = true) : PyData.leavesShortAll 13 (zs.map PyData.str) = true := by
  induction zs with
  | nil => rfl
  | cons z r ih =>
    show ((z.cps.toList.all fun c => decide (c < 16 ^ 8)) && PyData.leavesShortAll 13 (r.map PyData.str)) = true
    rw [ih fun y hy => h y (List.mem_cons_of_mem _ hy), Bool.and_true, List.all_eq_true]
    intro c hc
    have h1 : z.cps.all (· < 0x110000) = true := h z List.mem_cons_self
    rw [← Array.all_toList, List.all_eq_true] at h1
    have h2 : c < 0x110000 := of_decide_eq_true (h1 c hc)
    exact decide_eq_true (Nat.lt_of_lt_of_le h2 (by decide))
theorem weight_strs {m : Nat} : ∀ {zs : List Str}, (∀ z ∈ zs, z.length ≤ m) → PyData.weightAll (zs.map PyData.str) ≤ zs.length * (m + 1)
  | [], _ => Nat.zero_le _
  | z :: r, h => by
    show z.cps.size + 1 + PyData.weightAll (r.map PyData.str) ≤ (r.length + 1) * (m + 1)
    have h1 : z.cps.size ≤ m := h z List.mem_cons_self
    have h2 := weight_strs (m := m) (zs := r) fun y hy => h y (List.mem_cons_of_mem _ hy)
    rw [Nat.succ_mul]
    omega
end ZF
namespace ZF
open PySem L2 PyProof.Rows PySem.Spec G
theorem fmap_step {α β : Type} (l : List α) (f : α → Option β) {i : Nat} {y : α} (h : l[i]? = some y) : (l.take (i + 1)).filterMap f = (l.take i).filterMap f ++ (f y).toList := by
  rw [List.take_add_one, h, List.filterMap_append]
  cases e : f y with
  | none => simp [e]
  | some z => simp [e]
def ch1 (x : Str) : Fct → Option Str
  | .child c p => if p = x then some c else none
  | _ => none
def pa1 (x : Str) : Fct → Option Str
  | .child c p => if c = x then some p else none
  | _ => none
def dy1 (x : Str) : Fct → Option Int
  | .died a d => if a = x then some d else none
  | _ => none
def ad1 (x : Str) : Fct → Option Int
  | .advance a d => if a = x then some d else none
  | _ => none
theorem chs_eq (fs : List Fct) (x : Str) : chs fs x = fs.filterMap (ch1 x) := by
  unfold chs
  congr 1
def pas (fs : List Fct) (x : Str) : List Str := fs.filterMap (pa1 x)
def sp1 (fs : List Fct) (x : Str) : Fct → Option Str
  | .wed a b => if x = a ∨ x = b then (if Fct.parted x (if a = x then b else a) ∈ fs ∨ Fct.parted (if a = x then b else a) x ∈ fs then none else some (if a = x then b else a)) else none
  | _ => none
def sps (fs : List Fct) (x : Str) : List Str := fs.filterMap (sp1 fs x)
def dys (fs : List Fct) (x : Str) : List Int := fs.filterMap (dy1 x)
def ads (fs : List Fct) (x : Str) : List Int := fs.filterMap (ad1 x)
theorem tlc_facts {K : PySem.W.Frag} {a l : Addr} {p : Addr} {x : Str} {fs : List Fct} {qs : List Addr} {y4 y5 y6 y7 y8 : Option V} {H1 : Hp} {tt : TT} {te : TE} {Q : Hp → Prop} (pk : Fct → Option V)
    (e1 : H1 a = some (.lst (qs.map V.ref))) (e2 : qs.length = fs.length) (e3 : ∀ (i : Nat) (q : Addr) (fc : Fct), qs[i]? = some q → fs[i]? = some fc → H1 q = some (.tup fc.vs)) (hn : fs.length ≤ 900)
    (turn : ∀ (q : Addr) (fc : Fct) (Hz : Hp) (N : Hp → Prop) (Y : VK), SqT K Hz q fc.vs → (pk fc = none → N Hz) → (∀ v, pk fc = some v → Y v Hz) → tt [some (.ref p), some (.ref a), some (.str x), some (.ref l), some (.ref q), y5, y6, y7, y8] Hz fun b H3 => if b = true then te [some (.ref p), some (.ref a), some (.str x), some (.ref l), some (.ref q), y5, y6, y7, y8] H3 Y else N H3)
    {D : Addr} (hD : H1 D = none) (go : ∀ Hy, Same H1 Hy → Hy D = some (.lst (fs.filterMap pk)) → Q Hy) :
    ∃ W : Nat → Nat → Hp → Prop, (∃ m, W 0 m (upd H1 D (.lst []))) ∧ ∀ i m H, W i m H → ((Itl K a).stop i H ∧ Q H) ∨ ((Itl K a).go i H ∧ ∃ Nx : Hp → Prop, (∀ H', Nx H' → ∃ m', m' < m ∧ W (i + 1) m' H') ∧ ∀ z H', (Itl K a).yld i H z H' →
      gName 4 z (wipe [some (.ref p), some (.ref a), some (.str x), some (.ref l), y4, y5, y6, y7, y8] [4]) H' fun σ2 H2 => wipe σ2 [4] = wipe [some (.ref p), some (.ref a), some (.str x), some (.ref l), y4, y5, y6, y7, y8] [4] ∧ tt σ2 H2 fun b H3 => if b = true then te σ2 H3 fun y H4 => ∃ acc, H4 D = some (.lst acc) ∧ acc.length < sizeLine ∧ Nx (upd H4 D (.lst (acc ++ [y]))) else Nx H3) := by
  refine lc_it walk_list (fun i Hy => Same H1 Hy ∧ Hy D = some (.lst ((fs.take i).filterMap pk))) ⟨same_upd hD, upd_same⟩ (fun _ _ _ z => SqL.of (z.1 _ _ e1)) ?_ ?_
  · rintro i v Hy H' hi ⟨k1, k2⟩ ⟨rfl, ev⟩
    obtain ⟨q, eq, rfl⟩ : ∃ q, qs[i]? = some q ∧ v = .ref q := by
      rw [List.getElem?_map] at ev
      obtain ⟨k, h1, h2⟩ := Option.map_eq_some_iff.mp ev
      exact ⟨k, h1, h2.symm⟩
    have il : i < fs.length := by
      rw [← e2]
      exact (List.getElem?_eq_some_iff.mp eq).1
    have ef : fs[i]? = some fs[i] := List.getElem?_eq_getElem il
    have st := fmap_step fs pk ef
    refine ⟨rfl, turn q fs[i] H' _ _ (SqT.of (k1 _ _ (e3 i q _ eq ef))) (fun e => ⟨k1, ?_⟩) fun v e => ⟨_, k2, ?_, ?_, ?_⟩⟩
    · rw [st, e]
      simpa using k2
    · have h1 := List.length_filterMap_le pk (fs.take i)
      rw [List.length_take] at h1
      exact small1000 (by omega)
    · intro b o hb
      rw [upd_ne (ne_of_none hb hD)]
      exact k1 b o hb
    · rw [upd_same, st, e]
      rfl
  · rintro Hy ⟨k1, k2⟩
    rw [List.length_map, e2, List.take_length] at k2
    exact go Hy k1 k2
def ttF (K : PySem.W.Frag) (wd : Str) (I : Int) : TT := tAnd (tTest (tOp rEq (tOp (rIxT K) (tVar 4) (tC (.int 0))) (tC (.str wd)))) (tTest (tOp rEq (tOp (rIxT K) (tVar 4) (tC (.int I))) (tVar 2)))
def teF (K : PySem.W.Frag) (J : Int) : TE := tOp (rIxT K) (tVar 4) (tC (.int J))
theorem turn_ch {K : PySem.W.Frag} {p a l : Addr} {x : Str} {y5 y6 y7 y8 : Option V} (q : Addr) (fc : Fct) (Hz : Hp) (N : Hp → Prop) (Y : VK) (hT : SqT K Hz q fc.vs) (hN : (ch1 x fc).map V.str = none → N Hz) (hY : ∀ v, (ch1 x fc).map V.str = some v → Y v Hz) :
    ttF K "child" 2 [some (.ref p), some (.ref a), some (.str x), some (.ref l), some (.ref q), y5, y6, y7, y8] Hz fun b H3 => if b = true then teF K 1 [some (.ref p), some (.ref a), some (.str x), some (.ref l), some (.ref q), y5, y6, y7, y8] H3 Y else N H3 := by
  cases fc with
  | child c p =>
    refine ⟨_, rfl, q, _, 0, .str "child", rfl, rfl, hT, atI_nat (j := 0) rfl, rfl, _, rfl, ?_⟩
    rw [decide_eq_true (rfl : V.str ("child" : Str) = .str ("child" : Str))]
    refine iteT ⟨_, rfl, q, _, 2, .str p, rfl, rfl, hT, atI_nat (j := 2) rfl, _, rfl, rfl, _, rfl, ?_⟩
    have ef : (ch1 x (.child c p)).map V.str = (if p = x then some c else none).map V.str := rfl
    by_cases e : p = x
    · rw [decide_eq_true (congrArg V.str e)]
      rw [if_pos e] at ef
      exact iteT ⟨_, rfl, q, _, 1, .str c, rfl, rfl, hT, atI_nat (j := 1) rfl, hY _ ef⟩
    · rw [decide_eq_false (fun z => e (V.str.inj z))]
      rw [if_neg e] at ef
      exact iteF (hN ef)
  | wed c p =>
    refine ⟨_, rfl, q, _, 0, .str "wed", rfl, rfl, hT, atI_nat (j := 0) rfl, rfl, _, rfl, ?_⟩
    rw [decide_eq_false (show ¬ V.str ("wed" : Str) = .str ("child" : Str) by decide +kernel)]
    exact iteF (hN rfl)
  | parted c p =>
    refine ⟨_, rfl, q, _, 0, .str "parted", rfl, rfl, hT, atI_nat (j := 0) rfl, rfl, _, rfl, ?_⟩
    rw [decide_eq_false (show ¬ V.str ("parted" : Str) = .str ("child" : Str) by decide +kernel)]
    exact iteF (hN rfl)
  | died c p =>
    refine ⟨_, rfl, q, _, 0, .str "died", rfl, rfl, hT, atI_nat (j := 0) rfl, rfl, _, rfl, ?_⟩
    rw [decide_eq_false (show ¬ V.str ("died" : Str) = .str ("child" : Str) by decide +kernel)]
    exact iteF (hN rfl)
  | renounced c =>
    refine ⟨_, rfl, q, _, 0, .str "renounced", rfl, rfl, hT, atI_nat (j := 0) rfl, rfl, _, rfl, ?_⟩
    rw [decide_eq_false (show ¬ V.str ("renounced" : Str) = .str ("child" : Str) by decide +kernel)]
    exact iteF (hN rfl)
  | advance c p =>
    refine ⟨_, rfl, q, _, 0, .str "advance", rfl, rfl, hT, atI_nat (j := 0) rfl, rfl, _, rfl, ?_⟩
    rw [decide_eq_false (show ¬ V.str ("advance" : Str) = .str ("child" : Str) by decide +kernel)]
    exact iteF (hN rfl)
theorem turn_pa {K : PySem.W.Frag} {p a l : Addr} {x : Str} {y5 y6 y7 y8 : Option V} (q : Addr) (fc : Fct) (Hz : Hp) (N : Hp → Prop) (Y : VK) (hT : SqT K Hz q fc.vs) (hN : (pa1 x fc).map V.str = none → N Hz) (hY : ∀ v, (pa1 x fc).map V.str = some v → Y v Hz) :
    ttF K "child" 1 [some (.ref p), some (.ref a), some (.str x), some (.ref l), some (.ref q), y5, y6, y7, y8] Hz fun b H3 => if b = true then teF K 2 [some (.ref p), some (.ref a), some (.str x), some (.ref l), some (.ref q), y5, y6, y7, y8] H3 Y else N H3 := by
  cases fc with
  | child c p =>
    refine ⟨_, rfl, q, _, 0, .str "child", rfl, rfl, hT, atI_nat (j := 0) rfl, rfl, _, rfl, ?_⟩
    rw [decide_eq_true (rfl : V.str ("child" : Str) = .str ("child" : Str))]
    refine iteT ⟨_, rfl, q, _, 1, .str c, rfl, rfl, hT, atI_nat (j := 1) rfl, _, rfl, rfl, _, rfl, ?_⟩
    have ef : (pa1 x (.child c p)).map V.str = (if c = x then some p else none).map V.str := rfl
    by_cases e : c = x
    · rw [decide_eq_true (congrArg V.str e)]
      rw [if_pos e] at ef
      exact iteT ⟨_, rfl, q, _, 2, .str p, rfl, rfl, hT, atI_nat (j := 2) rfl, hY _ ef⟩
    · rw [decide_eq_false (fun z => e (V.str.inj z))]
      rw [if_neg e] at ef
      exact iteF (hN ef)
  | wed c p =>
    refine ⟨_, rfl, q, _, 0, .str "wed", rfl, rfl, hT, atI_nat (j := 0) rfl, rfl, _, rfl, ?_⟩
    rw [decide_eq_false (show ¬ V.str ("wed" : Str) = .str ("child" : Str) by decide +kernel)]
    exact iteF (hN rfl)
  | parted c p =>
    refine ⟨_, rfl, q, _, 0, .str "parted", rfl, rfl, hT, atI_nat (j := 0) rfl, rfl, _, rfl, ?_⟩
    rw [decide_eq_false (show ¬ V.str ("parted" : Str) = .str ("child" : Str) by decide +kernel)]
    exact iteF (hN rfl)
  | died c p =>
    refine ⟨_, rfl, q, _, 0, .str "died", rfl, rfl, hT, atI_nat (j := 0) rfl, rfl, _, rfl, ?_⟩
    rw [decide_eq_false (show ¬ V.str ("died" : Str) = .str ("child" : Str) by decide +kernel)]
    exact iteF (hN rfl)
  | renounced c =>
    refine ⟨_, rfl, q, _, 0, .str "renounced", rfl, rfl, hT, atI_nat (j := 0) rfl, rfl, _, rfl, ?_⟩
    rw [decide_eq_false (show ¬ V.str ("renounced" : Str) = .str ("child" : Str) by decide +kernel)]
    exact iteF (hN rfl)
  | advance c p =>
    refine ⟨_, rfl, q, _, 0, .str "advance", rfl, rfl, hT, atI_nat (j := 0) rfl, rfl, _, rfl, ?_⟩
    rw [decide_eq_false (show ¬ V.str ("advance" : Str) = .str ("child" : Str) by decide +kernel)]
    exact iteF (hN rfl)
theorem turn_dy {K : PySem.W.Frag} {p a l : Addr} {x : Str} {y5 y6 y7 y8 : Option V} (q : Addr) (fc : Fct) (Hz : Hp) (N : Hp → Prop) (Y : VK) (hT : SqT K Hz q fc.vs) (hN : (dy1 x fc).map V.int = none → N Hz) (hY : ∀ v, (dy1 x fc).map V.int = some v → Y v Hz) :
    ttF K "died" 1 [some (.ref p), some (.ref a), some (.str x), some (.ref l), some (.ref q), y5, y6, y7, y8] Hz fun b H3 => if b = true then teF K 2 [some (.ref p), some (.ref a), some (.str x), some (.ref l), some (.ref q), y5, y6, y7, y8] H3 Y else N H3 := by
  cases fc with
  | child c p =>
    refine ⟨_, rfl, q, _, 0, .str "child", rfl, rfl, hT, atI_nat (j := 0) rfl, rfl, _, rfl, ?_⟩
    rw [decide_eq_false (show ¬ V.str ("child" : Str) = .str ("died" : Str) by decide +kernel)]
    exact iteF (hN rfl)
  | wed c p =>
    refine ⟨_, rfl, q, _, 0, .str "wed", rfl, rfl, hT, atI_nat (j := 0) rfl, rfl, _, rfl, ?_⟩
    rw [decide_eq_false (show ¬ V.str ("wed" : Str) = .str ("died" : Str) by decide +kernel)]
    exact iteF (hN rfl)
  | parted c p =>
    refine ⟨_, rfl, q, _, 0, .str "parted", rfl, rfl, hT, atI_nat (j := 0) rfl, rfl, _, rfl, ?_⟩
    rw [decide_eq_false (show ¬ V.str ("parted" : Str) = .str ("died" : Str) by decide +kernel)]
    exact iteF (hN rfl)
  | died c p =>
    refine ⟨_, rfl, q, _, 0, .str "died", rfl, rfl, hT, atI_nat (j := 0) rfl, rfl, _, rfl, ?_⟩
    rw [decide_eq_true (rfl : V.str ("died" : Str) = .str ("died" : Str))]
    refine iteT ⟨_, rfl, q, _, 1, .str c, rfl, rfl, hT, atI_nat (j := 1) rfl, _, rfl, rfl, _, rfl, ?_⟩
    have ef : (dy1 x (.died c p)).map V.int = (if c = x then some p else none).map V.int := rfl
    by_cases e : c = x
    · rw [decide_eq_true (congrArg V.str e)]
      rw [if_pos e] at ef
      exact iteT ⟨_, rfl, q, _, 2, .int p, rfl, rfl, hT, atI_nat (j := 2) rfl, hY _ ef⟩
    · rw [decide_eq_false (fun z => e (V.str.inj z))]
      rw [if_neg e] at ef
      exact iteF (hN ef)
  | renounced c =>
    refine ⟨_, rfl, q, _, 0, .str "renounced", rfl, rfl, hT, atI_nat (j := 0) rfl, rfl, _, rfl, ?_⟩
    rw [decide_eq_false (show ¬ V.str ("renounced" : Str) = .str ("died" : Str) by decide +kernel)]
    exact iteF (hN rfl)
  | advance c p =>
    refine ⟨_, rfl, q, _, 0, .str "advance", rfl, rfl, hT, atI_nat (j := 0) rfl, rfl, _, rfl, ?_⟩
    rw [decide_eq_false (show ¬ V.str ("advance" : Str) = .str ("died" : Str) by decide +kernel)]
    exact iteF (hN rfl)
theorem turn_ad {K : PySem.W.Frag} {p a l : Addr} {x : Str} {y5 y6 y7 y8 : Option V} (q : Addr) (fc : Fct) (Hz : Hp) (N : Hp → Prop) (Y : VK) (hT : SqT K Hz q fc.vs) (hN : (ad1 x fc).map V.int = none → N Hz) (hY : ∀ v, (ad1 x fc).map V.int = some v → Y v Hz) :
    ttF K "advance" 1 [some (.ref p), some (.ref a), some (.str x), some (.ref l), some (.ref q), y5, y6, y7, y8] Hz fun b H3 => if b = true then teF K 2 [some (.ref p), some (.ref a), some (.str x), some (.ref l), some (.ref q), y5, y6, y7, y8] H3 Y else N H3 := by
  cases fc with
  | child c p =>
    refine ⟨_, rfl, q, _, 0, .str "child", rfl, rfl, hT, atI_nat (j := 0) rfl, rfl, _, rfl, ?_⟩
    rw [decide_eq_false (show ¬ V.str ("child" : Str) = .str ("advance" : Str) by decide +kernel)]
    exact iteF (hN rfl)
  | wed c p =>
    refine ⟨_, rfl, q, _, 0, .str "wed", rfl, rfl, hT, atI_nat (j := 0) rfl, rfl, _, rfl, ?_⟩
    rw [decide_eq_false (show ¬ V.str ("wed" : Str) = .str ("advance" : Str) by decide +kernel)]
    exact iteF (hN rfl)
  | parted c p =>
    refine ⟨_, rfl, q, _, 0, .str "parted", rfl, rfl, hT, atI_nat (j := 0) rfl, rfl, _, rfl, ?_⟩
    rw [decide_eq_false (show ¬ V.str ("parted" : Str) = .str ("advance" : Str) by decide +kernel)]
    exact iteF (hN rfl)
  | died c p =>
    refine ⟨_, rfl, q, _, 0, .str "died", rfl, rfl, hT, atI_nat (j := 0) rfl, rfl, _, rfl, ?_⟩
    rw [decide_eq_false (show ¬ V.str ("died" : Str) = .str ("advance" : Str) by decide +kernel)]
    exact iteF (hN rfl)
  | renounced c =>
    refine ⟨_, rfl, q, _, 0, .str "renounced", rfl, rfl, hT, atI_nat (j := 0) rfl, rfl, _, rfl, ?_⟩
    rw [decide_eq_false (show ¬ V.str ("renounced" : Str) = .str ("advance" : Str) by decide +kernel)]
    exact iteF (hN rfl)
  | advance c p =>
    refine ⟨_, rfl, q, _, 0, .str "advance", rfl, rfl, hT, atI_nat (j := 0) rfl, rfl, _, rfl, ?_⟩
    rw [decide_eq_true (rfl : V.str ("advance" : Str) = .str ("advance" : Str))]
    refine iteT ⟨_, rfl, q, _, 1, .str c, rfl, rfl, hT, atI_nat (j := 1) rfl, _, rfl, rfl, _, rfl, ?_⟩
    have ef : (ad1 x (.advance c p)).map V.int = (if c = x then some p else none).map V.int := rfl
    by_cases e : c = x
    · rw [decide_eq_true (congrArg V.str e)]
      rw [if_pos e] at ef
      exact iteT ⟨_, rfl, q, _, 2, .int p, rfl, rfl, hT, atI_nat (j := 2) rfl, hY _ ef⟩
    · rw [decide_eq_false (fun z => e (V.str.inj z))]
      rw [if_neg e] at ef
      exact iteF (hN ef)
/-- what is known of x is what the facts tell -/
structure Sees (F : Fm) (fs : List Fct) (x : Str) : Prop where
  ch : F.ch x = srt (uniq (chs fs x))
  pa : F.pa x = srt (uniq (pas fs x))
  sp : sp F x = srt (uniq (sps fs x))
  dy : F.dy x = (dys fs x).head?
  rn : F.rn x = decide (Fct.renounced x ∈ fs)
  ad : (F.ad x).getD 0 = (ads fs x).sum
  wl : (F.we x).length ≤ 900
/-- what the law asks of methods and built-ins -/
structure TD (P : Program) (w : World) (K : PySem.W.Frag) (mg : Str → Option Value) (base : Heap) (C : Addr) : Prop where
  cl : Cls K C
  ch : HasM P w K mg base CX0 C "children" ["self", "name"] 1 (spLs C fun F k => F.ch k)
  pa : HasM P w K mg base CX0 C "parents" ["self", "name"] 1 (spLs C fun F k => F.pa k)
  sp : HasM P w K mg base CX0 C "spouses" ["self", "name"] 1 (spSpo C)
  dy : HasM P w K mg base CX0 C "day" ["self", "name"] 1 (spVal C dayV)
  rn : HasM P w K mg base CX0 C "has_renounced" ["self", "name"] 1 (spVal C fun F k => .bl (F.rn k))
  ad : HasM P w K mg base CX0 C "advance" ["self", "name"] 1 (spVal C fun F k => .int ((F.ad k).getD 0))
  on : Has P w K mg base CX0 "_law_once" ["names"] 1 spOnc
  sum : mg "sum" = none
  repr : mg "repr" = none
section
variable {P : Program} {w : World} {K : PySem.W.Frag} {mg : Str → Option Value} {base : Heap}
def spTol (C : Addr) : Sp := fun vs H Q _ => ∃ (p a : Addr) (x : Str) (n : Nat) (F : Fm) (fs : List Fct), vs = [.ref p, .ref a, .str x] ∧ FamAt C H p n F ∧ FactsAt H a fs ∧ fs.length ≤ 120 ∧ (∀ fc ∈ fs, factV fc.vs = true) ∧ isNm x = true ∧ Sees F fs x ∧ ∀ H', Same H H' → Q (.bl true) H'
/-- what the law shows -/
def dayD : Option Int → PyData
  | none => .none
  | some d => .int d
def toldD (A B C : List Str) (d : Option Int) (r : Bool) (z : Int) : PyData := .list [strD A, strD B, strD C, dayD d, .bool r, .int z]
theorem log_12 {i : Int} (h : i.natAbs < 10 ^ 12) : i.natAbs.log2 ≤ 40 := by
  by_cases e : i.natAbs = 0
  · rw [e]; decide
  · have := (Nat.log2_lt e (k := 41)).mpr (Nat.lt_trans h (by decide))
    omega
theorem toldD_fits {A B C : List Str} {d : Option Int} {r : Bool} {z : Int} (hA : ∀ x ∈ A ++ B ++ C, isNm x = true) (lA : A.length ≤ 900) (lB : B.length ≤ 900) (lC : C.length ≤ 900) (hd : ∀ e, d = some e → e.natAbs < 10 ^ 12) (hz : z.natAbs < 10 ^ 12) :
    (toldD A B C d r z).showable = true ∧ (toldD A B C d r z).hasDict = false ∧ (toldD A B C d r z).depth ≤ 64 ∧ (toldD A B C d r z).shown.length ≤ sizeLine := by
  have okA : ∀ x ∈ A, PyData.strOk x = true ∧ x.length ≤ 12 := fun x hx => have h := hA x (by simp [hx]); ⟨nm_ok h, nm_len h⟩
  have okB : ∀ x ∈ B, PyData.strOk x = true ∧ x.length ≤ 12 := fun x hx => have h := hA x (by simp [hx]); ⟨nm_ok h, nm_len h⟩
  have okC : ∀ x ∈ C, PyData.strOk x = true ∧ x.length ≤ 12 := fun x hx => have h := hA x (by simp [hx]); ⟨nm_ok h, nm_len h⟩
  have sD : (dayD d).showable = true ∧ (dayD d).hasDict = false ∧ (dayD d).depth = 0 ∧ (dayD d).leavesShort 13 = true ∧ (dayD d).weight ≤ 41 := by
    cases d with
    | none => exact ⟨rfl, rfl, rfl, rfl, Nat.zero_le _⟩
    | some e =>
      have h := log_12 (hd e rfl)
      refine ⟨decide_eq_true (by omega), rfl, rfl, decide_eq_true (PyData.shown_int_le (hd e rfl)), ?_⟩
      show (if (e == 0) = true then 0 else e.natAbs.log2 + 1) ≤ 41
      split <;> omega
  have lz := log_12 hz
  refine ⟨?_, ?_, ?_, PyData.shown_fits (B := 13) (by decide) (by decide) ?_ ?_⟩
  · show (PyData.showableAll (A.map PyData.str) && (PyData.showableAll (B.map PyData.str) && (PyData.showableAll (C.map PyData.str) && ((dayD d).showable && (true && (decide (z.natAbs.log2 < 1920) && true)))))) = true
    rw [show_strs, show_strs, show_strs, sD.1, decide_eq_true (show z.natAbs.log2 < 1920 by omega)]
    rfl
  · show (PyData.hasDictAll (A.map PyData.str) || (PyData.hasDictAll (B.map PyData.str) || (PyData.hasDictAll (C.map PyData.str) || ((dayD d).hasDict || (false || (false || false)))))) = false
    rw [dict_strs, dict_strs, dict_strs, sD.2.1]
    rfl
  · show max (PyData.depthAll (A.map PyData.str) + 1) (max (PyData.depthAll (B.map PyData.str) + 1) (max (PyData.depthAll (C.map PyData.str) + 1) (max (dayD d).depth (max 0 (max 0 0))))) + 1 ≤ 64
    rw [depth_strs, depth_strs, depth_strs, sD.2.2.1]
    decide
  · show (PyData.leavesShortAll 13 (A.map PyData.str) && (PyData.leavesShortAll 13 (B.map PyData.str) && (PyData.leavesShortAll 13 (C.map PyData.str) && ((dayD d).leavesShort 13 && (true && (decide ((PyData.int z).shown.length ≤ 13) && true)))))) = true
    rw [short_strs fun x h => (okA x h).1, short_strs fun x h => (okB x h).1, short_strs fun x h => (okC x h).1, sD.2.2.2.1, decide_eq_true (PyData.shown_int_le hz)]
    rfl
  · show PyData.weightAll (A.map PyData.str) + 1 + (PyData.weightAll (B.map PyData.str) + 1 + (PyData.weightAll (C.map PyData.str) + 1 + ((dayD d).weight + 1 + (0 + 1 + ((if (z == 0) = true then 0 else z.natAbs.log2 + 1) + 1 + 0))))) ≤ 2 ^ 20
    have a := weight_strs (m := 12) fun x h => (okA x h).2
    have b := weight_strs (m := 12) fun x h => (okB x h).2
    have c := weight_strs (m := 12) fun x h => (okC x h).2
    have dw := sD.2.2.2.2
    have zw : (if (z == 0) = true then 0 else z.natAbs.log2 + 1) ≤ 41 := by split <;> omega
    have : (2 : Nat) ^ 20 = 1048576 := by decide
    omega
theorem fact_amt {w : Str} {n : V} {d : Int} (hw : w = "died" ∨ w = "advance") (h : factV [.str w, n, .int d] = true) : 0 ≤ d ∧ d ≤ 1000000000 := by
  have h' : (isStr (.str w) && nameV n && threeV (.str w) n (.int d)) = true := h
  rw [Bool.and_eq_true] at h'
  have h2 := h'.2
  unfold threeV at h2
  rw [if_neg (by rcases hw with rfl | rfl <;> decide +kernel), Bool.and_eq_true] at h2
  have h3 : (decide (0 ≤ d) && decide (d ≤ 1000000000)) = true := h2.2
  rw [Bool.and_eq_true] at h3
  exact ⟨of_decide_eq_true h3.1, of_decide_eq_true h3.2⟩
theorem dys_mem {fs : List Fct} {x : Str} {d : Int} (h : d ∈ dys fs x) : Fct.died x d ∈ fs := by
  obtain ⟨fc, hf, e⟩ := List.mem_filterMap.mp h
  cases fc with
  | died a d' =>
    have e' : (if a = x then some d' else none) = some d := e
    by_cases q : a = x
    · rw [if_pos q] at e'
      rw [← q, ← Option.some.inj e']
      exact hf
    · rw [if_neg q] at e'
      cases e'
  | _ => cases e
theorem ads_mem {fs : List Fct} {x : Str} {d : Int} (h : d ∈ ads fs x) : Fct.advance x d ∈ fs := by
  obtain ⟨fc, hf, e⟩ := List.mem_filterMap.mp h
  cases fc with
  | advance a d' =>
    have e' : (if a = x then some d' else none) = some d := e
    by_cases q : a = x
    · rw [if_pos q] at e'
      rw [← q, ← Option.some.inj e']
      exact hf
    · rw [if_neg q] at e'
      cases e'
  | _ => cases e
theorem pas_mem {fs : List Fct} {x y : Str} (h : y ∈ pas fs x) : Fct.child x y ∈ fs := by
  obtain ⟨fc, hf, e⟩ := List.mem_filterMap.mp h
  cases fc with
  | child a d' =>
    have e' : (if a = x then some d' else none) = some y := e
    by_cases q : a = x
    · rw [if_pos q] at e'
      rw [← q, ← Option.some.inj e']
      exact hf
    · rw [if_neg q] at e'
      cases e'
  | _ => cases e
theorem sps_mem {fs : List Fct} {x y : Str} (h : y ∈ sps fs x) : ∃ a b, Fct.wed a b ∈ fs ∧ (y = a ∨ y = b) := by
  obtain ⟨fc, hf, e⟩ := List.mem_filterMap.mp h
  cases fc with
  | wed a b =>
    refine ⟨a, b, hf, ?_⟩
    have e' : (if x = a ∨ x = b then (if Fct.parted x (if a = x then b else a) ∈ fs ∨ Fct.parted (if a = x then b else a) x ∈ fs then none else some (if a = x then b else a)) else none) = some y := e
    by_cases q1 : x = a ∨ x = b
    · rw [if_pos q1] at e'
      by_cases r : a = x
      · rw [if_pos r] at e'
        by_cases q2 : Fct.parted x b ∈ fs ∨ Fct.parted b x ∈ fs
        · rw [if_pos q2] at e'
          cases e'
        · rw [if_neg q2] at e'
          exact .inr (Option.some.inj e').symm
      · rw [if_neg r] at e'
        by_cases q2 : Fct.parted x a ∈ fs ∨ Fct.parted a x ∈ fs
        · rw [if_pos q2] at e'
          cases e'
        · rw [if_neg q2] at e'
          exact .inl (Option.some.inj e').symm
    · rw [if_neg q1] at e'
      cases e'
  | _ => cases e
theorem sum_le : ∀ {l : List Int}, (∀ d ∈ l, 0 ≤ d ∧ d ≤ 1000000000) → 0 ≤ l.sum ∧ l.sum ≤ l.length * 1000000000
  | [], _ => ⟨Int.le_refl _, by simp⟩
  | d :: r, h => by
    have h1 := h d List.mem_cons_self
    have h2 := sum_le (l := r) fun e he => h e (List.mem_cons_of_mem _ he)
    rw [List.sum_cons, List.length_cons]
    push_cast
    omega
theorem srt_uniq_len (l : List Str) : (srt (uniq l)).length ≤ l.length := by
  rw [srt_len]
  induction l with
  | nil => exact Nat.le_refl _
  | cons y r ih => exact Nat.succ_le_succ (Nat.le_trans (List.length_filter_le _ _) ih)
theorem no_ms (A : FA) : A.fl.lookup ("spouses" : Str) = none := by kernel_rfl
theorem no_md (A : FA) : A.fl.lookup ("day" : Str) = none := by kernel_rfl
theorem no_mr (A : FA) : A.fl.lookup ("has_renounced" : Str) = none := by kernel_rfl
end
end ZF
namespace ZF
open PySem L2 PyProof.Rows PySem.Spec G
/-- good facts, one behind the other, none of which contradicts those ahead -/
inductive Told : List Fct → Fm → Prop
  | nil : Told [] Fm.none
  | snoc {fs : List Fct} {F : Fm} {fc : Fct} (h : Told fs F) (g : factV fc.vs = true) (b : F.bad fc = false) : Told (fs ++ [fc]) (F.learn fc)
theorem run_app (F0 : Fm) (i : Nat) (os ps : List (Option Fct)) : run F0 i (os ++ ps) = match run F0 i os with
    | .inl F => run F (i + os.length) ps
    | .inr j => .inr j := by
  induction os generalizing F0 i with
  | nil => rfl
  | cons o os ih =>
    cases o with
    | none => rfl
    | some fc =>
      show (if F0.bad fc = true then .inr i else run (F0.learn fc) (i + 1) (os ++ ps)) = match (if F0.bad fc = true then (.inr i : Fm ⊕ Nat) else run (F0.learn fc) (i + 1) os) with
        | .inl F => run F (i + (os.length + 1)) ps
        | .inr j => .inr j
      by_cases b : F0.bad fc = true
      · rw [if_pos b, if_pos b]
      · rw [if_neg b, if_neg b, ih, show i + 1 + os.length = i + (os.length + 1) by omega]
theorem Told.run {fs : List Fct} {F : Fm} (h : Told fs F) : run Fm.none 0 (fs.map some) = .inl F := by
  induction h with
  | nil => rfl
  | snoc h g b ih =>
    rw [List.map_append, run_app, ih]
    show (if _ = true then _ else _) = _
    rw [if_neg (by rw [b]; decide)]
    rfl
theorem Told.good {fs : List Fct} {F : Fm} (h : Told fs F) : ∀ fc ∈ fs, factV fc.vs = true := by
  induction h with
  | nil => exact fun fc h => by cases h
  | snoc h g b ih =>
    intro fc hf
    rcases List.mem_append.mp hf with m | m
    · exact ih fc m
    · rw [List.mem_singleton.mp m]
      exact g
/-- a table's list: ascending, each once -/
def Asc (zs : List Str) : Prop := zs.Pairwise (fun a b => leT a b = true) ∧ zs.Nodup
theorem asc_nil : Asc [] := ⟨.nil, .nil⟩
theorem asc_jn {zs : List Str} {x : Str} (h : Asc zs) : Asc (jn zs x) := by
  unfold jn
  split
  · exact h
  · next n =>
    refine ⟨srt_pw _, (srt_perm _).nodup_iff.mpr (List.nodup_append.mpr ⟨h.2, List.pairwise_singleton _ _, fun a ha b hb e => n ?_⟩)⟩
    rw [← List.mem_singleton.mp hb, ← e]
    exact ha
theorem asc_eq {zs ys : List Str} (h : Asc zs) (m : ∀ y, y ∈ zs ↔ y ∈ ys) : zs = srt (uniq ys) :=
  srt_one ((List.perm_ext_iff_of_nodup h.2 uniq_nd).mpr fun y => (m y).trans uniq_mem.symm) h.1
/-- what the tables hold -/
structure View (fs : List Fct) (F : Fm) : Prop where
  ch : ∀ x, Asc (F.ch x) ∧ ∀ y, y ∈ F.ch x ↔ Fct.child y x ∈ fs
  pa : ∀ x, Asc (F.pa x) ∧ ∀ y, y ∈ F.pa x ↔ Fct.child x y ∈ fs
  we : ∀ x, Asc (F.we x) ∧ ∀ y, y ∈ F.we x ↔ Fct.wed x y ∈ fs ∨ Fct.wed y x ∈ fs
  pt : ∀ x, Asc (F.pt x) ∧ ∀ y, y ∈ F.pt x ↔ Fct.parted x y ∈ fs ∨ Fct.parted y x ∈ fs
  dy : ∀ x, F.dy x = (dys fs x).head?
  rn : ∀ x, F.rn x = decide (Fct.renounced x ∈ fs)
  ad : ∀ x, (F.ad x).getD 0 = (ads fs x).sum
theorem mem_snoc {fs : List Fct} {fc g : Fct} : g ∈ fs ++ [fc] ↔ g ∈ fs ∨ g = fc := by
  rw [List.mem_append, List.mem_singleton]
theorem both_get {f : Str → List Str} {a b : Str} (ab : a ≠ b) (x : Str) : both f a b x = if x = b then jn (f b) a else if x = a then jn (f a) b else f x := by
  unfold both
  by_cases e : x = b
  · rw [e, up_same, if_pos rfl, up_ne (Ne.symm ab)]
  · rw [up_ne e, if_neg e]
    by_cases e2 : x = a
    · rw [e2, up_same, if_pos rfl]
    · rw [up_ne e2, if_neg e2]
theorem both_view {f : Str → List Str} {a b : Str} (ab : a ≠ b) {R R' : Str → Str → Prop} (h : ∀ x, Asc (f x) ∧ ∀ y, y ∈ f x ↔ R x y) (r : ∀ x y, R' x y ↔ R x y ∨ (x = a ∧ y = b) ∨ (x = b ∧ y = a)) : ∀ x, Asc (both f a b x) ∧ ∀ y, y ∈ both f a b x ↔ R' x y := by
  intro x
  rw [both_get ab]
  by_cases e : x = b
  · rw [if_pos e]
    refine ⟨asc_jn (h b).1, fun y => ?_⟩
    rw [jn_mem, (h b).2, r, e]
    exact ⟨fun q => q.imp id fun z => .inr ⟨rfl, z⟩, fun q => q.imp id fun z => z.elim (fun w => absurd w.1.symm ab) (·.2)⟩
  · rw [if_neg e]
    by_cases e2 : x = a
    · rw [if_pos e2]
      refine ⟨asc_jn (h a).1, fun y => ?_⟩
      rw [jn_mem, (h a).2, r, e2]
      exact ⟨fun q => q.imp id fun z => .inl ⟨rfl, z⟩, fun q => q.imp id fun z => z.elim (·.2) fun w => absurd w.1 ab⟩
    · rw [if_neg e2]
      refine ⟨(h x).1, fun y => ?_⟩
      rw [(h x).2, r]
      exact ⟨.inl, fun q => q.elim id fun z => z.elim (fun w => absurd w.1 e2) fun w => absurd w.1 e⟩
theorem same_view {f : Str → List Str} {R R' : Str → Str → Prop} (h : ∀ x, Asc (f x) ∧ ∀ y, y ∈ f x ↔ R x y) (r : ∀ x y, R' x y ↔ R x y) : ∀ x, Asc (f x) ∧ ∀ y, y ∈ f x ↔ R' x y := fun x => ⟨(h x).1, fun y => ((h x).2 y).trans (r x y).symm⟩
theorem up_view {f : Str → List Str} {k v : Str} {R R' : Str → Str → Prop} (h : ∀ x, Asc (f x) ∧ ∀ y, y ∈ f x ↔ R x y) (r : ∀ x y, R' x y ↔ R x y ∨ (x = k ∧ y = v)) : ∀ x, Asc (up f k (jn (f k) v) x) ∧ ∀ y, y ∈ up f k (jn (f k) v) x ↔ R' x y := by
  intro x
  by_cases e : x = k
  · rw [e, up_same]
    refine ⟨asc_jn (h k).1, fun y => ?_⟩
    rw [jn_mem, (h k).2, r]
    exact ⟨fun q => q.imp id fun z => ⟨rfl, z⟩, fun q => q.imp id (·.2)⟩
  · rw [up_ne e]
    refine ⟨(h x).1, fun y => ?_⟩
    rw [(h x).2, r]
    exact ⟨.inl, fun q => q.elim id fun w => absurd w.1 e⟩
theorem filt_snoc {β : Type} (f : Fct → Option β) (fs : List Fct) (fc : Fct) : (fs ++ [fc]).filterMap f = fs.filterMap f ++ (f fc).toList := by
  rw [List.filterMap_append]
  cases e : f fc with
  | none => simp [e]
  | some z => simp [e]
theorem died_view {fs : List Fct} {F : Fm} {a : Str} {d : Int} (h : ∀ x, F.dy x = (dys fs x).head?) (b : F.bad (.died a d) = false) : ∀ x, (F.learn (.died a d)).dy x = (dys (fs ++ [.died a d]) x).head? := by
  intro x
  show up F.dy a (some d) x = _
  unfold dys
  rw [filt_snoc]
  have b' : (!decide ((F.dy a).getD d = d)) = false := b
  have b2 : (F.dy a).getD d = d := by simpa using b'
  by_cases e : x = a
  · subst e
    rw [up_same]
    have e1 : dy1 x (.died x d) = some d := if_pos rfl
    rw [e1]
    have hx := h x
    unfold dys at hx
    cases q : fs.filterMap (dy1 x) with
    | nil => rfl
    | cons z r =>
      rw [q] at hx
      rw [hx] at b2
      have b3 : z = d := b2
      rw [b3]
      rfl
  · rw [up_ne e]
    have e1 : dy1 x (.died a d) = none := if_neg fun z => e z.symm
    rw [e1]
    simpa [dys] using h x
theorem ren_view {fs : List Fct} {F : Fm} {a : Str} (h : ∀ x, F.rn x = decide (Fct.renounced x ∈ fs)) : ∀ x, (F.learn (.renounced a)).rn x = decide (Fct.renounced x ∈ fs ++ [.renounced a]) := by
  intro x
  show up F.rn a true x = _
  by_cases e : x = a
  · subst e
    rw [up_same]
    exact (decide_eq_true (mem_snoc.mpr (.inr rfl))).symm
  · rw [up_ne e, h x]
    refine decide_eq_decide.mpr (Iff.symm (mem_snoc.trans ⟨fun q => q.elim id fun z => absurd (Fct.renounced.inj z) e, .inl⟩))
theorem adv_view {fs : List Fct} {F : Fm} {a : Str} {d : Int} (h : ∀ x, (F.ad x).getD 0 = (ads fs x).sum) : ∀ x, ((F.learn (.advance a d)).ad x).getD 0 = (ads (fs ++ [.advance a d]) x).sum := by
  intro x
  show (up F.ad a (some ((F.ad a).getD 0 + d)) x).getD 0 = _
  unfold ads
  rw [filt_snoc]
  by_cases e : x = a
  · subst e
    rw [up_same]
    have e1 : ad1 x (.advance x d) = some d := if_pos rfl
    rw [e1, List.sum_append]
    have := h x
    unfold ads at this
    rw [← this]
    simp
  · rw [up_ne e]
    have e1 : ad1 x (.advance a d) = none := if_neg fun z => e z.symm
    rw [e1]
    simpa [ads] using h x
theorem Told.view {fs : List Fct} {F : Fm} (h : Told fs F) : View fs F := by
  induction h with
  | nil => exact ⟨fun x => ⟨asc_nil, fun y => by simp [Fm.none]⟩, fun x => ⟨asc_nil, fun y => by simp [Fm.none]⟩, fun x => ⟨asc_nil, fun y => by simp [Fm.none]⟩, fun x => ⟨asc_nil, fun y => by simp [Fm.none]⟩, fun x => rfl, fun x => by simp [Fm.none], fun x => rfl⟩
  | snoc h g b ih =>
    rename_i fs F fc
    cases fc with
    | child c p => exact ⟨up_view ih.ch fun x y => by rw [mem_snoc]; simp [and_comm],
        up_view ih.pa fun x y => by rw [mem_snoc]; simp,
        same_view ih.we fun x y => by rw [mem_snoc, mem_snoc]; simp,
        same_view ih.pt fun x y => by rw [mem_snoc, mem_snoc]; simp,
        fun x => by show F.dy x = _; unfold dys; rw [filt_snoc]; simpa [dy1, dys] using ih.dy x,
        fun x => by show F.rn x = _; rw [ih.rn x]; exact decide_eq_decide.mpr (by rw [mem_snoc]; simp),
        fun x => by show (F.ad x).getD 0 = _; unfold ads; rw [filt_snoc]; simpa [ad1, ads] using ih.ad x⟩
    | wed c p => exact ⟨same_view ih.ch fun x y => by rw [mem_snoc]; simp,
        same_view ih.pa fun x y => by rw [mem_snoc]; simp,
        both_view (fun e => (fact_nm3 g (.inr (.inl rfl))).2 (congrArg V.str e)) ih.we fun x y => by rw [mem_snoc, mem_snoc]; simp; grind,
        same_view ih.pt fun x y => by rw [mem_snoc, mem_snoc]; simp,
        fun x => by show F.dy x = _; unfold dys; rw [filt_snoc]; simpa [dy1, dys] using ih.dy x,
        fun x => by show F.rn x = _; rw [ih.rn x]; exact decide_eq_decide.mpr (by rw [mem_snoc]; simp),
        fun x => by show (F.ad x).getD 0 = _; unfold ads; rw [filt_snoc]; simpa [ad1, ads] using ih.ad x⟩
    | parted c p => exact ⟨same_view ih.ch fun x y => by rw [mem_snoc]; simp,
        same_view ih.pa fun x y => by rw [mem_snoc]; simp,
        same_view ih.we fun x y => by rw [mem_snoc, mem_snoc]; simp,
        both_view (fun e => (fact_nm3 g (.inr (.inr rfl))).2 (congrArg V.str e)) ih.pt fun x y => by rw [mem_snoc, mem_snoc]; simp; grind,
        fun x => by show F.dy x = _; unfold dys; rw [filt_snoc]; simpa [dy1, dys] using ih.dy x,
        fun x => by show F.rn x = _; rw [ih.rn x]; exact decide_eq_decide.mpr (by rw [mem_snoc]; simp),
        fun x => by show (F.ad x).getD 0 = _; unfold ads; rw [filt_snoc]; simpa [ad1, ads] using ih.ad x⟩
    | died c p => exact ⟨same_view ih.ch fun x y => by rw [mem_snoc]; simp,
        same_view ih.pa fun x y => by rw [mem_snoc]; simp,
        same_view ih.we fun x y => by rw [mem_snoc, mem_snoc]; simp,
        same_view ih.pt fun x y => by rw [mem_snoc, mem_snoc]; simp,
        died_view ih.dy b,
        fun x => by show F.rn x = _; rw [ih.rn x]; exact decide_eq_decide.mpr (by rw [mem_snoc]; simp),
        fun x => by show (F.ad x).getD 0 = _; unfold ads; rw [filt_snoc]; simpa [ad1, ads] using ih.ad x⟩
    | renounced c => exact ⟨same_view ih.ch fun x y => by rw [mem_snoc]; simp,
        same_view ih.pa fun x y => by rw [mem_snoc]; simp,
        same_view ih.we fun x y => by rw [mem_snoc, mem_snoc]; simp,
        same_view ih.pt fun x y => by rw [mem_snoc, mem_snoc]; simp,
        fun x => by show F.dy x = _; unfold dys; rw [filt_snoc]; simpa [dy1, dys] using ih.dy x,
        ren_view ih.rn,
        fun x => by show (F.ad x).getD 0 = _; unfold ads; rw [filt_snoc]; simpa [ad1, ads] using ih.ad x⟩
    | advance c p => exact ⟨same_view ih.ch fun x y => by rw [mem_snoc]; simp,
        same_view ih.pa fun x y => by rw [mem_snoc]; simp,
        same_view ih.we fun x y => by rw [mem_snoc, mem_snoc]; simp,
        same_view ih.pt fun x y => by rw [mem_snoc, mem_snoc]; simp,
        fun x => by show F.dy x = _; unfold dys; rw [filt_snoc]; simpa [dy1, dys] using ih.dy x,
        fun x => by show F.rn x = _; rw [ih.rn x]; exact decide_eq_decide.mpr (by rw [mem_snoc]; simp),
        adv_view ih.ad⟩
theorem pas_iff {fs : List Fct} {x y : Str} : y ∈ pas fs x ↔ Fct.child x y ∈ fs := ⟨pas_mem, fun h => List.mem_filterMap.mpr ⟨_, h, if_pos rfl⟩⟩
theorem sps_iff {fs : List Fct} (hg : ∀ fc ∈ fs, factV fc.vs = true) {x y : Str} : y ∈ sps fs x ↔ (Fct.wed x y ∈ fs ∨ Fct.wed y x ∈ fs) ∧ ¬ (Fct.parted x y ∈ fs ∨ Fct.parted y x ∈ fs) := by
  have ne {a b : Str} (h : Fct.wed a b ∈ fs) : a ≠ b := fun e => (fact_nm3 (hg _ h) (.inr (.inl rfl))).2 (congrArg V.str e)
  constructor
  · intro h
    obtain ⟨fc, hf, e⟩ := List.mem_filterMap.mp h
    cases fc with
    | wed a b =>
      have e' : (if x = a ∨ x = b then (if Fct.parted x (if a = x then b else a) ∈ fs ∨ Fct.parted (if a = x then b else a) x ∈ fs then none else some (if a = x then b else a)) else none) = some y := e
      by_cases q1 : x = a ∨ x = b
      · rw [if_pos q1] at e'
        by_cases r : a = x
        · rw [if_pos r] at e'
          by_cases q2 : Fct.parted x b ∈ fs ∨ Fct.parted b x ∈ fs
          · rw [if_pos q2] at e'
            cases e'
          · rw [if_neg q2] at e'
            have := Option.some.inj e'
            rw [← this]
            exact ⟨.inl (r ▸ hf), q2⟩
        · rw [if_neg r] at e'
          have xb : x = b := q1.elim (fun z => absurd z.symm r) id
          by_cases q2 : Fct.parted x a ∈ fs ∨ Fct.parted a x ∈ fs
          · rw [if_pos q2] at e'
            cases e'
          · rw [if_neg q2] at e'
            have := Option.some.inj e'
            rw [← this]
            exact ⟨.inr (xb ▸ hf), q2⟩
      · rw [if_neg q1] at e'
        cases e'
    | _ => cases e
  · rintro ⟨h, np⟩
    rcases h with h | h
    · refine List.mem_filterMap.mpr ⟨_, h, ?_⟩
      show (if x = x ∨ x = y then (if Fct.parted x (if x = x then y else x) ∈ fs ∨ Fct.parted (if x = x then y else x) x ∈ fs then none else some (if x = x then y else x)) else none) = some y
      rw [if_pos (.inl rfl), if_pos rfl, if_neg np]
    · refine List.mem_filterMap.mpr ⟨_, h, ?_⟩
      show (if x = y ∨ x = x then (if Fct.parted x (if y = x then x else y) ∈ fs ∨ Fct.parted (if y = x then x else y) x ∈ fs then none else some (if y = x then x else y)) else none) = some y
      rw [if_pos (.inr rfl), if_neg (ne h), if_neg np]
theorem Told.lens {fs : List Fct} {F : Fm} (h : Told fs F) : LenOk F (2 * fs.length) := by
  induction h with
  | nil => exact LenOk.none
  | snoc h g b ih =>
    have := ih.learn (by assumption)
    rw [List.length_append, List.length_singleton, Nat.mul_add]
    exact ih.learn _
theorem Told.sees {fs : List Fct} {F : Fm} (h : Told fs F) (hn : fs.length ≤ 120) (x : Str) : Sees F fs x := by
  have v := h.view
  refine ⟨asc_eq (v.ch x).1 fun y => ((v.ch x).2 y).trans chs_mem.symm, asc_eq (v.pa x).1 fun y => ((v.pa x).2 y).trans pas_iff.symm, asc_eq ?_ fun y => ?_, v.dy x, v.rn x, v.ad x, by have := h.lens.we x; omega⟩
  · exact ⟨(v.we x).1.1.filter _, (v.we x).1.2.filter _⟩
  · unfold sp
    rw [List.mem_filter, (v.we x).2, sps_iff h.good]
    refine and_congr Iff.rfl ?_
    rw [Bool.not_eq_true', decide_eq_false_iff_not, (v.pt x).2]
theorem Dsc.mono {R R' : Str → List Str} (h : ∀ x, ∀ y ∈ R x, y ∈ R' x) {x y : Str} (d : Dsc R x y) : Dsc R' x y := by
  induction d with
  | one m => exact .one (h _ _ m)
  | more _ m ih => exact .more ih (h _ _ m)
theorem Told.dsc {fs : List Fct} {F : Fm} (h : Told fs F) {x y : Str} : Dsc F.ch x y ↔ Dsc (chs fs) x y :=
  ⟨Dsc.mono fun x y m => chs_mem.mpr (((h.view.ch x).2 y).mp m), Dsc.mono fun x y m => ((h.view.ch x).2 y).mpr (chs_mem.mp m)⟩
end ZF
namespace ZF
open PySem L2 PyProof.Rows PySem.Spec G
/-! the facts that the law draws -/
def pn (k : Nat) : Str := ("p" : Str) ++ dig (k : Int)
def bnames : List Str := (List.range 13).map pn ++ (["q1", "q2"] : List Str)
def rk (s : Str) : Nat := bnames.findIdx fun x => decide (x = s)
theorem pn_rk : ∀ i : _root_.Fin 13, rk (pn i.val) = i.val := by decide +kernel
theorem bn_nm : ∀ x ∈ bnames, isNm x = true := by decide +kernel
theorem pn_base {i : Nat} (h : i < 13) : pn i ∈ bnames := List.mem_append_left _ (List.mem_map.mpr ⟨i, List.mem_range.mpr h, rfl⟩)
theorem rk_pn {i : Nat} (h : i < 13) : rk (pn i) = i := pn_rk ⟨i, h⟩
theorem pn_inj {i j : Nat} (hi : i < 13) (hj : j < 13) (e : pn i = pn j) : i = j := by
  rw [← rk_pn hi, ← rk_pn hj, e]
structure FS (n : Nat) (fs : List Fct) : Prop where
  to : ∃ F, Told fs F
  nm : ∀ fc ∈ fs, ∀ x, V.str x ∈ fc.vs.tail → x ∈ bnames
  ch : ∀ c p, Fct.child c p ∈ fs → ∃ i j, j < i ∧ i < 13 ∧ c = pn i ∧ p = pn j
  ln : fs.length ≤ n
theorem FS.nil : FS 0 [] := ⟨⟨_, .nil⟩, fun fc h => (by cases h), fun c p h => (by cases h), Nat.le_refl _⟩
theorem FS.mono {n m : Nat} {fs : List Fct} (h : FS n fs) (l : n ≤ m) : FS m fs := ⟨h.to, h.nm, h.ch, Nat.le_trans h.ln l⟩
theorem FS.rank {n : Nat} {fs : List Fct} (h : FS n fs) : Rank fs rk := fun c p m => by
  obtain ⟨i, j, ji, hi, rfl, rfl⟩ := h.ch c p m
  rw [rk_pn hi, rk_pn (Nat.lt_trans ji hi)]
  omega
theorem FS.add {n : Nat} {fs : List Fct} (h : FS n fs) {fc : Fct} (g : factV fc.vs = true) (b : ∀ F, Told fs F → F.bad fc = false) (m : ∀ x, V.str x ∈ fc.vs.tail → x ∈ bnames) (c : ∀ c p, fc = .child c p → ∃ i j, j < i ∧ i < 13 ∧ c = pn i ∧ p = pn j) : FS (n + 1) (fs ++ [fc]) := by
  obtain ⟨F, t⟩ := h.to
  refine ⟨⟨_, t.snoc g (b F t)⟩, fun f hf => ?_, fun c' p' hf => ?_, ?_⟩
  · rcases mem_snoc.mp hf with q | q
    · exact h.nm f q
    · rw [q]
      exact m
  · rcases mem_snoc.mp hf with q | q
    · exact h.ch c' p' q
    · exact c c' p' q.symm
  · rw [List.length_append, List.length_singleton]
    exact Nat.succ_le_succ h.ln
theorem good3 {w a b : Str} (hw : w = "child" ∨ w = "wed" ∨ w = "parted") (ha : isNm a = true) (hb : isNm b = true) (ne : a ≠ b) : factV [.str w, .str a, .str b] = true := by
  show (isStr (.str w) && nameV (.str a) && threeV (.str w) (.str a) (.str b)) = true
  unfold threeV
  rw [if_pos (by rcases hw with rfl | rfl | rfl <;> simp)]
  show (true && isNm a && (isNm b && !decide (V.str a = .str b))) = true
  rw [ha, hb, decide_eq_false (fun z => ne (V.str.inj z))]
  rfl
theorem good3i {w a : Str} {d : Int} (hw : w = "died" ∨ w = "advance") (ha : isNm a = true) (h0 : 0 ≤ d) (h1 : d ≤ 1000000000) : factV [.str w, .str a, .int d] = true := by
  show (isStr (.str w) && nameV (.str a) && threeV (.str w) (.str a) (.int d)) = true
  unfold threeV
  rw [if_neg (by rcases hw with rfl | rfl <;> decide +kernel)]
  show (true && isNm a && ((decide (V.str w = .str "died") || decide (V.str w = .str "advance")) && (decide (0 ≤ d) && decide (d ≤ 1000000000)))) = true
  rw [ha, decide_eq_true h0, decide_eq_true h1]
  rcases hw with rfl | rfl <;> decide +kernel
theorem good2 {a : Str} (ha : isNm a = true) : factV [.str "renounced", .str a] = true := by
  show (true && isNm a && decide (V.str ("renounced" : Str) = .str "renounced")) = true
  rw [ha, decide_eq_true rfl]
  rfl
theorem FS.child {n : Nat} {fs : List Fct} (h : FS n fs) {i j : Nat} (ji : j < i) (hi : i < 13) (l : (pas fs (pn i)).length ≤ 1) : FS (n + 1) (fs ++ [.child (pn i) (pn j)]) := by
  have hj := Nat.lt_trans ji hi
  refine h.add (good3 (.inl rfl) (bn_nm _ (pn_base hi)) (bn_nm _ (pn_base hj)) fun e => ?_) (fun F t => ?_) (fun x hx => ?_) fun c p e => ?_
  · have := pn_inj hi hj e
    omega
  · have e1 : F.pa (pn i) = srt (uniq (pas fs (pn i))) := asc_eq (t.view.pa _).1 fun y => ((t.view.pa _).2 y).trans pas_iff.symm
    have l1 := srt_uniq_len (pas fs (pn i))
    rw [← e1] at l1
    show (decide ((F.pa (pn i)).length = 2) && !decide (pn j ∈ F.pa (pn i))) = false
    rw [decide_eq_false (by omega)]
    rfl
  · simp only [Fct.vs, List.tail_cons, List.mem_cons, List.not_mem_nil, or_false, V.str.injEq] at hx
    rcases hx with rfl | rfl
    · exact pn_base hi
    · exact pn_base hj
  · obtain ⟨rfl, rfl⟩ := Fct.child.inj e
    exact ⟨i, j, ji, hi, rfl, rfl⟩
theorem FS.died {n : Nat} {fs : List Fct} (h : FS n fs) {x : Str} {d : Int} (hx : x ∈ bnames) (h0 : 0 ≤ d) (h1 : d ≤ 1000000000) (l : dys fs x = []) : FS (n + 1) (fs ++ [.died x d]) := by
  refine h.add (good3i (.inl rfl) (bn_nm _ hx) h0 h1) (fun F t => ?_) (fun y hy => ?_) fun c p e => by cases e
  · show (!decide ((F.dy x).getD d = d)) = false
    rw [t.view.dy x, l]
    simp
  · simp only [Fct.vs, List.tail_cons, List.mem_cons, List.not_mem_nil, or_false, V.str.injEq, reduceCtorEq] at hy
    rw [hy]
    exact hx
theorem FS.ren {n : Nat} {fs : List Fct} (h : FS n fs) {x : Str} (hx : x ∈ bnames) : FS (n + 1) (fs ++ [.renounced x]) := by
  refine h.add (good2 (bn_nm _ hx)) (fun F t => rfl) (fun y hy => ?_) fun c p e => by cases e
  simp only [Fct.vs, List.tail_cons, List.mem_cons, List.not_mem_nil, or_false, V.str.injEq] at hy
  rw [hy]
  exact hx
theorem FS.adv {n : Nat} {fs : List Fct} (h : FS n fs) {x : Str} {d : Int} (hx : x ∈ bnames) (h0 : 0 ≤ d) (h1 : d ≤ 1000000000) : FS (n + 1) (fs ++ [.advance x d]) := by
  refine h.add (good3i (.inr rfl) (bn_nm _ hx) h0 h1) (fun F t => rfl) (fun y hy => ?_) fun c p e => by cases e
  simp only [Fct.vs, List.tail_cons, List.mem_cons, List.not_mem_nil, or_false, V.str.injEq, reduceCtorEq] at hy
  rw [hy]
  exact hx
theorem FS.wed {n : Nat} {fs : List Fct} (h : FS n fs) {x y : Str} (hx : x ∈ bnames) (hy : y ∈ bnames) (ne : x ≠ y) : FS (n + 1) (fs ++ [.wed x y]) := by
  refine h.add (good3 (.inr (.inl rfl)) (bn_nm _ hx) (bn_nm _ hy) ne) (fun F t => rfl) (fun z hz => ?_) fun c p e => by cases e
  simp only [Fct.vs, List.tail_cons, List.mem_cons, List.not_mem_nil, or_false, V.str.injEq] at hz
  rcases hz with rfl | rfl
  · exact hx
  · exact hy
theorem FS.parted {n : Nat} {fs : List Fct} (h : FS n fs) {x y : Str} (hx : x ∈ bnames) (hy : y ∈ bnames) (ne : x ≠ y) : FS (n + 1) (fs ++ [.parted x y]) := by
  refine h.add (good3 (.inr (.inr rfl)) (bn_nm _ hx) (bn_nm _ hy) ne) (fun F t => rfl) (fun z hz => ?_) fun c p e => by cases e
  simp only [Fct.vs, List.tail_cons, List.mem_cons, List.not_mem_nil, or_false, V.str.injEq] at hz
  rcases hz with rfl | rfl
  · exact hx
  · exact hy
theorem pas_snoc (fs : List Fct) (fc : Fct) (x : Str) : pas (fs ++ [fc]) x = pas fs x ++ (pa1 x fc).toList := filt_snoc _ _ _
theorem dys_snoc (fs : List Fct) (fc : Fct) (x : Str) : dys (fs ++ [fc]) x = dys fs x ++ (dy1 x fc).toList := filt_snoc _ _ _
/-- one more fact at the end of the list that stands -/
theorem FactsAt.push {H H' : Hp} {a q : Addr} {fs : List Fct} {fc : Fct} (qs : List Addr) (e1 : H a = some (.lst (qs.map V.ref))) (e2 : qs.length = fs.length) (e3 : ∀ (i : Nat) (q : Addr) (fc : Fct), qs[i]? = some q → fs[i]? = some fc → H q = some (.tup fc.vs))
    (b : But a H H') (hq : H' q = some (.tup fc.vs)) (ha : H' a = some (.lst ((qs ++ [q]).map V.ref))) : FactsAt H' a (fs ++ [fc]) := by
  refine ⟨qs ++ [q], ha, by rw [List.length_append, List.length_append, e2]; rfl, fun i p f h1 h2 => ?_⟩
  rcases Nat.lt_or_ge i qs.length with lt | ge
  · rw [List.getElem?_append_left lt] at h1
    rw [List.getElem?_append_left (by omega)] at h2
    exact b _ _ (e3 i p f h1 h2) (ne_of (e3 i p f h1 h2) e1 (by intro e; cases e))
  · rw [List.getElem?_append_right ge] at h1
    rw [List.getElem?_append_right (by omega), ← e2] at h2
    cases k : i - qs.length with
    | zero =>
      rw [k] at h1 h2
      obtain rfl : q = p := Option.some.inj h1
      obtain rfl : fc = f := Option.some.inj h2
      exact hq
    | succ m =>
      rw [k] at h1
      cases h1
end ZF
namespace ZF
open PySem L2 PyProof.Rows PySem.Spec G
def names (cnt : Nat) : List Str := (List.range cnt).map pn
/-- what stands while the facts are drawn -/
structure Sx (H Hy : Hp) (d l na fa : Addr) (at' : Nat) (xs : List Int) (cnt : Nat) (fs : List Fct) : Prop where
  sm : Same H Hy
  fe : Feed Hy d l at' xs
  nm : Hy na = some (.lst ((names cnt).map V.str))
  ft : FactsAt Hy fa fs
  hd : H d = none
  hf : H fa = none
  nf : na ≠ fa
  lf : l ≠ fa
section
variable {H Hy : Hp} {d l na fa : Addr} {at' : Nat} {xs : List Int} {cnt : Nat} {fs : List Fct}
theorem Sx.take (x : Sx H Hy d l na fa at' xs cnt fs) {H' : Hp} (b : But d Hy H') (f : Feed H' d l (at' + 1) xs) : Sx H H' d l na fa (at' + 1) xs cnt fs := by
  obtain ⟨qs, e1, e2, e3⟩ := x.ft
  refine ⟨fun c o hc => b _ _ (x.sm c o hc) (ne_of_none hc x.hd), f, b _ _ x.nm (ne_of x.nm x.fe.hd (by intro z; cases z)), ⟨qs, b _ _ e1 (ne_of e1 x.fe.hd (by intro z; cases z)), e2, fun i q fc h1 h2 => b _ _ (e3 i q fc h1 h2) (ne_of (e3 i q fc h1 h2) x.fe.hd (by intro z; cases z))⟩, x.hd, x.hf, x.nf, x.lf⟩
theorem Sx.go (x : Sx H Hy d l na fa at' xs cnt fs) {H' : Hp} (s : Same Hy H') : Sx H H' d l na fa at' xs cnt fs :=
  ⟨x.sm.trans s, ⟨s _ _ x.fe.hd, s _ _ x.fe.hl, x.fe.ne, x.fe.sm, x.fe.nu⟩, s _ _ x.nm, x.ft.same s, x.hd, x.hf, x.nf, x.lf⟩
theorem Sx.push (x : Sx H Hy d l na fa at' xs cnt fs) {q : Addr} {fc : Fct} (hq : Hy q = some (.tup fc.vs)) : ∃ qs : List Addr, Hy fa = some (.lst (qs.map V.ref)) ∧ qs.length = fs.length ∧ Sx H (upd Hy fa (.lst (qs.map V.ref ++ [.ref q]))) d l na fa at' xs cnt (fs ++ [fc]) := by
  obtain ⟨qs, e1, e2, e3⟩ := x.ft
  have b : But fa Hy (upd Hy fa (.lst (qs.map V.ref ++ [.ref q]))) := fun c o hc ne => by
    rw [upd_ne ne]
    exact hc
  refine ⟨qs, e1, e2, fun c o hc => b _ _ (x.sm c o hc) (ne_of_none hc x.hf), ⟨b _ _ x.fe.hd (ne_of x.fe.hd e1 (by intro z; cases z)), b _ _ x.fe.hl x.lf, x.fe.ne, x.fe.sm, x.fe.nu⟩, b _ _ x.nm x.nf, ?_, x.hd, x.hf, x.nf, x.lf⟩
  exact FactsAt.push qs e1 e2 e3 b (b _ _ hq (ne_of hq e1 (by intro z; cases z))) (by rw [upd_same, List.map_append]; rfl)
theorem name_at (x : Sx H Hy d l na fa at' xs cnt fs) {k : Nat} (h : k < cnt) : atI ((names cnt).map V.str) (k : Int) = some (.str (pn k)) := by
  refine atI_nat ?_
  unfold names
  rw [List.map_map, List.getElem?_map, List.getElem?_range h]
  rfl
end
end ZF
namespace ZF
open PySem L2 PyProof.Rows PySem.Spec G
/-- built-ins that the law's facts ask -/
structure FtT (mg : Str → Option Value) : Prop where
  range : mg "range" = none
  max : mg "max" = none
  str : mg "str" = none
section
variable {P : Program} {w : World} {K : PySem.W.Frag} {mg : Str → Option Value} {base : Heap}
abbrev nFts : List Str := ["cell", "feed", "count", "k", "names", "facts", "j", "dead", "one", "two"]
theorem scFts : FnScope nFts ["cell"] (defScope sFts) := ⟨rfl, rfl, rfl, by decide +kernel, rfl, by decide +kernel, by decide +kernel⟩
theorem cut_at {G : Prop} {C : Hp → Nat → List Fct → Prop} {N : Hp → Prop} (main : (∀ Hz a fs, C Hz a fs → N Hz) → G) (key : ∀ Hz a fs, C Hz a fs → N Hz) : G := main key
/-- what stands in a turn of the second loop, v takes and u facts on -/
structure Mid (H : Hp) (d l na fa : Addr) (xs : List Int) (cnt kd i v u : Nat) (Hz : Hp) (a : Nat) (fs : List Fct) : Prop where
  X : Sx H Hz d l na fa a xs cnt fs
  ha : a ≤ 100 + 8 * i + v
  S : FS (25 + 4 * i + u) fs
  hp : ∀ m, i + 1 ≤ m → m < 13 → m ≠ kd → dys fs (pn m) = []
  hd : (dys fs (pn kd)).head? = some 50
def spFts : Sp := fun vs H Q _ => ∃ c : Int, vs = [.int c] ∧ ∀ (p na fa : Addr) (cnt k : Nat) (fs : List Fct) (H' : Hp), Same H H' → H p = none → H' p = some (.lst [.str (pn k), .ref na, .ref fa]) → 3 ≤ cnt → cnt ≤ 13 → k < cnt → H' na = some (.lst ((names cnt).map V.str)) → FactsAt H' fa fs → FS 80 fs → (dys fs (pn k)).head? = some 50 → Q (.ref p) H'
theorem ok_facts {f : Addr} {fd : FuncData} (F : Fun K "_law_facts" "_law_facts" sFts f fd) (T : FtT mg) (TT : Has P w K mg base CX0 "_law_take" ["feed", "limit"] 1 spTak) (TF : Has P w K mg base CX0 "_law_feed" ["cell", "many"] 2 spFee) : FnOk P w K mg base CX0 3 f fd ["cell"] spFts := by
  obtain ⟨fT, fdT, mT, kT, bT, GT⟩ := TT.ok
  obtain ⟨fFe, fdFe, mFe, kFe, bFe, GFe⟩ := TF.ok
  refine F.ok scFts (fun vs H Q E h => ?_) (fun cdv A outer s H vs Q E hr h => ?_)
  · obtain ⟨c, rfl, _⟩ := h
    rfl
  · obtain ⟨c, rfl, h⟩ := h
    have hr1 : Room 1 (A.deeper (envOfC "_law_facts" (defScope sFts) s.heap.objs.size f cdv)) := hr.mono (by decide)
    refine ⟨_, pss_cons (ps_set (i := 1) scFts.nd rfl (.inl rfl) (pe_call GFe hr (by rfl) mFe kFe bFe .nil pass0 (pa_cons (pv 0) (pa_cons pe_int pa_nil)))) (pss_cons (ps_set (i := 2) scFts.nd rfl (.inl rfl) (pe_op op_add pe_int (pe_call GT hr1 (by rfl) mT kT bT .nil pass0 (pa_cons (pv 1) (pa_cons pe_int pa_nil))))) (pss_cons (ps_setLc (i := 4) (own := [("k", 3)]) (g := gName 3) (tt := tYes) rfl scFts.nd rfl rfl (sw_true rfl rfl rfl (by decide +kernel)) (pi_range1 rfl T.range (pa_cons (pv 2) pa_nil)) (blkOk_by (N := nFts) (sc := defScope sFts) (by decide +kernel)) (fun _ _ _ _ _ => pg_name (i := 3) scFts.nd rfl (.inl rfl) (.inr rfl)) (fun _ _ _ _ _ => pts_nil) (fun _ _ _ _ _ => pe_op op_add_str pe_str (pe_callTy call_str_int (by rfl) T.str (by decide +kernel) (pa_cons (pv 3) pa_nil)))) (pss_cons (ps_set (i := 5) scFts.nd rfl (.inl rfl) (pe_lst pa_nil)) (pss_cons (ps_for PassesOwn.never rfl (pi_range2 rfl T.range (pa_cons pe_int (pa_cons (pv 2) pa_nil))) (pg_name (i := 3) scFts.nd rfl (.inl rfl)) (pss_one (ps_for PassesOwn.never rfl (pi_range1 rfl T.range (pa_cons (pe_ix ix_list (pe_lst (pa_cons pe_int (pa_cons pe_int (pa_cons pe_int (pa_cons pe_int (pa_cons pe_int pa_nil)))))) (pe_call GT hr1 (by rfl) mT kT bT .nil pass0 (pa_cons (pv 1) (pa_cons pe_int pa_nil))) (fun _ _ => rfl)) pa_nil)) (pg_name (i := 6) scFts.nd rfl (.inl rfl)) (pss_one (ps_expr (pe_bm PySem.F.plainAttrs_list PySem.F.slot_list_append PySem.F.type_list_append mt_append (pv 5) (pa_cons (pe_tup (pa_cons pe_str (pa_cons (pe_ix ix_list (pv 4) (pv 3) (fun _ _ => rfl)) (pa_cons (pe_ix ix_list (pv 4) (pe_callB (call_max2 rfl) (by rfl) T.max (by decide +kernel) (pa_cons pe_int (pa_cons (pe_op op_sub (pe_op op_sub (pv 3) pe_int) (pe_call GT hr1 (by rfl) mT kT bT .nil pass0 (pa_cons (pv 1) (pa_cons pe_int pa_nil)))) pa_nil))) (fun _ _ => rfl)) pa_nil)))) pa_nil))))))) (pss_cons (ps_set (i := 7) scFts.nd rfl (.inl rfl) (pe_ix ix_list (pv 4) (pe_call GT hr1 (by rfl) mT kT bT .nil pass0 (pa_cons (pv 1) (pa_cons (pv 2) pa_nil))) (fun _ _ => rfl))) (pss_cons (ps_expr (pe_bm PySem.F.plainAttrs_list PySem.F.slot_list_append PySem.F.type_list_append mt_append (pv 5) (pa_cons (pe_tup (pa_cons pe_str (pa_cons (pv 7) (pa_cons pe_int pa_nil)))) pa_nil))) (pss_cons (ps_for PassesOwn.never rfl (pi_range1 rfl T.range (pa_cons (pv 2) pa_nil)) (pg_name (i := 3) scFts.nd rfl (.inl rfl)) (pss_cons (ps_if (PW.pt (pw_and (pt_cmpR op_ne (pe_ix ix_list (pv 4) (pv 3) (fun _ _ => rfl)) (pv 7) (nomark _)) (pw_and1 (pt_cmpR op_lt (pe_call GT hr1 (by rfl) mT kT bT .nil pass0 (pa_cons (pv 1) (pa_cons pe_int pa_nil))) pe_int (nomark _))))) (pss_one (ps_expr (pe_bm PySem.F.plainAttrs_list PySem.F.slot_list_append PySem.F.type_list_append mt_append (pv 5) (pa_cons (pe_tup (pa_cons pe_str (pa_cons (pe_ix ix_list (pv 4) (pv 3) (fun _ _ => rfl)) (pa_cons (pe_ix ix_list (pe_lst (pa_cons pe_int (pa_cons pe_int (pa_cons pe_int (pa_cons pe_int pa_nil))))) (pe_call GT hr1 (by rfl) mT kT bT .nil pass0 (pa_cons (pv 1) (pa_cons pe_int pa_nil))) (fun _ _ => rfl)) pa_nil)))) pa_nil)))) pss_nil) (pss_cons (ps_if (pt_cmpR op_eq (pe_call GT hr1 (by rfl) mT kT bT .nil pass0 (pa_cons (pv 1) (pa_cons pe_int pa_nil))) pe_int (nomark _)) (pss_one (ps_expr (pe_bm PySem.F.plainAttrs_list PySem.F.slot_list_append PySem.F.type_list_append mt_append (pv 5) (pa_cons (pe_tup (pa_cons pe_str (pa_cons (pe_ix ix_list (pv 4) (pv 3) (fun _ _ => rfl)) pa_nil))) pa_nil)))) pss_nil) (pss_one (ps_for PassesOwn.never rfl (pi_range1 rfl T.range (pa_cons (pe_ix ix_list (pe_lst (pa_cons pe_int (pa_cons pe_int (pa_cons pe_int (pa_cons pe_int (pa_cons pe_int pa_nil)))))) (pe_call GT hr1 (by rfl) mT kT bT .nil pass0 (pa_cons (pv 1) (pa_cons pe_int pa_nil))) (fun _ _ => rfl)) pa_nil)) (pg_name (i := 6) scFts.nd rfl (.inl rfl)) (pss_one (ps_expr (pe_bm PySem.F.plainAttrs_list PySem.F.slot_list_append PySem.F.type_list_append mt_append (pv 5) (pa_cons (pe_tup (pa_cons pe_str (pa_cons (pe_ix ix_list (pv 4) (pv 3) (fun _ _ => rfl)) (pa_cons (pe_ix ix_list (pe_lst (pa_cons pe_int (pa_cons (pe_call GT hr1 (by rfl) mT kT bT .nil pass0 (pa_cons (pv 1) (pa_cons pe_int pa_nil))) pa_nil))) (pe_call GT hr1 (by rfl) mT kT bT .nil pass0 (pa_cons (pv 1) (pa_cons pe_int pa_nil))) (fun _ _ => rfl)) pa_nil)))) pa_nil))))))))) (pss_cons (ps_for PassesOwn.never rfl (pi_range1 rfl T.range (pa_cons (pe_call GT hr1 (by rfl) mT kT bT .nil pass0 (pa_cons (pv 1) (pa_cons pe_int pa_nil))) pa_nil)) (pg_name (i := 6) scFts.nd rfl (.inl rfl)) (pss_cons (ps_set (i := 8) scFts.nd rfl (.inl rfl) (pe_ix ix_list (pe_lst (pa_cons (pv 7) (pa_cons (pe_ix ix_list (pv 4) (pe_call GT hr1 (by rfl) mT kT bT .nil pass0 (pa_cons (pv 1) (pa_cons (pv 2) pa_nil))) (fun _ _ => rfl)) pa_nil))) (pe_call GT hr1 (by rfl) mT kT bT .nil pass0 (pa_cons (pv 1) (pa_cons pe_int pa_nil))) (fun _ _ => rfl))) (pss_cons (ps_set (i := 9) scFts.nd rfl (.inl rfl) (pe_ix ix_list (pe_op op_cat (pv 4) (pe_lst (pa_cons pe_str (pa_cons pe_str pa_nil)))) (pe_call GT hr1 (by rfl) mT kT bT .nil pass0 (pa_cons (pv 1) (pa_cons (pe_op op_add (pv 2) pe_int) pa_nil))) (fun _ _ => rfl))) (pss_one (ps_if (pt_cmpR op_ne (pv 8) (pv 9) (nomark _)) (pss_one (ps_expr (pe_bm PySem.F.plainAttrs_list PySem.F.slot_list_append PySem.F.type_list_append mt_append (pv 5) (pa_cons (pe_tup (pa_cons (pe_ix ix_list (pe_lst (pa_cons pe_str (pa_cons pe_str (pa_cons pe_str (pa_cons pe_str pa_nil))))) (pe_call GT hr1 (by rfl) mT kT bT .nil pass0 (pa_cons (pv 1) (pa_cons pe_int pa_nil))) (fun _ _ => rfl)) (pa_cons (pv 8) (pa_cons (pv 9) pa_nil)))) pa_nil)))) pss_nil))))) (pss_one (ps_ret (pe_lst (pa_cons (pv 7) (pa_cons (pv 4) (pa_cons (pv 5) pa_nil)))))))))))))), ?_⟩
    refine ⟨_, rfl, c, 60, rfl, by decide, by decide, fun d l H1 xs s1 nd nl f1 => ?_⟩
    refine ⟨_, rfl, d, l, 0, xs, 11, rfl, f1, by decide, by decide, fun r H2 r0 r1 b2 f2 => ⟨_, _, rfl, rfl, ?_⟩⟩
    obtain ⟨cnt, ec⟩ : ∃ cnt : Nat, (3 : Int) + r = (cnt : Int) := ⟨(3 + r).toNat, by omega⟩
    show gName 2 (V.int (3 + r)) _ _ _
    rw [ec]
    have c3 : 3 ≤ cnt := by omega
    have c13 : cnt ≤ 13 := by omega
    have sm2 : Same H H2 := fun b o hb => b2 _ _ (s1 _ _ hb) (ne_of_none hb nd)
    refine ⟨_, rfl, (cnt : Int), rfl, by omega, by omega, fun na hna => ?_⟩
    rw [Int.toNat_natCast]
    refine lc_it walk_range (fun i Hy => Same H2 Hy ∧ Hy na = some (.lst (((List.range i).map pn).map V.str))) ⟨same_upd hna, upd_same⟩ (fun _ _ _ _ => trivial) ?_ ?_
    · rintro i v Hy H' hi ⟨k1, k2⟩ ⟨rfl, rfl⟩
      show gName 3 (V.int (0 + (i : Int))) _ _ _
      rw [Int.zero_add]
      refine ⟨rfl, _, rfl, _, rfl, lg (by omega) (by omega), _, _, rfl, rfl, ?_, _, k2, ?_, ?_, ?_⟩
      · have := dig_len (i := (i : Int)) (by omega) (by omega)
        have h1 : ("p" : Str).length = 1 := by decide +kernel
        have h2 : (toString (i : Int) : Str).length ≤ 2 := this
        rw [sizeLine_eq]
        omega
      · rw [List.length_map, List.length_map, List.length_range]
        exact small1000 (by omega)
      · intro b o hb
        rw [upd_ne (ne_of_none hb hna)]
        exact k1 b o hb
      · rw [upd_same, List.range_succ, List.map_append, List.map_append]
        rfl
    · rintro H3 ⟨k1, k2⟩
      refine ⟨Nat.zero_le _, fun fa hfa => ?_⟩
      have f3 : Feed H3 d l 1 xs := ⟨k1 _ _ f2.hd, k1 _ _ f2.hl, f2.ne, f2.sm, f2.nu⟩
      have X0 : Sx H (upd H3 fa (.lst [])) d l na fa 1 xs cnt [] := by
        have s4 : Same H3 (upd H3 fa (.lst [])) := same_upd hfa
        refine ⟨(sm2.trans k1).trans s4, ⟨s4 _ _ f3.hd, s4 _ _ f3.hl, f3.ne, f3.sm, f3.nu⟩, s4 _ _ k2, ⟨[], upd_same, rfl, fun i q fc h1 h2 => (by cases h1)⟩, nd, (sm2.trans k1).free hfa, ne_of_none k2 hfa, ne_of_none f3.hl hfa⟩
      have pick5 (r : Int) (h0 : 0 ≤ r) (h5 : r < 5) : ∃ n : Nat, n ≤ 2 ∧ atI [V.int 0, .int 1, .int 1, .int 2, .int 2] r = some (.int (n : Int)) := by
        obtain ⟨m, rfl⟩ : ∃ m : Nat, r = (m : Int) := ⟨r.toNat, by omega⟩
        have : m < 5 := by omega
        match m, this with
        | 0, _ => exact ⟨0, by decide, atI_nat rfl⟩
        | 1, _ => exact ⟨1, by decide, atI_nat rfl⟩
        | 2, _ => exact ⟨1, by decide, atI_nat rfl⟩
        | 3, _ => exact ⟨2, by decide, atI_nat rfl⟩
        | 4, _ => exact ⟨2, by decide, atI_nat rfl⟩
      have pickA (r : Int) (h0 : 0 ≤ r) (h5 : r < 5) : ∃ n : Nat, n ≤ 2 ∧ atI [V.int 0, .int 0, .int 0, .int 1, .int 2] r = some (.int (n : Int)) := by
        obtain ⟨m, rfl⟩ : ∃ m : Nat, r = (m : Int) := ⟨r.toNat, by omega⟩
        have : m < 5 := by omega
        match m, this with
        | 0, _ => exact ⟨0, by decide, atI_nat rfl⟩
        | 1, _ => exact ⟨0, by decide, atI_nat rfl⟩
        | 2, _ => exact ⟨0, by decide, atI_nat rfl⟩
        | 3, _ => exact ⟨1, by decide, atI_nat rfl⟩
        | 4, _ => exact ⟨2, by decide, atI_nat rfl⟩
      have pick4 (r : Int) (h0 : 0 ≤ r) (h5 : r < 4) : ∃ n : Int, 0 ≤ n ∧ n ≤ 1000000000 ∧ atI [V.int 10, .int 50, .int 52, .int 60] r = some (.int n) := by
        obtain ⟨m, rfl⟩ : ∃ m : Nat, r = (m : Int) := ⟨r.toNat, by omega⟩
        have : m < 4 := by omega
        match m, this with
        | 0, _ => exact ⟨10, by decide, by decide, atI_nat rfl⟩
        | 1, _ => exact ⟨50, by decide, by decide, atI_nat rfl⟩
        | 2, _ => exact ⟨52, by decide, by decide, atI_nat rfl⟩
        | 3, _ => exact ⟨60, by decide, by decide, atI_nat rfl⟩
      refine ⟨_, rfl, 1, (cnt : Int), rfl, ⟨by decide, by decide, by omega, by omega⟩, for_range (lo := 1) (n := ((cnt : Int) - 1).toNat) (fun i σ Hy => ∃ (y3 y6 : Option V) (a : Nat) (fs : List Fct), σ = [some (.int c), some (.ref d), some (.int (cnt : Int)), y3, some (.ref na), some (.ref fa), y6, none, none, none] ∧ Sx H Hy d l na fa a xs cnt fs ∧ a ≤ 1 + 3 * i ∧ FS (2 * i) fs ∧ (∀ m, 1 + i ≤ m → m < 13 → pas fs (pn m) = []) ∧ ∀ x, dys fs x = [])
        ⟨none, none, 1, [], rfl, X0, by omega, FS.nil, fun _ _ _ => rfl, fun _ => rfl⟩ ?_ ?_⟩
      · rintro i σ Hy hi ⟨y3, y6, a, fs, rfl, X, ha, S, hp, hd⟩
        refine ⟨(by show 5 ≤ sizeLine; decide), fun L nL => ⟨_, rfl, d, l, a, xs, 5, rfl, (X.go (same_upd nL)).fe, by omega, by decide, fun r H4 r0 r1 b4 f4 => ?_⟩⟩
        have X1 := (X.go (same_upd nL (o := .lst [.int 0, .int 1, .int 1, .int 2, .int 2]))).take b4 f4
        have Ld : L ≠ d := fun z => by rw [z, X.fe.hd] at nL; cases nL
        have eL : H4 L = some (.lst [.int 0, .int 1, .int 1, .int 2, .int 2]) := b4 _ _ upd_same Ld
        obtain ⟨n, n2, en⟩ := pick5 r r0 r1
        refine ⟨L, _, _, _, rfl, rfl, SqL.of eL, en, (n : Int), rfl, by omega, by omega, ?_⟩
        rw [Int.toNat_natCast]
        have ik : 1 + i < cnt := by omega
        have i13 : 1 + i < 13 := by omega
        refine for_range (lo := 0) (n := n) (fun j σ Hz => ∃ (y6 : Option V) (a : Nat) (fs : List Fct), σ = [some (.int c), some (.ref d), some (.int (cnt : Int)), some (.int (1 + (i : Int))), some (.ref na), some (.ref fa), y6, none, none, none] ∧ Sx H Hz d l na fa a xs cnt fs ∧ a ≤ 2 + 3 * i + j ∧ FS (2 * i + j) fs ∧ (pas fs (pn (1 + i))).length ≤ j ∧ (∀ m, 2 + i ≤ m → m < 13 → pas fs (pn m) = []) ∧ ∀ x, dys fs x = [])
          ⟨y6, a + 1, fs, rfl, X1, by omega, S, by rw [hp _ (Nat.le_refl _) i13]; exact Nat.le_refl 0, fun m hm h13 => hp m (by omega) h13, hd⟩ ?_ ?_
        · rintro j σ Hz hj ⟨y6, a, fs, rfl, X, ha, S, hl, hp, hd⟩
          obtain ⟨qs0, e0, _, _⟩ := id X.ft
          have n1 : atI ((names cnt).map V.str) (1 + (i : Int)) = some (.str (pn (1 + i))) := by
            have := name_at X ik
            rwa [show ((1 + i : Nat) : Int) = 1 + (i : Int) by omega] at this
          refine ⟨_, rfl, .inl ⟨rfl, _, .inl (.inl e0)⟩, _, rfl, _, rfl, na, _, _, _, rfl, rfl, SqL.of X.nm, n1, _, rfl, _, rfl, _, _, rfl, rfl, _, rfl, d, l, a, xs, 5, rfl, X.fe, by omega, by decide, fun r H4 r0 r1 b4 f4 => ⟨_, _, rfl, rfl, _, _, rfl, ?_⟩⟩
          have X4 := X.take b4 f4
          obtain ⟨m, mi, em⟩ : ∃ m : Nat, m < 1 + i ∧ (if (1 + (i : Int)) - 1 - r > 0 then (1 + (i : Int)) - 1 - r else 0) = (m : Int) := by
            by_cases h : (1 + (i : Int)) - 1 - r > 0
            · rw [if_pos h]
              exact ⟨((1 + (i : Int)) - 1 - r).toNat, by omega, by omega⟩
            · rw [if_neg h]
              exact ⟨0, by omega, rfl⟩
          have n2' : atI ((names cnt).map V.str) (if (1 + (i : Int)) - 1 - r > 0 then (1 + (i : Int)) - 1 - r else 0) = some (.str (pn m)) := by
            rw [em]
            exact name_at X4 (by omega)
          refine ⟨na, _, _, _, rfl, rfl, SqL.of X4.nm, n2', (by show 3 ≤ sizeLine; decide), fun q nq => ?_⟩
          have X5 := X4.go (same_upd nq (o := .tup (Fct.child (pn (1 + i)) (pn m)).vs))
          obtain ⟨qs, e1, e2, X6⟩ := X5.push (q := q) (fc := .child (pn (1 + i)) (pn m)) upd_same
          refine ⟨fa, _, _, rfl, rfl, e1, ?_, _, a + 1, _, rfl, X6, by omega, S.child mi i13 (by omega), ?_, fun m' hm h13 => ?_, fun x => ?_⟩
          · rw [List.length_map, e2]
            have := S.ln
            exact small1000 (by omega)
          · rw [pas_snoc, List.length_append]
            have : (pa1 (pn (1 + i)) (.child (pn (1 + i)) (pn m))).toList.length ≤ 1 := by
              cases pa1 (pn (1 + i)) (.child (pn (1 + i)) (pn m)) <;> simp
            omega
          · rw [pas_snoc, hp m' hm h13]
            have : pa1 (pn m') (.child (pn (1 + i)) (pn m)) = none := if_neg fun z => by
              have := pn_inj i13 h13 z
              omega
            rw [this]
            rfl
          · rw [dys_snoc, hd x]
            rfl
        · rintro σ Hz ⟨y6, a, fs, rfl, X, ha, S, hl, hp, hd⟩
          exact ⟨_, _, a, fs, rfl, X, by omega, S.mono (by omega), fun m hm h13 => hp m (by omega) h13, hd⟩
      · rintro σ Hy ⟨y3, y6, a, fs, rfl, X, ha, S, hp, hd⟩
        refine ⟨_, rfl, _, rfl, _, rfl, d, l, a, xs, (cnt : Int), rfl, X.fe, by omega, by omega, fun r H4 r0 r1 b4 f4 => ?_⟩
        have X4 := X.take b4 f4
        obtain ⟨kd, rfl⟩ : ∃ kd : Nat, r = (kd : Int) := ⟨r.toNat, by omega⟩
        have hk : kd < cnt := by omega
        have k13 : kd < 13 := by omega
        refine ⟨na, _, _, _, rfl, rfl, SqL.of X4.nm, name_at X4 hk, ?_⟩
        obtain ⟨qs0, e0, _, _⟩ := id X4.ft
        refine ⟨_, rfl, .inl ⟨rfl, _, .inl (.inl e0)⟩, _, rfl, (by show 3 ≤ sizeLine; decide), fun q nq => ?_⟩
        have X5 := X4.go (same_upd nq (o := .tup (Fct.died (pn kd) 50).vs))
        obtain ⟨qs, e1, e2, X6⟩ := X5.push (q := q) (fc := .died (pn kd) 50) upd_same
        have S6 := S.died (pn_base k13) (d := 50) (by decide) (by decide) (hd _)
        have d6 : ∀ x, dys (fs ++ [.died (pn kd) 50]) x = if pn kd = x then [50] else [] := fun x => by
          rw [dys_snoc, hd x]
          show ([] : List Int) ++ (if pn kd = x then some (50 : Int) else none).toList = _
          split <;> rfl
        refine ⟨fa, _, _, rfl, rfl, e1, ?_, ?_⟩
        · rw [List.length_map, e2]
          have := S.ln
          exact small1000 (by omega)
        refine ⟨_, rfl, (cnt : Int), rfl, by omega, by omega, ?_⟩
        rw [Int.toNat_natCast]
        refine for_range (lo := 0) (n := cnt) (fun i σ Hy => ∃ (y3 y6 : Option V) (a : Nat) (fs : List Fct), σ = [some (.int c), some (.ref d), some (.int (cnt : Int)), y3, some (.ref na), some (.ref fa), y6, some (.str (pn kd)), none, none] ∧ Sx H Hy d l na fa a xs cnt fs ∧ a ≤ 100 + 8 * i ∧ FS (25 + 4 * i) fs ∧ (∀ m, i ≤ m → m < 13 → m ≠ kd → dys fs (pn m) = []) ∧ (dys fs (pn kd)).head? = some 50)
          ⟨_, _, _, _, rfl, X6, by omega, S6.mono (by omega), fun m _ m13 mk => ?_, ?_⟩ ?_ ?_
        · rw [d6, if_neg fun z => mk (pn_inj k13 m13 z).symm]
        · rw [d6, if_pos rfl]
          rfl
        · rintro i σ Hy hi ⟨y3, y6, a, fs, rfl, X, ha, S, hp, hd⟩
          have i13 : i < 13 := by omega
          have nk (Hz : Hp) (a : Nat) (fs : List Fct) (X : Sx H Hz d l na fa a xs cnt fs) : atI ((names cnt).map V.str) (0 + (i : Int)) = some (.str (pn i)) := by
            rw [Int.zero_add]
            exact name_at X hi
          apply cut_at (C := Mid H d l na fa xs cnt kd i 2 1)
          case main =>
            intro key
            refine ⟨_, rfl, _, rfl, na, _, _, _, rfl, rfl, SqL.of X.nm, nk _ _ _ X, _, rfl, rfl, _, rfl, ?_⟩
            by_cases e : i = kd
            · rw [show (!decide (V.str (pn i) = V.str (pn kd))) = false by rw [e, decide_eq_true rfl]; rfl]
              exact iteF (iteF (key Hy a fs ⟨X, by omega, S.mono (by omega), fun m h h13 hk => hp m (by omega) h13 hk, hd⟩))
            · rw [show (!decide (V.str (pn i) = V.str (pn kd))) = true by rw [decide_eq_false (fun z => e (pn_inj i13 k13 (V.str.inj z)))]; rfl]
              refine iteT ⟨_, rfl, d, l, a, xs, 5, rfl, X.fe, by omega, by decide, fun r H4 r0 r1 b4 f4 => ⟨_, _, rfl, rfl, _, rfl, ite2 (fun _ => ?_) (fun _ => ?_)⟩⟩
              · have X4 := X.take b4 f4
                obtain ⟨qs0, e0, _, _⟩ := id X4.ft
                refine ⟨_, rfl, .inl ⟨rfl, _, .inl (.inl e0)⟩, _, rfl, _, rfl, na, _, _, _, rfl, rfl, SqL.of X4.nm, nk _ _ _ X4, (by show 4 ≤ sizeLine; decide), fun L nL => ⟨_, rfl, d, l, a + 1, xs, 4, rfl, (X4.go (same_upd nL)).fe, by omega, by decide, fun r' H5 r0' r1' b5 f5 => ?_⟩⟩
                have X5 := (X4.go (same_upd nL (o := .lst [.int 10, .int 50, .int 52, .int 60]))).take b5 f5
                have Ld : L ≠ d := fun z => by rw [z, X4.fe.hd] at nL; cases nL
                have eL : H5 L = some (.lst [.int 10, .int 50, .int 52, .int 60]) := b5 _ _ upd_same Ld
                obtain ⟨dd, d0, d1, ed⟩ := pick4 r' r0' r1'
                refine ⟨L, _, _, _, rfl, rfl, SqL.of eL, ed, (by show 3 ≤ sizeLine; decide), fun q nq => ?_⟩
                have X6 := X5.go (same_upd nq (o := .tup (Fct.died (pn i) dd).vs))
                obtain ⟨qs, e1, e2, X7⟩ := X6.push (q := q) (fc := .died (pn i) dd) upd_same
                refine ⟨fa, _, _, rfl, rfl, e1, ?_, key _ _ _ ⟨X7, by omega, S.died (pn_base i13) d0 d1 (hp i (Nat.le_refl _) i13 e), fun m h h13 hk => ?_, ?_⟩⟩
                · rw [List.length_map, e2]
                  have := S.ln
                  exact small1000 (by omega)
                · rw [dys_snoc, hp m (by omega) h13 hk]
                  have : dy1 (pn m) (.died (pn i) dd) = none := if_neg fun z => by
                    have := pn_inj i13 h13 z
                    omega
                  rw [this]
                  rfl
                · have : dy1 (pn kd) (.died (pn i) dd) = none := if_neg fun z => e (pn_inj i13 k13 z)
                  rw [dys_snoc, this, Option.toList_none, List.append_nil]
                  exact hd
              · exact key H4 (a + 1) fs ⟨X.take b4 f4, by omega, S.mono (by omega), fun m h h13 hk => hp m (by omega) h13 hk, hd⟩
          case key =>
            rintro Hz a fs ⟨X, ha, S, hp, hd⟩
            apply cut_at (C := Mid H d l na fa xs cnt kd i 3 2)
            case main =>
              intro key
              refine ⟨_, rfl, d, l, a, xs, 12, rfl, X.fe, by omega, by decide, fun r H4 r0 r1 b4 f4 => ⟨rfl, _, rfl, ite2 (fun _ => ?tt) (fun _ => ?ff)⟩⟩
              case ff => exact key H4 (a + 1) fs ⟨X.take b4 f4, by omega, S.mono (by omega), hp, hd⟩
              case tt =>
                have X4 := X.take b4 f4
                obtain ⟨qs0, e0, _, _⟩ := id X4.ft
                refine ⟨_, rfl, .inl ⟨rfl, _, .inl (.inl e0)⟩, _, rfl, _, rfl, na, _, _, _, rfl, rfl, SqL.of X4.nm, nk _ _ _ X4, (by show 2 ≤ sizeLine; decide), fun q nq => ?_⟩
                have X6 := X4.go (same_upd nq (o := .tup (Fct.renounced (pn i)).vs))
                obtain ⟨qs, e1, e2, X7⟩ := X6.push (q := q) (fc := .renounced (pn i)) upd_same
                refine ⟨fa, _, _, rfl, rfl, e1, ?_, key _ _ _ ⟨X7, by omega, S.ren (pn_base i13), fun m h h13 hk => ?_, ?_⟩⟩
                · rw [List.length_map, e2]
                  have := S.ln
                  exact small1000 (by omega)
                · rw [dys_snoc, hp m h h13 hk]
                  rfl
                · have : dy1 (pn kd) (.renounced (pn i)) = none := rfl
                  rw [dys_snoc, this, Option.toList_none, List.append_nil]
                  exact hd
            case key =>
              rintro Hz a fs ⟨X, ha, S, hp, hd⟩
              refine ⟨(by show 5 ≤ sizeLine; decide), fun L nL => ⟨_, rfl, d, l, a, xs, 5, rfl, (X.go (same_upd nL)).fe, by omega, by decide, fun r H4 r0 r1 b4 f4 => ?_⟩⟩
              have X1 := (X.go (same_upd nL (o := .lst [.int 0, .int 0, .int 0, .int 1, .int 2]))).take b4 f4
              have Ld : L ≠ d := fun z => by rw [z, X.fe.hd] at nL; cases nL
              have eL : H4 L = some (.lst [.int 0, .int 0, .int 0, .int 1, .int 2]) := b4 _ _ upd_same Ld
              obtain ⟨n, n2, en⟩ := pickA r r0 r1
              refine ⟨L, _, _, _, rfl, rfl, SqL.of eL, en, (n : Int), rfl, by omega, by omega, ?_⟩
              rw [Int.toNat_natCast]
              refine for_range (lo := 0) (n := n) (fun j σ Hz => ∃ (y6 : Option V) (a : Nat) (fs : List Fct), σ = [some (.int c), some (.ref d), some (.int (cnt : Int)), some (.int (0 + (i : Int))), some (.ref na), some (.ref fa), y6, some (.str (pn kd)), none, none] ∧ Mid H d l na fa xs cnt kd i (4 + 2 * j) (2 + j) Hz a fs)
                ⟨_, a + 1, fs, rfl, X1, by omega, S, hp, hd⟩ ?_ ?_
              · rintro j σ Hz hj ⟨y6, a, fs, rfl, X, ha, S, hp, hd⟩
                obtain ⟨qs0, e0, _, _⟩ := id X.ft
                refine ⟨_, rfl, .inl ⟨rfl, _, .inl (.inl e0)⟩, _, rfl, _, rfl, na, _, _, _, rfl, rfl, SqL.of X.nm, nk _ _ _ X, _, rfl, d, l, a, xs, 400, rfl, X.fe, by omega, by decide, fun r H4 r0 r1 b4 f4 => ⟨(by show 2 ≤ sizeLine; decide), fun L nL => ⟨_, rfl, d, l, a + 1, xs, 2, rfl, ((X.take b4 f4).go (same_upd nL)).fe, by omega, by decide, fun r' H5 r0' r1' b5 f5 => ?_⟩⟩⟩
                have X4 := X.take b4 f4
                have X5 := (X4.go (same_upd nL (o := .lst [.int 10, .int r]))).take b5 f5
                have Ld : L ≠ d := fun z => by rw [z, X4.fe.hd] at nL; cases nL
                have eL : H5 L = some (.lst [.int 10, .int r]) := b5 _ _ upd_same Ld
                obtain ⟨dd, d0, d1, ed⟩ : ∃ n : Int, 0 ≤ n ∧ n ≤ 1000000000 ∧ atI [V.int 10, .int r] r' = some (.int n) := by
                  obtain ⟨m, rfl⟩ : ∃ m : Nat, r' = (m : Int) := ⟨r'.toNat, by omega⟩
                  have : m < 2 := by omega
                  match m, this with
                  | 0, _ => exact ⟨10, by decide, by decide, atI_nat rfl⟩
                  | 1, _ => exact ⟨r, r0, by omega, atI_nat rfl⟩
                refine ⟨L, _, _, _, rfl, rfl, SqL.of eL, ed, (by show 3 ≤ sizeLine; decide), fun q nq => ?_⟩
                have X6 := X5.go (same_upd nq (o := .tup (Fct.advance (pn i) dd).vs))
                obtain ⟨qs, e1, e2, X7⟩ := X6.push (q := q) (fc := .advance (pn i) dd) upd_same
                refine ⟨fa, _, _, rfl, rfl, e1, ?_, _, a + 2, _, rfl, X7, by omega, S.adv (pn_base i13) d0 d1, fun m h h13 hk => ?_, ?_⟩
                · rw [List.length_map, e2]
                  have := S.ln
                  exact small1000 (by omega)
                · rw [dys_snoc, hp m h h13 hk]
                  rfl
                · have : dy1 (pn kd) (.advance (pn i) dd) = none := rfl
                  rw [dys_snoc, this, Option.toList_none, List.append_nil]
                  exact hd
              · rintro σ Hz ⟨y6, a, fs, rfl, X, ha, S, hp, hd⟩
                exact ⟨_, _, a, fs, rfl, X, by omega, S.mono (by omega), hp, hd⟩
        · rintro σ Hy ⟨y3, y6, a, fs, rfl, X, ha, S, hp, hd⟩
          refine ⟨_, rfl, d, l, a, xs, 4, rfl, X.fe, by omega, by decide, fun r H4 r0 r1 b4 f4 => ⟨r, rfl, by omega, by omega, ?_⟩⟩
          have X4 := X.take b4 f4
          obtain ⟨n, rfl⟩ : ∃ n : Nat, r = (n : Int) := ⟨r.toNat, by omega⟩
          rw [Int.toNat_natCast]
          refine for_range (lo := 0) (n := n) (fun j σ Hz => ∃ (y6 y8 y9 : Option V) (a : Nat) (fs : List Fct), σ = [some (.int c), some (.ref d), some (.int (cnt : Int)), y3, some (.ref na), some (.ref fa), y6, some (.str (pn kd)), y8, y9] ∧ Sx H Hz d l na fa a xs cnt fs ∧ a ≤ 300 + 8 * j ∧ FS (77 + j) fs ∧ (dys fs (pn kd)).head? = some 50)
            ⟨_, _, _, a + 1, fs, rfl, X4, by omega, S.mono (by omega), hd⟩ ?_ ?_
          · rintro j σ Hz hj ⟨y6, y8, y9, a, fs, rfl, X, ha, S, hd⟩
            refine ⟨_, rfl, _, rfl, _, rfl, _, rfl, d, l, a, xs, (cnt : Int), rfl, X.fe, by omega, by omega, fun r1' H5 q0 q1 b5 f5 => ?_⟩
            have X5 := X.take b5 f5
            obtain ⟨k1, rfl⟩ : ∃ k1 : Nat, r1' = (k1 : Int) := ⟨r1'.toNat, by omega⟩
            have h1c : k1 < cnt := by omega
            refine ⟨na, _, _, _, rfl, rfl, SqL.of X5.nm, name_at X5 h1c, (by show 2 ≤ sizeLine; decide), fun L nL => ⟨_, rfl, d, l, a + 1, xs, 2, rfl, (X5.go (same_upd nL)).fe, by omega, by decide, fun r2 H6 q2 q3 b6 f6 => ?_⟩⟩
            have X6 := (X5.go (same_upd nL (o := .lst [.str (pn kd), .str (pn k1)]))).take b6 f6
            have Ld : L ≠ d := fun z => by rw [z, X5.fe.hd] at nL; cases nL
            have eL : H6 L = some (.lst [.str (pn kd), .str (pn k1)]) := b6 _ _ upd_same Ld
            obtain ⟨o, o13, eo⟩ : ∃ o : Nat, o < 13 ∧ atI [V.str (pn kd), .str (pn k1)] r2 = some (.str (pn o)) := by
              obtain ⟨m, rfl⟩ : ∃ m : Nat, r2 = (m : Int) := ⟨r2.toNat, by omega⟩
              have : m < 2 := by omega
              match m, this with
              | 0, _ => exact ⟨kd, k13, atI_nat rfl⟩
              | 1, _ => exact ⟨k1, by omega, atI_nat rfl⟩
            refine ⟨L, _, _, _, rfl, rfl, SqL.of eL, eo, ?_⟩
            refine ⟨_, rfl, (by show 2 ≤ sizeLine; decide), fun L2 n2 => ?_⟩
            have X7 := X6.go (same_upd n2 (o := .lst [.str "q1", .str "q2"]))
            refine ⟨na, L2, _, _, rfl, rfl, X7.nm, upd_same, ?_, fun L3 n3 => ?_⟩
            · rw [List.length_map]
              unfold names
              rw [List.length_map, List.length_range]
              exact Nat.le_of_lt (small1000 (by show cnt + 2 ≤ 1000; omega))
            have X8 := X7.go (same_upd n3 (o := .lst ((names cnt).map V.str ++ [.str "q1", .str "q2"])))
            refine ⟨_, rfl, _, rfl, _, _, rfl, rfl, d, l, a + 2, xs, (cnt : Int) + 2, rfl, X8.fe, by omega, by omega, fun r3 H9 q4 q5 b9 f9 => ?_⟩
            have X9 := X8.take b9 f9
            have L3d : L3 ≠ d := fun z => by rw [z, X7.fe.hd] at n3; cases n3
            have eL3 : H9 L3 = some (.lst ((names cnt).map V.str ++ [.str "q1", .str "q2"])) := b9 _ _ upd_same L3d
            obtain ⟨t, tb, et⟩ : ∃ t : Str, t ∈ bnames ∧ atI ((names cnt).map V.str ++ [V.str "q1", .str "q2"]) r3 = some (.str t) := by
              obtain ⟨m, rfl⟩ : ∃ m : Nat, r3 = (m : Int) := ⟨r3.toNat, by omega⟩
              have ln : ((names cnt).map V.str).length = cnt := by
                unfold names
                rw [List.length_map, List.length_map, List.length_range]
              rcases Nat.lt_or_ge m cnt with lt | ge
              · refine ⟨pn m, pn_base (by omega), atI_nat ?_⟩
                rw [List.getElem?_append_left (by omega)]
                unfold names
                rw [List.map_map, List.getElem?_map, List.getElem?_range lt]
                rfl
              · have : m - cnt < 2 := by omega
                match hm : m - cnt, this with
                | 0, _ => exact ⟨"q1", List.mem_append_right _ List.mem_cons_self, atI_nat (by rw [List.getElem?_append_right (by omega), ln, hm]; rfl)⟩
                | 1, _ => exact ⟨"q2", List.mem_append_right _ (List.mem_cons_of_mem _ List.mem_cons_self), atI_nat (by rw [List.getElem?_append_right (by omega), ln, hm]; rfl)⟩
            refine ⟨L3, _, _, _, rfl, rfl, SqL.of eL3, et, _, rfl, _, rfl, rfl, _, rfl, ?_⟩
            by_cases ot : pn o = t
            · rw [show (!decide (V.str (pn o) = V.str t)) = false by rw [ot, decide_eq_true rfl]; rfl]
              exact iteF ⟨_, _, _, a + 3, fs, rfl, X9, by omega, S.mono (by omega), hd⟩
            · rw [show (!decide (V.str (pn o) = V.str t)) = true by rw [decide_eq_false (fun z => ot (V.str.inj z))]; rfl]
              obtain ⟨qs0, e0, _, _⟩ := id X9.ft
              refine iteT ⟨_, rfl, .inl ⟨rfl, _, .inl (.inl e0)⟩, (by show 4 ≤ sizeLine; decide), fun L4 n4 => ⟨_, rfl, d, l, a + 3, xs, 4, rfl, (X9.go (same_upd n4)).fe, by omega, by decide, fun r4 H10 q6 q7 b10 f10 => ?_⟩⟩
              have X10 := (X9.go (same_upd n4 (o := .lst [.str "wed", .str "wed", .str "wed", .str "parted"]))).take b10 f10
              have L4d : L4 ≠ d := fun z => by rw [z, X9.fe.hd] at n4; cases n4
              have eL4 : H10 L4 = some (.lst [.str "wed", .str "wed", .str "wed", .str "parted"]) := b10 _ _ upd_same L4d
              obtain ⟨fc, fc1, fc2, fc3⟩ : ∃ fc : Fct, (∃ w, fc.vs = [.str w, .str (pn o), .str t] ∧ atI [V.str "wed", .str "wed", .str "wed", .str "parted"] r4 = some (.str w)) ∧ FS (77 + j + 1) (fs ++ [fc]) ∧ dy1 (pn kd) fc = none := by
                obtain ⟨m, rfl⟩ : ∃ m : Nat, r4 = (m : Int) := ⟨r4.toNat, by omega⟩
                have : m < 4 := by omega
                match m, this with
                | 0, _ => exact ⟨.wed (pn o) t, ⟨"wed", rfl, atI_nat rfl⟩, S.wed (pn_base o13) tb ot, rfl⟩
                | 1, _ => exact ⟨.wed (pn o) t, ⟨"wed", rfl, atI_nat rfl⟩, S.wed (pn_base o13) tb ot, rfl⟩
                | 2, _ => exact ⟨.wed (pn o) t, ⟨"wed", rfl, atI_nat rfl⟩, S.wed (pn_base o13) tb ot, rfl⟩
                | 3, _ => exact ⟨.parted (pn o) t, ⟨"parted", rfl, atI_nat rfl⟩, S.parted (pn_base o13) tb ot, rfl⟩
              obtain ⟨w, ev, ew⟩ := fc1
              refine ⟨L4, _, _, _, rfl, rfl, SqL.of eL4, ew, _, rfl, _, rfl, (by show 3 ≤ sizeLine; decide), fun q nq => ?_⟩
              have X11 := X10.go (same_upd nq (o := .tup [.str w, .str (pn o), .str t]))
              obtain ⟨qs, e1, e2, X12⟩ := X11.push (q := q) (fc := fc) (by rw [ev]; exact upd_same)
              refine ⟨fa, _, _, rfl, rfl, e1, ?_, _, _, _, a + 4, _, rfl, X12, by omega, fc2, ?_⟩
              · rw [List.length_map, e2]
                have := S.ln
                exact small1000 (by omega)
              · rw [dys_snoc, fc3, Option.toList_none, List.append_nil]
                exact hd
          · rintro σ Hz ⟨y6, y8, y9, a, fs, rfl, X, ha, S, hd⟩
            refine ⟨_, rfl, _, rfl, _, rfl, (by show 3 ≤ sizeLine; decide), fun p np => ?_⟩
            have X5 := X.go (same_upd np (o := .lst [.str (pn kd), .ref na, .ref fa]))
            exact h p na fa cnt kd fs _ X5.sm (X.sm.free np) upd_same c3 c13 hk X5.nm X5.ft (S.mono (by omega)) hd
end
end ZF
namespace ZK
open PySem L2 PyProof.Rows G
def topS (i : Nat) : Stmt := PySem.Challenge.pw_parcener_k11_papers_of_cases.main.body.getD i (.Pass ⟨0, 0, 0, 0⟩)
abbrev sRulI : Stmt := inClass (topS 5) 0
abbrev sWilI : Stmt := inClass (topS 6) 0
abbrev sEsxI : Stmt := inClass (topS 7) 0
abbrev sNam : Stmt := topS 15
abbrev sAmt : Stmt := topS 16
abbrev sThn : Stmt := topS 56
abbrev sThi : Stmt := topS 57
abbrev sDeb : Stmt := topS 58
abbrev sEstI : Stmt := inClass (topS 59) 0
abbrev sHas : Stmt := inClass (topS 59) 1
abbrev sWor : Stmt := inClass (topS 59) 2
abbrev sThs : Stmt := inClass (topS 59) 3
abbrev sDbs : Stmt := inClass (topS 59) 4
abbrev sTks : Stmt := topS 60
abbrev sGiv : Stmt := topS 61
abbrev sLin : Stmt := topS 62
abbrev sTaw : Stmt := topS 63
abbrev sSta : Stmt := topS 64
abbrev sUpt : Stmt := topS 25
abbrev sPar : Stmt := topS 26
abbrev sPas : Stmt := topS 27
abbrev sBokI : Stmt := inClass (topS 28) 0
abbrev sCel : Stmt := topS 68
abbrev sNum : Stmt := topS 69
abbrev sFee : Stmt := topS 70
abbrev sTak : Stmt := topS 71
abbrev sLru : Stmt := topS 73
abbrev sLwi : Stmt := topS 74
abbrev sLes : Stmt := topS 75
abbrev sLst : Stmt := topS 84
/-! the mirror of names, amounts and facts -/
def signs : Str := "abcdefghijklmnopqrstuvwxyz0123456789"
def tsigns : Str := "abcdefghijklmnopqrstuvwxyz_"
def isNm (x : Str) : Bool := !decide (x = ("crown" : Str)) && (decide (1 ≤ x.length) && decide (x.length ≤ 12)) && x.cps.toList.all fun c => decide (c ∈ signs.cps.toList)
def nameV : V → Bool
  | .str x => isNm x
  | _ => false
def amtV : V → Bool
  | .int i => decide (0 ≤ i) && decide (i ≤ 1000000000)
  | _ => false
def isTn (x : Str) : Bool := (decide (1 ≤ x.length) && decide (x.length ≤ 12)) && x.cps.toList.all fun c => decide (c ∈ tsigns.cps.toList)
def tnV : V → Bool
  | .str x => isTn x
  | _ => false
def isStr : V → Bool
  | .str _ => true
  | _ => false
/-- a built-in's kind, of a plain value -/
def tyV : V → String
  | .non => "NoneType"
  | .bl _ => "bool"
  | .int _ => "int"
  | .str _ => "str"
  | _ => "?"
theorem ty_flat {K : PySem.W.Frag} {H : Hp} {v : V} (h : flatV v = true) : TyX K H v (.type (tyV v)) := by
  cases v with
  | non => exact .base .non
  | bl b => exact .base (.bl b)
  | int i => exact .base (.int i)
  | str x => exact .base (.str x)
  | byt b => cases h
  | flt b => cases h
  | ref a => cases h
  | ty n => cases h
theorem kit_str {K : PySem.W.Frag} {v : V} (h : flatV v = true) : PySem.W.kitOne K (.type (tyV v)) (.type "str") = some (isStr v) := by
  cases v with
  | non => exact kit_ty (show kitB "NoneType" "str" = some false by decide +kernel)
  | bl b => exact kit_ty (show kitB "bool" "str" = some false by decide +kernel)
  | int i => exact kit_ty (show kitB "int" "str" = some false by decide +kernel)
  | str x => exact kit_ty (show kitB "str" "str" = some true by decide +kernel)
  | byt b => cases h
  | flt b => cases h
  | ref a => cases h
  | ty n => cases h
def isIntV : V → Bool
  | .int _ => true
  | .bl _ => true
  | _ => false
theorem kit_int {K : PySem.W.Frag} {v : V} (h : flatV v = true) : PySem.W.kitOne K (.type (tyV v)) (.type "int") = some (isIntV v) := by
  cases v with
  | non => exact kit_ty (show kitB "NoneType" "int" = some false by decide +kernel)
  | bl b => exact kit_ty (show kitB "bool" "int" = some true by decide +kernel)
  | int i => exact kit_ty (show kitB "int" "int" = some true by decide +kernel)
  | str x => exact kit_ty (show kitB "str" "int" = some false by decide +kernel)
  | byt b => cases h
  | flt b => cases h
  | ref a => cases h
  | ty n => cases h
def isBlV : V → Bool
  | .bl _ => true
  | _ => false
theorem kit_bl {K : PySem.W.Frag} {v : V} (h : flatV v = true) : PySem.W.kitOne K (.type (tyV v)) (.type "bool") = some (isBlV v) := by
  cases v with
  | non => exact kit_ty (show kitB "NoneType" "bool" = some false by decide +kernel)
  | bl b => exact kit_ty (show kitB "bool" "bool" = some true by decide +kernel)
  | int i => exact kit_ty (show kitB "int" "bool" = some false by decide +kernel)
  | str x => exact kit_ty (show kitB "str" "bool" = some false by decide +kernel)
  | byt b => cases h
  | flt b => cases h
  | ref a => cases h
  | ty n => cases h
/-- a def of the top that stands: its promise kept at a level -/
structure Has (P : Program) (w : World) (K : PySem.W.Frag) (mg : Str → Option Value) (base : Heap) (CX : CXT) (x : Str) (ps : List Str) (k : Nat) (sp : Sp) : Prop where
  ok : ∃ (f : Addr) (fd : FuncData), mg x = some (.ref f) ∧ PySem.W.keepIn K (.ref f) = true ∧ Binds K fd ps [] ∧ FnOk P w K mg base CX k f fd ps sp
/-- the module's constants and built-ins that the family's text asks -/
structure Txt (mg : Str → Option Value) : Prop where
  signs : ∃ t, mg "NAME_SIGNS" = some (.str signs t)
  longest : ∃ t, mg "LONGEST_NAME" = some (.int 12 t)
  crown : ∃ t, mg "CROWN" = some (.str "crown" t)
  great : ∃ t, mg "GREATEST_AMOUNT" = some (.int 1000000000 t)
  tsigns : ∃ t, mg "THING_SIGNS" = some (.str tsigns t)
  lthing : ∃ t, mg "LONGEST_THING" = some (.int 12 t)
  lines : ∃ t, mg "MOST_LINES" = some (.int 60 t)
  takers : ∃ t, mg "MOST_TAKERS" = some (.int 5 t)
  mdays : ∃ t, mg "MOST_DAYS" = some (.int 1000 t)
  mrows : ∃ t, mg "MOST_ROWS" = some (.int 3 t)
  gpart : ∃ t, mg "GREATEST_PART" = some (.int 1000 t)
  isi : mg "isinstance" = none
  str : mg "str" = none
  int : mg "int" = none
  bool : mg "bool" = none
  tuple : mg "tuple" = none
  len : mg "len" = none
  all : mg "all" = none
  sorted : mg "sorted" = none
  list : mg "list" = none
  enum : mg "enumerate" = none
section
variable {P : Program} {w : World} {K : PySem.W.Frag} {mg : Str → Option Value} {base : Heap}
theorem scNam : FnScope ["value", "sign"] ["value"] (defScope sNam) := ⟨rfl, rfl, rfl, by decide +kernel, rfl, by decide +kernel, by decide +kernel⟩
/-- a plain value, its text short -/
structure OkV (v : V) : Prop where
  fl : flatV v = true
  sh : ∀ x, v = .str x → x.length ≤ 1000
/-- is_name, of a plain value -/
def spNam : Sp := fun vs H Q _ => ∃ v : V, vs = [v] ∧ OkV v ∧ ∀ H', Same H H' → Q (.bl (nameV v)) H'
theorem ok_name {f : Addr} {fd : FuncData} (F : Fun K "is_name" "is_name" sNam f fd) (T : Txt mg) : FnOk P w K mg base CX0 1 f fd ["value"] spNam := by
  obtain ⟨t1, m1⟩ := T.signs
  obtain ⟨t2, m2⟩ := T.longest
  obtain ⟨t3, m3⟩ := T.crown
  refine F.ok scNam (fun vs H Q E h => ?_) (fun cdv A outer s H vs Q E hr h => ?_)
  · obtain ⟨v, rfl, _⟩ := h
    rfl
  · obtain ⟨v, rfl, hv, go⟩ := h
    refine ⟨_, pss_cons (ps_if (PW.pt (pw_or (pt_not (pt_val (pe_callB call_isi (by rfl) T.isi (by decide +kernel) (pa_cons (pv 0) (pa_cons (pe_bltn (v := .ty "str") (u := .type "str") (by rfl) T.str (by decide +kernel) rfl) pa_nil))))) (pw_or1 (pt_cmpR op_eq (pv 0) (pe_glob (v := .str "crown") (by rfl) m3 ⟨_, rfl⟩) (nomark _))))) (pss_one (ps_ret pe_bl)) pss_nil)
      (pss_cons (ps_if (pt_not (pt_chain op_le op_le pe_int (pe_callB call_len_str (by rfl) T.len PySem.boot_len (pa_cons (pv 0) pa_nil)) (pe_glob (v := .int 12) (by rfl) m2 ⟨_, rfl⟩))) (pss_one (ps_ret pe_bl)) pss_nil)
      (pss_one (ps_ret (pe_callB (cr_all rfl) (by rfl) T.all (by decide +kernel) (pa_cons (pe_lc (own := [("sign", 1)]) (g := gName 1) (tt := tYes) rfl scNam.nd (pi_str (pv 0)) (blkOk_by (N := ["value", "sign"]) (sc := defScope sNam) (by decide +kernel))
        (fun _ _ _ _ _ => pg_name (i := 1) scNam.nd rfl (.inl rfl) (.inr rfl)) (fun _ _ _ _ _ => pts_nil) (fun _ _ _ _ _ => pe_cmpR op_in_sign (pv 1) (pe_glob (v := .str signs) (by rfl) m1 ⟨_, rfl⟩) rfl)) pa_nil))))), ?_⟩
    have tail (Y : Prop) (h1 : isStr v = false → Y) (h2 : ∀ x, v = .str x → Y) : Y := by
      cases v with
      | str x => exact h2 x rfl
      | non => exact h1 rfl
      | bl b => exact h1 rfl
      | int i => exact h1 rfl
      | byt b => exact h1 rfl
      | flt b => exact h1 rfl
      | ref b => exact h1 rfl
      | ty b => exact h1 rfl
    refine ⟨_, rfl, v, .ty "str", _, _, _, rfl, .ty _, ty_flat hv.fl, kit_str hv.fl, _, rfl, ?_⟩
    refine tail _ (fun e => ?_) (fun x e => ?_)
    · have en : nameV v = false := by
        cases v <;> first | rfl | cases e
      rw [en] at go
      rw [e]
      exact go H (Same.refl H)
    · subst e
      refine iteF ⟨_, rfl, rfl, _, rfl, ite2 (fun ec => ?_) (fun ec => ?_)⟩
      · have en : nameV (.str x) = false := by
          have e2 := V.str.inj (of_decide_eq_true ec)
          show isNm x = false
          unfold isNm
          rw [e2]
          rfl
        rw [en] at go
        exact go H (Same.refl H)
      · have ec' : ¬ x = ("crown" : Str) := fun z => ec (decide_eq_true (congrArg V.str z))
        have xl := hv.sh x rfl
        refine ⟨_, rfl, x, rfl, Nat.le_trans xl (by decide), ?_⟩
        have no (hb : ¬ (1 ≤ x.length ∧ x.length ≤ 12)) : Q (.bl false) H := by
          have en : nameV (.str x) = false := by
            show isNm x = false
            unfold isNm
            have : (decide (1 ≤ x.length) && decide (x.length ≤ 12)) = false := by
              rw [Bool.eq_false_iff]
              intro z
              rw [Bool.and_eq_true, decide_eq_true_eq, decide_eq_true_eq] at z
              exact hb z
            rw [this, Bool.and_false, Bool.false_and]
          rw [en] at go
          exact go H (Same.refl H)
        refine ⟨_, _, rfl, rfl, _, rfl, ite2 (fun a => ?_) (fun a => ?_)⟩
        · have a1 : (1 : Int) ≤ (x.length : Int) := of_decide_eq_true a
          refine ⟨_, _, rfl, rfl, _, rfl, ite2 (fun b => ?_) (fun b => ?_)⟩
          · refine no fun z => ?_
            have b1 : ¬ (x.length : Int) ≤ 12 := fun c => by
              rw [decide_eq_true c] at b
              cases b
            omega
          · have b1 : (x.length : Int) ≤ 12 := by
              by_cases c : (x.length : Int) ≤ 12
              · exact c
              · exact absurd (by rw [decide_eq_false c]; rfl) b
            refine ⟨_, rfl, x, rfl, fun D hD => lc_it walk_str (fun i Hy => (∀ b o, H b = some o → Hy b = some o) ∧ Hy D = some (.lst (((x.cps.toList.take i).map fun c => decide (c ∈ signs.cps.toList)).map V.bl))) ⟨fun b o hb => ?_, upd_same⟩ (fun _ _ _ _ => trivial) ?_ ?_⟩
            · rw [upd_ne (ne_of_none hb hD)]
              exact hb
            · rintro i y Hy H' hi ⟨k1, k2⟩ ⟨rfl, c, ec2, rfl⟩
              refine ⟨rfl, _, rfl, c, signs, rfl, rfl, _, k2, ?_, ?_, ?_⟩
              · rw [List.length_map, List.length_map, List.length_take]
                have : x.cps.toList.length = x.length := Array.length_toList
                exact small1000 (by omega)
              · intro b o hb
                rw [upd_ne (ne_of_none hb hD)]
                exact k1 b o hb
              · rw [upd_same, List.take_add_one, Array.getElem?_toList, ec2, List.map_append, List.map_append]
                rfl
            · rintro Hy ⟨k1, k2⟩
              rw [show x.cps.size = x.cps.toList.length from Array.length_toList.symm, List.take_length] at k2
              refine ⟨D, _, rfl, SqL.of k2, ?_⟩
              have en : nameV (.str x) = (x.cps.toList.map fun c => decide (c ∈ signs.cps.toList)).all id := by
                show isNm x = _
                unfold isNm
                rw [decide_eq_false ec', decide_eq_true (show 1 ≤ x.length by omega), decide_eq_true (show x.length ≤ 12 by omega), List.all_map]
                rfl
              rw [← en]
              exact go Hy k1
        · refine ⟨_, rfl, ?_⟩
          exact no fun z => a (decide_eq_true (show (1 : Int) ≤ (x.length : Int) by omega))
theorem scAmt : FnScope ["value"] ["value"] (defScope sAmt) := ⟨rfl, rfl, rfl, by decide +kernel, rfl, by decide +kernel, by decide +kernel⟩
def spAmt : Sp := fun vs H Q _ => ∃ v : V, vs = [v] ∧ flatV v = true ∧ Q (.bl (amtV v)) H
theorem ok_amount {f : Addr} {fd : FuncData} (F : Fun K "is_amount" "is_amount" sAmt f fd) (T : Txt mg) : FnOk P w K mg base CX0 1 f fd ["value"] spAmt := by
  obtain ⟨t1, m1⟩ := T.great
  refine F.ok scAmt (fun vs H Q E h => ?_) (fun cdv A outer s H vs Q E hr h => ?_)
  · obtain ⟨v, rfl, _⟩ := h
    rfl
  · obtain ⟨v, rfl, hv, go⟩ := h
    refine ⟨_, pss_cons (ps_if (PW.pt (pw_or (pt_not (pt_val (pe_callB call_isi (by rfl) T.isi (by decide +kernel) (pa_cons (pv 0) (pa_cons (pe_bltn (v := .ty "int") (u := .type "int") (by rfl) T.int (by decide +kernel) rfl) pa_nil))))) (pw_or1 (pt_val (pe_callB call_isi (by rfl) T.isi (by decide +kernel) (pa_cons (pv 0) (pa_cons (pe_bltn (v := .ty "bool") (u := .type "bool") (by rfl) T.bool (by decide +kernel) rfl) pa_nil))))))) (pss_one (ps_ret pe_bl)) pss_nil)
      (pss_one (ps_ret (pe_chain op_le op_le pe_int (pv 0) (pe_glob (v := .int 1000000000) (by rfl) m1 ⟨_, rfl⟩)))), ?_⟩
    refine ⟨_, rfl, v, .ty "int", _, _, _, rfl, .ty _, ty_flat hv, kit_int hv, _, rfl, ?_⟩
    cases v with
    | int i =>
      refine iteF ⟨_, rfl, _, .ty "bool", _, _, _, rfl, .ty _, ty_flat hv, kit_bl hv, _, rfl, iteF ?_⟩
      refine ⟨_, rfl, _, _, rfl, rfl, _, rfl, ite2 (fun a => ?_) (fun a => ?_)⟩
      · have a1 : (0 : Int) ≤ i := of_decide_eq_true a
        refine ⟨_, _, rfl, rfl, ?_⟩
        have en : amtV (.int i) = decide (i ≤ 1000000000) := by
          show (decide (0 ≤ i) && decide (i ≤ 1000000000)) = _
          rw [decide_eq_true a1]
          rfl
        rw [en] at go
        exact go
      · have a1 : ¬ (0 : Int) ≤ i := fun z => a (decide_eq_true z)
        have en : amtV (.int i) = false := by
          show (decide (0 ≤ i) && decide (i ≤ 1000000000)) = _
          rw [decide_eq_false a1]
          rfl
        rw [en] at go
        exact go
    | bl b => exact iteF ⟨_, rfl, _, .ty "bool", _, _, _, rfl, .ty _, ty_flat hv, kit_bl hv, _, rfl, iteT go⟩
    | non => exact go
    | str x => exact go
    | byt b => cases hv
    | flt b => cases hv
    | ref b => cases hv
    | ty b => cases hv
end
end ZK
namespace ZK
open PySem L2 PyProof.Rows G
theorem kit_tup {K : PySem.W.Frag} {v : V} (h : flatV v = true) : PySem.W.kitOne K (.type (tyV v)) (.type "tuple") = some false := by
  cases v with
  | non => exact kit_ty (show kitB "NoneType" "tuple" = some false by decide +kernel)
  | bl b => exact kit_ty (show kitB "bool" "tuple" = some false by decide +kernel)
  | int i => exact kit_ty (show kitB "int" "tuple" = some false by decide +kernel)
  | str x => exact kit_ty (show kitB "str" "tuple" = some false by decide +kernel)
  | byt b => cases h
  | flt b => cases h
  | ref a => cases h
  | ty n => cases h
/-- no tuple: a plain value or a list -/
def NoTup (H : Hp) (v : V) : Prop := flatV v = true ∨ ∃ a xs, v = .ref a ∧ H a = some (.lst xs)
theorem NoTup.kit {K : PySem.W.Frag} {H : Hp} {v : V} (h : NoTup H v) : ∃ t, TyX K H v t ∧ PySem.W.kitOne K t (.type "tuple") = some false := by
  rcases h with h | ⟨a, xs, rfl, h⟩
  · exact ⟨_, ty_flat h, kit_tup h⟩
  · exact ⟨_, .base (.lst h), kit_ty (show kitB "list" "tuple" = some false by decide +kernel)⟩
theorem NoTup.same {H H' : Hp} {v : V} (h : NoTup H v) (s : Same H H') : NoTup H' v := by
  rcases h with h | ⟨q, ys, e1, e2⟩
  · exact .inl h
  · exact .inr ⟨q, ys, e1, s _ _ e2⟩
/-- an item of any kind: a tuple of plain values that f takes, or none -/
def ItB (K : PySem.W.Frag) (f : List V → Bool) (H : Hp) (v : V) : Option (List V) → Prop
  | some ys => ∃ q, v = .ref q ∧ SqT K H q ys ∧ (∀ y ∈ ys, OkV y) ∧ f ys = true
  | none => (∃ q ys, v = .ref q ∧ SqT K H q ys ∧ (∀ y ∈ ys, OkV y) ∧ f ys = false) ∨ NoTup H v
theorem ty_sqT {K : PySem.W.Frag} {H : Hp} {a : Addr} {xs : List V} (h : SqT K H a xs) : TyX K H (.ref a) (.type "tuple") := by
  rcases h with (h | ⟨o, h⟩) | ⟨o, its, n, h, c, _⟩
  · exact .base (.tup h)
  · exact .fTuple h
  · exact .kTuple h c
theorem ItB.same {K : PySem.W.Frag} {f : List V → Bool} {H H' : Hp} {v : V} {o : Option (List V)} (h : ItB K f H v o) (s : Same H H') : ItB K f H' v o := by
  cases o with
  | some ys =>
    obtain ⟨q, e, h, r⟩ := h
    exact ⟨q, e, sameT s h, r⟩
  | none =>
    rcases h with ⟨q, ys, e, h, r⟩ | h
    · exact .inl ⟨q, ys, e, sameT s h, r⟩
    · exact .inr (h.same s)
/-- what a test of an item of any kind promises -/
def spIt (K : PySem.W.Frag) (f : List V → Bool) : Sp := fun vs H Q _ => ∃ (v : V) (o : Option (List V)), vs = [v] ∧ ItB K f H v o ∧ ∀ H', Same H H' → Q (.bl o.isSome) H'
def thingV : List V → Bool
  | [n, a] => tnV n && amtV a
  | _ => false
def debtV : List V → Bool
  | [n, r, a] => nameV n && (amtV r && amtV a)
  | _ => false
def uptV (v : V) (m : Int) : Bool := amtV v && (match v with | .int i => decide (i ≤ m) | _ => false)
def partV : List V → Bool
  | [a, b] => uptV b 1000 && (!decide (b = .int 0) && (match b with | .int j => uptV a j | _ => false))
  | _ => false
section
variable {P : Program} {w : World} {K : PySem.W.Frag} {mg : Str → Option Value} {base : Heap}
def spTn : Sp := fun vs H Q _ => ∃ v : V, vs = [v] ∧ OkV v ∧ ∀ H', Same H H' → Q (.bl (tnV v)) H'
abbrev nThn : List Str := ["value", "sign"]
theorem scThn : FnScope nThn ["value"] (defScope sThn) := ⟨rfl, rfl, rfl, by decide +kernel, rfl, by decide +kernel, by decide +kernel⟩
theorem ok_tname {f : Addr} {fd : FuncData} (F : Fun K "_is_thing_name" "_is_thing_name" sThn f fd) (T : Txt mg) : FnOk P w K mg base CX0 1 f fd ["value"] spTn := by
  obtain ⟨t1, mTs⟩ := T.tsigns
  obtain ⟨t2, mLt⟩ := T.lthing
  refine F.ok scThn (fun vs H Q E h => ?_) (fun cdv A outer s H vs Q E hr h => ?_)
  · obtain ⟨v, rfl, _⟩ := h
    rfl
  · obtain ⟨v, rfl, hv, go⟩ := h
    refine ⟨_, (pss_cons (ps_if (PW.pt (pw_or (pt_not (pt_val (pe_callB call_isi (by rfl) T.isi (by decide +kernel) (pa_cons (pv 0) (pa_cons (pe_bltn (v := .ty "str") (u := .type "str") (by rfl) T.str (by decide +kernel) rfl) pa_nil))))) (pw_or1 (pt_not (pt_chain op_le op_le pe_int (pe_callB call_len_str (by rfl) T.len PySem.boot_len (pa_cons (pv 0) pa_nil)) (pe_glob (v := .int 12) (by rfl) mLt ⟨_, rfl⟩)))))) (pss_one (ps_ret pe_bl)) pss_nil)
      (pss_one (ps_ret (pe_callB (cr_all rfl) (by rfl) T.all (by decide +kernel) (pa_cons (pe_lc (own := [("sign", 1)]) (g := gName 1) (tt := tYes) rfl scThn.nd (pi_str (pv 0)) (blkOk_by (N := nThn) (sc := defScope sThn) (by decide +kernel)) (fun _ _ _ _ _ => (pg_name (i := 1) scThn.nd rfl (.inl rfl) (.inr rfl))) (fun _ _ _ _ _ => pts_nil) (fun _ _ _ _ _ => (pe_cmpR op_in_sign (pv 1) (pe_glob (v := .str tsigns) (by rfl) mTs ⟨_, rfl⟩) (by rfl)))) pa_nil))))), ?_⟩
    have tail (Y : Prop) (h1 : isStr v = false → Y) (h2 : ∀ x, v = .str x → Y) : Y := by
      cases v with
      | str x => exact h2 x rfl
      | non => exact h1 rfl
      | bl b => exact h1 rfl
      | int i => exact h1 rfl
      | byt b => exact h1 rfl
      | flt b => exact h1 rfl
      | ref b => exact h1 rfl
      | ty b => exact h1 rfl
    refine ⟨_, rfl, v, .ty "str", _, _, _, rfl, .ty _, ty_flat hv.fl, kit_str hv.fl, _, rfl, ?_⟩
    refine tail _ (fun e => ?_) (fun x e => ?_)
    · have en : tnV v = false := by
        cases v <;> first | rfl | cases e
      rw [en] at go
      rw [e]
      exact go H (Same.refl H)
    · subst e
      have xl := hv.sh x rfl
      have no (hb : ¬ (1 ≤ x.length ∧ x.length ≤ 12)) : Q (.bl false) H := by
        have en : tnV (.str x) = false := by
          show isTn x = false
          unfold isTn
          have : (decide (1 ≤ x.length) && decide (x.length ≤ 12)) = false := by
            rw [Bool.eq_false_iff]
            intro z
            rw [Bool.and_eq_true, decide_eq_true_eq, decide_eq_true_eq] at z
            exact hb z
          rw [this, Bool.false_and]
        rw [en] at go
        exact go H (Same.refl H)
      refine iteF ⟨_, rfl, x, rfl, Nat.le_trans xl (by decide), _, _, rfl, rfl, _, rfl, ite2 (fun a => ?_) (fun a => ?_)⟩
      · have a1 : (1 : Int) ≤ (x.length : Int) := of_decide_eq_true a
        refine ⟨_, _, rfl, rfl, _, rfl, ite2 (fun b => ?_) (fun b => ?_)⟩
        · refine no fun z => ?_
          have b1 : ¬ (x.length : Int) ≤ 12 := fun c => by
            rw [decide_eq_true c] at b
            cases b
          omega
        · have b1 : (x.length : Int) ≤ 12 := by
            by_cases c : (x.length : Int) ≤ 12
            · exact c
            · exact absurd (by rw [decide_eq_false c]; rfl) b
          refine ⟨_, rfl, x, rfl, fun D hD => lc_it walk_str (fun i Hy => (∀ b o, H b = some o → Hy b = some o) ∧ Hy D = some (.lst (((x.cps.toList.take i).map fun c => decide (c ∈ tsigns.cps.toList)).map V.bl))) ⟨fun b o hb => ?_, upd_same⟩ (fun _ _ _ _ => trivial) ?_ ?_⟩
          · rw [upd_ne (ne_of_none hb hD)]
            exact hb
          · rintro i y Hy H' hi ⟨k1, k2⟩ ⟨rfl, c, ec2, rfl⟩
            refine ⟨rfl, _, rfl, c, tsigns, rfl, rfl, _, k2, ?_, ?_, ?_⟩
            · rw [List.length_map, List.length_map, List.length_take]
              have : x.cps.toList.length = x.length := Array.length_toList
              exact small1000 (by omega)
            · intro b o hb
              rw [upd_ne (ne_of_none hb hD)]
              exact k1 b o hb
            · rw [upd_same, List.take_add_one, Array.getElem?_toList, ec2, List.map_append, List.map_append]
              rfl
          · rintro Hy ⟨k1, k2⟩
            rw [show x.cps.size = x.cps.toList.length from Array.length_toList.symm, List.take_length] at k2
            refine ⟨D, _, rfl, SqL.of k2, ?_⟩
            have en : tnV (.str x) = (x.cps.toList.map fun c => decide (c ∈ tsigns.cps.toList)).all id := by
              show isTn x = _
              unfold isTn
              rw [decide_eq_true (show 1 ≤ x.length by omega), decide_eq_true (show x.length ≤ 12 by omega), List.all_map]
              rfl
            rw [← en]
            exact go Hy k1
      · refine ⟨_, rfl, ?_⟩
        exact no fun z => a (decide_eq_true (show (1 : Int) ≤ (x.length : Int) by omega))
theorem itb_cases {K : PySem.W.Frag} {f : List V → Bool} {H : Hp} {v : V} {o : Option (List V)} {Q : V → Hp → Prop} (h : ItB K f H v o) (go : ∀ H', Same H H' → Q (.bl o.isSome) H') :
    (∃ a xs, v = .ref a ∧ SqT K H a xs ∧ (∀ y ∈ xs, OkV y) ∧ ∀ H', Same H H' → Q (.bl (f xs)) H') ∨ (NoTup H v ∧ ∀ H', Same H H' → Q (.bl false) H') := by
  cases o with
  | some ys =>
    obtain ⟨q, e, h1, h2, h3⟩ := h
    exact .inl ⟨q, ys, e, h1, h2, fun H' s => by rw [h3]; exact go H' s⟩
  | none =>
    rcases h with ⟨q, ys, e, h1, h2, h3⟩ | nt
    · exact .inl ⟨q, ys, e, h1, h2, fun H' s => by rw [h3]; exact go H' s⟩
    · exact .inr ⟨nt, go⟩
theorem two_of {xs : List V} (h : xs.length = 2) : ∃ a b, xs = [a, b] := by
  match xs, h with
  | [a, b], _ => exact ⟨a, b, rfl⟩
theorem three_of {xs : List V} (h : xs.length = 3) : ∃ a b c, xs = [a, b, c] := by
  match xs, h with
  | [a, b, c], _ => exact ⟨a, b, c, rfl⟩
theorem thing_len {xs : List V} (h : xs.length ≠ 2) : thingV xs = false := by
  match xs, h with
  | [], _ => rfl
  | [_], _ => rfl
  | [_, _], h => exact absurd rfl h
  | _ :: _ :: _ :: _, _ => rfl
theorem part_len {xs : List V} (h : xs.length ≠ 2) : partV xs = false := by
  match xs, h with
  | [], _ => rfl
  | [_], _ => rfl
  | [_, _], h => exact absurd rfl h
  | _ :: _ :: _ :: _, _ => rfl
theorem debt_len {xs : List V} (h : xs.length ≠ 3) : debtV xs = false := by
  match xs, h with
  | [], _ => rfl
  | [_], _ => rfl
  | [_, _], _ => rfl
  | [_, _, _], h => exact absurd rfl h
  | _ :: _ :: _ :: _ :: _, _ => rfl
abbrev nThi : List Str := ["value"]
theorem scThi : FnScope nThi ["value"] (defScope sThi) := ⟨rfl, rfl, rfl, by decide +kernel, rfl, by decide +kernel, by decide +kernel⟩
theorem ok_thing {f : Addr} {fd : FuncData} (F : Fun K "_is_thing" "_is_thing" sThi f fd) (T : Txt mg) (TN : Has P w K mg base CX0 "_is_thing_name" ["value"] 1 spTn) (TA : Has P w K mg base CX0 "is_amount" ["value"] 1 spAmt) : FnOk P w K mg base CX0 2 f fd ["value"] (spIt K thingV) := by
  obtain ⟨fN, fdN, mN, kN, bN, GN⟩ := TN.ok
  obtain ⟨fA, fdA, mA, kA, bA, GA⟩ := TA.ok
  refine F.ok scThi (fun vs H Q E h => ?_) (fun cdv A outer s H vs Q E hr h => ?_)
  · obtain ⟨v, o, rfl, _⟩ := h
    rfl
  · obtain ⟨v, o, rfl, hi, go⟩ := h
    refine ⟨_, (pss_cons (ps_if (PW.pt (pw_or (pt_not (pt_val (pe_callB call_isi (by rfl) T.isi (by decide +kernel) (pa_cons (pv 0) (pa_cons (pe_bltn (v := .ty "tuple") (u := .type "tuple") (by rfl) T.tuple (by decide +kernel) rfl) pa_nil))))) (pw_or1 (pt_cmpR op_ne (pe_callB call_len_seq (by rfl) T.len PySem.boot_len (pa_cons (pv 0) pa_nil)) pe_int (nomark _))))) (pss_one (ps_ret pe_bl)) pss_nil)
      (pss_one (ps_ret (pe_and (pe_call GN (hr.mono (by decide)) (by rfl) mN kN bN .nil pass0 (pa_cons (pe_ix ix_tup (pv 0) pe_int (fun _ _ => rfl)) pa_nil)) (pe_one (pe_call GA (hr.mono (by decide)) (by rfl) mA kA bA .nil pass0 (pa_cons (pe_ix ix_tup (pv 0) pe_int (fun _ _ => rfl)) pa_nil))))))), ?_⟩
    rcases itb_cases hi go with ⟨a, xs, rfl, ha, hok, go⟩ | ⟨nt, go⟩
    · by_cases hl : xs.length = 2
      · obtain ⟨u0, u1, rfl⟩ := two_of hl
        refine ⟨_, rfl, _, .ty "tuple", _, _, true, rfl, .ty _, ty_sqT ha, kit_ty (show kitB "tuple" "tuple" = some true by decide +kernel), _, rfl, iteF ⟨_, rfl, a, _, rfl, .inr (ha), rfl, _, rfl, iteF ?_⟩⟩
        have k0 := hok u0 List.mem_cons_self
        have k1 := hok u1 (List.mem_cons_of_mem _ List.mem_cons_self)
        have en : thingV [u0, u1] = (tnV u0 && amtV u1) := rfl
        refine ⟨_, rfl, a, _, 0, u0, rfl, rfl, ha, atI_nat (j := 0) rfl, u0, rfl, k0, fun H1 s1 => ⟨_, rfl, ?_⟩⟩
        cases e : tnV u0 with
        | false =>
          rw [en, e] at go
          exact iteF (go H1 s1)
        | true =>
          rw [en, e] at go
          exact iteT ⟨_, rfl, a, _, 1, u1, rfl, rfl, (sameT s1 ha), atI_nat (j := 1) rfl, u1, rfl, k1.fl, go H1 s1⟩
      · refine ⟨_, rfl, _, .ty "tuple", _, _, true, rfl, .ty _, ty_sqT ha, kit_ty (show kitB "tuple" "tuple" = some true by decide +kernel), _, rfl, iteF ⟨_, rfl, a, xs, rfl, .inr (ha), rfl, _, rfl, ite2 (fun _ => ?_) (fun z => ?_)⟩⟩
        · rw [thing_len hl] at go
          exact go H (Same.refl H)
        · refine absurd ?_ z
          rw [decide_eq_false (fun e => hl (by have := V.int.inj e; omega))]
          rfl
    · obtain ⟨t, ty, kt⟩ := nt.kit (K := K)
      exact ⟨_, rfl, v, .ty "tuple", _, _, _, rfl, .ty _, ty, kt, _, rfl, iteT (go H (Same.refl H))⟩
abbrev nDeb : List Str := ["value"]
theorem scDeb : FnScope nDeb ["value"] (defScope sDeb) := ⟨rfl, rfl, rfl, by decide +kernel, rfl, by decide +kernel, by decide +kernel⟩
theorem ok_debt {f : Addr} {fd : FuncData} (F : Fun K "_is_debt" "_is_debt" sDeb f fd) (T : Txt mg) (TN : Has P w K mg base CX0 "is_name" ["value"] 1 spNam) (TA : Has P w K mg base CX0 "is_amount" ["value"] 1 spAmt) : FnOk P w K mg base CX0 2 f fd ["value"] (spIt K debtV) := by
  obtain ⟨fN, fdN, mN, kN, bN, GN⟩ := TN.ok
  obtain ⟨fA, fdA, mA, kA, bA, GA⟩ := TA.ok
  refine F.ok scDeb (fun vs H Q E h => ?_) (fun cdv A outer s H vs Q E hr h => ?_)
  · obtain ⟨v, o, rfl, _⟩ := h
    rfl
  · obtain ⟨v, o, rfl, hi, go⟩ := h
    refine ⟨_, (pss_cons (ps_if (PW.pt (pw_or (pt_not (pt_val (pe_callB call_isi (by rfl) T.isi (by decide +kernel) (pa_cons (pv 0) (pa_cons (pe_bltn (v := .ty "tuple") (u := .type "tuple") (by rfl) T.tuple (by decide +kernel) rfl) pa_nil))))) (pw_or1 (pt_cmpR op_ne (pe_callB call_len_seq (by rfl) T.len PySem.boot_len (pa_cons (pv 0) pa_nil)) pe_int (nomark _))))) (pss_one (ps_ret pe_bl)) pss_nil)
      (pss_one (ps_ret (pe_and (pe_call GN (hr.mono (by decide)) (by rfl) mN kN bN .nil pass0 (pa_cons (pe_ix ix_tup (pv 0) pe_int (fun _ _ => rfl)) pa_nil)) (pe_and (pe_call GA (hr.mono (by decide)) (by rfl) mA kA bA .nil pass0 (pa_cons (pe_ix ix_tup (pv 0) pe_int (fun _ _ => rfl)) pa_nil)) (pe_one (pe_call GA (hr.mono (by decide)) (by rfl) mA kA bA .nil pass0 (pa_cons (pe_ix ix_tup (pv 0) pe_int (fun _ _ => rfl)) pa_nil)))))))), ?_⟩
    rcases itb_cases hi go with ⟨a, xs, rfl, ha, hok, go⟩ | ⟨nt, go⟩
    · by_cases hl : xs.length = 3
      · obtain ⟨u0, u1, u2, rfl⟩ := three_of hl
        refine ⟨_, rfl, _, .ty "tuple", _, _, true, rfl, .ty _, ty_sqT ha, kit_ty (show kitB "tuple" "tuple" = some true by decide +kernel), _, rfl, iteF ⟨_, rfl, a, _, rfl, .inr (ha), rfl, _, rfl, iteF ?_⟩⟩
        have k0 := hok u0 List.mem_cons_self
        have k1 := hok u1 (List.mem_cons_of_mem _ List.mem_cons_self)
        have k2 := hok u2 (List.mem_cons_of_mem _ (List.mem_cons_of_mem _ List.mem_cons_self))
        have en : debtV [u0, u1, u2] = (nameV u0 && (amtV u1 && amtV u2)) := rfl
        refine ⟨_, rfl, a, _, 0, u0, rfl, rfl, ha, atI_nat (j := 0) rfl, u0, rfl, k0, fun H1 s1 => ⟨_, rfl, ?_⟩⟩
        cases e : nameV u0 with
        | false =>
          rw [en, e] at go
          exact iteF (go H1 s1)
        | true =>
          rw [en, e] at go
          refine iteT ⟨_, rfl, a, _, 1, u1, rfl, rfl, (sameT s1 ha), atI_nat (j := 1) rfl, u1, rfl, k1.fl, _, rfl, ?_⟩
          cases e2 : amtV u1 with
          | false =>
            rw [e2] at go
            exact iteF (go H1 s1)
          | true =>
            rw [e2] at go
            exact iteT ⟨_, rfl, a, _, 2, u2, rfl, rfl, (sameT s1 ha), atI_nat (j := 2) rfl, u2, rfl, k2.fl, go H1 s1⟩
      · refine ⟨_, rfl, _, .ty "tuple", _, _, true, rfl, .ty _, ty_sqT ha, kit_ty (show kitB "tuple" "tuple" = some true by decide +kernel), _, rfl, iteF ⟨_, rfl, a, xs, rfl, .inr (ha), rfl, _, rfl, ite2 (fun _ => ?_) (fun z => ?_)⟩⟩
        · rw [debt_len hl] at go
          exact go H (Same.refl H)
        · refine absurd ?_ z
          rw [decide_eq_false (fun e => hl (by have := V.int.inj e; omega))]
          rfl
    · obtain ⟨t, ty, kt⟩ := nt.kit (K := K)
      exact ⟨_, rfl, v, .ty "tuple", _, _, _, rfl, .ty _, ty, kt, _, rfl, iteT (go H (Same.refl H))⟩
def spUpt : Sp := fun vs H Q _ => ∃ (v : V) (m : Int), vs = [v, .int m] ∧ flatV v = true ∧ Q (.bl (uptV v m)) H
abbrev nUpt : List Str := ["value", "most"]
theorem scUpt : FnScope nUpt ["value", "most"] (defScope sUpt) := ⟨rfl, rfl, rfl, by decide +kernel, rfl, by decide +kernel, by decide +kernel⟩
theorem ok_upto {f : Addr} {fd : FuncData} (F : Fun K "_is_up_to" "_is_up_to" sUpt f fd) (TA : Has P w K mg base CX0 "is_amount" ["value"] 1 spAmt) : FnOk P w K mg base CX0 2 f fd ["value", "most"] spUpt := by
  obtain ⟨fA, fdA, mA, kA, bA, GA⟩ := TA.ok
  refine F.ok scUpt (fun vs H Q E h => ?_) (fun cdv A outer s H vs Q E hr h => ?_)
  · obtain ⟨v, m, rfl, _⟩ := h
    rfl
  · obtain ⟨v, m, rfl, hv, go⟩ := h
    refine ⟨_, (pss_one (ps_ret (pe_and (pe_call GA (hr.mono (by decide)) (by rfl) mA kA bA .nil pass0 (pa_cons (pv 0) pa_nil)) (pe_one (pe_cmpR op_le (pv 0) (pv 1) (nomark _)))))), ?_⟩
    refine ⟨_, rfl, v, rfl, hv, _, rfl, ?_⟩
    cases v with
    | int i =>
      have en : uptV (.int i) m = (amtV (.int i) && decide (i ≤ m)) := rfl
      cases e : amtV (.int i) with
      | false =>
        rw [en, e] at go
        exact iteF go
      | true =>
        rw [en, e] at go
        exact iteT ⟨_, rfl, _, rfl, _, _, rfl, rfl, go⟩
    | bl b => exact go
    | non => exact go
    | str x => exact go
    | byt b => cases hv
    | flt b => cases hv
    | ref b => cases hv
    | ty b => cases hv
abbrev nPar : List Str := ["value"]
theorem scPar : FnScope nPar ["value"] (defScope sPar) := ⟨rfl, rfl, rfl, by decide +kernel, rfl, by decide +kernel, by decide +kernel⟩
theorem ok_part {f : Addr} {fd : FuncData} (F : Fun K "_is_part" "_is_part" sPar f fd) (T : Txt mg) (TU : Has P w K mg base CX0 "_is_up_to" ["value", "most"] 2 spUpt) : FnOk P w K mg base CX0 3 f fd ["value"] (spIt K partV) := by
  obtain ⟨t1, mGp⟩ := T.gpart
  obtain ⟨fU, fdU, mU, kU, bU, GU⟩ := TU.ok
  refine F.ok scPar (fun vs H Q E h => ?_) (fun cdv A outer s H vs Q E hr h => ?_)
  · obtain ⟨v, o, rfl, _⟩ := h
    rfl
  · obtain ⟨v, o, rfl, hi, go⟩ := h
    refine ⟨_, (pss_cons (ps_if (PW.pt (pw_or (pt_not (pt_val (pe_callB call_isi (by rfl) T.isi (by decide +kernel) (pa_cons (pv 0) (pa_cons (pe_bltn (v := .ty "tuple") (u := .type "tuple") (by rfl) T.tuple (by decide +kernel) rfl) pa_nil))))) (pw_or1 (pt_cmpR op_ne (pe_callB call_len_seq (by rfl) T.len PySem.boot_len (pa_cons (pv 0) pa_nil)) pe_int (nomark _))))) (pss_one (ps_ret pe_bl)) pss_nil)
      (pss_cons (ps_if (PW.pt (pw_or (pt_not (pt_val (pe_call GU (hr.mono (by decide)) (by rfl) mU kU bU .nil pass0 (pa_cons (pe_ix ix_tup (pv 0) pe_int (fun _ _ => rfl)) (pa_cons (pe_glob (v := .int 1000) (by rfl) mGp ⟨_, rfl⟩) pa_nil))))) (pw_or1 (pt_cmpR op_eq (pe_ix ix_tup (pv 0) pe_int (fun _ _ => rfl)) pe_int (nomark _))))) (pss_one (ps_ret pe_bl)) pss_nil)
      (pss_one (ps_ret (pe_call GU (hr.mono (by decide)) (by rfl) mU kU bU .nil pass0 (pa_cons (pe_ix ix_tup (pv 0) pe_int (fun _ _ => rfl)) (pa_cons (pe_ix ix_tup (pv 0) pe_int (fun _ _ => rfl)) pa_nil))))))), ?_⟩
    rcases itb_cases hi go with ⟨a, xs, rfl, ha, hok, go⟩ | ⟨nt, go⟩
    · by_cases hl : xs.length = 2
      · obtain ⟨u0, u1, rfl⟩ := two_of hl
        refine ⟨_, rfl, _, .ty "tuple", _, _, true, rfl, .ty _, ty_sqT ha, kit_ty (show kitB "tuple" "tuple" = some true by decide +kernel), _, rfl, iteF ⟨_, rfl, a, _, rfl, .inr (ha), rfl, _, rfl, iteF ?_⟩⟩
        have k0 := hok u0 List.mem_cons_self
        have k1 := hok u1 (List.mem_cons_of_mem _ List.mem_cons_self)
        refine ⟨_, rfl, a, _, 1, u1, rfl, rfl, ha, atI_nat (j := 1) rfl, u1, 1000, rfl, k1.fl, _, rfl, ?_⟩
        cases e : uptV u1 1000 with
        | false =>
          have en : partV [u0, u1] = false := by
            show (uptV u1 1000 && _) = false
            rw [e]
            rfl
          rw [en] at go
          exact iteT (go H (Same.refl H))
        | true =>
          obtain ⟨j, rfl⟩ : ∃ j, u1 = .int j := by
            cases u1 <;> first | exact ⟨_, rfl⟩ | cases e
          have en : partV [u0, .int j] = (!decide (V.int j = .int 0) && uptV u0 j) := by
            show (uptV (.int j) 1000 && (!decide (V.int j = .int 0) && uptV u0 j)) = _
            rw [e]
            rfl
          refine iteF ⟨_, rfl, a, _, 1, .int j, rfl, rfl, ha, atI_nat (j := 1) rfl, rfl, _, rfl, ?_⟩
          cases e2 : decide (V.int j = .int 0) with
          | true =>
            rw [en, e2] at go
            exact iteT (go H (Same.refl H))
          | false =>
            rw [en, e2] at go
            exact iteF ⟨_, rfl, a, _, 0, u0, rfl, rfl, ha, atI_nat (j := 0) rfl, _, rfl, a, _, 1, .int j, rfl, rfl, ha, atI_nat (j := 1) rfl, u0, j, rfl, k0.fl, go H (Same.refl H)⟩
      · refine ⟨_, rfl, _, .ty "tuple", _, _, true, rfl, .ty _, ty_sqT ha, kit_ty (show kitB "tuple" "tuple" = some true by decide +kernel), _, rfl, iteF ⟨_, rfl, a, xs, rfl, .inr (ha), rfl, _, rfl, ite2 (fun _ => ?_) (fun z => ?_)⟩⟩
        · rw [part_len hl] at go
          exact go H (Same.refl H)
        · refine absurd ?_ z
          rw [decide_eq_false (fun e => hl (by have := V.int.inj e; omega))]
          rfl
    · obtain ⟨t, ty, kt⟩ := nt.kit (K := K)
      exact ⟨_, rfl, v, .ty "tuple", _, _, _, rfl, .ty _, ty, kt, _, rfl, iteT (go H (Same.refl H))⟩
/-- a tuple of items, or none -/
def LsIt (K : PySem.W.Frag) (f : List V → Bool) (H : Hp) (v : V) : Option (List (Option (List V))) → Prop
  | some os => ∃ q xs, v = .ref q ∧ SqT K H q xs ∧ os.length = xs.length ∧ xs.length ≤ 900 ∧ ∀ (i : Nat) (x : V) (o : Option (List V)), xs[i]? = some x → os[i]? = some o → ItB K f H x o
  | none => NoTup H v
theorem LsIt.same {K : PySem.W.Frag} {f : List V → Bool} {H H' : Hp} {v : V} {o : Option (List (Option (List V)))} (h : LsIt K f H v o) (s : Same H H') : LsIt K f H' v o := by
  cases o with
  | some os =>
    obtain ⟨q, xs, e, h1, h2, h3, h4⟩ := h
    exact ⟨q, xs, e, sameT s h1, h2, h3, fun i x o a b => (h4 i x o a b).same s⟩
  | none => exact NoTup.same h s
def partsB (o : Option (List (Option (List V)))) (m : Int) : Bool := match o with
  | none => false
  | some os => decide ((os.length : Int) = m) && os.all (·.isSome)
def spPas (K : PySem.W.Frag) : Sp := fun vs H Q _ => ∃ (v : V) (m : Int) (o : Option (List (Option (List V)))), vs = [v, .int m] ∧ LsIt K partV H v o ∧ ∀ H', Same H H' → Q (.bl (partsB o m)) H'
theorem all_map_isSome (os : List (Option (List V))) : (os.map (·.isSome)).all id = os.all (·.isSome) := by
  rw [List.all_map]
  rfl
abbrev nPas : List Str := ["value", "many", "pair"]
theorem scPas : FnScope nPas ["value", "many"] (defScope sPas) := ⟨rfl, rfl, rfl, by decide +kernel, rfl, by decide +kernel, by decide +kernel⟩
theorem ok_parts {f : Addr} {fd : FuncData} (F : Fun K "_are_parts" "_are_parts" sPas f fd) (T : Txt mg) (TR : Has P w K mg base CX0 "_is_part" ["value"] 3 (spIt K partV)) : FnOk P w K mg base CX0 4 f fd ["value", "many"] (spPas K) := by
  obtain ⟨fR, fdR, mR, kR, bR, GR⟩ := TR.ok
  refine F.ok scPas (fun vs H Q E h => ?_) (fun cdv A outer s H vs Q E hr h => ?_)
  · obtain ⟨v, m, o, rfl, _⟩ := h
    rfl
  · obtain ⟨v, m, o, rfl, hi, go⟩ := h
    refine ⟨_, (pss_cons (ps_if (PW.pt (pw_or (pt_not (pt_val (pe_callB call_isi (by rfl) T.isi (by decide +kernel) (pa_cons (pv 0) (pa_cons (pe_bltn (v := .ty "tuple") (u := .type "tuple") (by rfl) T.tuple (by decide +kernel) rfl) pa_nil))))) (pw_or1 (pt_cmpR op_ne (pe_callB call_len_seq (by rfl) T.len PySem.boot_len (pa_cons (pv 0) pa_nil)) (pv 1) (nomark _))))) (pss_one (ps_ret pe_bl)) pss_nil)
      (pss_one (ps_ret (pe_callB (cr_all rfl) (by rfl) T.all (by decide +kernel) (pa_cons (pe_lc (own := [("pair", 2)]) (g := gName 2) (tt := tYes) rfl scPas.nd (pi_tup (pv 0)) (blkOk_by (N := nPas) (sc := defScope sPas) (by decide +kernel)) (fun _ _ _ _ _ => (pg_name (i := 2) scPas.nd rfl (.inl rfl) (.inr rfl))) (fun _ _ _ _ _ => pts_nil) (fun _ _ _ _ _ => (pe_call GR (hr.mono (by decide)) (by rfl) mR kR bR .nil pass0 (pa_cons (pv 2) pa_nil)))) pa_nil))))), ?_⟩
    cases o with
    | none =>
      obtain ⟨t, ty, kt⟩ := NoTup.kit (K := K) hi
      exact ⟨_, rfl, v, .ty "tuple", _, _, _, rfl, .ty _, ty, kt, _, rfl, iteT (go H (Same.refl H))⟩
    | some os =>
      obtain ⟨a, xs, rfl, ha, ho, hz, hx⟩ := hi
      refine ⟨_, rfl, _, .ty "tuple", _, _, true, rfl, .ty _, ty_sqT ha, kit_ty (show kitB "tuple" "tuple" = some true by decide +kernel), _, rfl, iteF ⟨_, rfl, a, xs, rfl, .inr ha, _, rfl, rfl, _, rfl, ?_⟩⟩
      have en : partsB (some os) m = (decide ((os.length : Int) = m) && os.all (·.isSome)) := rfl
      rw [en] at go
      refine ite2 (fun z => ?_) (fun z => ?_)
      · have ne : ¬ (os.length : Int) = m := fun e => by
          rw [ho] at e
          rw [decide_eq_true (show V.int (xs.length : Int) = V.int m from congrArg V.int e)] at z
          cases z
        rw [decide_eq_false ne] at go
        exact go H (Same.refl H)
      · have eq : (os.length : Int) = m := by
          rw [ho]
          by_cases e : (xs.length : Int) = m
          · exact e
          · exact absurd (by rw [decide_eq_false (fun w => e (V.int.inj w))]; rfl) z
        rw [decide_eq_true eq, Bool.true_and] at go
        refine ⟨_, rfl, a, rfl, ⟨_, ha⟩, fun D hD => lc_it walk_tup (fun i Hy => Same H Hy ∧ Hy D = some (.lst (((os.take i).map (·.isSome)).map V.bl))) ⟨same_upd hD, upd_same⟩ (fun i Hy _ hy => sameT hy.1 ha) ?_ ?_⟩
        · rintro i y Hy H' hi ⟨k1, k2⟩ ⟨rfl, ey⟩
          have hio : i < os.length := by rw [ho]; exact hi
          have eo : os[i]? = some os[i] := List.getElem?_eq_getElem hio
          refine ⟨rfl, _, rfl, y, os[i], rfl, (hx i y _ ey eo).same k1, fun H3 s3 => ⟨_, s3 _ _ k2, ?_, ?_, ?_⟩⟩
          · rw [List.length_map, List.length_map, List.length_take]
            exact small1000 (by omega)
          · intro b o hb
            rw [upd_ne (ne_of_none hb hD)]
            exact s3 _ _ (k1 b o hb)
          · rw [upd_same, List.take_add_one, eo, List.map_append, List.map_append]
            rfl
        · rintro Hy ⟨k1, k2⟩
          rw [← ho, List.take_length] at k2
          refine ⟨D, _, rfl, SqL.of k2, ?_⟩
          rw [all_map_isSome]
          exact go Hy k1
end
end ZK
namespace ZK
open PySem L2 PyProof.Rows G
/-- a tuple of plain values, or none -/
def VsIt (K : PySem.W.Frag) (H : Hp) (v : V) : Option (List V) → Prop
  | some xs => ∃ q, v = .ref q ∧ SqT K H q xs ∧ (∀ x ∈ xs, OkV x) ∧ xs.length ≤ 900
  | none => NoTup H v
theorem VsIt.same {K : PySem.W.Frag} {H H' : Hp} {v : V} {o : Option (List V)} (h : VsIt K H v o) (s : Same H H') : VsIt K H' v o := by
  cases o with
  | some xs =>
    obtain ⟨q, e, h1, r⟩ := h
    exact ⟨q, e, sameT s h1, r⟩
  | none => exact NoTup.same h s
def tksB : Option (List V) → Bool
  | none => false
  | some xs => (decide (1 ≤ xs.length) && decide (xs.length ≤ 5)) && xs.all nameV
def posV : V → Bool
  | .int i => decide (0 < i)
  | _ => false
def givB (w : Str) (v : V) : Bool := if w = "thing" then tnV v else if w = "sum" then amtV v else decide (w = "rest") && (amtV v && posV v)
/-- a line of any kind -/
inductive LnV where
  | l1 (w : V) | l2 (w n : V) | l4 (w n x : V) (o : Option (List V)) | bad (k : Nat)
def lnB : LnV → Bool
  | .l1 w => isStr w && decide (w = .str "revoke")
  | .l2 w n => isStr w && (amtV n && decide (w = .str "revoke"))
  | .l4 w n x o => match w with
    | .str z => amtV n && (givB z x && tksB o)
    | _ => false
  | .bad _ => false
def LnAt (K : PySem.W.Frag) (H : Hp) (q : Addr) : LnV → Prop
  | .l1 w => SqT K H q [w] ∧ OkV w
  | .l2 w n => SqT K H q [w, n] ∧ OkV w ∧ OkV n
  | .l4 w n x o => ∃ t, SqT K H q [w, n, x, t] ∧ OkV w ∧ OkV n ∧ OkV x ∧ VsIt K H t o
  | .bad k => ∃ xs, SqT K H q xs ∧ xs.length = k ∧ k ≠ 1 ∧ k ≠ 2 ∧ k ≠ 4
theorem LnAt.same {K : PySem.W.Frag} {H H' : Hp} {q : Addr} {l : LnV} (h : LnAt K H q l) (s : Same H H') : LnAt K H' q l := by
  cases l with
  | l1 w => exact ⟨sameT s h.1, h.2⟩
  | l2 w n => exact ⟨sameT s h.1, h.2⟩
  | l4 w n x o =>
    obtain ⟨t, h1, h2, h3, h4, h5⟩ := h
    exact ⟨t, sameT s h1, h2, h3, h4, h5.same s⟩
  | bad k =>
    obtain ⟨xs, h1, h2⟩ := h
    exact ⟨xs, sameT s h1, h2⟩
def LnO (K : PySem.W.Frag) (H : Hp) (v : V) : Option LnV → Prop
  | some l => ∃ q, v = .ref q ∧ LnAt K H q l
  | none => NoTup H v
theorem LnO.same {K : PySem.W.Frag} {H H' : Hp} {v : V} {o : Option LnV} (h : LnO K H v o) (s : Same H H') : LnO K H' v o := by
  cases o with
  | some l =>
    obtain ⟨q, e, h⟩ := h
    exact ⟨q, e, h.same s⟩
  | none => exact NoTup.same h s
def lnOB : Option LnV → Bool
  | none => false
  | some l => lnB l
theorem in124 (n : Int) : inV (.int n) [.int 1, .int 2, .int 4] = decide (n = 1 ∨ n = 2 ∨ n = 4) := by
  show ((1 == n) || ((2 == n) || ((4 == n) || false))) = _
  rw [Bool.or_false, Bool.eq_iff_iff, Bool.or_eq_true, Bool.or_eq_true, decide_eq_true_eq, beq_iff_eq, beq_iff_eq, beq_iff_eq]
  constructor <;> rintro (h | h | h) <;> omega
section
variable {P : Program} {w : World} {K : PySem.W.Frag} {mg : Str → Option Value} {base : Heap}
def spTks (K : PySem.W.Frag) : Sp := fun vs H Q _ => ∃ (v : V) (o : Option (List V)), vs = [v] ∧ VsIt K H v o ∧ ∀ H', Same H H' → Q (.bl (tksB o)) H'
def spGiv : Sp := fun vs H Q _ => ∃ (z : Str) (v : V), vs = [.str z, v] ∧ OkV v ∧ ∀ H', Same H H' → Q (.bl (givB z v)) H'
def spLin (K : PySem.W.Frag) : Sp := fun vs H Q _ => ∃ (v : V) (o : Option LnV), vs = [v] ∧ LnO K H v o ∧ ∀ H', Same H H' → Q (.bl (lnOB o)) H'
abbrev nTks : List Str := ["value", "name"]
theorem scTks : FnScope nTks ["value"] (defScope sTks) := ⟨rfl, rfl, rfl, by decide +kernel, rfl, by decide +kernel, by decide +kernel⟩
theorem ok_takers {f : Addr} {fd : FuncData} (F : Fun K "_are_takers" "_are_takers" sTks f fd) (T : Txt mg) (TN : Has P w K mg base CX0 "is_name" ["value"] 1 spNam) : FnOk P w K mg base CX0 2 f fd ["value"] (spTks K) := by
  obtain ⟨t1, mMt⟩ := T.takers
  obtain ⟨fN, fdN, mN, kN, bN, GN⟩ := TN.ok
  refine F.ok scTks (fun vs H Q E h => ?_) (fun cdv A outer s H vs Q E hr h => ?_)
  · obtain ⟨v, o, rfl, _⟩ := h
    rfl
  · obtain ⟨v, o, rfl, hi, go⟩ := h
    refine ⟨_, (pss_cons (ps_if (PW.pt (pw_or (pt_not (pt_val (pe_callB call_isi (by rfl) T.isi (by decide +kernel) (pa_cons (pv 0) (pa_cons (pe_bltn (v := .ty "tuple") (u := .type "tuple") (by rfl) T.tuple (by decide +kernel) rfl) pa_nil))))) (pw_or1 (pt_not (pt_chain op_le op_le pe_int (pe_callB call_len_seq (by rfl) T.len PySem.boot_len (pa_cons (pv 0) pa_nil)) (pe_glob (v := .int 5) (by rfl) mMt ⟨_, rfl⟩)))))) (pss_one (ps_ret pe_bl)) pss_nil)
      (pss_one (ps_ret (pe_callB (cr_all rfl) (by rfl) T.all (by decide +kernel) (pa_cons (pe_lc (own := [("name", 1)]) (g := gName 1) (tt := tYes) rfl scTks.nd (pi_tup (pv 0)) (blkOk_by (N := nTks) (sc := defScope sTks) (by decide +kernel)) (fun _ _ _ _ _ => (pg_name (i := 1) scTks.nd rfl (.inl rfl) (.inr rfl))) (fun _ _ _ _ _ => pts_nil) (fun _ _ _ _ _ => (pe_call GN (hr.mono (by decide)) (by rfl) mN kN bN .nil pass0 (pa_cons (pv 1) pa_nil)))) pa_nil))))), ?_⟩
    cases o with
    | none =>
      obtain ⟨t, ty, kt⟩ := NoTup.kit (K := K) hi
      exact ⟨_, rfl, v, .ty "tuple", _, _, _, rfl, .ty _, ty, kt, _, rfl, iteT (go H (Same.refl H))⟩
    | some xs =>
      obtain ⟨a, rfl, ha, hok, hz⟩ := hi
      have en : tksB (some xs) = ((decide (1 ≤ xs.length) && decide (xs.length ≤ 5)) && xs.all nameV) := rfl
      have no (hb : ¬ (1 ≤ xs.length ∧ xs.length ≤ 5)) : Q (.bl false) H := by
        have : (decide (1 ≤ xs.length) && decide (xs.length ≤ 5)) = false := by
          rw [Bool.eq_false_iff]
          intro z
          rw [Bool.and_eq_true, decide_eq_true_eq, decide_eq_true_eq] at z
          exact hb z
        rw [en, this, Bool.false_and] at go
        exact go H (Same.refl H)
      refine ⟨_, rfl, _, .ty "tuple", _, _, true, rfl, .ty _, ty_sqT ha, kit_ty (show kitB "tuple" "tuple" = some true by decide +kernel), _, rfl, iteF ⟨_, rfl, a, xs, rfl, .inr ha, _, _, rfl, rfl, _, rfl, ite2 (fun a1 => ?_) (fun a1 => ?_)⟩⟩
      · have a1 : (1 : Int) ≤ (xs.length : Int) := of_decide_eq_true a1
        refine ⟨_, _, rfl, rfl, _, rfl, ite2 (fun b => ?_) (fun b => ?_)⟩
        · refine no fun z => ?_
          have b1 : ¬ (xs.length : Int) ≤ 5 := fun c => by
            rw [decide_eq_true c] at b
            cases b
          omega
        · have b1 : (xs.length : Int) ≤ 5 := by
            by_cases c : (xs.length : Int) ≤ 5
            · exact c
            · exact absurd (by rw [decide_eq_false c]; rfl) b
          rw [en, decide_eq_true (show 1 ≤ xs.length by omega), decide_eq_true (show xs.length ≤ 5 by omega), Bool.true_and, Bool.true_and] at go
          refine ⟨_, rfl, a, rfl, ⟨_, ha⟩, fun D hD => lc_it walk_tup (fun i Hy => Same H Hy ∧ Hy D = some (.lst (((xs.take i).map nameV).map V.bl))) ⟨same_upd hD, upd_same⟩ (fun i Hy _ hy => sameT hy.1 ha) ?_ ?_⟩
          · rintro i y Hy H' hi ⟨k1, k2⟩ ⟨rfl, ey⟩
            refine ⟨rfl, _, rfl, y, rfl, hok y (List.mem_of_getElem? ey), fun H3 s3 => ⟨_, s3 _ _ k2, ?_, ?_, ?_⟩⟩
            · rw [List.length_map, List.length_map, List.length_take]
              exact small1000 (by omega)
            · intro b o hb
              rw [upd_ne (ne_of_none hb hD)]
              exact s3 _ _ (k1 b o hb)
            · rw [upd_same, List.take_add_one, ey, List.map_append, List.map_append]
              rfl
          · rintro Hy ⟨k1, k2⟩
            rw [List.take_length] at k2
            refine ⟨D, _, rfl, SqL.of k2, ?_⟩
            rw [List.all_map]
            exact go Hy k1
      · refine ⟨_, rfl, ?_⟩
        exact no fun z => a1 (decide_eq_true (show (1 : Int) ≤ (xs.length : Int) by omega))
abbrev nGiv : List Str := ["word", "value"]
theorem scGiv : FnScope nGiv ["word", "value"] (defScope sGiv) := ⟨rfl, rfl, rfl, by decide +kernel, rfl, by decide +kernel, by decide +kernel⟩
theorem ok_given {f : Addr} {fd : FuncData} (F : Fun K "_is_given" "_is_given" sGiv f fd) (T : Txt mg) (TN : Has P w K mg base CX0 "_is_thing_name" ["value"] 1 spTn) (TA : Has P w K mg base CX0 "is_amount" ["value"] 1 spAmt) : FnOk P w K mg base CX0 2 f fd ["word", "value"] spGiv := by
  obtain ⟨fN, fdN, mN, kN, bN, GN⟩ := TN.ok
  obtain ⟨fA, fdA, mA, kA, bA, GA⟩ := TA.ok
  refine F.ok scGiv (fun vs H Q E h => ?_) (fun cdv A outer s H vs Q E hr h => ?_)
  · obtain ⟨z, v, rfl, _⟩ := h
    rfl
  · obtain ⟨z, v, rfl, hv, go⟩ := h
    refine ⟨_, (pss_cons (ps_if (pt_cmpR op_eq (pv 0) pe_str (nomark _)) (pss_one (ps_ret (pe_call GN (hr.mono (by decide)) (by rfl) mN kN bN .nil pass0 (pa_cons (pv 1) pa_nil)))) pss_nil)
      (pss_cons (ps_if (pt_cmpR op_eq (pv 0) pe_str (nomark _)) (pss_one (ps_ret (pe_call GA (hr.mono (by decide)) (by rfl) mA kA bA .nil pass0 (pa_cons (pv 1) pa_nil)))) pss_nil)
      (pss_one (ps_ret (pe_and (pe_cmpR op_eq (pv 0) pe_str (nomark _)) (pe_and (pe_call GA (hr.mono (by decide)) (by rfl) mA kA bA .nil pass0 (pa_cons (pv 1) pa_nil)) (pe_one (pe_cmpR op_gt (pv 1) pe_int (nomark _))))))))), ?_⟩
    refine ⟨_, rfl, rfl, _, rfl, ite2 (fun a => ?_) (fun a => ?_)⟩
    · have e : z = "thing" := V.str.inj (of_decide_eq_true a)
      have en : givB z v = tnV v := if_pos e
      rw [en] at go
      exact ⟨_, rfl, v, rfl, hv, go⟩
    · have e : ¬ z = "thing" := fun c => a (decide_eq_true (congrArg V.str c))
      refine ⟨_, rfl, rfl, _, rfl, ite2 (fun b => ?_) (fun b => ?_)⟩
      · have e2 : z = "sum" := V.str.inj (of_decide_eq_true b)
        have en : givB z v = amtV v := (if_neg e).trans (if_pos e2)
        rw [en] at go
        exact ⟨_, rfl, v, rfl, hv.fl, go H (Same.refl H)⟩
      · have e2 : ¬ z = "sum" := fun c => b (decide_eq_true (congrArg V.str c))
        have en : givB z v = (decide (z = "rest") && (amtV v && posV v)) := (if_neg e).trans (if_neg e2)
        rw [en] at go
        refine ⟨_, rfl, rfl, _, rfl, ?_⟩
        by_cases c : z = "rest"
        · rw [decide_eq_true (congrArg V.str c)]
          rw [decide_eq_true c, Bool.true_and] at go
          refine iteT ⟨_, rfl, v, rfl, hv.fl, _, rfl, ?_⟩
          cases ea : amtV v with
          | false =>
            rw [ea] at go
            exact iteF (go H (Same.refl H))
          | true =>
            rw [ea] at go
            obtain ⟨i, rfl⟩ : ∃ i, v = .int i := by
              cases v <;> first | exact ⟨_, rfl⟩ | cases ea
            exact iteT ⟨_, rfl, _, _, rfl, rfl, go H (Same.refl H)⟩
        · rw [decide_eq_false (fun w => c (V.str.inj w))]
          rw [decide_eq_false c] at go
          exact iteF (go H (Same.refl H))
abbrev nLin : List Str := ["value", "word"]
theorem scLin : FnScope nLin ["value"] (defScope sLin) := ⟨rfl, rfl, rfl, by decide +kernel, rfl, by decide +kernel, by decide +kernel⟩
theorem ok_line {f : Addr} {fd : FuncData} (F : Fun K "_is_line" "_is_line" sLin f fd) (T : Txt mg) (TA : Has P w K mg base CX0 "is_amount" ["value"] 1 spAmt) (TG : Has P w K mg base CX0 "_is_given" ["word", "value"] 2 spGiv) (TK : Has P w K mg base CX0 "_are_takers" ["value"] 2 (spTks K)) : FnOk P w K mg base CX0 3 f fd ["value"] (spLin K) := by
  obtain ⟨fA, fdA, mA, kA, bA, GA⟩ := TA.ok
  obtain ⟨fG, fdG, mG, kG, bG, GG⟩ := TG.ok
  obtain ⟨fK, fdK, mK, kK, bK, GK⟩ := TK.ok
  refine F.ok scLin (fun vs H Q E h => ?_) (fun cdv A outer s H vs Q E hr h => ?_)
  · obtain ⟨v, o, rfl, _⟩ := h
    rfl
  · obtain ⟨v, o, rfl, hi, go⟩ := h
    refine ⟨_, (pss_cons (ps_if (PW.pt (pw_or (pt_not (pt_val (pe_callB call_isi (by rfl) T.isi (by decide +kernel) (pa_cons (pv 0) (pa_cons (pe_bltn (v := .ty "tuple") (u := .type "tuple") (by rfl) T.tuple (by decide +kernel) rfl) pa_nil))))) (pw_or1 (pt_cmpR op_notIn_seq (pe_callB call_len_seq (by rfl) T.len PySem.boot_len (pa_cons (pv 0) pa_nil)) (pe_tup (pa_cons pe_int (pa_cons pe_int (pa_cons pe_int pa_nil)))) (by rfl))))) (pss_one (ps_ret pe_bl)) pss_nil)
      (pss_cons (ps_set (i := 1) scLin.nd rfl (.inl rfl) (pe_ix ix_tup (pv 0) pe_int (fun _ _ => rfl)))
      (pss_cons (ps_if (pt_not (pt_val (pe_callB call_isi (by rfl) T.isi (by decide +kernel) (pa_cons (pv 1) (pa_cons (pe_bltn (v := .ty "str") (u := .type "str") (by rfl) T.str (by decide +kernel) rfl) pa_nil))))) (pss_one (ps_ret pe_bl)) pss_nil)
      (pss_cons (ps_if (pt_cmpR op_eq (pe_callB call_len_seq (by rfl) T.len PySem.boot_len (pa_cons (pv 0) pa_nil)) pe_int (nomark _)) (pss_one (ps_ret (pe_cmpR op_eq (pv 1) pe_str (nomark _)))) pss_nil)
      (pss_cons (ps_if (pt_not (pt_val (pe_call GA (hr.mono (by decide)) (by rfl) mA kA bA .nil pass0 (pa_cons (pe_ix ix_tup (pv 0) pe_int (fun _ _ => rfl)) pa_nil)))) (pss_one (ps_ret pe_bl)) pss_nil)
      (pss_cons (ps_if (pt_cmpR op_eq (pe_callB call_len_seq (by rfl) T.len PySem.boot_len (pa_cons (pv 0) pa_nil)) pe_int (nomark _)) (pss_one (ps_ret (pe_cmpR op_eq (pv 1) pe_str (nomark _)))) pss_nil)
      (pss_one (ps_ret (pe_and (pe_call GG (hr.mono (by decide)) (by rfl) mG kG bG .nil pass0 (pa_cons (pv 1) (pa_cons (pe_ix ix_tup (pv 0) pe_int (fun _ _ => rfl)) pa_nil))) (pe_one (pe_call GK (hr.mono (by decide)) (by rfl) mK kK bK .nil pass0 (pa_cons (pe_ix ix_tup (pv 0) pe_int (fun _ _ => rfl)) pa_nil)))))))))))), ?_⟩
    cases o with
    | none =>
      obtain ⟨t, ty, kt⟩ := NoTup.kit (K := K) hi
      exact ⟨_, rfl, v, .ty "tuple", _, _, _, rfl, .ty _, ty, kt, _, rfl, iteT (go H (Same.refl H))⟩
    | some l =>
      obtain ⟨a, rfl, hl⟩ := hi
      have en : lnOB (some l) = lnB l := rfl
      rw [en] at go
      cases l with
      | bad k =>
        obtain ⟨xs, ha, hk, n1, n2, n4⟩ := hl
        refine ⟨_, rfl, _, .ty "tuple", _, _, true, rfl, .ty _, ty_sqT ha, kit_ty (show kitB "tuple" "tuple" = some true by decide +kernel), _, rfl, iteF ⟨_, rfl, a, _, rfl, .inr ha, (by show 3 ≤ sizeLine; decide), fun T2 nT => ⟨T2, _, rfl, .inr (SqT.of upd_same), rfl, rfl, _, rfl, ?_⟩⟩⟩
        rw [show (if true = true then !inV (V.int (xs.length : Int)) [V.int 1, V.int 2, V.int 4] else inV (V.int (xs.length : Int)) [V.int 1, V.int 2, V.int 4]) = !inV (V.int (xs.length : Int)) [V.int 1, V.int 2, V.int 4] from if_pos rfl, in124, decide_eq_false (by omega)]
        exact iteT (go _ (same_upd nT))
      | l1 u0 =>
        obtain ⟨ha, k0⟩ := hl
        have s2 : ∀ o T2, H T2 = none → Same H (upd H T2 o) := fun o T2 n2 => same_upd n2
        refine ⟨_, rfl, _, .ty "tuple", _, _, true, rfl, .ty _, ty_sqT ha, kit_ty (show kitB "tuple" "tuple" = some true by decide +kernel), _, rfl, iteF ⟨_, rfl, a, _, rfl, .inr ha, (by show 3 ≤ sizeLine; decide), fun T2 n2 => ⟨T2, _, rfl, .inr (SqT.of upd_same), rfl, rfl, _, rfl, ?_⟩⟩⟩
        have s2 := same_upd n2 (o := .tup [.int 1, .int 2, .int 4])
        have ha2 := sameT s2 ha
        refine iteF ⟨_, rfl, a, _, 0, u0, rfl, rfl, ha2, atI_nat (j := 0) rfl, _, rfl, u0, .ty "str", _, _, _, rfl, .ty _, ty_flat k0.fl, kit_str k0.fl, _, rfl, ?_⟩
        have en : lnB (.l1 u0) = (isStr u0 && decide (u0 = .str "revoke")) := rfl
        cases e : isStr u0 with
        | false =>
          rw [en, e] at go
          exact iteT (go _ s2)
        | true =>
          rw [en, e, Bool.true_and] at go
          obtain ⟨z, rfl⟩ : ∃ z, u0 = .str z := by
            cases u0 <;> first | exact ⟨_, rfl⟩ | cases e
          exact iteF ⟨_, rfl, a, _, rfl, .inr ha2, rfl, _, rfl, iteT ⟨_, rfl, rfl, go _ s2⟩⟩
      | l2 u0 u1 =>
        obtain ⟨ha, k0, k1⟩ := hl
        have s2 : ∀ o T2, H T2 = none → Same H (upd H T2 o) := fun o T2 n2 => same_upd n2
        refine ⟨_, rfl, _, .ty "tuple", _, _, true, rfl, .ty _, ty_sqT ha, kit_ty (show kitB "tuple" "tuple" = some true by decide +kernel), _, rfl, iteF ⟨_, rfl, a, _, rfl, .inr ha, (by show 3 ≤ sizeLine; decide), fun T2 n2 => ⟨T2, _, rfl, .inr (SqT.of upd_same), rfl, rfl, _, rfl, ?_⟩⟩⟩
        have s2 := same_upd n2 (o := .tup [.int 1, .int 2, .int 4])
        have ha2 := sameT s2 ha
        refine iteF ⟨_, rfl, a, _, 0, u0, rfl, rfl, ha2, atI_nat (j := 0) rfl, _, rfl, u0, .ty "str", _, _, _, rfl, .ty _, ty_flat k0.fl, kit_str k0.fl, _, rfl, ?_⟩
        have en : lnB (.l2 u0 u1) = (isStr u0 && (amtV u1 && decide (u0 = .str "revoke"))) := rfl
        cases e : isStr u0 with
        | false =>
          rw [en, e] at go
          exact iteT (go _ s2)
        | true =>
          rw [en, e, Bool.true_and] at go
          obtain ⟨z, rfl⟩ : ∃ z, u0 = .str z := by
            cases u0 <;> first | exact ⟨_, rfl⟩ | cases e
          refine iteF ⟨_, rfl, a, _, rfl, .inr ha2, rfl, _, rfl, iteF ⟨_, rfl, a, _, 1, u1, rfl, rfl, ha2, atI_nat (j := 1) rfl, u1, rfl, k1.fl, _, rfl, ?_⟩⟩
          cases e2 : amtV u1 with
          | false =>
            rw [e2] at go
            exact iteT (go _ s2)
          | true =>
            rw [e2, Bool.true_and] at go
            exact iteF ⟨_, rfl, a, _, rfl, .inr ha2, rfl, _, rfl, iteT ⟨_, rfl, rfl, go _ s2⟩⟩
      | l4 u0 u1 u2 o =>
        obtain ⟨t, ha, k0, k1, k2, kt⟩ := hl
        have s2 : ∀ o T2, H T2 = none → Same H (upd H T2 o) := fun o T2 n2 => same_upd n2
        refine ⟨_, rfl, _, .ty "tuple", _, _, true, rfl, .ty _, ty_sqT ha, kit_ty (show kitB "tuple" "tuple" = some true by decide +kernel), _, rfl, iteF ⟨_, rfl, a, _, rfl, .inr ha, (by show 3 ≤ sizeLine; decide), fun T2 n2 => ⟨T2, _, rfl, .inr (SqT.of upd_same), rfl, rfl, _, rfl, ?_⟩⟩⟩
        have s2 := same_upd n2 (o := .tup [.int 1, .int 2, .int 4])
        have ha2 := sameT s2 ha
        refine iteF ⟨_, rfl, a, _, 0, u0, rfl, rfl, ha2, atI_nat (j := 0) rfl, _, rfl, u0, .ty "str", _, _, _, rfl, .ty _, ty_flat k0.fl, kit_str k0.fl, _, rfl, ?_⟩
        cases e : isStr u0 with
        | false =>
          have en : lnB (.l4 u0 u1 u2 o) = false := by
            cases u0 <;> first | rfl | cases e
          rw [en] at go
          exact iteT (go _ s2)
        | true =>
          obtain ⟨z, rfl⟩ : ∃ z, u0 = .str z := by
            cases u0 <;> first | exact ⟨_, rfl⟩ | cases e
          have en : lnB (.l4 (.str z) u1 u2 o) = (amtV u1 && (givB z u2 && tksB o)) := rfl
          rw [en] at go
          refine iteF ⟨_, rfl, a, _, rfl, .inr ha2, rfl, _, rfl, iteF ⟨_, rfl, a, _, 1, u1, rfl, rfl, ha2, atI_nat (j := 1) rfl, u1, rfl, k1.fl, _, rfl, ?_⟩⟩
          cases e2 : amtV u1 with
          | false =>
            rw [e2] at go
            exact iteT (go _ s2)
          | true =>
            rw [e2, Bool.true_and] at go
            refine iteF ⟨_, rfl, a, _, rfl, .inr ha2, rfl, _, rfl, iteF ⟨_, rfl, _, rfl, a, _, 2, u2, rfl, rfl, ha2, atI_nat (j := 2) rfl, z, u2, rfl, k2, fun H3 s3 => ⟨_, rfl, ?_⟩⟩⟩
            cases e3 : givB z u2 with
            | false =>
              rw [e3] at go
              exact iteF (go _ (s2.trans s3))
            | true =>
              rw [e3, Bool.true_and] at go
              exact iteT ⟨_, rfl, a, _, 3, t, rfl, rfl, sameT s3 ha2, atI_nat (j := 3) rfl, t, o, rfl, kt.same (s2.trans s3), fun H4 s4 => go _ ((s2.trans s3).trans s4)⟩
def spTaw (K : PySem.W.Frag) : Sp := fun vs H Q _ => ∃ (a b : Addr) (xs ys : List V) (g : Int) (r : Bool), vs = [.ref a, .ref b] ∧ SqT K H a xs ∧ SqT K H b ys ∧ ys[1]? = some (.int g) ∧ ((xs.length = 1 ∧ r = true) ∨ (xs.length ≠ 1 ∧ ∃ n, xs[1]? = some (.int n) ∧ r = decide (n = g))) ∧ Q (.bl r) H
abbrev nTaw : List Str := ["line", "gift"]
theorem scTaw : FnScope nTaw ["line", "gift"] (defScope sTaw) := ⟨rfl, rfl, rfl, by decide +kernel, rfl, by decide +kernel, by decide +kernel⟩
theorem ok_away {f : Addr} {fd : FuncData} (F : Fun K "_takes_away" "_takes_away" sTaw f fd) (T : Txt mg) : FnOk P w K mg base CX0 1 f fd ["line", "gift"] (spTaw K) := by
  refine F.ok scTaw (fun vs H Q E h => ?_) (fun cdv A outer s H vs Q E hr h => ?_)
  · obtain ⟨a, b, xs, ys, g, r, rfl, _⟩ := h
    rfl
  · obtain ⟨a, b, xs, ys, g, r, rfl, ha, hb, hg, h, go⟩ := h
    refine ⟨_, (pss_one (ps_ret (pe_or (pe_cmpR op_eq (pe_callB call_len_seq (by rfl) T.len PySem.boot_len (pa_cons (pv 0) pa_nil)) pe_int (nomark _)) (pe_one (pe_cmpR op_eq (pe_ix ix_tup (pv 0) pe_int (fun _ _ => rfl)) (pe_ix ix_tup (pv 1) pe_int (fun _ _ => rfl)) (nomark _)))))), ?_⟩
    refine ⟨_, rfl, a, xs, rfl, .inr ha, rfl, _, rfl, ?_⟩
    rcases h with ⟨hl, rfl⟩ | ⟨hl, n, hn, rfl⟩
    · rw [decide_eq_true (show V.int (xs.length : Int) = .int 1 by rw [hl]; rfl)]
      exact iteT go
    · rw [decide_eq_false (fun e => hl (by have := V.int.inj e; omega))]
      refine iteF ⟨_, rfl, a, xs, 1, _, rfl, rfl, ha, atI_nat (j := 1) hn, _, rfl, b, ys, 1, _, rfl, rfl, hb, atI_nat (j := 1) hg, rfl, ?_⟩
      rw [show decide (V.int n = V.int g) = decide (n = g) from decide_eq_decide.mpr ⟨V.int.inj, congrArg V.int⟩]
      exact go
end
end ZK
namespace ZK
open PySem L2 PyProof.Rows G
/-- the __init__ of an own error that keeps one field -/
def spEI (K : PySem.W.Frag) (nm : Str) : Sp := fun vs H Q _ => ∃ (a C : Addr) (v : V), vs = [.ref a, v] ∧ OexC K C ∧ PySem.W.findIn K (.ref C) nm = some none ∧ H a = some (exo a C none) ∧ ∀ dx, H dx = none → dx ≠ a → Q .non (upd (upd H dx (exd dx [(nm, v)])) a (exo a C (some dx)))
/-- an own error of one field -/
structure XT (P : Program) (w : World) (K : PySem.W.Frag) (mg : Str → Option Value) (base : Heap) (x nm : Str) (C : Addr) : Prop where
  o : OexC K C
  g : mg x = some (.ref C)
  n : PySem.W.findIn K (.ref C) nm = some none
  i : ∃ (fI : Addr) (fd : FuncData), PySem.W.findIn K (.ref C) "__init__" = some (some (.ref fI)) ∧ PySem.W.typeIn K (.ref fI) = some (.type "function") ∧ Binds K fd ["self", nm] [] ∧ FnOk P w K mg base CX0 1 fI fd ["self", nm] (spEI K nm)
structure HasM (P : Program) (w : World) (K : PySem.W.Frag) (mg : Str → Option Value) (base : Heap) (CX : CXT) (C : Addr) (x : Str) (ps : List Str) (k : Nat) (sp : Sp) : Prop where
  ok : ∃ (f : Addr) (fd : FuncData), Meth K C x f ∧ Binds K fd ps [] ∧ FnOk P w K mg base CX k f fd ps sp
section
variable {P : Program} {w : World} {K : PySem.W.Frag} {mg : Str → Option Value} {base : Heap}
theorem scRulI : FnScope ["self", "why"] ["self", "why"] (defScope sRulI) := ⟨rfl, rfl, rfl, by decide +kernel, rfl, by decide +kernel, by decide +kernel⟩
theorem ok_RulI {f : Addr} {fd : FuncData} (F : Fun K "__init__" "BadRules.__init__" sRulI f fd) : FnOk P w K mg base CX0 1 f fd ["self", "why"] (spEI K "why") := by
  refine F.ok scRulI (fun vs H Q E h => ?_) (fun cdv A outer s H vs Q E hr h => ?_)
  · obtain ⟨a, C, v, rfl, _⟩ := h
    rfl
  · obtain ⟨a, C, v, rfl, o, n, ha, go⟩ := h
    refine ⟨_, pss_one (ps_ost (pv 0) (pv 1)), ?_⟩
    exact ⟨_, rfl, _, rfl, a, C, rfl, o, n, .inl ⟨ha, fun dx h ne => go dx h ne⟩⟩
theorem scWilI : FnScope ["self", "at"] ["self", "at"] (defScope sWilI) := ⟨rfl, rfl, rfl, by decide +kernel, rfl, by decide +kernel, by decide +kernel⟩
theorem ok_WilI {f : Addr} {fd : FuncData} (F : Fun K "__init__" "BadWill.__init__" sWilI f fd) : FnOk P w K mg base CX0 1 f fd ["self", "at"] (spEI K "at") := by
  refine F.ok scWilI (fun vs H Q E h => ?_) (fun cdv A outer s H vs Q E hr h => ?_)
  · obtain ⟨a, C, v, rfl, _⟩ := h
    rfl
  · obtain ⟨a, C, v, rfl, o, n, ha, go⟩ := h
    refine ⟨_, pss_one (ps_ost (pv 0) (pv 1)), ?_⟩
    exact ⟨_, rfl, _, rfl, a, C, rfl, o, n, .inl ⟨ha, fun dx h ne => go dx h ne⟩⟩
theorem scEsxI : FnScope ["self", "why"] ["self", "why"] (defScope sEsxI) := ⟨rfl, rfl, rfl, by decide +kernel, rfl, by decide +kernel, by decide +kernel⟩
theorem ok_EsxI {f : Addr} {fd : FuncData} (F : Fun K "__init__" "BadEstate.__init__" sEsxI f fd) : FnOk P w K mg base CX0 1 f fd ["self", "why"] (spEI K "why") := by
  refine F.ok scEsxI (fun vs H Q E h => ?_) (fun cdv A outer s H vs Q E hr h => ?_)
  · obtain ⟨a, C, v, rfl, _⟩ := h
    rfl
  · obtain ⟨a, C, v, rfl, o, n, ha, go⟩ := h
    refine ⟨_, pss_one (ps_ost (pv 0) (pv 1)), ?_⟩
    exact ⟨_, rfl, _, rfl, a, C, rfl, o, n, .inl ⟨ha, fun dx h ne => go dx h ne⟩⟩
/-- the making of such an error -/
theorem mk_read {C : Addr} {nm : Str} {v : V} {H1 : Hp} {Q : XK} (o : OexC K C) (n : PySem.W.findIn K (.ref C) nm = some none)
    (go : ∀ d H', H1 d = none → Same H1 H' → H' d = some (.xd [(nm, v)]) → Q (.ref C) (some d) H') :
    ([v] : List V).length ≤ 1000 ∧ ∀ a, H1 a = none → spEI K nm (.ref a :: ([v] ++ [])) (upd H1 a (exo a C none)) (fun v H2 => v = .non ∧ ∃ (d : Addr) (fs : List (Str × V)), H2 a = some (exo a C (some d)) ∧ H2 d = some (exd d fs) ∧ H1 d = none ∧ Q (.ref C) (some d) (upd (del H2 a) d (.xd fs))) (fun _ _ _ => False) := by
  refine ⟨(by show 1 ≤ 1000; omega), fun a ha => ⟨a, C, v, rfl, o, n, upd_same, fun dx hdx ne => ⟨rfl, dx, [(nm, v)], upd_same, ?_, ?_, ?_⟩⟩⟩
  · rw [upd_ne ne, upd_same]
  · rw [upd_ne ne] at hdx
    exact hdx
  · rw [upd_ne ne] at hdx
    refine go dx _ hdx (fun b u hb => ?_) upd_same
    have e1 : b ≠ dx := ne_of_none hb hdx
    have e2 : b ≠ a := ne_of_none hb ha
    rw [upd_ne e1, del_ne e2, upd_ne e2, upd_ne e1, upd_ne e2]
    exact hb
end
end ZK
namespace ZK
open PySem L2 PyProof.Rows G
/-- a line of a will -/
inductive Wl where
  | gift (w : Str) (n : Int) (x : V) (ts : List Str) | rev (n : Int) | all
def Wl.ln : Wl → LnV
  | .gift w n x ts => .l4 (.str w) (.int n) x (some (ts.map V.str))
  | .rev n => .l2 (.str "revoke") (.int n)
  | .all => .l1 (.str "revoke")
def Wl.num : Wl → Int
  | .gift _ n _ _ => n
  | .rev n => n
  | .all => 0
def isG : Wl → Bool
  | .gift .. => true
  | _ => false
def tak : Wl → Wl → Bool
  | .all, _ => true
  | l, g => decide (l.num = g.num)
def stp (acc : List (Addr × Wl)) (p : Addr × Wl) : List (Addr × Wl) := acc.filter (fun g => !tak p.2 g.2) ++ if isG p.2 then [p] else []
def stn (ps : List (Addr × Wl)) : List (Addr × Wl) := ps.foldl stp []
theorem stn_snoc (ps : List (Addr × Wl)) (p : Addr × Wl) : stn (ps ++ [p]) = stp (stn ps) p := by
  unfold stn
  rw [List.foldl_append]
  rfl
theorem stn_len (ps : List (Addr × Wl)) : (stn ps).length ≤ ps.length := by
  suffices h : ∀ (ps acc : List (Addr × Wl)), (ps.foldl stp acc).length ≤ acc.length + ps.length by
    have := h ps []
    rw [List.length_nil, Nat.zero_add] at this
    exact this
  intro ps
  induction ps with
  | nil => exact fun acc => Nat.le_refl _
  | cons p r ih =>
    intro acc
    have h1 := ih (stp acc p)
    have h2 : (stp acc p).length ≤ acc.length + 1 := by
      unfold stp
      rw [List.length_append]
      have := List.length_filter_le (fun g : Addr × Wl => !tak p.2 g.2) acc
      have : (if isG p.2 then [p] else []).length ≤ 1 := by split <;> simp
      omega
    show (r.foldl stp (stp acc p)).length ≤ _
    rw [List.length_cons]
    omega
theorem stn_mem {ps : List (Addr × Wl)} {g : Addr × Wl} (h : g ∈ stn ps) : g ∈ ps ∧ isG g.2 = true := by
  suffices k : ∀ (ps acc : List (Addr × Wl)), g ∈ ps.foldl stp acc → g ∈ acc ∨ (g ∈ ps ∧ isG g.2 = true) by
    rcases k ps [] h with z | z
    · cases z
    · exact z
  intro ps
  induction ps with
  | nil => exact fun acc h => .inl h
  | cons p r ih =>
    intro acc h
    rcases ih (stp acc p) h with z | z
    · unfold stp at z
      rcases List.mem_append.mp z with z | z
      · exact .inl (List.mem_filter.mp z).1
      · split at z
        · next c =>
          rw [List.mem_singleton.mp z]
          exact .inr ⟨List.mem_cons_self, c⟩
        · cases z
    · exact .inr ⟨List.mem_cons_of_mem _ z.1, z.2⟩
def WlIt (K : PySem.W.Frag) (H : Hp) (v : V) : Option Wl → Prop
  | some w => ∃ q, v = .ref q ∧ LnAt K H q w.ln ∧ lnB w.ln = true
  | none => ∃ o, LnO K H v o ∧ lnOB o = false
theorem WlIt.same {K : PySem.W.Frag} {H H' : Hp} {v : V} {o : Option Wl} (h : WlIt K H v o) (s : Same H H') : WlIt K H' v o := by
  cases o with
  | some w =>
    obtain ⟨q, e, h, g⟩ := h
    exact ⟨q, e, h.same s, g⟩
  | none =>
    obtain ⟨o, h, g⟩ := h
    exact ⟨o, h.same s, g⟩
/-- what is read of a line -/
theorem ln_seq {K : PySem.W.Frag} {H : Hp} {q : Addr} {l : Wl} (h : LnAt K H q l.ln) (g : lnB l.ln = true) : ∃ (xs : List V) (z : Str), SqT K H q xs ∧ xs[0]? = some (.str z) ∧ (decide (V.str z = .str "revoke") = !isG l) ∧ ((l = .all ∧ xs.length = 1) ∨ (l ≠ .all ∧ xs.length ≠ 1 ∧ xs[1]? = some (.int l.num))) := by
  cases l with
  | gift w n x ts =>
    obtain ⟨t, h1, _⟩ := h
    refine ⟨_, w, h1, rfl, ?_, .inr ⟨(fun e => by cases e), (by show (4 : Nat) ≠ 1; decide), rfl⟩⟩
    have g' : (amtV (.int n) && (givB w x && tksB (some (ts.map V.str)))) = true := g
    rw [Bool.and_eq_true, Bool.and_eq_true] at g'
    refine decide_eq_false fun e => ?_
    have := g'.2.1
    rw [V.str.inj e] at this
    have no : givB ("revoke" : Str) x = false := by
      unfold givB
      rw [if_neg (by decide +kernel), if_neg (by decide +kernel), decide_eq_false (by decide +kernel)]
      rfl
    rw [no] at this
    cases this
  | rev n => exact ⟨_, "revoke", h.1, rfl, decide_eq_true rfl, .inr ⟨(fun e => by cases e), (by show (2 : Nat) ≠ 1; decide), rfl⟩⟩
  | all => exact ⟨_, "revoke", h.1, rfl, decide_eq_true rfl, .inl ⟨rfl, rfl⟩⟩
theorem tak_num {l g : Wl} (h : l ≠ .all) : tak l g = decide (l.num = g.num) := by
  cases l with
  | all => exact absurd rfl h
  | gift w n x ts => rfl
  | rev n => rfl
def Goods (ps : List (Addr × Wl)) (xs : List V) (os : List (Option Wl)) : Prop := ∀ (j : Nat) (p : Addr × Wl), ps[j]? = some p → xs[j]? = some (.ref p.1) ∧ os[j]? = some (some p.2)
section
variable {P : Program} {w : World} {K : PySem.W.Frag} {mg : Str → Option Value} {base : Heap}
def spSta (K : PySem.W.Frag) (CW : Addr) : Sp := fun vs H Q E => ∃ (a : Addr) (xs : List V) (os : List (Option Wl)), vs = [.ref a] ∧ SqL K H a xs ∧ xs.length ≤ 900 ∧ os.length = xs.length ∧ (∀ (i : Nat) (x : V) (o : Option Wl), xs[i]? = some x → os[i]? = some o → WlIt K H x o) ∧
  (60 < xs.length → ∀ d H', Same H H' → H d = none → H' d = some (.xd [("at", .int 60)]) → E (.ref CW) (some d) H') ∧
  (∀ (i : Nat) (ps : List (Addr × Wl)), xs.length ≤ 60 → os[i]? = some none → ps.length = i → Goods ps xs os → ∀ d H', Same H H' → H d = none → H' d = some (.xd [("at", .int i)]) → E (.ref CW) (some d) H') ∧
  (∀ ps : List (Addr × Wl), xs.length ≤ 60 → ps.length = xs.length → Goods ps xs os → ∀ l H', Same H H' → H l = none → H' l = some (.lst ((stn ps).map fun p => .ref p.1)) → Q (.ref l) H')
abbrev nSta : List Str := ["will", "gifts", "at", "line", "gift"]
theorem scSta : FnScope nSta ["will"] (defScope sSta) := ⟨rfl, rfl, rfl, by decide +kernel, rfl, by decide +kernel, by decide +kernel⟩
theorem ok_standing {f : Addr} {fd : FuncData} (F : Fun K "standing" "standing" sSta f fd) (T : Txt mg) {CW : Addr} (XW : XT P w K mg base "BadWill" "at" CW) (TL : Has P w K mg base CX0 "_is_line" ["value"] 3 (spLin K)) (TA : Has P w K mg base CX0 "_takes_away" ["line", "gift"] 1 (spTaw K)) : FnOk P w K mg base (L2.CX P w) 4 f fd ["will"] (spSta K CW) := by
  obtain ⟨t1, mMl⟩ := T.lines
  obtain ⟨fL, fdL, mL, kL, bL, GL⟩ := TL.ok
  obtain ⟨fA, fdA, mA, kA, bA, GA⟩ := TA.ok
  obtain ⟨fW, fdW, iW, tW, bW, GW⟩ := XW.i
  refine F.okX scSta (fun vs H Q E h => ?_) (fun cdv A outer s H vs Q E hr h => ?_)
  · obtain ⟨a, xs, os, rfl, _⟩ := h
    rfl
  · obtain ⟨a, xs, os, rfl, ha, hz, ho, hI, g1, g2, g3⟩ := h
    refine ⟨_, (pss_cons (ps_if (pt_cmpR op_gt (pe_callB call_len_seq (by rfl) T.len PySem.boot_len (pa_cons (pv 0) pa_nil)) (pe_glob (v := .int 60) (by rfl) mMl ⟨_, rfl⟩) (nomark _)) (pss_one (ps_raise rfl (takes_of rfl rfl rfl rfl) (pmk_oex XW.o iW tW GW (hr.mono (by decide)) bW .nil pass0 (by rfl) XW.g (pa_cons (pe_glob (v := .int 60) (by rfl) mMl ⟨_, rfl⟩) pa_nil)))) pss_nil)
      (pss_cons (ps_set (i := 1) scSta.nd rfl (.inl rfl) (pe_lst pa_nil))
      (pss_cons (ps_for (passes_of rfl) rfl (pi_enum (by rfl) T.enum (pa_cons (pv 0) pa_nil)) (pg_tup (n := 2) rfl (pgs_cons (pg_name (i := 2) scSta.nd rfl (.inl rfl)) (pgs_cons (pg_name (i := 3) scSta.nd rfl (.inr rfl)) pgs_nil))) (pss_cons (ps_if (pt_not (pt_val (pe_call GL (hr.mono (by decide)) (by rfl) mL kL bL .nil pass0 (pa_cons (pv 3) pa_nil)))) (pss_one (ps_raise rfl (takes_of rfl rfl rfl rfl) (pmk_oex XW.o iW tW GW (hr.mono (by decide)) bW .nil pass0 (by rfl) XW.g (pa_cons (pv 2) pa_nil)))) pss_nil)
      (pss_cons (ps_setLc (i := 1) (own := [("gift", 4)]) (g := gName 4) rfl scSta.nd rfl rfl (sw_true rfl rfl rfl (by decide +kernel)) (pi_list (pv 1)) (blkOk_by (N := nSta) (sc := defScope sSta) (by decide +kernel)) (fun _ _ _ _ _ => (pg_name (i := 4) scSta.nd rfl (.inl rfl) (.inr rfl))) (fun _ _ _ _ _ => pts_one (pt_not (pt_val (pe_call GA (hr.mono (by decide)) (by rfl) mA kA bA .nil pass0 (pa_cons (pv 3) (pa_cons (pv 4) pa_nil)))))) (fun _ _ _ _ _ => (pv 4)))
      (pss_one (ps_if (pt_cmpR op_ne (pe_ix ix_tup (pv 3) pe_int (fun _ _ => rfl)) pe_str (nomark _)) (pss_one (ps_expr (pe_bm PySem.F.plainAttrs_list PySem.F.slot_list_append PySem.F.type_list_append mt_append (pv 1) (pa_cons (pv 3) pa_nil)))) pss_nil)))))
      (pss_one (ps_ret (pv 1)))))), ?_⟩
    refine ⟨_, rfl, a, xs, rfl, .inl ha, _, _, rfl, rfl, _, rfl, ite2 (fun c => ?_) (fun c => ?_)⟩
    · have c1 : 60 < xs.length := by
        have : (60 : Int) < (xs.length : Int) := of_decide_eq_true c
        omega
      exact mk_read XW.o XW.n fun d H' nd sm e => g1 c1 d H' sm nd e
    · have c1 : xs.length ≤ 60 := by
        have : ¬ (60 : Int) < (xs.length : Int) := fun z => c (decide_eq_true z)
        omega
      refine ⟨Nat.zero_le _, fun G0 nG0 => ?_⟩
      refine ⟨_, rfl, a, xs, rfl, (same_upd nG0).seq ha, for_it walk_enum (fun i σ Hy => ∃ (y2 y3 : Option V) (gA : Addr) (ps : List (Addr × Wl)), σ = [some (.ref a), some (.ref gA), y2, y3, none] ∧ ps.length = i ∧ Goods ps xs os ∧ Same H Hy ∧ H gA = none ∧ Hy gA = some (.lst ((stn ps).map fun p => .ref p.1)))
        ⟨none, none, G0, [], rfl, rfl, (fun j p h => by cases h), same_upd nG0, nG0, upd_same⟩ (fun i σ Hy _ ⟨_, _, _, _, _, _, _, k, _⟩ => k.seq ha) ?_ ?_⟩
      · rintro i v σ Hy H' hi ⟨y2, y3, gA, ps, rfl, lp, gd, sy, nG, eG⟩ ⟨T1, x1, lv, rfl, nT, rfl, e1, e2⟩
        obtain rfl : V.int (i : Int) = x1 := Option.some.inj e1
        obtain ⟨oo, eo⟩ : ∃ oo, os[i]? = some oo := ⟨_, List.getElem?_eq_getElem (by rw [ho]; exact hi)⟩
        have smT : Same Hy (upd Hy T1 (.tup [.int i, lv])) := same_upd nT
        have sy1 := sy.trans smT
        have it := (hI i lv oo e2 eo).same sy1
        refine ⟨T1, _, rfl, SqT.of upd_same, rfl, _, _, rfl, _, _, rfl, rfl, ?_⟩
        cases oo with
        | none =>
          obtain ⟨ln, h1, h2⟩ := it
          refine ⟨_, rfl, lv, ln, rfl, h1, fun H2 s2 => ⟨_, rfl, ?_⟩⟩
          rw [h2]
          exact iteT ⟨_, rfl, mk_read XW.o XW.n fun d H' nd sm e => g2 i ps c1 eo lp gd d H' ((sy1.trans s2).trans sm) ((sy1.trans s2).free nd) e⟩
        | some l =>
          obtain ⟨q, rfl, hq, hb⟩ := it
          refine ⟨_, rfl, .ref q, some l.ln, rfl, ⟨q, rfl, hq⟩, fun H2 s2 => ⟨_, rfl, ?_⟩⟩
          rw [show lnOB (some l.ln) = true from hb]
          have sy2 := sy1.trans s2
          have eG2 : H2 gA = some (.lst ((stn ps).map fun p => .ref p.1)) := s2 _ _ (smT _ _ eG)
          have gd2 : Goods (ps ++ [(q, l)]) xs os := fun j p h => by
            rcases Nat.lt_or_ge j ps.length with lt | ge
            · rw [List.getElem?_append_left lt] at h
              exact gd j p h
            · rw [List.getElem?_append_right ge] at h
              cases k : j - ps.length with
              | zero =>
                rw [k] at h
                obtain rfl := Option.some.inj h
                rw [show j = i by omega]
                exact ⟨e2, eo⟩
              | succ m => rw [k] at h; cases h
          obtain ⟨ls, z, hls, hl0, hrv, hl1⟩ := ln_seq (hq.same s2) hb
          refine iteF ⟨_, rfl, gA, rfl, ⟨_, SqL.of eG2⟩, fun D nD => lc_it walk_list (fun j Hz => Same H2 Hz ∧ Hz D = some (.lst ((((stn ps).take j).filter fun g => !tak l g.2).map fun p => .ref p.1))) ⟨same_upd nD, upd_same⟩ (fun j Hz _ h => SqL.of (h.1 _ _ eG2)) ?_ ?_⟩
          · rintro j gv Hz Hz' hj ⟨k1, k2⟩ ⟨rfl, eg⟩
            rw [List.getElem?_map] at eg
            obtain ⟨⟨gq, gl⟩, hg, rfl⟩ := Option.map_eq_some_iff.mp eg
            have gm := stn_mem (List.mem_of_getElem? hg)
            obtain ⟨jj, hjj⟩ := List.mem_iff_getElem?.mp gm.1
            obtain ⟨a1, a2⟩ := gd jj _ hjj
            obtain ⟨q', e', hq', hb'⟩ := hI jj _ _ a1 a2
            obtain rfl : gq = q' := V.ref.inj e'
            obtain ⟨gs, z', hgs, _, _, hg1⟩ := ln_seq (hq'.same (sy2.trans k1)) hb'
            have hgi : gs[1]? = some (.int gl.num) := by
              rcases hg1 with ⟨ea, _⟩ | ⟨_, _, h⟩
              · have := gm.2
                rw [show gl = .all from ea] at this
                cases this
              · exact h
            have step : ((stn ps).take (j + 1)).filter (fun g => !tak l g.2) = ((stn ps).take j).filter (fun g => !tak l g.2) ++ if (!tak l gl) = true then [(gq, gl)] else [] := by
              rw [List.take_add_one, hg, List.filter_append]
              congr 1
              show List.filter _ [(gq, gl)] = _
              rw [List.filter_cons, List.filter_nil]
            refine ⟨rfl, _, rfl, _, rfl, q, gq, ls, gs, gl.num, tak l gl, rfl, sameT k1 hls, hgs, hgi, ?_, _, rfl, ?_⟩
            · rcases hl1 with ⟨rfl, hone⟩ | ⟨hna, hn1, hnum⟩
              · exact .inl ⟨hone, rfl⟩
              · exact .inr ⟨hn1, l.num, hnum, tak_num hna⟩
            · cases eb : tak l gl with
              | true =>
                rw [eb, show (if (!true) = true then [(gq, gl)] else []) = ([] : List (Addr × Wl)) from if_neg (by decide), List.append_nil] at step
                refine iteF ⟨k1, ?_⟩
                rw [step]
                exact k2
              | false =>
                rw [eb, show (if (!false) = true then [(gq, gl)] else []) = [(gq, gl)] from if_pos rfl] at step
                refine iteT ⟨_, rfl, _, k2, ?_, fun b o hb => ?_, ?_⟩
                · rw [List.length_map]
                  have h1 := List.length_filter_le (fun g : Addr × Wl => !tak l g.2) ((stn ps).take j)
                  rw [List.length_take] at h1
                  have := stn_len ps
                  exact small1000 (by omega)
                · rw [upd_ne (ne_of_none hb nD)]
                  exact k1 b o hb
                · rw [upd_same, step, List.map_append]
                  rfl
          · rintro H3 ⟨k1, k2⟩
            rw [List.length_map, List.take_length] at k2
            refine ⟨_, rfl, q, ls, 0, .str z, rfl, rfl, sameT k1 hls, atI_nat (j := 0) hl0, rfl, _, rfl, ?_⟩
            rw [hrv]
            have stE : stn (ps ++ [(q, l)]) = (stn ps).filter (fun g => !tak l g.2) ++ if isG l then [(q, l)] else [] := stn_snoc _ _
            cases eg : isG l with
            | false =>
              rw [eg, show (if false = true then [(q, l)] else []) = ([] : List (Addr × Wl)) from if_neg (by decide), List.append_nil] at stE
              refine iteF ⟨_, _, D, ps ++ [(q, l)], rfl, by rw [List.length_append, lp]; rfl, gd2, sy2.trans k1, sy2.free nD, ?_⟩
              rw [stE]
              exact k2
            | true =>
              rw [eg, show (if true = true then [(q, l)] else []) = [(q, l)] from if_pos rfl] at stE
              refine iteT ⟨_, rfl, .inl ⟨rfl, _, SqL.of k2⟩, _, rfl, D, _, _, rfl, rfl, k2, ?_, _, _, D, ps ++ [(q, l)], rfl, by rw [List.length_append, lp]; rfl, gd2, fun b o hb => ?_, sy2.free nD, ?_⟩
              · rw [List.length_map]
                have h1 := List.length_filter_le (fun g : Addr × Wl => !tak l g.2) (stn ps)
                have := stn_len ps
                exact small1000 (by omega)
              · rw [upd_ne (ne_of_none (sy2 b o hb) nD)]
                exact (sy2.trans k1) b o hb
              · rw [upd_same, stE, List.map_append]
                rfl
      · rintro σ Hy ⟨y2, y3, gA, ps, rfl, lp, gd, sy, nG, eG⟩
        exact ⟨_, rfl, g3 ps c1 lp gd gA Hy sy nG eG⟩
end
end ZK
namespace ZK
open PySem L2 PyProof.Rows G
/-- all but the new object stays -/
def Kp (p : Addr) (H H' : Hp) : Prop := ∀ b o, H b = some o → b ≠ p → H' b = some o
theorem Kp.same {p : Addr} {H H1 H2 : Hp} (k : Kp p H H1) (s : Same H1 H2) : Kp p H H2 := fun b o h n => s b o (k b o h n)
theorem Kp.free {p a : Addr} {H H' : Hp} {o : HO} (k : Kp p H H') (hp : H' p = some o) (h : H' a = none) : H a = none := by
  cases e : H a with
  | none => rfl
  | some u =>
    by_cases ap : a = p
    · rw [ap, hp] at h
      cases h
    · rw [k a u e ap] at h
      cases h
theorem Kp.upd {p a : Addr} {H H' : Hp} {o : HO} (k : Kp p H H') (h : H a = none ∨ a = p) : Kp p H (upd H' a o) := fun b u hb n => by
  rcases h with h | h
  · rw [upd_ne (ne_of_none hb h)]
    exact k b u hb n
  · rw [upd_ne (fun e => n (e.trans h))]
    exact k b u hb n
theorem Kp.sq {K : PySem.W.Frag} {p a : Addr} {H H' : Hp} {xs : List V} {C dx : Addr} {fs : List (Str × V)} (k : Kp p H H') (hp : H p = some (.ins C dx fs)) (h : SqT K H a xs) : SqT K H' a xs := by
  rcases h with (h | ⟨o, h⟩) | h
  · exact .inl (.inl (k _ _ h (ne_of h hp (by intro e; cases e))))
  · exact .inl (.inr ⟨o, k _ _ h (ne_of h hp (by intro e; cases e))⟩)
  · exact .inr h
theorem Kp.nt {p : Addr} {H H' : Hp} {v : V} {C dx : Addr} {fs : List (Str × V)} (k : Kp p H H') (hp : H p = some (.ins C dx fs)) (h : NoTup H v) : NoTup H' v := by
  rcases h with h | ⟨a, xs, e, h⟩
  · exact .inl h
  · exact .inr ⟨a, xs, e, k _ _ h (ne_of h hp (by intro e; cases e))⟩
theorem Kp.it {K : PySem.W.Frag} {f : List V → Bool} {p : Addr} {H H' : Hp} {v : V} {o : Option (List V)} {C dx : Addr} {fs : List (Str × V)} (k : Kp p H H') (hp : H p = some (.ins C dx fs)) (h : ItB K f H v o) : ItB K f H' v o := by
  cases o with
  | some ys =>
    obtain ⟨q, e, h1, h2⟩ := h
    exact ⟨q, e, k.sq hp h1, h2⟩
  | none =>
    rcases h with ⟨q, ys, e, h1, h2⟩ | h
    · exact .inl ⟨q, ys, e, k.sq hp h1, h2⟩
    · exact .inr (k.nt hp h)
theorem putF_len (f : Str) (v : V) : ∀ fs : List (Str × V), (putF f v fs).length ≤ fs.length + 1
  | [] => Nat.le_refl _
  | kv :: r => by
    show (if kv.1 = f then (kv.1, v) :: r else kv :: putF f v r).length ≤ r.length + 1 + 1
    split
    · simp
    · have := putF_len f v r
      simp only [List.length_cons]
      omega
/-! the mirror of an estate -/
def wk (ws : List (Str × Int)) : List (Key × V) := ws.map fun p => (Sum.inr p.1, V.int p.2)
theorem wk_snoc (ws : List (Str × Int)) (n : Str) (i : Int) : wk (ws ++ [(n, i)]) = wk ws ++ [(Sum.inr n, V.int i)] := by
  unfold wk
  rw [List.map_append]
  rfl
theorem wk_val (ws : List (Str × Int)) (n : Str) : valV (wk ws) (Sum.inr n : Key) = ((ws.find? fun p => decide (p.1 = n)).map fun p => V.int p.2) := by
  induction ws with
  | nil => rfl
  | cons p r ih =>
    show valV ((Sum.inr p.1, V.int p.2) :: wk r) _ = _
    by_cases e : p.1 = n
    · rw [valV_pos (show (Sum.inr p.1 : Key) = Sum.inr n by rw [e]), List.find?_cons, decide_eq_true e]
      rfl
    · rw [valV_neg (fun z => e (Sum.inr.inj z)), ih, List.find?_cons, decide_eq_false e]
theorem wk_some (ws : List (Str × Int)) (n : Str) : (valV (wk ws) (Sum.inr n : Key)).isSome = decide (n ∈ ws.map (·.1)) := by
  rw [wk_val, Option.isSome_map, Bool.eq_iff_iff, List.find?_isSome, decide_eq_true_eq, List.mem_map]
  constructor
  · rintro ⟨p, h, e⟩
    exact ⟨p, h, of_decide_eq_true e⟩
  · rintro ⟨p, h, e⟩
    exact ⟨p, h, decide_eq_true e⟩
theorem wk_len (ws : List (Str × Int)) : (wk ws).length = ws.length := List.length_map _
def tc (p : Str × Int) : List V := [.str p.1, .int p.2]
def dc (p : Str × Int × Int) : List V := [.str p.1, .int p.2.1, .int p.2.2]
def thRun : List (Str × Int) → List (Option (Str × Int)) → Str ⊕ List (Str × Int)
  | acc, [] => .inr acc
  | _, none :: _ => .inl "things"
  | acc, some p :: r => if p.1 ∈ acc.map (·.1) then .inl "twice" else thRun (acc ++ [p]) r
def estOut (c : V) (os : List (Option (Str × Int))) (ds : List (Option (Str × Int × Int))) : Str ⊕ List (Str × Int) :=
  if amtV c = false then .inl "coins" else match thRun [] os with
    | .inl w => .inl w
    | .inr ws => if ds.all (·.isSome) then .inr ws else .inl "debts"
def efl (c : Int) (d l : Addr) : List (Str × V) := [("coins", .int c), ("_worths", .ref d), ("_debts", .ref l)]
structure EstAt (C : Addr) (H : Hp) (p : Addr) (c : Int) (ws : List (Str × Int)) (ys : List V) : Prop where
  ex : ∃ dx d l, H p = some (.ins C dx (efl c d l)) ∧ H d = some (.dK (wk ws)) ∧ H l = some (.lst ys)
theorem EstAt.same {C : Addr} {H H' : Hp} {p : Addr} {c : Int} {ws : List (Str × Int)} {ys : List V} (h : EstAt C H p c ws ys) (s : Same H H') : EstAt C H' p c ws ys := by
  obtain ⟨dx, d, l, h1, h2, h3⟩ := h
  exact ⟨dx, d, l, s _ _ h1, s _ _ h2, s _ _ h3⟩
structure ET (K : PySem.W.Frag) (C : Addr) : Prop where
  cl : Cls K C
  n1 : NoAttr K C "coins"
  n2 : NoAttr K C "_worths"
  n3 : NoAttr K C "_debts"
theorem putE2 (c : Int) (d : Addr) : putF ("_worths" : Str) (V.ref d) ([("coins", V.int c)] : List (Str × V)) = ([("coins", V.int c), ("_worths", V.ref d)] : List (Str × V)) := by kernel_rfl
theorem putE3 (c : Int) (d l : Addr) : putF ("_debts" : Str) (V.ref l) ([("coins", V.int c), ("_worths", V.ref d)] : List (Str × V)) = efl c d l := by kernel_rfl
theorem lkE2 (c : Int) (d : Addr) : ([("coins", V.int c), ("_worths", .ref d)] : List (Str × V)).lookup ("_worths" : Str) = some (.ref d) := by kernel_rfl
section
variable {P : Program} {w : World} {K : PySem.W.Frag} {mg : Str → Option Value} {base : Heap}
def spEstI (K : PySem.W.Frag) (C CE : Addr) : Sp := fun vs H Q E => ∃ (p a b dx : Addr) (c : V) (xs ys : List V) (os : List (Option (Str × Int))) (ds : List (Option (Str × Int × Int))), vs = [.ref p, c, .ref a, .ref b] ∧ flatV c = true ∧ H p = some (.ins C dx []) ∧ SqT K H a xs ∧ SqT K H b ys ∧
  os.length = xs.length ∧ ds.length = ys.length ∧ xs.length ≤ 900 ∧ ys.length ≤ 900 ∧ (∀ (i : Nat) (x : V) (o : Option (Str × Int)), xs[i]? = some x → os[i]? = some o → ItB K thingV H x (o.map tc)) ∧ (∀ (i : Nat) (x : V) (o : Option (Str × Int × Int)), ys[i]? = some x → ds[i]? = some o → ItB K debtV H x (o.map dc)) ∧
  (∀ why, estOut c os ds = .inl why → ∀ d H', Kp p H H' → H d = none → H' d = some (.xd [("why", .str why)]) → E (.ref CE) (some d) H') ∧
  (∀ (i : Int) (ws : List (Str × Int)), c = .int i → estOut c os ds = .inr ws → ∀ H', Kp p H H' → EstAt C H' p i ws ys → Q .non H')
abbrev nEstI : List Str := ["self", "coins", "things", "debts", "thing", "debt"]
theorem scEstI : FnScope nEstI ["self", "coins", "things", "debts"] (defScope sEstI) := ⟨rfl, rfl, rfl, by decide +kernel, rfl, by decide +kernel, by decide +kernel⟩
theorem ok_estI {f : Addr} {fd : FuncData} {dvs : List V} {kws : List (Str × V)} (F : FunD K "__init__" "Estate.__init__" (defArgs sEstI) (defBody sEstI) (defScope sEstI) dvs kws f fd) {C CE : Addr} (T : Txt mg) (D : ET K C) (XE : XT P w K mg base "BadEstate" "why" CE) (TA : Has P w K mg base CX0 "is_amount" ["value"] 1 spAmt) (TT : Has P w K mg base CX0 "_is_thing" ["value"] 2 (spIt K thingV)) (TD : Has P w K mg base CX0 "_is_debt" ["value"] 2 (spIt K debtV)) : FnOk P w K mg base (L2.CX P w) 4 f fd ["self", "coins", "things", "debts"] (spEstI K C CE) := by
  obtain ⟨fA, fdA, mA, kA, bA, GA⟩ := TA.ok
  obtain ⟨fT, fdT, mT, kT, bT, GT⟩ := TT.ok
  obtain ⟨fD, fdD, mD, kD, bD, GD⟩ := TD.ok
  obtain ⟨fE, fdE, iE, tE, bE, GE⟩ := XE.i
  refine FunD.ok F scEstI (fun vs H Q E h => ?_) (fun cdv A outer s H vs Q E hr h => ?_)
  · obtain ⟨p, a, b, dx, c, xs, ys, os, ds, rfl, _⟩ := h
    rfl
  · obtain ⟨p, a, b, dx, c, xs, ys, os, ds, rfl, hc, hp, ha, hb, ho, hd, zx, zy, hx, hy, g1, g2⟩ := h
    have hu := hu_of hr
    refine ⟨_, (pss_cons (ps_if (pt_not (pt_val (pe_call GA (hr.mono (by decide)) (by rfl) mA kA bA .nil pass0 (pa_cons (pv 1) pa_nil)))) (pss_one (ps_raise rfl (takes_of rfl rfl rfl rfl) (pmk_oex XE.o iE tE GE (hr.mono (by decide)) bE .nil pass0 (by rfl) XE.g (pa_cons pe_str pa_nil)))) pss_nil)
      (pss_cons (ps_fld (pv 0) (pv 1) rfl)
      (pss_cons (ps_fld (pv 0) pe_dnewK rfl)
      (pss_cons (ps_for (passes_of rfl) rfl (pi_tup (pv 2)) (pg_name (i := 4) scEstI.nd rfl (.inl rfl)) (pss_cons (ps_if (pt_not (pt_val (pe_call GT (hr.mono (by decide)) (by rfl) mT kT bT .nil pass0 (pa_cons (pv 4) pa_nil)))) (pss_one (ps_raise rfl (takes_of rfl rfl rfl rfl) (pmk_oex XE.o iE tE GE (hr.mono (by decide)) bE .nil pass0 (by rfl) XE.g (pa_cons pe_str pa_nil)))) pss_nil)
      (pss_cons (ps_if (pt_cmp (pc_din hu (pe_ix ix_tup (pv 4) pe_int (fun _ _ => rfl)) (pe_fld (pv 0) rfl))) (pss_one (ps_raise rfl (takes_of rfl rfl rfl rfl) (pmk_oex XE.o iE tE GE (hr.mono (by decide)) bE .nil pass0 (by rfl) XE.g (pa_cons pe_str pa_nil)))) pss_nil)
      (pss_one (ps_dput hu (pe_fld (pv 0) rfl) (pe_ix ix_tup (pv 4) pe_int (fun _ _ => rfl)) (pe_ix ix_tup (pv 4) pe_int (fun _ _ => rfl)) rfl)))))
      (pss_cons (ps_for (passes_of rfl) rfl (pi_tup (pv 3)) (pg_name (i := 5) scEstI.nd rfl (.inl rfl)) (pss_one (ps_if (pt_not (pt_val (pe_call GD (hr.mono (by decide)) (by rfl) mD kD bD .nil pass0 (pa_cons (pv 5) pa_nil)))) (pss_one (ps_raise rfl (takes_of rfl rfl rfl rfl) (pmk_oex XE.o iE tE GE (hr.mono (by decide)) bE .nil pass0 (by rfl) XE.g (pa_cons pe_str pa_nil)))) pss_nil)))
      (pss_one (ps_fld (pv 0) (pe_callTy call_list_of (by rfl) T.list (by decide +kernel) (pa_cons (pv 3) pa_nil)) rfl))))))), ?_⟩
    refine ⟨_, rfl, c, rfl, hc, _, rfl, ?_⟩
    cases ec : amtV c with
    | false =>
      have eo : estOut c os ds = .inl "coins" := if_pos ec
      exact iteT (mk_read XE.o XE.n fun d H' nd sm e => g1 _ eo d H' (fun b o hb _ => sm b o hb) nd e)
    | true =>
      obtain ⟨ci, rfl⟩ : ∃ i, c = .int i := by
        cases c <;> first | exact ⟨_, rfl⟩ | cases ec
      have eo : estOut (.int ci) os ds = match thRun [] os with
          | .inl w => .inl w
          | .inr ws => if ds.all (·.isSome) then .inr ws else .inl "debts" := if_neg (by rw [ec]; decide)
      refine iteF ⟨_, rfl, _, rfl, p, C, dx, _, rfl, hp, D.cl, D.n1, by decide, ?_⟩
      intro d nd1
      have Hd : H d = none := by
        cases e : H d with
        | none => rfl
        | some u =>
          by_cases dp : d = p
          · rw [dp, upd_same] at nd1
            cases nd1
          · rw [upd_ne dp, e] at nd1
            cases nd1
      have dp : d ≠ p := fun e => by rw [e, hp] at Hd; cases Hd
      refine ⟨_, rfl, p, C, dx, _, rfl, (by rw [upd_ne (Ne.symm dp), upd_same]), D.cl, D.n2, Nat.lt_of_le_of_lt (show _ ≤ 1 from Nat.le_trans (putF_len _ _ _) (Nat.succ_le_succ (Nat.le_of_eq List.length_nil))) (by decide), ?_⟩
      generalize eH1 : upd (upd (upd H p _) d _) p _ = H1
      have k1 : Kp p H H1 := by
        rw [← eH1]
        exact Kp.upd (Kp.upd (Kp.upd (fun b o h _ => h) (.inr rfl)) (.inl Hd)) (.inr rfl)
      have p1 : H1 p = some (.ins C dx [("coins", .int ci), ("_worths", .ref d)]) := by
        rw [← eH1, upd_same]
        exact congrArg some (congrArg (HO.ins C dx) (putE2 ci d))
      have d1 : H1 d = some (.dK (wk [])) := by
        rw [← eH1, upd_ne dp, upd_same]
        rfl
      clear eH1
      refine ⟨_, rfl, a, rfl, ⟨_, k1.sq hp ha⟩, for_it walk_tup (fun i σ Hy => ∃ (y4 : Option V) (acc : List (Str × Int)), σ = [some (.ref p), some (.int ci), some (.ref a), some (.ref b), y4, none] ∧ Kp p H Hy ∧ Hy p = some (.ins C dx [("coins", .int ci), ("_worths", .ref d)]) ∧ Hy d = some (.dK (wk acc)) ∧ acc.length ≤ i ∧ thRun [] os = thRun acc (os.drop i))
        ⟨none, [], rfl, k1, p1, d1, Nat.le_refl _, rfl⟩ (fun i σ Hy _ ⟨_, _, _, k, _⟩ => k.sq hp ha) ?_ ?_⟩
      · rintro i v σ Hy H' hi ⟨y4, acc, rfl, k, pp, dd, la, er⟩ ⟨rfl, ev⟩
        obtain ⟨o, eio⟩ : ∃ o, os[i]? = some o := ⟨_, List.getElem?_eq_getElem (by rw [ho]; exact hi)⟩
        have dsp : os.drop i = o :: os.drop (i + 1) := List.drop_eq_getElem?_toList_append ▸ by rw [eio]; rfl
        rw [dsp] at er
        have it := k.it hp (hx i v o ev eio)
        refine ⟨_, rfl, v, o.map tc, rfl, it, fun H2 s2 => ⟨_, rfl, ?_⟩⟩
        have k2 := k.same s2
        have bad (why : Str) (e : thRun [] os = .inl why) {H3 : Hp} (s3 : Same H2 H3) : ∀ d H', H3 d = none → Same H3 H' → H' d = some (.xd [("why", .str why)]) → E (.ref CE) (some d) H' := fun d H' nd sm e' => g1 why (by rw [eo, e]) d H' ((k2.same s3).same sm) ((k2.same s3).free (s3 _ _ (s2 _ _ pp)) nd) e'
        cases o with
        | none => exact iteT (mk_read XE.o XE.n (bad _ er (Same.refl _)))
        | some pr =>
          obtain ⟨q, rfl, hq, hok, ht⟩ := it
          have er' : thRun [] os = if pr.1 ∈ acc.map (·.1) then .inl "twice" else thRun (acc ++ [pr]) (os.drop (i + 1)) := er
          have hq2 := sameT s2 hq
          refine iteF ⟨_, rfl, q, _, 0, .str pr.1, rfl, rfl, hq2, atI_nat (j := 0) rfl, _, rfl, p, C, dx, _, _, rfl, s2 _ _ pp, D.cl, D.n2, lkE2 ci d, d, _, rfl, DGet.k (k := Sum.inr pr.1) (s2 _ _ dd), _, rfl, ?_⟩
          rw [wk_some]
          by_cases m : pr.1 ∈ acc.map (·.1)
          · rw [decide_eq_true m]
            rw [if_pos m] at er'
            exact iteT (mk_read XE.o XE.n (bad _ er' (Same.refl _)))
          · rw [decide_eq_false m]
            rw [if_neg m] at er'
            have nov : valV (wk acc) (Sum.inr pr.1 : Key) = none := by
              have := wk_some acc pr.1
              rw [decide_eq_false m] at this
              exact Option.not_isSome_iff_eq_none.mp (by rw [this]; decide)
            refine iteF ⟨_, rfl, q, _, 1, .int pr.2, rfl, rfl, hq2, atI_nat (j := 1) rfl, _, rfl, p, C, dx, _, _, rfl, s2 _ _ pp, D.cl, D.n2, lkE2 ci d, _, rfl, q, _, 0, .str pr.1, rfl, rfl, hq2, atI_nat (j := 0) rfl, d, _, rfl, DPut.k (k := Sum.inr pr.1) (s2 _ _ dd) (by rw [wk_len]; exact small1000 (by omega)), ?_⟩
            refine ⟨_, acc ++ [pr], rfl, k2.upd (.inl Hd), ?_, ?_, ?_, er'⟩
            · rw [upd_ne (Ne.symm dp)]
              exact s2 _ _ pp
            · rw [upd_same, putK_new _ nov, wk_snoc]
            · rw [List.length_append]
              exact Nat.succ_le_succ la
      · rintro σ Hy ⟨y4, acc, rfl, k, pp, dd, la, er⟩
        rw [← ho, List.drop_length] at er
        have er' : thRun [] os = .inr acc := er
        rw [er'] at eo
        have eo' : estOut (.int ci) os ds = if ds.all (·.isSome) then .inr acc else .inl "debts" := eo
        refine ⟨_, rfl, b, rfl, ⟨_, k.sq hp hb⟩, for_it walk_tup (fun i σ Hz => ∃ (y5 : Option V), σ = [some (.ref p), some (.int ci), some (.ref a), some (.ref b), y4, y5] ∧ Same Hy Hz ∧ ∀ o ∈ ds.take i, o.isSome = true)
          ⟨none, rfl, Same.refl _, fun o h => by cases h⟩ (fun i σ Hz _ ⟨_, _, s, _⟩ => (k.same s).sq hp hb) ?_ ?_⟩
        · rintro i v σ Hz H' hi ⟨y5, rfl, sz, al⟩ ⟨rfl, ev⟩
          obtain ⟨o, eio⟩ : ∃ o, ds[i]? = some o := ⟨_, List.getElem?_eq_getElem (by rw [hd]; exact hi)⟩
          refine ⟨_, rfl, v, o.map dc, rfl, (k.same sz).it hp (hy i v o ev eio), fun H2 s2 => ⟨_, rfl, ?_⟩⟩
          have k2 := k.same (sz.trans s2)
          cases o with
          | none =>
            have na : ds.all (·.isSome) = false := by
              rw [Bool.eq_false_iff]
              intro z
              have := List.all_eq_true.mp z _ (List.mem_of_getElem? eio)
              cases this
            rw [na] at eo'
            exact iteT (mk_read XE.o XE.n fun d H' nd sm e => g1 _ eo' d H' (k2.same sm) (k2.free ((sz.trans s2) _ _ pp) nd) e)
          | some pr =>
            refine iteF ⟨_, rfl, sz.trans s2, fun o' h' => ?_⟩
            rw [List.take_add_one, eio] at h'
            rcases List.mem_append.mp h' with h' | h'
            · exact al o' h'
            · rw [List.mem_singleton.mp h']
              rfl
        · rintro σ Hz ⟨y5, rfl, sz, al⟩
          rw [← hd, List.take_length] at al
          rw [if_pos (List.all_eq_true.mpr al)] at eo'
          have k2 := k.same sz
          refine ⟨_, rfl, b, _, rfl, .inr (k2.sq hp hb), fun l nl => ⟨_, rfl, p, C, dx, _, rfl, (same_upd nl) _ _ (sz _ _ pp), D.cl, D.n3, (by show (2 : Nat) < 1000; decide), ?_⟩⟩
          have pl : l ≠ p := fun e => by rw [e, sz _ _ pp] at nl; cases nl
          have dl : d ≠ l := fun e => by rw [← e, sz _ _ dd] at nl; cases nl
          refine g2 ci acc rfl eo' _ (Kp.upd (k2.same (same_upd nl)) (.inr rfl)) ⟨dx, d, l, ?_, ?_, ?_⟩
          · rw [upd_same]
            exact congrArg some (congrArg (HO.ins C dx) (putE3 ci d l))
          · rw [upd_ne dp, upd_ne dl]
            exact sz _ _ dd
          · rw [upd_ne pl, upd_same]
end
end ZK
namespace G
open PySem L2 PyProof.Rows
section
variable {X : Cx}
theorem op_mulG : OpR X (binaryOp .Mult) (rI IntMulOk fun i j => .int (i * j)) := opI fun _ _ _ _ _ _ _ fits go => mul_int go fits
/-- a divisor of either sign -/
def DivG (_ j : Int) : Prop := j ≠ 0 ∧ j.natAbs.log2 < 9000
theorem op_divG : OpR X (binaryOp .FloorDiv) (rI DivG fun i j => .int (i.fdiv j)) := opI fun _ _ _ _ _ _ _ fits go => floordiv_int fits.1 go (.inl (PyProof.noPylong_of_log2 fits.2))
end
def fv (q : Rat) : List V := [.int q.num, .int (q.den : Int)]
/-! Rat: what the tuples hold -/
/-- the greatest common divisor, as an int -/
def gd (t b : Int) : Int := ((Nat.gcd t.natAbs b.natAbs : Nat) : Int)
/-- what `shared` is -/
def sh (t b : Int) : Int := if b < 0 then -(gd t b) else gd t b
theorem gd_pos {t b : Int} (h : b ≠ 0) : 0 < gd t b := by
  have := Nat.gcd_pos_of_pos_right t.natAbs (Int.natAbs_pos.mpr h)
  unfold gd
  omega
theorem gd_le {t b : Int} (h : b ≠ 0) : (gd t b).natAbs ≤ b.natAbs := by
  have g : Nat.gcd t.natAbs b.natAbs ≤ b.natAbs := Nat.le_of_dvd (Int.natAbs_pos.mpr h) (Nat.gcd_dvd_right _ _)
  unfold gd
  omega
theorem gd_sym (t b : Int) : ((b.gcd t : Nat) : Int) = gd t b := by
  show ((Nat.gcd b.natAbs t.natAbs : Nat) : Int) = _
  rw [Nat.gcd_comm]
  rfl
theorem sh_ne {t b : Int} (h : b ≠ 0) : sh t b ≠ 0 := by
  have := gd_pos (t := t) h
  unfold sh
  split <;> omega
theorem sh_abs {t b : Int} (h : b ≠ 0) : (sh t b).natAbs ≤ b.natAbs := by
  have g := gd_le (t := t) h
  unfold sh
  split <;> omega
theorem den_int {t b : Int} (h : b ≠ 0) : ((Rat.divInt t b).den : Int) = (b.natAbs : Int) / gd t b := by
  rw [Rat.den_divInt, if_neg h, Int.natCast_ediv, gd_sym]
theorem low_num {t b : Int} (h : b ≠ 0) : (if b < 0 then -t else t) / gd t b = (Rat.divInt t b).num := by
  rw [Rat.num_divInt, gd_sym]
  by_cases n : b < 0
  · rw [if_pos n, Int.sign_eq_neg_one_of_neg n, Int.neg_one_mul]
  · rw [if_neg n, Int.sign_eq_one_of_pos (by omega), Int.one_mul]
theorem sh_num {t b : Int} (h : b ≠ 0) : t.fdiv (sh t b) = (Rat.divInt t b).num := by
  rw [← low_num h]
  have g0 := gd_pos (t := t) h
  unfold sh
  by_cases n : b < 0
  · rw [if_pos n, if_pos n]
    have e := Int.neg_fdiv_neg (-t) (gd t b)
    rw [Int.neg_neg] at e
    rw [e, Int.fdiv_eq_ediv_of_nonneg _ (by omega)]
  · rw [if_neg n, if_neg n, Int.fdiv_eq_ediv_of_nonneg _ (by omega)]
theorem sh_den {t b : Int} (h : b ≠ 0) : b.fdiv (sh t b) = ((Rat.divInt t b).den : Int) := by
  rw [den_int h]
  have g0 := gd_pos (t := t) h
  unfold sh
  by_cases n : b < 0
  · rw [if_pos n]
    have e := Int.neg_fdiv_neg (-b) (gd t b)
    rw [Int.neg_neg] at e
    rw [e, Int.fdiv_eq_ediv_of_nonneg _ (by omega), show (b.natAbs : Int) = -b by omega]
  · rw [if_neg n, Int.fdiv_eq_ediv_of_nonneg _ (by omega), show (b.natAbs : Int) = b by omega]
theorem rat_self (q : Rat) : Rat.divInt q.num (q.den : Int) = q := Rat.num_divInt_den q
theorem den_ne (q : Rat) : (q.den : Int) ≠ 0 := by
  have := q.den_nz
  omega
theorem den_pos (q : Rat) : 0 < (q.den : Int) := by
  have := q.den_nz
  omega
theorem q_add (p q : Rat) : Rat.divInt (p.num * q.den + q.num * p.den) ((p.den : Int) * q.den) = p + q := by
  rw [← Rat.divInt_add_divInt _ _ (den_ne p) (den_ne q), rat_self, rat_self]
theorem q_sub (p q : Rat) : Rat.divInt (p.num * q.den - q.num * p.den) ((p.den : Int) * q.den) = p - q := by
  rw [← Rat.divInt_sub_divInt _ _ (den_ne p) (den_ne q), rat_self, rat_self]
theorem q_mul (p q : Rat) : Rat.divInt (p.num * q.num) ((p.den : Int) * q.den) = p * q := by
  rw [← Rat.divInt_mul_divInt, rat_self, rat_self]
theorem q_over (p q : Rat) : Rat.divInt (p.num * q.den) ((p.den : Int) * q.num) = p / q := by
  rw [← Rat.divInt_mul_divInt, rat_self, Rat.div_def, Rat.inv_def]
/-- the sizes of a fraction's two numbers -/
structure FSz (q : Rat) : Prop where
  n : ∃ k, 0 < k ∧ k ≤ 40000000 ∧ Bt k q.num
  d : Bt 4000 (q.den : Int)
theorem FSz.nd {p q : Rat} (h : FSz p) (g : FSz q) : IntMulOk p.num (q.den : Int) := by
  obtain ⟨k, k0, k1, b⟩ := h.n
  exact b.ok g.d k0 (by decide) (by omega)
theorem FSz.dn {p q : Rat} (h : FSz p) (g : FSz q) : IntMulOk (p.den : Int) q.num := by
  obtain ⟨k, k0, k1, b⟩ := g.n
  exact h.d.ok b (by decide) k0 (by omega)
theorem FSz.dd {p q : Rat} (h : FSz p) (g : FSz q) : IntMulOk (p.den : Int) (q.den : Int) := h.d.ok g.d (by decide) (by decide) (by decide)
theorem FSz.bd {p q : Rat} (h : FSz p) (g : FSz q) : Bt 8999 ((p.den : Int) * (q.den : Int)) := (h.d.mul g.d).mono (by decide)
theorem FSz.ne (p q : Rat) : (p.den : Int) * (q.den : Int) ≠ 0 := Int.ne_of_gt (Int.mul_pos (den_pos p) (den_pos q))
/-- what plus, minus, times, over promise -/
def spAr (K : PySem.W.Frag) (C : Rat → Rat → Prop) (g : Rat → Rat → Rat) : Sp := fun vs H Q _ => ∃ (a b : Addr) (p q : Rat), vs = [.ref a, .ref b] ∧ SqT K H a (fv p) ∧ SqT K H b (fv q) ∧ C p q ∧ ∀ x, H x = none → Q (.ref x) (upd H x (.tup (fv (g p q))))
def C2 (p q : Rat) : Prop := FSz p ∧ FSz q ∧ True
def C2m (p q : Rat) : Prop := FSz p ∧ FSz q ∧ IntMulOk p.num q.num
def C2o (p q : Rat) : Prop := FSz p ∧ FSz q ∧ q ≠ 0 ∧ Bt 4000 q.num
theorem ne_over {p q : Rat} (h : q ≠ 0 ∧ Bt 4000 q.num) : (p.den : Int) * q.num ≠ 0 := fun z => by
  rcases Int.mul_eq_zero.mp z with e | e
  · exact den_ne p e
  · exact h.1 (Rat.num_eq_zero.mp e)
theorem den_dvd {t B : Int} (hB : B ≠ 0) : (Rat.divInt t B).den ∣ B.natAbs := by
  rw [Rat.den_divInt, if_neg hB]
  exact Nat.div_dvd_of_dvd (Nat.gcd_dvd_left _ _)
theorem den_le {t B : Int} (hB : B ≠ 0) : (Rat.divInt t B).den ≤ B.natAbs := Nat.le_of_dvd (Int.natAbs_pos.mpr hB) (den_dvd hB)
theorem num_le {t B : Int} (hB : B ≠ 0) : (Rat.divInt t B).num.natAbs ≤ t.natAbs := by
  rw [← low_num hB]
  refine Nat.le_trans (Int.natAbs_ediv_le_natAbs _ _) ?_
  split <;> omega
theorem FSz.div {t B : Int} {k : Nat} (hB : B ≠ 0) (h : Bt k t) (k0 : 0 < k) (k1 : k ≤ 40000000) (g : B.natAbs < 2 ^ 64) : FSz (Rat.divInt t B) :=
  ⟨⟨k, k0, k1, h.le (num_le hB)⟩, Bt.mono (k := 64) ⟨by rw [Int.natAbs_natCast]; exact Nat.lt_of_le_of_lt (den_le hB) g⟩ (by decide)⟩
/-! Euclid's turns -/
theorem half_mod {x y : Nat} (h : y < x) (hy : 0 < y) : y * (x % y) * 2 ≤ x * y := by
  have a : x % y + y ≤ x := by
    have e := Nat.div_add_mod x y
    have d : 1 ≤ x / y := (Nat.one_le_div_iff hy).mpr (Nat.le_of_lt h)
    have := Nat.mul_le_mul_left y d
    omega
  have b : x % y < y := Nat.mod_lt _ hy
  have c : (x % y) * 2 ≤ x := by omega
  calc y * (x % y) * 2 = y * ((x % y) * 2) := Nat.mul_assoc _ _ _
    _ ≤ y * x := Nat.mul_le_mul_left y c
    _ = x * y := Nat.mul_comm _ _
/-- what holds ahead of the i-th turn -/
structure Eu (G : Nat) (i x y : Nat) : Prop where
  g : Nat.gcd x y = G
  b : y < 2 ^ 64
  s : i = 0 ∨ (y < x ∧ x * y * 2 ^ (i - 1) < 2 ^ 128)
theorem Eu.next {G i x y : Nat} (e : Eu G i x y) (hy : 0 < y) : Eu G (i + 1) y (x % y) := by
  have m : x % y < y := Nat.mod_lt _ hy
  refine ⟨?_, Nat.lt_trans m e.b, .inr ⟨m, ?_⟩⟩
  · rw [← e.g, Nat.gcd_comm x y, Nat.gcd_rec y x, Nat.gcd_comm]
  · rw [Nat.add_sub_cancel]
    have one : y * (x % y) < 2 ^ 128 := Nat.lt_of_lt_of_eq (Nat.mul_lt_mul'' e.b (Nat.lt_trans m e.b)) (by rw [← Nat.pow_add])
    rcases e.s with rfl | ⟨lt, sz⟩
    · rw [Nat.pow_zero, Nat.mul_one]
      exact one
    · cases i with
      | zero =>
        rw [Nat.pow_zero, Nat.mul_one]
        exact one
      | succ i =>
        rw [Nat.add_sub_cancel] at sz
        refine Nat.lt_of_le_of_lt ?_ sz
        rw [Nat.pow_succ, Nat.mul_comm (2 ^ i) 2, ← Nat.mul_assoc]
        exact Nat.mul_le_mul_right _ (half_mod lt hy)
theorem Eu.last {G x y : Nat} (e : Eu G 4000 x y) : y = 0 := by
  rcases e.s with z | ⟨lt, sz⟩
  · cases z
  · rcases Nat.eq_zero_or_pos y with h | h
    · exact h
    · have p : 1 ≤ x * y := Nat.mul_pos (by omega) h
      have q : 2 ^ 128 ≤ 2 ^ (4000 - 1) := Nat.pow_le_pow_right (by decide) (by decide)
      have r := Nat.le_trans q (Nat.le_trans (Nat.le_of_eq (Nat.one_mul _).symm) (Nat.mul_le_mul_right _ p))
      exact absurd sz (Nat.not_lt.mpr r)
def spFra : Sp := fun vs H Q _ => ∃ t b : Int, vs = [.int t, .int b] ∧ b ≠ 0 ∧ Bt 8999 b ∧ ∀ p, H p = none → Q (.ref p) (upd H p (.tup (fv (Rat.divInt t b))))
def spEuc : Sp := fun vs H Q _ => ∃ x y : Nat, vs = [.int (x : Int), .int (y : Int)] ∧ y < 2 ^ 64 ∧ Q (.int ((Nat.gcd x y : Nat) : Int)) H
end G
namespace G
open PySem L2 PyProof.Rows PySem.Spec
/-! list(d.values()), sum(d.values()) -/
theorem kv_snd {kvs : List (Key × V)} {us : List (Key × Value)} (r : KV kvs us) : Vals (kvs.map (·.2)) (us.map (·.2)) := by
  unfold KV at r
  induction r with
  | nil => exact .nil
  | cons one _ ih => exact .cons one.2 ih
theorem preSum_list (is : List Int) (f : Nat → Int) : ∀ n, n ≤ is.length → (∀ i, i < n → f i = is.getD i 0) → preSum f n = (is.take n).sum
  | 0, _, _ => rfl
  | n + 1, hn, hf => by
    have ih := preSum_list is f n (by omega) (fun i hi => hf i (by omega))
    show preSum f n + f n = _
    have hg : is[n]? = some is[n] := List.getElem?_eq_getElem (by omega)
    have ht : is.take (n + 1) = is.take n ++ [is[n]] := by
      rw [List.take_add_one, hg]
      rfl
    have hv : f n = is[n] := by
      rw [hf n (by omega), List.getD_eq_getElem?_getD, hg]
      rfl
    rw [ih, hv, ht, List.sum_append]
    simp
def tListVals (td : TE) : TE := fun σ H Q => td σ H fun x H1 => ∃ a kvs, x = V.ref a ∧ H1 a = some (.dK kvs) ∧ ∀ l, H1 l = none → Q (.ref l) (upd H1 l (.lst (kvs.map (·.2))))
def tSumVals (td : TE) : TE := fun σ H Q => td σ H fun x H1 => ∃ a kvs, ∃ is : List Int, x = V.ref a ∧ H1 a = some (.dK kvs) ∧ kvs.map (·.2) = is.map V.int ∧ Q (.int is.sum) H1
section
variable {X : Cx} {o : Expr} {p pos apos mpos : Pos} {td : TE}
theorem pe_listVals (calm : X.calm = true) (hg : Gl X "list") (hm : X.mg "list" = none) (hd : PE X o td) (hb : attributeBase o "values" X.env (eval o X.env) = eval o X.env := by rfl) (hline : (apos.endLine == mpos.line) = true := by rfl)
    (hst : starEach [Expr.Call (.Attribute o "values" apos) [] [] mpos] X.env = (false, eval (.Call (.Attribute o "values" apos) [] [] mpos) X.env) :: starEach [] X.env := by rfl) :
    PE X (.Call (.Name "list" p) [.Call (.Attribute o "values" apos) [] [] mpos] [] pos) (tListVals td) := by
  refine ⟨fun pins s σ H Q I h => ?_⟩
  refine wpAny_Call_Name_kw (ld_blt I hg hm (u := .type "list") (by first | rfl | decide +kernel) ?_ (by first | decide +kernel | decide) (by first | decide +kernel | decide))
  refine PyProof.Rows.callWith_type1 ?_ hst rfl
  rw [hst]
  show wpAny _ _ (spliced ((false, eval (.Call (.Attribute o "values" apos) [] [] mpos) X.env) :: backTo pos (starEach [] X.env))) _ _ s
  refine Calls.spliced_cons ?_
  refine wpAny_Call_method0_late hb hline (thn (hd.run pins s σ H _ I h) fun u s1 ⟨x, H1, I1, rx, d, kvs, ex, hd1, go⟩ => ?_)
  subst ex
  obtain rfl : u = Value.ref d := rx
  obtain ⟨hsz, hsys, us, kv, dof⟩ := dk_of I1.hok hd1
  obtain ⟨ep, dat⟩ := dof.dictAt
  obtain ⟨ob, es, ho, ex, hdat, hko, hpr, hnd⟩ := id dat
  refine ⟨"dict", "dict.values", F.plainAttrs_dict, F.slot_dict_values, F.type_dict_values, ⟨ob, ho, ex.1⟩, fun b e => by cases e; exact ⟨ob, ho, ex.2.1⟩, Calls.callWith_builtin rfl (PySem.evalArgs_none ?_)⟩
  refine call_meetsIn F.slot_dict_values ⟨ob, ho, ex.1⟩ F.entry_dict_values (F.args_dict_values_1 _) (meets_dict_values (mixKind X.prog X.w) d hsys) ⟨⟨us, dof⟩, ?_⟩
  refine Calls.spliced_nil ?_
  have lk : us.length = kvs.length := (Paired.length kv).symm
  refine PySem.W.kdl_call (PySem.W.kdl_values (knd := mixKind X.prog X.w) (r := s1.heap.objs.size) (d := d) (kvs := us) (ep := ep)) (I.ok.hd calm) ⟨⟨_, Heap.get?_push_size _ rfl, rfl, rfl⟩, dat.push _⟩ (by rw [lk]; exact hsz) fun h' tk acc c keep at' items => ?_
  have keep1 : ∀ b u, s1.heap.get? b = some u → h'.get? b = some u := fun b u e => keep b u (Heap.get?_push_of_some _ e)
  have size1 : (s1.heap.push { cls := .type "dict_values", data := .fields #[.ref d] }).objs.size = s1.heap.objs.size + 1 := Heap.size_push _ _
  have hacc : acc.toList = us.map (·.2) := PySem.W.kdl_vals_eq acc.toList (by rw [Array.length_toList]; exact items.1) fun j v e => items.2 j v (by rw [← Array.getElem?_toList]; exact e)
  have frs : H1 (s1.heap.objs.size + 1) = none := I1.hok.fresh (Nat.le_succ _)
  refine ⟨.ref (s1.heap.objs.size + 1), upd H1 (s1.heap.objs.size + 1) (.lst (kvs.map (·.2))), I1.laid keep1 (Nat.le_succ _) ⟨by rw [List.length_map]; exact hsz, acc.toList, c, by rw [hacc]; exact kv_snd kv, ?_⟩, by rw [size1]; rfl, go _ frs⟩
  rw [Array.toArray_toList, ← size1]
  exact at'
theorem pe_sumVals (calm : X.calm = true) (hg : Gl X "sum") (hm : X.mg "sum" = none) (hd : PE X o td) (hb : attributeBase o "values" X.env (eval o X.env) = eval o X.env := by rfl) (hline : (apos.endLine == mpos.line) = true := by rfl)
    (hst : starEach [Expr.Call (.Attribute o "values" apos) [] [] mpos] X.env = [(false, eval (Expr.Call (.Attribute o "values" apos) [] [] mpos) X.env)] := by rfl) :
    PE X (.Call (.Name "sum" p) [.Call (.Attribute o "values" apos) [] [] mpos] [] pos) (tSumVals td) := by
  refine ⟨fun pins s σ H Q I h => ?_⟩
  refine wpAny_Call_Name_kw (ld_blt I hg hm (u := .builtin "sum") (by first | rfl | decide +kernel) ?_ (by first | decide +kernel | decide) (by first | decide +kernel | decide))
  rw [hst]
  refine PySem.callWith_builtin1 (wpAny_Call_method0_late hb hline (thn (hd.run pins s σ H _ I h) fun u s1 ⟨x, H1, I1, rx, d, kvs, is, ex, hd1, hv, go⟩ => ?_))
  subst ex
  obtain rfl : u = Value.ref d := rx
  obtain ⟨hsz, hsys, us, kv, dof⟩ := dk_of I1.hok hd1
  obtain ⟨ep, dat⟩ := dof.dictAt
  obtain ⟨ob, es, ho, ex, hdat, hko, hpr, hnd⟩ := id dat
  refine ⟨"dict", "dict.values", F.plainAttrs_dict, F.slot_dict_values, F.type_dict_values, ⟨ob, ho, ex.1⟩, fun b e => by cases e; exact ⟨ob, ho, ex.2.1⟩, Calls.callWith_builtin rfl (PySem.evalArgs_none ?_)⟩
  refine call_meetsIn F.slot_dict_values ⟨ob, ho, ex.1⟩ F.entry_dict_values (F.args_dict_values_1 _) (meets_dict_values (mixKind X.prog X.w) d hsys) ⟨⟨us, dof⟩, ?_⟩
  have lk : us.length = kvs.length := (Paired.length kv).symm
  have li : kvs.length = is.length := by
    have e1 := congrArg List.length hv
    rwa [List.length_map, List.length_map] at e1
  have size1 : (s1.heap.push { cls := .type "dict_values", data := .fields #[.ref d] }).objs.size = s1.heap.objs.size + 1 := Heap.size_push _ _
  have S := PySem.W.kdl_values (prog := X.prog) (w := X.w) (knd := mixKind X.prog X.w) (r := s1.heap.objs.size) (d := d) (kvs := us) (ep := ep)
  have okV : (s1.heap.push { cls := .type "dict_values", data := .fields #[.ref d] }).IsValuesView s1.heap.objs.size d ∧ (s1.heap.push { cls := .type "dict_values", data := .fields #[.ref d] }).DictAt (mixKind X.prog X.w) d us ep := ⟨⟨_, Heap.get?_push_size _ rfl, rfl, rfl⟩, dat.push _⟩
  refine call_sum_walkAnyS ?_
  obtain ⟨oI, St, hit, W, st⟩ := S.iter X.A.in1 { s1 with heap := s1.heap.push { cls := .type "dict_values", data := .fields #[.ref d] } } (I.ok.hd calm) okV
  have there := (S.there _ okV).2
  refine hit _ _ ⟨_, _, _, _, us.length, _, _, fun i => is.getD i 0, rfl, W.toS, st, fun b hb => ?_, fun i v hkk => ?_, fun s' t' mv => ?_⟩
  · show b < ((s1.heap.push _).push oI).objs.size
    rw [Heap.size_push]
    rcases List.mem_cons.mp hb with e | hb
    · rw [e]
      exact Nat.lt_succ_self _
    · rw [List.mem_singleton.mp hb]
      exact Nat.lt_succ_of_lt there
  · obtain ⟨k, hk⟩ := hkk
    have hx : (us.map (·.2))[i]? = some v := by
      rw [List.getElem?_map, hk]
      rfl
    have rel := kv_snd kv
    rw [hv] at rel
    have hil : i < is.length := by
      have e2 := (List.getElem?_eq_some_iff.mp hk).1
      omega
    have hy : (is.map V.int)[i]? = some (V.int is[i]) := by
      rw [List.getElem?_map, List.getElem?_eq_getElem hil]
      rfl
    obtain ⟨u, eu, ru⟩ := rel.get hy
    rw [hx] at eu
    cases eu
    obtain ⟨t, et⟩ := ru
    refine ⟨t, ?_⟩
    show v = Value.int (is.getD i 0) t
    rw [et, List.getD_eq_getElem?_getD, List.getElem?_eq_getElem hil]
    rfl
  · have keep1 : ∀ b u, s1.heap.get? b = some u → s'.heap.get? b = some u := fun b u e => mv.heap b u (fun hI => by
      have e1 : b = (s1.heap.push { cls := .type "dict_values", data := .fields #[.ref d] }).objs.size := List.mem_singleton.mp hI
      have e2 : b < s1.heap.objs.size := Heap.lt_size e
      rw [size1] at e1
      exact absurd e2 (by rw [e1]; exact Nat.not_lt.mpr (Nat.le_succ _))) (Heap.get?_push_of_some _ (Heap.get?_push_of_some _ e))
    rw [Moved.eq_with mv]
    have es : preSum (fun i => is.getD i 0) us.length = is.sum := by
      rw [preSum_list is _ us.length (by omega) (fun _ _ => rfl), List.take_of_length_le (by omega)]
    refine ⟨.int is.sum, H1, I1.kept keep1, ⟨t', ?_⟩, go⟩
    rw [es]
end
end G
namespace ZK
open PySem L2 PyProof.Rows G
/-- new tuples stand one by one -/
def TupsAt (H : Hp) (qs : List Addr) (cs : List (List V)) : Prop := qs.length = cs.length ∧ ∀ (i : Nat) (q : Addr) (c : List V), qs[i]? = some q → cs[i]? = some c → H q = some (.tup c)
theorem TupsAt.nil {H : Hp} : TupsAt H [] [] := ⟨rfl, fun i q c h => by cases h⟩
theorem TupsAt.same {H H' : Hp} {qs : List Addr} {cs : List (List V)} (h : TupsAt H qs cs) (s : Same H H') : TupsAt H' qs cs := ⟨h.1, fun i q c a b => s _ _ (h.2 i q c a b)⟩
theorem TupsAt.but {H H' : Hp} {a : Addr} {xs : List V} {qs : List Addr} {cs : List (List V)} (h : TupsAt H qs cs) (ha : H a = some (.lst xs)) (s : ∀ b o, H b = some o → b ≠ a → H' b = some o) : TupsAt H' qs cs :=
  ⟨h.1, fun i q c x y => s _ _ (h.2 i q c x y) (ne_of (h.2 i q c x y) ha (by intro z; cases z))⟩
theorem TupsAt.snoc {H : Hp} {qs : List Addr} {cs : List (List V)} {q : Addr} {c : List V} (h : TupsAt H qs cs) (g : H q = some (.tup c)) : TupsAt H (qs ++ [q]) (cs ++ [c]) := by
  refine ⟨by rw [List.length_append, List.length_append, h.1]; rfl, fun i p d x y => ?_⟩
  rcases Nat.lt_or_ge i qs.length with lt | ge
  · rw [List.getElem?_append_left lt] at x
    rw [List.getElem?_append_left (by have := h.1; omega)] at y
    exact h.2 i p d x y
  · rw [List.getElem?_append_right ge] at x
    rw [List.getElem?_append_right (by have := h.1; omega), ← h.1] at y
    cases k : i - qs.length with
    | zero =>
      rw [k] at x y
      obtain rfl := Option.some.inj x
      obtain rfl := Option.some.inj y
      exact g
    | succ m => rw [k] at x; cases x
/-- what a thing is worth -/
def wOf (ws : List (Str × Int)) (n : Str) : Int := ((ws.find? fun p => decide (p.1 = n)).map (·.2)).getD 0
theorem wk_get {ws : List (Str × Int)} {n : Str} (h : n ∈ ws.map (·.1)) : valV (wk ws) (Sum.inr n : Key) = some (.int (wOf ws n)) := by
  have a := wk_some ws n
  rw [decide_eq_true h, wk_val] at a
  rw [wk_val]
  unfold wOf
  cases e : ws.find? fun p => decide (p.1 = n) with
  | none => rw [e] at a; cases a
  | some p => rfl
theorem wk_keys (ws : List (Str × Int)) : (wk ws).map (·.1) = (ws.map (·.1)).map Sum.inr := by
  unfold wk
  rw [List.map_map, List.map_map]
  rfl
theorem wk_vals (ws : List (Str × Int)) : (wk ws).map (·.2) = (ws.map (·.2)).map V.int := by
  unfold wk
  rw [List.map_map, List.map_map]
  rfl
theorem lkE (c : Int) (d l : Addr) : (efl c d l).lookup ("_worths" : Str) = some (.ref d) := by kernel_rfl
theorem lkD (c : Int) (d l : Addr) : (efl c d l).lookup ("_debts" : Str) = some (.ref l) := by kernel_rfl
theorem lkC (c : Int) (d l : Addr) : (efl c d l).lookup ("coins" : Str) = some (.int c) := by kernel_rfl
section
variable {P : Program} {w : World} {K : PySem.W.Frag} {mg : Str → Option Value} {base : Heap}
def spHas (C : Addr) : Sp := fun vs H Q _ => ∃ (p : Addr) (c : Int) (ws : List (Str × Int)) (ys : List V) (n : Str), vs = [.ref p, .str n] ∧ EstAt C H p c ws ys ∧ Q (.bl (decide (n ∈ ws.map (·.1)))) H
def spWor (C : Addr) : Sp := fun vs H Q _ => ∃ (p : Addr) (c : Int) (ws : List (Str × Int)) (ys : List V) (n : Str), vs = [.ref p, .str n] ∧ EstAt C H p c ws ys ∧ n ∈ ws.map (·.1) ∧ Q (.int (wOf ws n)) H
def spThs (C : Addr) : Sp := fun vs H Q _ => ∃ (p : Addr) (c : Int) (ws : List (Str × Int)) (ys : List V), vs = [.ref p] ∧ EstAt C H p c ws ys ∧ ws.length ≤ 900 ∧ ∀ l H' qs, Same H H' → H l = none → H' l = some (.lst (qs.map V.ref)) → TupsAt H' qs ((srt (ws.map (·.1))).map fun n => tc (n, wOf ws n)) → Q (.ref l) H'
def spDbs (C : Addr) : Sp := fun vs H Q _ => ∃ (p : Addr) (c : Int) (ws : List (Str × Int)) (ys : List V), vs = [.ref p] ∧ EstAt C H p c ws ys ∧ ∀ l, H l = none → Q (.ref l) (upd H l (.lst ys))
def spAll (C : Addr) : Sp := fun vs H Q _ => ∃ (p : Addr) (c : Int) (ws : List (Str × Int)) (ys : List V), vs = [.ref p] ∧ EstAt C H p c ws ys ∧ Q (.int (c + (ws.map (·.2)).sum)) H
abbrev nHas : List Str := ["self", "thing"]
theorem scHas : FnScope nHas ["self", "thing"] (defScope sHas) := ⟨rfl, rfl, rfl, by decide +kernel, rfl, by decide +kernel, by decide +kernel⟩
theorem ok_has {f : Addr} {fd : FuncData} (F : Fun K "has" "Estate.has" sHas f fd) {C : Addr} (D : ET K C) : FnOk P w K mg base CX0 1 f fd ["self", "thing"] (spHas C) := by
  refine F.ok scHas (fun vs H Q E h => ?_) (fun cdv A outer s H vs Q E hr h => ?_)
  · obtain ⟨p, c, ws, ys, n, rfl, _⟩ := h
    rfl
  · obtain ⟨p, c, ws, ys, n, rfl, hE, go⟩ := h
    have hu := hu_of hr
    obtain ⟨dx, d, l, hp, hd, hl⟩ := hE.ex
    refine ⟨_, (pss_one (ps_ret (pe_cmp (pc_din hu (pv 1) (pe_fld (pv 0) rfl)) rfl))), ?_⟩
    refine ⟨_, rfl, _, rfl, p, C, dx, _, _, rfl, hp, D.cl, D.n2, lkE c d l, d, _, rfl, DGet.k (k := Sum.inr n) hd, ?_⟩
    rw [wk_some]
    exact go
abbrev nWor : List Str := ["self", "thing"]
theorem scWor : FnScope nWor ["self", "thing"] (defScope sWor) := ⟨rfl, rfl, rfl, by decide +kernel, rfl, by decide +kernel, by decide +kernel⟩
theorem ok_worth {f : Addr} {fd : FuncData} (F : Fun K "worth" "Estate.worth" sWor f fd) {C : Addr} (D : ET K C) : FnOk P w K mg base CX0 1 f fd ["self", "thing"] (spWor C) := by
  refine F.ok scWor (fun vs H Q E h => ?_) (fun cdv A outer s H vs Q E hr h => ?_)
  · obtain ⟨p, c, ws, ys, n, rfl, _⟩ := h
    rfl
  · obtain ⟨p, c, ws, ys, n, rfl, hE, hn, go⟩ := h
    have hu := hu_of hr
    obtain ⟨dx, d, l, hp, hd, hl⟩ := hE.ex
    refine ⟨_, (pss_one (ps_ret (pe_dget hu (pe_fld (pv 0) rfl) (pv 1) (fun _ _ => rfl)))), ?_⟩
    exact ⟨_, rfl, p, C, dx, _, _, rfl, hp, D.cl, D.n2, lkE c d l, _, rfl, d, _, rfl, (by have := DGet.k (k := (Sum.inr n : Key)) hd; rw [wk_get hn] at this; exact this), go⟩
abbrev nDbs : List Str := ["self"]
theorem scDbs : FnScope nDbs ["self"] (defScope sDbs) := ⟨rfl, rfl, rfl, by decide +kernel, rfl, by decide +kernel, by decide +kernel⟩
theorem ok_debts {f : Addr} {fd : FuncData} (F : Fun K "debts" "Estate.debts" sDbs f fd) {C : Addr} (D : ET K C) (T : Txt mg) : FnOk P w K mg base CX0 1 f fd ["self"] (spDbs C) := by
  refine F.ok scDbs (fun vs H Q E h => ?_) (fun cdv A outer s H vs Q E hr h => ?_)
  · obtain ⟨p, c, ws, ys, rfl, _⟩ := h
    rfl
  · obtain ⟨p, c, ws, ys, rfl, hE, go⟩ := h
    have hu := hu_of hr
    obtain ⟨dx, d, l, hp, hd, hl⟩ := hE.ex
    refine ⟨_, (pss_one (ps_ret (pe_callTy call_list_of (by rfl) T.list (by decide +kernel) (pa_cons (pe_fld (pv 0) rfl) pa_nil)))), ?_⟩
    exact ⟨_, rfl, p, C, dx, _, _, rfl, hp, D.cl, D.n3, lkD c d l, l, _, rfl, .inl (SqL.of hl), go⟩
abbrev nThs : List Str := ["self", "thing"]
theorem scThs : FnScope nThs ["self"] (defScope sThs) := ⟨rfl, rfl, rfl, by decide +kernel, rfl, by decide +kernel, by decide +kernel⟩
theorem ok_things {f : Addr} {fd : FuncData} (F : Fun K "things" "Estate.things" sThs f fd) {C : Addr} (D : ET K C) (T : Txt mg) : FnOk P w K mg base CX0 1 f fd ["self"] (spThs C) := by
  refine F.ok scThs (fun vs H Q E h => ?_) (fun cdv A outer s H vs Q E hr h => ?_)
  · obtain ⟨p, c, ws, ys, rfl, _⟩ := h
    rfl
  · obtain ⟨p, c, ws, ys, rfl, hE, hz, go⟩ := h
    have hu := hu_of hr
    obtain ⟨dx, d, l, hp, hd, hl⟩ := hE.ex
    refine ⟨_, (pss_one (ps_ret (pe_lc (own := [("thing", 1)]) (g := gName 1) (tt := tYes) rfl scThs.nd (pi_list (pe_callB (cr_sortTxD rfl) (by rfl) T.sorted (by decide +kernel) (pa_cons (pe_fld (pv 0) rfl) pa_nil))) (blkOk_by (N := nThs) (sc := defScope sThs) (by decide +kernel)) (fun _ _ _ _ _ => (pg_name (i := 1) scThs.nd rfl (.inl rfl) (.inr rfl))) (fun _ _ _ _ _ => pts_nil) (fun _ _ _ _ _ => (pe_tup (pa_cons (pv 1) (pa_cons (pe_dget hu (show PE _ _ (tFld K _ _) from pe_fld (pv 0) rfl) (pv 1) (fun _ _ => rfl)) pa_nil))))))), ?_⟩
    refine ⟨_, rfl, p, C, dx, _, _, rfl, hp, D.cl, D.n2, lkE c d l, d, wk ws, ws.map (·.1), rfl, .inl hd, wk_keys ws, fun sl nsl => ⟨sl, rfl, ⟨_, SqL.of upd_same⟩, fun Dn hD => ?_⟩⟩
    have s0 := same_upd nsl (o := .lst ((srt (ws.map (·.1))).map V.str))
    have slD : sl ≠ Dn := ne_of_none (H := upd H sl (.lst ((srt (ws.map (·.1))).map V.str))) upd_same hD
    have len0 : (srt (ws.map (·.1))).length = ws.length := by rw [srt_len, List.length_map]
    refine lc_it (walk_list (xs := (srt (ws.map (·.1))).map V.str)) (fun i Hy => Same H Hy ∧ Hy sl = some (.lst ((srt (ws.map (·.1))).map V.str)) ∧ ∃ qs : List Addr, Hy Dn = some (.lst (qs.map V.ref)) ∧ TupsAt Hy qs (((srt (ws.map (·.1))).take i).map fun n => tc (n, wOf ws n))) ⟨s0.trans (same_upd hD), (by rw [upd_ne (ne_of_none upd_same hD), upd_same]), [], upd_same, .nil⟩ (fun i Hy _ hy => SqL.of hy.2.1) ?_ ?_
    · rintro i v Hy H' hi ⟨k1, ks, qs, k2, k3⟩ ⟨rfl, ev⟩
      rw [List.getElem?_map] at ev
      obtain ⟨n, en, rfl⟩ := Option.map_eq_some_iff.mp ev
      have hn : n ∈ ws.map (·.1) := srt_mem.mp (List.mem_of_getElem? en)
      refine ⟨rfl, _, rfl, _, rfl, p, C, dx, _, _, rfl, k1 _ _ hp, D.cl, D.n2, lkE c d l, _, rfl, d, _, rfl, (by have := DGet.k (k := (Sum.inr n : Key)) (k1 _ _ hd); rw [wk_get hn] at this; exact this), (by show 2 ≤ sizeLine; decide), fun T1 nT => ⟨_, (same_upd nT) _ _ k2, ?_, ?_, ?_, qs ++ [T1], ?_, ?_⟩⟩
      · rw [List.length_map, k3.1, List.length_map, List.length_take]
        exact small1000 (by omega)
      · intro b o hb
        rw [upd_ne (ne_of_none hb (s0.free hD))]
        exact (same_upd nT) _ _ (k1 b o hb)
      · rw [upd_ne slD]
        exact (same_upd nT) _ _ ks
      · rw [upd_same, List.map_append]
        rfl
      · rw [List.take_add_one, en, List.map_append]
        refine TupsAt.but (a := Dn) (xs := qs.map V.ref) (H := upd H' T1 (.tup (tc (n, wOf ws n)))) ?_ ((same_upd nT) _ _ k2) (fun b o hb ne => by rw [upd_ne ne]; exact hb)
        exact (k3.same (same_upd nT)).snoc upd_same
    · rintro Hy ⟨k1, ks, qs, k2, k3⟩
      rw [List.length_map, List.take_length] at k3
      exact go Dn Hy qs k1 (s0.free hD) k2 k3
end
end ZK
namespace ZK
open PySem L2 PyProof.Rows G
def modeB (v : V) : Bool := decide (v = .str "stocks") || decide (v = .str "heads")
def rulOut (days mode rows : V) (o : Option (List (Option (List V)))) : Option Str :=
  if uptV days 1000 = false then some "days" else if modeB mode = false then some "mode" else if uptV rows 3 = false then some "rows" else
    match rows with
    | .int r => if partsB o (r + 1) = false then some "spouse" else none
    | _ => none
def rfl5 (d : Int) (m : Str) (r : Int) (s p : V) : List (Str × V) := [("days", .int d), ("mode", .str m), ("rows", .int r), ("steps_in", s), ("_spouse", p)]
structure BT (K : PySem.W.Frag) (C : Addr) : Prop where
  cl : Cls K C
  n1 : NoAttr K C "days"
  n2 : NoAttr K C "mode"
  n3 : NoAttr K C "rows"
  n4 : NoAttr K C "steps_in"
  n5 : NoAttr K C "_spouse"
theorem put5 (d : Int) (m : Str) (r : Int) (s p : V) : putF "_spouse" p (putF "steps_in" s (putF "rows" (.int r) (putF "mode" (.str m) (putF "days" (.int d) [])))) = rfl5 d m r s p := by kernel_rfl
theorem lk5 (d : Int) (m : Str) (r : Int) (s p : V) : (rfl5 d m r s p).lookup ("_spouse" : Str) = some p := by kernel_rfl
theorem lkd (d : Int) (m : Str) (r : Int) (s p : V) : (rfl5 d m r s p).lookup ("days" : Str) = some (.int d) := by kernel_rfl
theorem lkm (d : Int) (m : Str) (r : Int) (s p : V) : (rfl5 d m r s p).lookup ("mode" : Str) = some (.str m) := by kernel_rfl
theorem lkr (d : Int) (m : Str) (r : Int) (s p : V) : (rfl5 d m r s p).lookup ("rows" : Str) = some (.int r) := by kernel_rfl
theorem lks (d : Int) (m : Str) (r : Int) (s p : V) : (rfl5 d m r s p).lookup ("steps_in" : Str) = some s := by kernel_rfl
theorem noSp (d : Int) (m : Str) (r : Int) (s p : V) : (rfl5 d m r s p).lookup ("spouse_part" : Str) = none := by kernel_rfl
theorem in2s (w a b : Str) : inV (.str w) [.str a, .str b] = (decide (V.str w = .str a) || decide (V.str w = .str b)) := by
  show ((a == w) || ((b == w) || false)) = _
  rw [Bool.or_false, Bool.eq_iff_iff, Bool.or_eq_true, Bool.or_eq_true, decide_eq_true_eq, decide_eq_true_eq, beq_iff_eq, beq_iff_eq]
  exact ⟨fun h => h.imp (fun z => congrArg V.str z.symm) fun z => congrArg V.str z.symm, fun h => h.imp (fun z => (V.str.inj z).symm) fun z => (V.str.inj z).symm⟩
/-- pairs of ints in a tuple -/
def PrsAt (K : PySem.W.Frag) (H : Hp) (a : Addr) (ps : List (Int × Int)) : Prop := ∃ qs : List Addr, SqT K H a (qs.map V.ref) ∧ qs.length = ps.length ∧ ∀ (i : Nat) (q : Addr) (p : Int × Int), qs[i]? = some q → ps[i]? = some p → SqT K H q [.int p.1, .int p.2]
theorem PrsAt.same {K : PySem.W.Frag} {H H' : Hp} {a : Addr} {ps : List (Int × Int)} (h : PrsAt K H a ps) (s : Same H H') : PrsAt K H' a ps := by
  obtain ⟨qs, h1, h2, h3⟩ := h
  exact ⟨qs, sameT s h1, h2, fun i q p a b => sameT s (h3 i q p a b)⟩
section
variable {P : Program} {w : World} {K : PySem.W.Frag} {mg : Str → Option Value} {base : Heap}
def spBokI (K : PySem.W.Frag) (C CR : Addr) : Sp := fun vs H Q E => ∃ (p dx : Addr) (days mode sv rows steps : V) (o : Option (List (Option (List V)))), vs = [.ref p, days, mode, sv, rows, steps] ∧ flatV days = true ∧ OkV mode ∧ flatV rows = true ∧ LsIt K partV H sv o ∧ H p = some (.ins C dx []) ∧
  (∀ why, rulOut days mode rows o = some why → ∀ d H', Same H H' → H d = none → H' d = some (.xd [("why", .str why)]) → E (.ref CR) (some d) H') ∧
  (∀ (i : Int) (z : Str) (r : Int), days = .int i → mode = .str z → rows = .int r → rulOut days mode rows o = none → ∀ H', Kp p H H' → H' p = some (.ins C dx (rfl5 i z r steps sv)) → Q .non H')
def spSpp (K : PySem.W.Frag) (C : Addr) : Sp := fun vs H Q _ => ∃ (p dx a : Addr) (d : Int) (m : Str) (r : Int) (s : V) (ps : List (Int × Int)) (i : Nat) (x y : Int), vs = [.ref p, .int (i : Int)] ∧ H p = some (.ins C dx (rfl5 d m r s (.ref a))) ∧ PrsAt K H a ps ∧ ps[i]? = some (x, y) ∧ 0 < y ∧ y ≤ 1000 ∧ 0 ≤ x ∧ x ≤ 1000 ∧ ∀ t, H t = none → Q (.ref t) (upd H t (.tup (fv (Rat.divInt x y))))
def spOtp (K : PySem.W.Frag) (C : Addr) : Sp := fun vs H Q _ => ∃ (p dx a : Addr) (d : Int) (m : Str) (r : Int) (s : V) (ps : List (Int × Int)) (i : Nat) (x y : Int), vs = [.ref p, .int (i : Int)] ∧ H p = some (.ins C dx (rfl5 d m r s (.ref a))) ∧ PrsAt K H a ps ∧ ps[i]? = some (x, y) ∧ 0 < y ∧ y ≤ 1000 ∧ 0 ≤ x ∧ x ≤ 1000 ∧ ∀ t H', Same H H' → H t = none → H' t = some (.tup (fv (1 - Rat.divInt x y))) → Q (.ref t) H'
abbrev nBokI : List Str := ["self", "days", "mode", "spouse", "rows", "steps_in"]
theorem scBokI : FnScope nBokI ["self", "days", "mode", "spouse", "rows", "steps_in"] (defScope sBokI) := ⟨rfl, rfl, rfl, by decide +kernel, rfl, by decide +kernel, by decide +kernel⟩
theorem ok_rulI {f : Addr} {fd : FuncData} {dvs : List V} {kws : List (Str × V)} (F : FunD K "__init__" "Rules.__init__" (defArgs sBokI) (defBody sBokI) (defScope sBokI) dvs kws f fd) {C CR : Addr} (T : Txt mg) (D : BT K C) (XR : XT P w K mg base "BadRules" "why" CR) {aM : Addr} (mMo : mg "MODES" = some (.ref aM)) (hM : ∀ H, SqT K H aM [.str "stocks", .str "heads"]) (TU : Has P w K mg base CX0 "_is_up_to" ["value", "most"] 2 spUpt) (TR : Has P w K mg base CX0 "_are_parts" ["value", "many"] 4 (spPas K)) : FnOk P w K mg base (L2.CX P w) 5 f fd ["self", "days", "mode", "spouse", "rows", "steps_in"] (spBokI K C CR) := by
  obtain ⟨t1, mMd⟩ := T.mdays
  obtain ⟨t2, mMr⟩ := T.mrows
  obtain ⟨fU, fdU, mU, kU, bU, GU⟩ := TU.ok
  obtain ⟨fR, fdR, mR, kR, bR, GR⟩ := TR.ok
  obtain ⟨fE, fdE, iE, tE, bE, GE⟩ := XR.i
  refine FunD.ok F scBokI (fun vs H Q E h => ?_) (fun cdv A outer s H vs Q E hr h => ?_)
  · obtain ⟨p, dx, days, mode, sv, rows, steps, o, rfl, _⟩ := h
    rfl
  · obtain ⟨p, dx, days, mode, sv, rows, steps, o, rfl, hd, hm, hw, hl, hp, g1, g2⟩ := h
    refine ⟨_, (pss_cons (ps_if (pt_not (pt_val (pe_call GU (hr.mono (by decide)) (by rfl) mU kU bU .nil pass0 (pa_cons (pv 1) (pa_cons (pe_glob (v := .int 1000) (by rfl) mMd ⟨_, rfl⟩) pa_nil))))) (pss_one (ps_raise rfl (takes_of rfl rfl rfl rfl) (pmk_oex XR.o iE tE GE (hr.mono (by decide)) bE .nil pass0 (by rfl) XR.g (pa_cons pe_str pa_nil)))) pss_nil)
      (pss_cons (ps_if (PW.pt (pw_or (pt_not (pt_val (pe_callB call_isi (by rfl) T.isi (by decide +kernel) (pa_cons (pv 2) (pa_cons (pe_bltn (v := .ty "str") (u := .type "str") (by rfl) T.str (by decide +kernel) rfl) pa_nil))))) (pw_or1 (pt_cmpR op_notIn_seq (pv 2) (pe_glob (v := .ref aM) (by rfl) mMo rfl) (by rfl))))) (pss_one (ps_raise rfl (takes_of rfl rfl rfl rfl) (pmk_oex XR.o iE tE GE (hr.mono (by decide)) bE .nil pass0 (by rfl) XR.g (pa_cons pe_str pa_nil)))) pss_nil)
      (pss_cons (ps_if (pt_not (pt_val (pe_call GU (hr.mono (by decide)) (by rfl) mU kU bU .nil pass0 (pa_cons (pv 4) (pa_cons (pe_glob (v := .int 3) (by rfl) mMr ⟨_, rfl⟩) pa_nil))))) (pss_one (ps_raise rfl (takes_of rfl rfl rfl rfl) (pmk_oex XR.o iE tE GE (hr.mono (by decide)) bE .nil pass0 (by rfl) XR.g (pa_cons pe_str pa_nil)))) pss_nil)
      (pss_cons (ps_if (pt_not (pt_val (pe_call GR (hr.mono (by decide)) (by rfl) mR kR bR .nil pass0 (pa_cons (pv 3) (pa_cons (pe_op op_add (pv 4) pe_int) pa_nil))))) (pss_one (ps_raise rfl (takes_of rfl rfl rfl rfl) (pmk_oex XR.o iE tE GE (hr.mono (by decide)) bE .nil pass0 (by rfl) XR.g (pa_cons pe_str pa_nil)))) pss_nil)
      (pss_cons (ps_fld (pv 0) (pv 1) rfl)
      (pss_cons (ps_fld (pv 0) (pv 2) rfl)
      (pss_cons (ps_fld (pv 0) (pv 4) rfl)
      (pss_cons (ps_fld (pv 0) (pv 5) rfl)
      (pss_one (ps_fld (pv 0) (pv 3) rfl)))))))))), ?_⟩
    have bad {H1 : Hp} (s : Same H H1) (why : Str) (e : rulOut days mode rows o = some why) : ∀ d H', H1 d = none → Same H1 H' → H' d = some (.xd [("why", .str why)]) → E (.ref CR) (some d) H' := fun d H' nd sm e' => g1 why e d H' (s.trans sm) (s.free nd) e'
    refine ⟨_, rfl, days, 1000, rfl, hd, _, rfl, ?_⟩
    cases e1 : uptV days 1000 with
    | false => exact iteT (mk_read XR.o XR.n (bad (Same.refl _) _ (if_pos e1)))
    | true =>
      have o1 : rulOut days mode rows o = _ := if_neg (by rw [e1]; decide)
      refine iteF ⟨_, rfl, mode, .ty "str", _, _, _, rfl, .ty _, ty_flat hm.fl, kit_str hm.fl, _, rfl, ?_⟩
      cases e2 : isStr mode with
      | false =>
        have m2 : modeB mode = false := by
          cases mode <;> first | rfl | cases e2
        exact iteT (mk_read XR.o XR.n (bad (Same.refl _) _ (o1.trans (if_pos m2))))
      | true =>
        obtain ⟨z, rfl⟩ : ∃ z, mode = .str z := by
          cases mode <;> first | exact ⟨_, rfl⟩ | cases e2
        refine iteF ⟨_, rfl, aM, _, rfl, .inr (hM _), rfl, rfl, _, rfl, ?_⟩
        rw [show (if true = true then !inV (V.str z) [V.str "stocks", V.str "heads"] else inV (V.str z) [V.str "stocks", V.str "heads"]) = !inV (V.str z) [V.str "stocks", V.str "heads"] from if_pos rfl, in2s]
        have em : (decide (V.str z = .str "stocks") || decide (V.str z = .str "heads")) = modeB (.str z) := rfl
        rw [em]
        cases e3 : modeB (.str z) with
        | false => exact iteT (mk_read XR.o XR.n (bad (Same.refl _) _ (o1.trans (if_pos e3))))
        | true =>
          have o2 := o1.trans (if_neg (by rw [e3]; decide))
          refine iteF ⟨_, rfl, rows, 3, rfl, hw, _, rfl, ?_⟩
          cases e4 : uptV rows 3 with
          | false => exact iteT (mk_read XR.o XR.n (bad (Same.refl _) _ (o2.trans (if_pos e4))))
          | true =>
            have o3 := o2.trans (if_neg (by rw [e4]; decide))
            obtain ⟨r, rfl⟩ : ∃ r, rows = .int r := by
              cases rows <;> first | exact ⟨_, rfl⟩ | cases e4
            obtain ⟨i, rfl⟩ : ∃ i, days = .int i := by
              cases days <;> first | exact ⟨_, rfl⟩ | cases e1
            refine iteF ⟨_, rfl, _, rfl, _, _, rfl, rfl, sv, r + 1, o, rfl, hl, fun H1 hS => ⟨_, rfl, ?_⟩⟩
            have o3' : rulOut (.int i) (.str z) (.int r) o = if partsB o (r + 1) = false then some ("spouse" : Str) else none := o3
            cases e5 : partsB o (r + 1) with
            | false =>
              rw [if_pos e5] at o3'
              exact iteT (mk_read XR.o XR.n (bad hS _ o3'))
            | true =>
              rw [if_neg (by rw [e5]; decide)] at o3'
              refine iteF ⟨_, rfl, _, rfl, p, C, dx, _, rfl, hS _ _ hp, D.cl, D.n1, (by decide), _, rfl, _, rfl, p, C, dx, _, rfl, upd_same, D.cl, D.n2, (Nat.lt_of_le_of_lt (show _ ≤ 1 from Nat.le_trans (putF_len _ _ _) (Nat.succ_le_succ (Nat.le_of_eq List.length_nil))) (by decide)), _, rfl, _, rfl, p, C, dx, _, rfl, upd_same, D.cl, D.n3, (Nat.lt_of_le_of_lt (show _ ≤ 2 from Nat.le_trans (putF_len _ _ _) (Nat.succ_le_succ (Nat.le_trans (putF_len _ _ _) (Nat.succ_le_succ (Nat.le_of_eq List.length_nil))))) (by decide)), _, rfl, _, rfl, p, C, dx, _, rfl, upd_same, D.cl, D.n4, (Nat.lt_of_le_of_lt (show _ ≤ 3 from Nat.le_trans (putF_len _ _ _) (Nat.succ_le_succ (Nat.le_trans (putF_len _ _ _) (Nat.succ_le_succ (Nat.le_trans (putF_len _ _ _) (Nat.succ_le_succ (Nat.le_of_eq List.length_nil))))))) (by decide)), _, rfl, _, rfl, p, C, dx, _, rfl, upd_same, D.cl, D.n5, (Nat.lt_of_le_of_lt (show _ ≤ 4 from Nat.le_trans (putF_len _ _ _) (Nat.succ_le_succ (Nat.le_trans (putF_len _ _ _) (Nat.succ_le_succ (Nat.le_trans (putF_len _ _ _) (Nat.succ_le_succ (Nat.le_trans (putF_len _ _ _) (Nat.succ_le_succ (Nat.le_of_eq List.length_nil))))))))) (by decide)), ?_⟩
              refine g2 i z r rfl rfl rfl o3' _ (Kp.upd (Kp.upd (Kp.upd (Kp.upd (Kp.upd (fun b o h _ => hS b o h) (.inr rfl)) (.inr rfl)) (.inr rfl)) (.inr rfl)) (.inr rfl)) ?_
              rw [upd_same]
              exact congrArg some (congrArg (HO.ins C dx) (put5 i z r steps sv))
end
end ZK
namespace ZK
open PySem L2 PyProof.Rows PySem.Spec G
def But (a : Addr) (H H' : Hp) : Prop := ∀ b o, H b = some o → b ≠ a → H' b = some o
theorem But.of {a : Addr} {H H' : Hp} (s : Same H H') : But a H H' := fun b o h _ => s b o h
section
variable {P : Program} {w : World} {K : PySem.W.Frag} {mg : Str → Option Value} {base : Heap}
/-! _law_cell -/
theorem scCel : FnScope ["script", "k"] ["script", "k"] (defScope sCel) := ⟨rfl, rfl, rfl, by decide +kernel, rfl, by decide +kernel, by decide +kernel⟩
def spCel (K : PySem.W.Frag) : Sp := fun vs H Q _ => ∃ (a : Addr) (ns : List Int) (k : Int), vs = [.ref a, .int k] ∧ SqL K H a (ns.map V.int) ∧ 0 ≤ k ∧ Q (.int (cell ns k)) H
theorem ok_cell {f : Addr} {fd : FuncData} (F : Fun K "_law_cell" "_law_cell" sCel f fd) (mgLen : mg "len" = none) (mgInt : mg "int" = none) : FnOk P w K mg base CX0 1 f fd ["script", "k"] (spCel K) := by
  refine F.ok scCel (fun vs H Q E h => ?_) (fun cdv A outer s H vs Q E hr h => ?_)
  · obtain ⟨a, ns, k, rfl, _⟩ := h
    rfl
  · obtain ⟨a, ns, k, rfl, hS, hk, go⟩ := h
    refine ⟨_, pss_cons (ps_if (pt_cmpR op_lt (pv 1) (pe_callB call_len_seq (by rfl) mgLen PySem.boot_len (pa_cons (pv 0) pa_nil)) (nomark _))
      (pss_one (ps_ret (pe_callTy call_int1 (by rfl) mgInt (by decide +kernel) (pa_cons (pe_ix ix_list (pv 0) (pv 1) (fun _ _ => rfl)) pa_nil)))) pss_nil) (pss_one (ps_ret pe_int)), ?_⟩
    obtain ⟨j, rfl⟩ : ∃ j : Nat, k = (j : Int) := ⟨k.toNat, by omega⟩
    refine ⟨_, rfl, _, rfl, a, ns.map V.int, rfl, .inl hS, _, _, rfl, rfl, _, rfl, ite2 (fun e => ?_) (fun e => ?_)⟩
    · have e1 : (j : Int) < ((ns.map V.int).length : Int) := of_decide_eq_true e
      rw [List.length_map] at e1
      have hj : j < ns.length := by omega
      refine ⟨_, rfl, _, rfl, a, _, _, .int ns[j], rfl, rfl, hS, atI_nat (by rw [List.getElem?_map, List.getElem?_eq_getElem hj]; rfl), .inl ⟨_, rfl, ?_⟩⟩
      unfold cell at go
      rw [Int.toNat_natCast, List.getElem?_eq_getElem hj] at go
      exact go
    · have e1 : ¬ (j : Int) < ((ns.map V.int).length : Int) := fun z => e (decide_eq_true z)
      rw [List.length_map] at e1
      unfold cell at go
      rw [Int.toNat_natCast, List.getElem?_eq_none_iff.mpr (by omega)] at go
      exact go
/-! _law_numbers -/
theorem scNum : FnScope ["cell", "many", "found", "rest", "k"] ["cell", "many"] (defScope sNum) := ⟨rfl, rfl, rfl, by decide +kernel, rfl, by decide +kernel, by decide +kernel⟩
def spNum : Sp := fun vs H Q _ => ∃ (c : Int) (m : Nat), vs = [.int c, .int (m : Int)] ∧ m ≤ 1000 ∧ ∀ p H' (xs : List Int), Same H H' → H p = none → H' p = some (.lst (xs.map V.int)) → xs.length = m → Nums xs → Q (.ref p) H'
theorem ok_numbers {f : Addr} {fd : FuncData} (F : Fun K "_law_numbers" "_law_numbers" sNum f fd) (mgAbs : mg "abs" = none) (mgInt : mg "int" = none) (mgRange : mg "range" = none) : FnOk P w K mg base CX0 1 f fd ["cell", "many"] spNum := by
  refine F.ok scNum (fun vs H Q E h => ?_) (fun cdv A outer s H vs Q E hr h => ?_)
  · obtain ⟨c, m, rfl, _⟩ := h
    rfl
  · obtain ⟨c, m, rfl, hm, go⟩ := h
    refine ⟨_, pss_cons (ps_set (i := 2) scNum.nd rfl (.inl rfl) (pe_lst pa_nil))
      (pss_cons (ps_set (i := 3) scNum.nd rfl (.inl rfl) (pe_callB call_abs (by rfl) mgAbs (by decide +kernel) (pa_cons (pv 0) pa_nil)))
      (pss_cons (ps_if (pt_cmpR op_ge (pv 3) pe_int (nomark _))
        (pss_cons (ps_for PassesOwn.never rfl (pi_range1 rfl mgRange (pa_cons (pv 1) pa_nil)) (pg_name (i := 4) scNum.nd rfl (.inl rfl))
          (pss_cons (ps_expr (pe_bm PySem.F.plainAttrs_list PySem.F.slot_list_append PySem.F.type_list_append mt_append (pv 2) (pa_cons (pe_op op_mod (pe_callTy call_int1 (by rfl) mgInt (by decide +kernel) (pa_cons (pv 3) pa_nil)) pe_int) pa_nil)))
          (pss_one (ps_set (i := 3) scNum.nd rfl (.inl rfl) (pe_op op_fdiv (pv 3) pe_int)))))
        (pss_one (ps_ret (pv 2)))) pss_nil)
      (pss_cons (ps_for PassesOwn.never rfl (pi_range1 rfl mgRange (pa_cons (pv 1) pa_nil)) (pg_name (i := 4) scNum.nd rfl (.inl rfl))
        (pss_cons (ps_set (i := 3) scNum.nd rfl (.inl rfl) (pe_op op_mod (pe_callTy call_int1 (by rfl) mgInt (by decide +kernel) (pa_cons (pe_op op_add (pe_op op_add (pe_op op_mul (pv 3) pe_int) (pe_op op_mul (pv 4) pe_int)) pe_int) pa_nil)) pe_int))
        (pss_one (ps_expr (pe_bm PySem.F.plainAttrs_list PySem.F.slot_list_append PySem.F.type_list_append mt_append (pv 2) (pa_cons (pe_op op_mod (pe_op op_mod (pe_callTy call_int1 (by rfl) mgInt (by decide +kernel) (pa_cons (pe_op op_mul (pv 3) pe_int) pa_nil)) pe_int) pe_int) pa_nil))))))
      (pss_one (ps_ret (pv 2)))))), ?_⟩
    refine ⟨Nat.zero_le _, fun p np => ⟨_, rfl, _, rfl, ?_⟩⟩
    generalize ea : (if c < 0 then -c else c) = r0
    have r00 : 0 ≤ r0 := by
      rw [← ea]
      split <;> omega
    have keep (Hx : Hp) (xs : List V) : (∀ b o, H b = some o → b ≠ p → Hx b = some o) → ∀ b o, H b = some o → b ≠ p → upd Hx p (.lst xs) b = some o := fun h b o hb hbp => by
      rw [upd_ne hbp]
      exact h b o hb hbp
    refine ⟨_, rfl, _, _, rfl, rfl, _, rfl, ite2 (fun e => ?_) (fun e => ?_)⟩
    · refine ⟨_, rfl, (m : Int), rfl, by omega, by omega, ?_⟩
      rw [Int.toNat_natCast]
      refine for_range (lo := 0) (n := m) (fun i σ Hx => ∃ (xs : List Int) (r : Int) (y : Option V), σ = [some (.int c), some (.int (m : Int)), some (.ref p), some (.int r), y] ∧ (∀ b o, H b = some o → b ≠ p → Hx b = some o) ∧ Hx p = some (.lst (xs.map V.int)) ∧ xs.length = i ∧ Nums xs)
        ⟨[], r0, none, rfl, fun b o hb hbp => by rw [upd_ne hbp]; exact hb, upd_same, rfl, fun x hx => by cases hx⟩ ?_ ?_
      · rintro i σ Hx hi ⟨xs, r, y, rfl, kp, hp, hl, hn⟩
        refine ⟨.ref p, rfl, .inl ⟨rfl, _, SqL.of hp⟩, _, rfl, .inl ⟨_, rfl, _, _, rfl, rfl, (by show (0 : Int) < 1048576; decide), p, _, _, rfl, rfl, hp, by rw [List.length_map]; exact small1000 (by omega), ?_⟩⟩
        refine ⟨_, rfl, _, _, rfl, rfl, ⟨by decide, by decide⟩, xs ++ [r % 1048576], r / 1048576, some (.int (0 + (i : Int))), rfl, keep _ _ kp, ?_, by rw [List.length_append, hl]; rfl, hn.snoc (Int.emod_nonneg _ (by decide)) (Int.emod_lt_of_pos _ (by decide))⟩
        rw [upd_same, List.map_append]
        rfl
      · rintro σ Hx ⟨xs, r, y, rfl, kp, hp, hl, hn⟩
        exact ⟨_, rfl, go p Hx xs (fun b o hb => kp b o hb (ne_of_none hb np)) np hp hl hn⟩
    · have e1 : r0 < 1000000000000000000 := Int.not_le.mp fun z => e (decide_eq_true z)
      refine ⟨_, rfl, (m : Int), rfl, by omega, by omega, ?_⟩
      rw [Int.toNat_natCast]
      refine for_range (lo := 0) (n := m) (fun i σ Hx => ∃ (xs : List Int) (r : Int) (y : Option V), σ = [some (.int c), some (.int (m : Int)), some (.ref p), some (.int r), y] ∧ (∀ b o, H b = some o → b ≠ p → Hx b = some o) ∧ Hx p = some (.lst (xs.map V.int)) ∧ xs.length = i ∧ Nums xs ∧ 0 ≤ r ∧ r < 1000000000000000000)
        ⟨[], r0, none, rfl, fun b o hb hbp => by rw [upd_ne hbp]; exact hb, upd_same, rfl, (fun x hx => by cases hx), r00, e1⟩ ?_ ?_
      · rintro i σ Hx hi ⟨xs, r, y, rfl, kp, hp, hl, hn, b0, b1⟩
        refine ⟨_, rfl, _, _, rfl, rfl, .inl ⟨by omega, by omega⟩, _, rfl, _, _, rfl, rfl, .inl ⟨by omega, by omega⟩, _, _, rfl, rfl, _, _, rfl, rfl, .inl ⟨_, rfl, _, _, rfl, rfl, (by show (0 : Int) < 2147483647; decide), ?_⟩⟩
        have c0 := Int.emod_nonneg (r * 48271 + (0 + (i : Int)) * 7919 + 11) (b := 2147483647) (by decide)
        have c1 := Int.emod_lt_of_pos (r * 48271 + (0 + (i : Int)) * 7919 + 11) (b := 2147483647) (by decide)
        refine ⟨.ref p, rfl, .inl ⟨rfl, _, SqL.of hp⟩, _, rfl, _, _, rfl, rfl, .inl ⟨Int.lt_of_lt_of_le (by decide) c0, Int.lt_trans c1 (by decide)⟩, .inl ⟨_, rfl, _, _, rfl, rfl, (by show (0 : Int) < 2147483629; decide), _, _, rfl, rfl, (by show (0 : Int) < 1048576; decide), p, _, _, rfl, rfl, hp, by rw [List.length_map]; exact small1000 (by omega), ?_⟩⟩
        refine ⟨xs ++ [(r * 48271 + (0 + (i : Int)) * 7919 + 11) % 2147483647 * 69621 % 2147483629 % 1048576], (r * 48271 + (0 + (i : Int)) * 7919 + 11) % 2147483647, some (.int (0 + (i : Int))), rfl, keep _ _ kp, ?_, by rw [List.length_append, hl]; rfl, hn.snoc (Int.emod_nonneg _ (by decide)) (Int.emod_lt_of_pos _ (by decide)), c0, by omega⟩
        rw [upd_same, List.map_append]
        rfl
      · rintro σ Hx ⟨xs, r, y, rfl, kp, hp, hl, hn, b0, b1⟩
        exact ⟨_, rfl, go p Hx xs (fun b o hb => kp b o hb (ne_of_none hb np)) np hp hl hn⟩
/-! _law_feed, _law_take -/
/-- a feed: its dict, its list of numbers -/
structure Feed (H : Hp) (d l : Addr) (at' : Nat) (xs : List Int) : Prop where
  hd : H d = some (.dK [(Sum.inr "at", .int (at' : Int)), (Sum.inr "numbers", .ref l)])
  hl : H l = some (.lst (xs.map V.int))
  ne : 0 < xs.length
  sm : xs.length ≤ 1000
  nu : Nums xs
theorem scFee : FnScope ["cell", "many"] ["cell", "many"] (defScope sFee) := ⟨rfl, rfl, rfl, by decide +kernel, rfl, by decide +kernel, by decide +kernel⟩
def spFee : Sp := fun vs H Q _ => ∃ (c : Int) (m : Nat), vs = [.int c, .int (m : Int)] ∧ 0 < m ∧ m ≤ 1000 ∧ ∀ d l H' (xs : List Int), Same H H' → H d = none → H l = none → Feed H' d l 0 xs → Q (.ref d) H'
theorem ok_feed {f fN : Addr} {fd fdN : FuncData} (F : Fun K "_law_feed" "_law_feed" sFee f fd) (GN : FnOk P w K mg base CX0 1 fN fdN ["cell", "many"] spNum) (mN : mg "_law_numbers" = some (.ref fN)) (kN : PySem.W.keepIn K (.ref fN) = true) (bN : Binds K fdN ["cell", "many"] []) : FnOk P w K mg base CX0 2 f fd ["cell", "many"] spFee := by
  refine F.ok scFee (fun vs H Q E h => ?_) (fun cdv A outer s H vs Q E hr h => ?_)
  · obtain ⟨c, m, rfl, _⟩ := h
    rfl
  · obtain ⟨c, m, rfl, h0, hm, go⟩ := h
    refine ⟨_, pss_one (ps_ret (pe_disp (pps_cons pe_str pe_int (pps_cons pe_str (pe_call GN hr (by rfl) mN kN bN .nil pass0 (pa_cons (pv 0) (pa_cons (pv 1) pa_nil))) pps_nil)) rfl rfl (by simp) (by decide))), ?_⟩
    intro d nd
    refine ⟨_, rfl, _, rfl, c, m, rfl, hm, fun l H' xs sm nl el ln nu => ?_⟩
    have nl' : H l = none := (same_upd nd).free nl
    refine ⟨sm _ _ upd_same, [(Sum.inr "at", .int 0), (Sum.inr "numbers", .ref l)], rfl, (by simp), ?_⟩
    have e : mergeK [] ([(Sum.inr "at", V.int 0), (Sum.inr "numbers", V.ref l)] : List (Key × V)) = ([(Sum.inr "at", V.int ((0 : Nat) : Int)), (Sum.inr "numbers", V.ref l)] : List (Key × V)) := by kernel_rfl
    rw [e]
    have ld : l ≠ d := fun z => by
      rw [z, upd_same] at nl
      cases nl
    refine go d l _ xs (fun b o hb => ?_) nd nl' ⟨upd_same, by rw [upd_ne ld]; exact el, by omega, by omega, nu⟩
    rw [upd_ne (ne_of_none hb nd)]
    exact sm _ _ (by rw [upd_ne (ne_of_none hb nd)]; exact hb)
theorem scTak : FnScope ["feed", "limit", "numbers", "at"] ["feed", "limit"] (defScope sTak) := ⟨rfl, rfl, rfl, by decide +kernel, rfl, by decide +kernel, by decide +kernel⟩
/-- some number below the limit; the feed goes on -/
def spTak : Sp := fun vs H Q _ => ∃ (d l : Addr) (a : Nat) (xs : List Int) (m : Int), vs = [.ref d, .int m] ∧ Feed H d l a xs ∧ a < 100000 ∧ 0 < m ∧ ∀ r H', 0 ≤ r → r < m → But d H H' → Feed H' d l (a + 1) xs → Q (.int r) H'
theorem take_put (a : Int) (l : Addr) : putK ([(Sum.inr "at", V.int a), (Sum.inr "numbers", V.ref l)] : List (Key × V)) (Sum.inr "at" : Key) (V.int (a + 1)) = ([(Sum.inr "at", V.int (a + 1)), (Sum.inr "numbers", V.ref l)] : List (Key × V)) := by kernel_rfl
theorem ok_take {f : Addr} {fd : FuncData} (F : Fun K "_law_take" "_law_take" sTak f fd) (mgInt : mg "int" = none) (mgLen : mg "len" = none) : FnOk P w K mg base CX0 1 f fd ["feed", "limit"] spTak := by
  refine F.ok scTak (fun vs H Q E h => ?_) (fun cdv A outer s H vs Q E hr h => ?_)
  · obtain ⟨d, l, a, xs, m, rfl, _⟩ := h
    rfl
  · obtain ⟨d, l, a, xs, m, rfl, fe, ha, hm, go⟩ := h
    have hu := hu_of hr
    refine ⟨_, pss_cons (ps_set (i := 2) scTak.nd rfl (.inl rfl) (pe_dget hu (pv 0) pe_str (fun _ _ => rfl)))
      (pss_cons (ps_set (i := 3) scTak.nd rfl (.inl rfl) (pe_dget hu (pv 0) pe_str (fun _ _ => rfl)))
      (pss_cons (ps_dput hu (pv 0) pe_str (pe_op op_add (pv 3) pe_int) rfl)
      (pss_one (ps_ret (pe_op op_mod (pe_callTy call_int1 (by rfl) mgInt (by decide +kernel) (pa_cons (pe_op op_fdivW (pe_ix ix_list (pv 2) (pe_op op_mod (pv 3) (pe_callB call_len_seq (by rfl) mgLen PySem.boot_len (pa_cons (pv 2) pa_nil))) (fun _ _ => rfl)) (pe_op op_add pe_int (pe_op op_mul (pe_op op_fdivW (pv 3) (pe_callB call_len_seq (by rfl) mgLen PySem.boot_len (pa_cons (pv 2) pa_nil))) pe_int))) pa_nil)) (pv 1)))))), ?_⟩
    have g1 : DGet H d (.str "numbers") (some (.ref l)) := .inl ⟨_, Sum.inr "numbers", .inl fe.hd, rfl, by kernel_rfl⟩
    have g2 : DGet H d (.str "at") (some (.int (a : Int))) := .inl ⟨_, Sum.inr "at", .inl fe.hd, rfl, by kernel_rfl⟩
    refine ⟨_, rfl, d, _, rfl, g1, _, rfl, d, _, rfl, g2, _, rfl, _, _, rfl, rfl, _, rfl, d, _, rfl, DPut.k (k := Sum.inr "at") fe.hd (small1000 (by simp)), ?_⟩
    rw [take_put]
    have ld : l ≠ d := ne_of fe.hl fe.hd (by intro z; cases z)
    have F2 : Feed (upd H d (.dK [(Sum.inr "at", .int ((a : Int) + 1)), (Sum.inr "numbers", .ref l)])) d l (a + 1) xs := ⟨upd_same, by rw [upd_ne ld]; exact fe.hl, fe.ne, fe.sm, fe.nu⟩
    have p0 : (0 : Int) < (xs.length : Int) := by have := fe.ne; omega
    have r0 := Int.emod_nonneg (a : Int) (b := (xs.length : Int)) (by omega)
    have r1 := Int.emod_lt_of_pos (a : Int) p0
    have hj : ((a : Int) % (xs.length : Int)).toNat < xs.length := by omega
    have q0 : 0 ≤ (a : Int) / (xs.length : Int) := Int.ediv_nonneg (by omega) (by omega)
    have q1 : (a : Int) / (xs.length : Int) ≤ (a : Int) := Int.ediv_le_self _ (by omega)
    have at0 : atI (xs.map V.int) ((a : Int) % (xs.length : Int)) = some (.int xs[((a : Int) % (xs.length : Int)).toNat]) := by
      have := nat_num (xs := xs) hj
      rwa [Int.toNat_of_nonneg r0] at this
    have nx := fe.nu _ (List.getElem_mem hj)
    refine ⟨_, rfl, _, rfl, _, rfl, l, _, rfl, .inl (SqL.of F2.hl), _, _, rfl, rfl, by rw [List.length_map]; exact p0, ?_⟩
    rw [List.length_map]
    have cdv : CDivW (a : Int) (xs.length : Int) := wide_div (b := 64) p0 (by have := fe.sm; rw [Int.natAbs_natCast]; exact Nat.lt_of_le_of_lt this (by decide)) (by decide) (by decide)
    refine ⟨l, _, _, _, rfl, rfl, SqL.of F2.hl, at0, _, rfl, _, rfl, l, _, rfl, .inl (SqL.of F2.hl), _, _, rfl, rfl, by rw [List.length_map]; exact cdv, ?_⟩
    rw [List.length_map]
    refine ⟨_, _, rfl, rfl, .inl ⟨by omega, by omega⟩, _, _, rfl, rfl, _, _, rfl, rfl, ?_, .inl ⟨_, rfl, _, rfl, _, _, rfl, rfl, hm, ?_⟩⟩
    · exact wide_div (b := 64) (by omega) (by omega) (by decide) (by decide)
    · exact go _ _ (Int.emod_nonneg _ (by omega)) (Int.emod_lt_of_pos _ hm) (fun b o hb ne => by rw [upd_ne ne]; exact hb) F2
end
end ZK
namespace ZK
open PySem L2 PyProof.Rows PySem.Spec G
/-! what stands while numbers are taken -/
structure Fd (H Hy : Hp) (d l : Addr) (a : Nat) (xs : List Int) : Prop where
  b : But d H Hy
  f : Feed Hy d l a xs
section
variable {H Hy H' : Hp} {d l : Addr} {a : Nat} {xs : List Int}
theorem Fd.go (x : Fd H Hy d l a xs) (s : Same Hy H') : Fd H H' d l a xs := ⟨fun b o h n => s b o (x.b b o h n), s _ _ x.f.hd, s _ _ x.f.hl, x.f.ne, x.f.sm, x.f.nu⟩
theorem Fd.take (x : Fd H Hy d l a xs) (b : But d Hy H') (f : Feed H' d l (a + 1) xs) : Fd H H' d l (a + 1) xs := ⟨fun c o h n => b c o (x.b c o h n) n, f⟩
theorem Fd.free (x : Fd H Hy d l a xs) {p : Addr} (h : Hy p = none) : H p = none := by
  cases e : H p with
  | none => rfl
  | some o =>
    by_cases pd : p = d
    · rw [pd, x.f.hd] at h
      cases h
    · rw [x.b p o e pd] at h
      cases h
theorem Fd.nd (x : Fd H Hy d l a xs) {p : Addr} (h : Hy p = none) : p ≠ d := fun e => by rw [e, x.f.hd] at h; cases h
theorem Fd.put (x : Fd H Hy d l a xs) {p : Addr} {zs : List V} {o : HO} (hp : H p = none) (hz : Hy p = some (.lst zs)) (pl : p ≠ l) : Fd H (upd Hy p o) d l a xs := by
  have pd : d ≠ p := ne_of x.f.hd hz (by intro z; cases z)
  refine ⟨fun b u h n => ?_, ?_, ?_, x.f.ne, x.f.sm, x.f.nu⟩
  · rw [upd_ne (ne_of_none h hp)]
    exact x.b b u h n
  · rw [upd_ne pd]
    exact x.f.hd
  · rw [upd_ne (Ne.symm pl)]
    exact x.f.hl
theorem Feed.keep (f : Feed Hy d l a xs) (b : But d Hy H') {q : Addr} {c : List V} (h : Hy q = some (.tup c)) : H' q = some (.tup c) := b _ _ h (ne_of h f.hd (by intro z; cases z))
theorem Feed.keepL (f : Feed Hy d l a xs) (b : But d Hy H') {q : Addr} {c : List V} (h : Hy q = some (.lst c)) : H' q = some (.lst c) := b _ _ h (ne_of h f.hd (by intro z; cases z))
theorem Feed.tups (f : Feed Hy d l a xs) (b : But d Hy H') {qs : List Addr} {cs : List (List V)} (h : TupsAt Hy qs cs) : TupsAt H' qs cs := ⟨h.1, fun i q c x y => f.keep b (h.2 i q c x y)⟩
end
theorem TupsAt.pick {H : Hp} {qs : List Addr} {cs : List (List V)} (h : TupsAt H qs cs) {r : Int} (h0 : 0 ≤ r) (h1 : r < (cs.length : Int)) : ∃ (j : Nat) (q : Addr) (c : List V), cs[j]? = some c ∧ atI (qs.map V.ref) r = some (.ref q) ∧ H q = some (.tup c) := by
  obtain ⟨j, rfl⟩ : ∃ j : Nat, r = (j : Int) := ⟨r.toNat, by omega⟩
  have hj : j < cs.length := by omega
  have hq : j < qs.length := by rw [h.1]; exact hj
  exact ⟨j, qs[j], cs[j], List.getElem?_eq_getElem hj, atI_nat (by rw [List.getElem?_map, List.getElem?_eq_getElem hq]; rfl), h.2 j _ _ (List.getElem?_eq_getElem hq) (List.getElem?_eq_getElem hj)⟩
def pc (p : Int × Int) : List V := [.int p.1, .int p.2]
def six : List (Int × Int) := [(1, 2), (1, 1), (0, 1), (1, 3), (2, 4), (7, 10)]
/-- drawn rules -/
structure RulD (days : Int) (md : Str) (ps : List (Int × Int)) (rows : Int) : Prop where
  d0 : 0 ≤ days
  d1 : days ≤ 3
  m : md = "stocks" ∨ md = "heads"
  r : (ps.length : Int) = rows + 1
  r0 : 0 ≤ rows
  r1 : rows ≤ 3
  p : ∀ q ∈ ps, q ∈ six
theorem pick_int {ns : List Int} {r : Int} (h0 : 0 ≤ r) (h1 : r < (ns.length : Int)) : ∃ n ∈ ns, atI (ns.map V.int) r = some (.int n) := by
  obtain ⟨j, rfl⟩ : ∃ j : Nat, r = (j : Int) := ⟨r.toNat, by omega⟩
  have hj : j < ns.length := by omega
  exact ⟨ns[j], List.getElem_mem hj, atI_nat (by rw [List.getElem?_map, List.getElem?_eq_getElem hj]; rfl)⟩
theorem pick_str {ns : List Str} {r : Int} (h0 : 0 ≤ r) (h1 : r < (ns.length : Int)) : ∃ n ∈ ns, atI (ns.map V.str) r = some (.str n) := by
  obtain ⟨j, rfl⟩ : ∃ j : Nat, r = (j : Int) := ⟨r.toNat, by omega⟩
  have hj : j < ns.length := by omega
  exact ⟨ns[j], List.getElem_mem hj, atI_nat (by rw [List.getElem?_map, List.getElem?_eq_getElem hj]; rfl)⟩
section
variable {P : Program} {w : World} {K : PySem.W.Frag} {mg : Str → Option Value} {base : Heap}
def spLru : Sp := fun vs H Q _ => ∃ (d l : Addr) (a : Nat) (xs : List Int), vs = [.ref d] ∧ Feed H d l a xs ∧ a < 90000 ∧ ∀ (p t : Addr) (H' : Hp) (days : Int) (md : Str) (ps : List (Int × Int)) (rows : Int) (st : Bool) (a' : Nat) (qs : List Addr), Fd H H' d l a' xs → a' ≤ a + 20 → H p = none → H t = none → H' p = some (.lst [.int days, .str md, .ref t, .int rows, .bl st]) → H' t = some (.tup (qs.map V.ref)) → TupsAt H' qs (ps.map pc) → RulD days md ps rows → Q (.ref p) H'
abbrev nLru : List Str := ["feed", "rows", "parts", "k", "mode"]
theorem scLru : FnScope nLru ["feed"] (defScope sLru) := ⟨rfl, rfl, rfl, by decide +kernel, rfl, by decide +kernel, by decide +kernel⟩
theorem ok_lru {f : Addr} {fd : FuncData} (F : Fun K "_law_rules" "_law_rules" sLru f fd) (mgR : mg "range" = none) (mgT : mg "tuple" = none) (TT : Has P w K mg base CX0 "_law_take" ["feed", "limit"] 1 spTak) : FnOk P w K mg base CX0 2 f fd ["feed"] spLru := by
  obtain ⟨fT, fdT, mT, kT, bT, GT⟩ := TT.ok
  refine F.ok scLru (fun vs H Q E h => ?_) (fun cdv A outer s H vs Q E hr h => ?_)
  · obtain ⟨d, l, a, xs, rfl, _⟩ := h
    rfl
  · obtain ⟨d, l, a, xs, rfl, f0, ha, go⟩ := h
    refine ⟨_, (pss_cons (ps_set (i := 1) scLru.nd rfl (.inl rfl) (pe_call GT (hr.mono (by decide)) (by rfl) mT kT bT .nil pass0 (pa_cons (pv 0) (pa_cons pe_int pa_nil))))
      (pss_cons (ps_set (i := 2) scLru.nd rfl (.inl rfl) (pe_lst pa_nil))
      (pss_cons (ps_for PassesOwn.never rfl (pi_range1 rfl mgR (pa_cons (pe_op op_add (pv 1) pe_int) pa_nil)) (pg_name (i := 3) scLru.nd rfl (.inl rfl)) (pss_one (ps_expr (pe_bm PySem.F.plainAttrs_list PySem.F.slot_list_append PySem.F.type_list_append mt_append (pv 2) (pa_cons (pe_ix ix_list (pe_lst (pa_cons (pe_tup (pa_cons pe_int (pa_cons pe_int pa_nil))) (pa_cons (pe_tup (pa_cons pe_int (pa_cons pe_int pa_nil))) (pa_cons (pe_tup (pa_cons pe_int (pa_cons pe_int pa_nil))) (pa_cons (pe_tup (pa_cons pe_int (pa_cons pe_int pa_nil))) (pa_cons (pe_tup (pa_cons pe_int (pa_cons pe_int pa_nil))) (pa_cons (pe_tup (pa_cons pe_int (pa_cons pe_int pa_nil))) pa_nil))))))) (pe_call GT (hr.mono (by decide)) (by rfl) mT kT bT .nil pass0 (pa_cons (pv 0) (pa_cons pe_int pa_nil))) (fun _ _ => rfl)) pa_nil)))))
      (pss_cons (ps_set (i := 4) scLru.nd rfl (.inl rfl) (pe_ix ix_list (pe_lst (pa_cons pe_str (pa_cons pe_str pa_nil))) (pe_call GT (hr.mono (by decide)) (by rfl) mT kT bT .nil pass0 (pa_cons (pv 0) (pa_cons pe_int pa_nil))) (fun _ _ => rfl)))
      (pss_one (ps_ret (pe_lst (pa_cons (pe_ix ix_list (pe_lst (pa_cons pe_int (pa_cons pe_int (pa_cons pe_int (pa_cons pe_int pa_nil))))) (pe_call GT (hr.mono (by decide)) (by rfl) mT kT bT .nil pass0 (pa_cons (pv 0) (pa_cons pe_int pa_nil))) (fun _ _ => rfl)) (pa_cons (pv 4) (pa_cons (pe_callTy call_tuple_of (by rfl) mgT (by decide +kernel) (pa_cons (pv 2) pa_nil)) (pa_cons (pv 1) (pa_cons (pe_cmpR op_gt (pe_call GT (hr.mono (by decide)) (by rfl) mT kT bT .nil pass0 (pa_cons (pv 0) (pa_cons pe_int pa_nil))) pe_int (nomark _)) pa_nil)))))))))))), ?_⟩
    refine ⟨_, rfl, d, l, a, xs, 4, rfl, f0, by omega, by decide, fun r H1 r0 r1 b1 f1 => ?_⟩
    have X1 : Fd H H1 d l (a + 1) xs := ⟨b1, f1⟩
    obtain ⟨rn, er⟩ : ∃ rn : Nat, r = (rn : Int) := ⟨r.toNat, by omega⟩
    subst er
    refine ⟨Nat.zero_le _, fun pl npl => ?_⟩
    have X2 := X1.go (same_upd npl (o := .lst []))
    have plN := X1.free npl
    have pll : pl ≠ l := fun e => by rw [e, f1.hl] at npl; cases npl
    refine ⟨_, rfl, _, _, rfl, rfl, _, rfl, by show -(2 ^ 62 : Int) ≤ (rn : Int) + 1; omega, by show (rn : Int) + 1 < 2 ^ 62; omega, ?_⟩
    rw [show ((rn : Int) + 1).toNat = rn + 1 by omega]
    refine for_range (lo := 0) (n := rn + 1) (fun i σ Hy => ∃ (y3 : Option V) (qs : List Addr) (ps : List (Int × Int)), σ = [some (.ref d), some (.int (rn : Int)), some (.ref pl), y3, none] ∧ Fd H Hy d l (a + 1 + i) xs ∧ Hy pl = some (.lst (qs.map V.ref)) ∧ TupsAt Hy qs (ps.map pc) ∧ ps.length = i ∧ ∀ q ∈ ps, q ∈ six)
      ⟨none, [], [], rfl, X2, upd_same, .nil, rfl, fun q h => by cases h⟩ ?_ ?_
    · rintro i σ Hy hi ⟨y3, qs, ps, rfl, X, ep, hT, hl, h6⟩
      refine ⟨_, rfl, .inl ⟨rfl, _, SqL.of ep⟩, ⟨(by show 2 ≤ sizeLine; decide), fun t1 nt1 => ⟨(by show 2 ≤ sizeLine; decide), fun t2 nt2 => ⟨(by show 2 ≤ sizeLine; decide), fun t3 nt3 => ⟨(by show 2 ≤ sizeLine; decide), fun t4 nt4 => ⟨(by show 2 ≤ sizeLine; decide), fun t5 nt5 => ⟨(by show 2 ≤ sizeLine; decide), fun t6 nt6 => ⟨(by show 6 ≤ sizeLine; decide), fun L nL => ?_⟩⟩⟩⟩⟩⟩⟩⟩
      have sA := ((((((same_upd nt1 (o := .tup (pc (1, 2)))).trans (same_upd nt2 (o := .tup (pc (1, 1))))).trans (same_upd nt3 (o := .tup (pc (0, 1))))).trans (same_upd nt4 (o := .tup (pc (1, 3))))).trans (same_upd nt5 (o := .tup (pc (2, 4))))).trans (same_upd nt6 (o := .tup (pc (7, 10))))).trans (same_upd nL (o := .lst ([t1, t2, t3, t4, t5, t6].map V.ref)))
      have T6 : TupsAt _ [t1, t2, t3, t4, t5, t6] (six.map pc) := TupsAt.same (TupsAt.snoc (TupsAt.same (TupsAt.snoc (TupsAt.same (TupsAt.snoc (TupsAt.same (TupsAt.snoc (TupsAt.same (TupsAt.snoc (TupsAt.same (TupsAt.snoc TupsAt.nil upd_same) (same_upd nt2)) upd_same) (same_upd nt3)) upd_same) (same_upd nt4)) upd_same) (same_upd nt5)) upd_same) (same_upd nt6)) upd_same) (same_upd nL (o := .lst ([t1, t2, t3, t4, t5, t6].map V.ref)))
      have XA := X.go sA
      refine ⟨_, rfl, d, l, _, xs, 6, rfl, XA.f, by omega, by decide, fun r2 H2 q0 q1 b2 f2 => ?_⟩
      have T6' := XA.f.tups b2 T6
      obtain ⟨j, tq, c, hc, hat, htq⟩ := T6'.pick q0 (by show r2 < 6; exact q1)
      rw [List.getElem?_map] at hc
      obtain ⟨pp, hpp, rfl⟩ := Option.map_eq_some_iff.mp hc
      have ep2 : H2 pl = some (.lst (qs.map V.ref)) := XA.f.keepL b2 (sA _ _ ep)
      refine ⟨L, _, _, _, rfl, rfl, SqL.of (XA.f.keepL b2 upd_same), hat, pl, _, _, rfl, rfl, ep2, ?_, ?_⟩
      · rw [List.length_map, hT.1, List.length_map]
        exact small1000 (by omega)
      · refine ⟨_, qs ++ [tq], ps ++ [pp], rfl, ?_, ?_, ?_, ?_, ?_⟩
        · have := (XA.take b2 f2).put (o := .lst (qs.map V.ref ++ [.ref tq])) plN ep2 pll
          rw [show a + 1 + (i + 1) = a + 1 + i + 1 by omega]
          exact this
        · rw [upd_same, List.map_append]
          rfl
        · rw [List.map_append]
          refine TupsAt.but (a := pl) (xs := qs.map V.ref) (H := H2) ?_ ep2 (fun b o hb ne => by rw [upd_ne ne]; exact hb)
          exact (XA.f.tups b2 (hT.same sA)).snoc htq
        · rw [List.length_append, hl]
          rfl
        · intro q hq
          rcases List.mem_append.mp hq with m | m
          · exact h6 q m
          · rw [List.mem_singleton.mp m]
            exact List.mem_of_getElem? hpp
    · rintro σ Hy ⟨y3, qs, ps, rfl, X, ep, hT, hl, h6⟩
      refine ⟨(by show 2 ≤ sizeLine; decide), fun M nM => ⟨_, rfl, d, l, _, xs, 2, rfl, (X.go (same_upd nM)).f, by omega, by decide, fun r2 H2 q0 q1 b2 f2 => ?_⟩⟩
      have XM := X.go (same_upd nM (o := .lst ([("stocks" : Str), "heads"].map V.str)))
      obtain ⟨md, hm, hat⟩ := pick_str (ns := ["stocks", "heads"]) q0 (by show r2 < 2; exact q1)
      refine ⟨M, _, _, _, rfl, rfl, SqL.of (XM.f.keepL b2 upd_same), hat, ?_⟩
      have X2 := XM.take b2 f2
      refine ⟨(by show 4 ≤ sizeLine; decide), fun N nN => ⟨_, rfl, d, l, _, xs, 4, rfl, (X2.go (same_upd nN)).f, by omega, by decide, fun r3 H3 z0 z1 b3 f3 => ?_⟩⟩
      have XN := X2.go (same_upd nN (o := .lst ([(0 : Int), 1, 2, 3].map V.int)))
      obtain ⟨dy, hdy, hat3⟩ := pick_int (ns := [0, 1, 2, 3]) z0 (by show r3 < 4; exact z1)
      have X3 := XN.take b3 f3
      have ep3 : H3 pl = some (.lst (qs.map V.ref)) := XN.f.keepL b3 ((same_upd nN) _ _ (XM.f.keepL b2 ((same_upd nM) _ _ ep)))
      have hT3 : TupsAt H3 qs (ps.map pc) := XN.f.tups b3 ((XM.f.tups b2 (hT.same (same_upd nM))).same (same_upd nN))
      refine ⟨N, _, _, _, rfl, rfl, SqL.of (XN.f.keepL b3 upd_same), hat3, _, rfl, _, rfl, pl, _, rfl, .inl ⟨SqL.of ep3, fun t nt => ?_⟩⟩
      have X4 := X3.go (same_upd nt (o := .tup (qs.map V.ref)))
      refine ⟨_, rfl, _, rfl, d, l, _, xs, 3, rfl, X4.f, by omega, by decide, fun r5 H5 w0 w1 b5 f5 => ⟨_, _, rfl, rfl, (by show 5 ≤ sizeLine; decide), fun p np => ?_⟩⟩
      have X5 := X4.take b5 f5
      have X6 := X5.go (same_upd np (o := .lst [.int dy, .str md, .ref t, .int (rn : Int), .bl (decide (0 < r5))]))
      refine go p t _ dy md ps (rn : Int) (decide (0 < r5)) _ qs X6 (by omega) (X5.free np) (X3.free nt) upd_same ((same_upd np) _ _ (X4.f.keep b5 upd_same)) ((X4.f.tups b5 (hT3.same (same_upd nt))).same (same_upd np)) ⟨?_, ?_, ?_, ?_, by omega, by omega, h6⟩
      · simp only [List.mem_cons, List.not_mem_nil, or_false] at hdy
        omega
      · simp only [List.mem_cons, List.not_mem_nil, or_false] at hdy
        omega
      · simpa using hm
      · rw [hl]
        push_cast
        rfl
end
end ZK
namespace ZF
open PySem L2 PyProof.Rows PySem.Spec G
theorem srt_same {l m : List Str} (h1 : l.Nodup) (h2 : m.Nodup) (h : ∀ x, x ∈ l ↔ x ∈ m) : srt l = srt m := by
  refine srt_one ?_ (srt_pw l)
  refine (srt_perm l).trans ?_
  exact (List.perm_ext_iff_of_nodup h1 h2).mpr h
/-- who survives the dead person by so many days -/
def sv (F : Fm) (days : Int) (dead name : Str) : Bool := !decide (name = dead) && (!F.rn name && match F.dy name with
  | none => true
  | some e => decide ((F.dy dead).getD 0 + days < e))
/-- the next generation -/
def nextG (F : Fm) (g : List Str) : List Str := srt (uniq (g.flatMap F.ch))
theorem nextG_mem {F : Fm} {g : List Str} {y : Str} : y ∈ nextG F g ↔ ∃ x ∈ g, y ∈ F.ch x := by
  unfold nextG
  rw [srt_mem, uniq_mem, List.mem_flatMap]
theorem nextG_nd (F : Fm) (g : List Str) : (nextG F g).Nodup := (srt_perm _).nodup_iff.mpr uniq_nd
theorem nextG_nil (F : Fm) : nextG F [] = [] := by
  cases e : nextG F [] with
  | nil => rfl
  | cons y r =>
    have : y ∈ nextG F [] := by
      rw [e]
      exact List.mem_cons_self
    obtain ⟨x, hx, _⟩ := nextG_mem.mp this
    cases hx
/-- the first generation in which somebody survives -/
def hdN (F : Fm) (days : Int) (dead : Str) : Nat → List Str → Option (List Str)
  | 0, _ => none
  | n + 1, g => if g.any (sv F days dead) = true then some g else hdN F days dead n (nextG F g)
theorem hdN_nil {F : Fm} {days : Int} {dead : Str} : ∀ n, hdN F days dead n [] = none
  | 0 => rfl
  | n + 1 => by
    unfold hdN
    rw [if_neg (by simp), nextG_nil]
    exact hdN_nil n
def hd (F : Fm) (days : Int) (dead name : Str) : List Str := (hdN F days dead 401 (F.ch name)).getD (F.ch name)
/-- children stand above their parents -/
structure Rk (F : Fm) (rk : Str → Nat) : Prop where
  up : ∀ x y, y ∈ F.ch x → rk x < rk y ∧ rk y ≤ 400
/-- the k-th generation -/
structure Gk (F : Fm) (rk : Str → Nat) (days : Int) (dead name : Str) (k : Nat) (g : List Str) : Prop where
  r : ∀ y ∈ g, k < rk y ∧ rk y ≤ 400
  e : hdN F days dead 401 (F.ch name) = hdN F days dead (401 - k) g
  c : ∃ zs, ∀ y ∈ g, y ∈ F.ch zs ∨ ∃ x, y ∈ F.ch x
theorem Gk.start {F : Fm} {rk : Str → Nat} (R : Rk F rk) (days : Int) (dead name : Str) : Gk F rk days dead name 0 (F.ch name) :=
  ⟨fun y h => ⟨by have := (R.up _ _ h).1; omega, (R.up _ _ h).2⟩, rfl, name, fun y h => .inl h⟩
theorem Gk.next {F : Fm} {rk : Str → Nat} (R : Rk F rk) {days : Int} {dead name : Str} {k : Nat} {g : List Str} (G : Gk F rk days dead name k g) (ne : g ≠ []) (no : g.any (sv F days dead) = false) : Gk F rk days dead name (k + 1) (nextG F g) := by
  have k4 : k < 400 := by
    obtain ⟨y, hy⟩ := List.exists_mem_of_ne_nil _ ne
    have := G.r y hy
    omega
  refine ⟨fun y h => ?_, ?_, name, fun y h => ?_⟩
  · obtain ⟨x, hx, hy⟩ := nextG_mem.mp h
    have a := G.r x hx
    have b := R.up _ _ hy
    exact ⟨by omega, b.2⟩
  · rw [G.e, show 401 - k = (401 - (k + 1)) + 1 by omega]
    show (if g.any (sv F days dead) = true then some g else _) = _
    rw [no]
    rfl
  · obtain ⟨x, hx, hy⟩ := nextG_mem.mp h
    exact .inr ⟨x, hy⟩
theorem Gk.found {F : Fm} {rk : Str → Nat} {days : Int} {dead name : Str} {k : Nat} {g : List Str} (G : Gk F rk days dead name k g) (ye : g.any (sv F days dead) = true) : hd F days dead name = g := by
  have k4 : k < 400 := by
    obtain ⟨y, hy, _⟩ := List.any_eq_true.mp ye
    have := G.r y hy
    omega
  unfold hd
  rw [G.e, show 401 - k = (400 - k) + 1 by omega]
  show (if g.any (sv F days dead) = true then some g else _).getD _ = _
  rw [if_pos ye]
  rfl
theorem Gk.none {F : Fm} {rk : Str → Nat} {days : Int} {dead name : Str} {k : Nat} (G : Gk F rk days dead name k []) : hd F days dead name = F.ch name := by
  unfold hd
  rw [G.e, hdN_nil]
  rfl
theorem Gk.small {F : Fm} {rk : Str → Nat} {days : Int} {dead name : Str} {k : Nat} {g : List Str} (G : Gk F rk days dead name k g) (ne : g ≠ []) : k < 400 := by
  obtain ⟨y, hy⟩ := List.exists_mem_of_ne_nil _ ne
  have := G.r y hy
  omega
/-- one more text of a set -/
def add1 (l : List Str) (c : Str) : List Str := if c ∈ l then l else l ++ [c]
theorem add1_mem {l : List Str} {c x : Str} : x ∈ add1 l c ↔ x ∈ l ∨ x = c := by
  unfold add1
  split
  · next h => exact ⟨.inl, fun z => z.elim id fun e => e ▸ h⟩
  · rw [List.mem_append, List.mem_singleton]
theorem add1_nd {l : List Str} (h : l.Nodup) (c : Str) : (add1 l c).Nodup := by
  unfold add1
  split
  · exact h
  · next hc => exact List.nodup_append.mpr ⟨h, List.pairwise_singleton _ _, fun a ha b hb e => hc (by rw [List.mem_singleton.mp hb] at e; exact e ▸ ha)⟩
theorem add1_fun (l : List Str) (c : Str) : (fun j => decide (j ∈ l) || decide (j = c)) = fun k => decide (k ∈ add1 l c) := by
  funext j
  rw [Bool.eq_iff_iff, Bool.or_eq_true, decide_eq_true_eq, decide_eq_true_eq, decide_eq_true_eq, add1_mem]
theorem add1_len (l : List Str) (c : Str) : (if decide (c ∈ l) = true then l.length else l.length + 1) = (add1 l c).length := by
  unfold add1
  by_cases h : c ∈ l
  · rw [if_pos (decide_eq_true h), if_pos h]
  · rw [if_neg (by rw [decide_eq_true_eq]; exact h), if_neg h, List.length_append]
    rfl
end ZF
namespace ZF
open PySem L2 PyProof.Rows PySem.Spec G
abbrev sSv : Stmt := topS 29
section
variable {P : Program} {w : World} {K : PySem.W.Frag} {mg : Str → Option Value} {base : Heap}
def spSv (C CB : Addr) : Sp := fun vs H Q _ => ∃ (p r : Addr) (n : Nat) (F : Fm) (dx : Addr) (days : Int) (m : Str) (rw : Int) (s q : V) (dead name : Str) (dd : Int), vs = [.ref p, .ref r, .str dead, .str name] ∧ FamAt C H p n F ∧ H r = some (.ins CB dx (ZK.rfl5 days m rw s q)) ∧ F.dy dead = some dd ∧ Q (.bl (sv F days dead name)) H
abbrev nSv : List Str := ["family", "rules", "dead", "name", "day"]
theorem scSv : FnScope nSv ["family", "rules", "dead", "name"] (defScope sSv) := ⟨rfl, rfl, rfl, by decide +kernel, rfl, by decide +kernel, by decide +kernel⟩

theorem ok_survives {f C CB : Addr} {fd : FuncData} (F : Fun K "survives" "survives" sSv f fd) (D : FT K C) (DB : ZK.BT K CB) (HR : HasM P w K mg base CX0 C "has_renounced" ["self", "name"] 1 (spVal C fun F k => .bl (F.rn k))) (HD : HasM P w K mg base CX0 C "day" ["self", "name"] 1 (spVal C dayV)) : FnOk P w K mg base CX0 2 f fd ["family", "rules", "dead", "name"] (spSv C CB) := by
  obtain ⟨fRen, fdRen, meRen, bRen, GRen⟩ := HR.ok
  obtain ⟨fDay, fdDay, meDay, bDay, GDay⟩ := HD.ok
  refine F.ok scSv (fun vs H Q E h => ?_) (fun cdv A outer s H vs Q E hr h => ?_)
  · obtain ⟨p, r, n, F, dx, days, m, rw, s, q, dead, name, dd, rfl, _⟩ := h
    rfl
  · obtain ⟨p, r, n, F, dx, days, m, rw, s, q, dead, name, dd, rfl, hF, hR, hd, go⟩ := h
    refine ⟨_, (pss_cons (ps_if (PW.pt (pw_or (pt_cmpR op_eq (pv 3) (pv 2) (nomark _)) (pw_or1 (pt_val (pe_meth (pv 0) D.cl meRen GRen (hr.mono (by decide)) bRen .nil pass0 (pa_cons (pv 3) pa_nil)))))) (pss_one (ps_ret pe_bl)) pss_nil)
      (pss_cons (ps_set (i := 4) scSv.nd rfl (.inl rfl) (pe_meth (pv 0) D.cl meDay GDay (hr.mono (by decide)) bDay .nil pass0 (pa_cons (pv 3) pa_nil)))
      (pss_one (ps_ret (pe_or (pe_cmpR op_isN1 (pv 4) pe_non (nomark _)) (pe_one (pe_cmpR op_gt (pv 4) (pe_op op_add (pe_meth (pv 0) D.cl meDay GDay (hr.mono (by decide)) bDay .nil pass0 (pa_cons (pv 2) pa_nil)) (pe_fld (pv 1) rfl)) (nomark _)))))))), ?_⟩
    obtain ⟨dxF, a1, a2, a3, a4, a5, a6, a7, hp, _⟩ := id hF.ex
    have e1 : decide (V.str name = V.str dead) = decide (name = dead) := by
      rw [Bool.eq_iff_iff, decide_eq_true_eq, decide_eq_true_eq]
      exact ⟨V.str.inj, congrArg V.str⟩
    refine ⟨_, rfl, _, rfl, rfl, _, rfl, ?_⟩
    rw [e1]
    unfold sv at go
    by_cases e : name = dead
    · rw [decide_eq_true e] at go ⊢
      exact iteT (iteT go)
    · rw [decide_eq_false e] at go ⊢
      refine iteF ⟨_, rfl, p, dxF, _, rfl, hp, no_mr ⟨a1, a2, a3, a4, a5, a6, a7⟩, _, rfl, p, name, n, F, rfl, hF, _, rfl, ?_⟩
      cases er : F.rn name with
      | true =>
        rw [er] at go
        exact iteT go
      | false =>
        rw [er] at go
        refine iteF ⟨_, rfl, p, dxF, _, rfl, hp, no_md ⟨a1, a2, a3, a4, a5, a6, a7⟩, _, rfl, p, name, n, F, rfl, hF, ?_⟩
        have ed : dayV F name = ((F.dy name).map V.int).getD .non := rfl
        rw [ed]
        cases ey : F.dy name with
        | none =>
          rw [ey] at go
          exact ⟨_, rfl, rfl, _, rfl, iteT go⟩
        | some z =>
          rw [ey] at go
          have ed2 : dayV F dead = .int dd := by
            show ((F.dy dead).map V.int).getD .non = _
            rw [hd]
            rfl
          refine ⟨_, rfl, rfl, _, rfl, iteF ⟨_, rfl, _, rfl, p, dxF, _, rfl, hp, no_md ⟨a1, a2, a3, a4, a5, a6, a7⟩, _, rfl, p, dead, n, F, rfl, hF, ?_⟩⟩
          rw [ed2]
          rw [hd] at go
          exact ⟨_, rfl, r, CB, dx, _, _, rfl, hR, DB.cl, DB.n1, ZK.lkd _ _ _ _ _, _, _, rfl, rfl, _, _, rfl, rfl, go⟩

end
end ZF
namespace ZF
open PySem L2 PyProof.Rows PySem.Spec G
abbrev sTks : Stmt := topS 37
/-- a family, rules, and a dead person who died -/
structure Cas (C CB : Addr) (H : Hp) (p r : Addr) (F : Fm) (days : Int) (m : Str) (dead : Str) : Prop where
  f : ∃ n, FamAt C H p n F
  r : ∃ dx rw s q, H r = some (.ins CB dx (ZK.rfl5 days m rw s q))
  d : ∃ dd, F.dy dead = some dd
  k : ∃ rk, Rk F rk
  u : ∃ U : List Str, U.length ≤ 400 ∧ ∀ x, ∀ y ∈ F.ch x, y ∈ U
  l : ∀ x, (F.ch x).length ≤ 400 ∧ (F.pa x).length ≤ 400
theorem Cas.same {C CB : Addr} {H H' : Hp} {p r : Addr} {F : Fm} {days : Int} {m dead : Str} (h : Cas C CB H p r F days m dead) (s : Same H H') : Cas C CB H' p r F days m dead := by
  obtain ⟨⟨n, a⟩, ⟨dx, rw, s', q, b⟩, c, e, f, g⟩ := h
  exact ⟨⟨n, a.same s⟩, ⟨dx, rw, s', q, s _ _ b⟩, c, e, f, g⟩
section
variable {P : Program} {w : World} {K : PySem.W.Frag} {mg : Str → Option Value} {base : Heap}
def spTks (K : PySem.W.Frag) (C CB : Addr) : Sp := fun vs H Q _ => ∃ (p r q : Addr) (F : Fm) (days : Int) (m dead name : Str) (row : Int), vs = [.ref p, .ref r, .str dead, .ref q] ∧ Cas C CB H p r F days m dead ∧ SqT K H q [.str name, .int row] ∧ Q (.bl (decide (row ≤ 0) && sv F days dead name)) H
abbrev nTks : List Str := ["family", "rules", "dead", "node", "name", "row"]
theorem scTks : FnScope nTks ["family", "rules", "dead", "node"] (defScope sTks) := ⟨rfl, rfl, rfl, by decide +kernel, rfl, by decide +kernel, by decide +kernel⟩

theorem ok_takes {f C CB : Addr} {fd : FuncData} (F : Fun K "takes" "takes" sTks f fd) (HS : Has P w K mg base CX0 "survives_rules" ["family", "rules", "dead", "name"] 2 (spSv C CB)) : FnOk P w K mg base CX0 3 f fd ["family", "rules", "dead", "node"] (spTks K C CB) := by
  obtain ⟨fSv, fdSv, mSv, kSv, bSv, GSv⟩ := HS.ok
  refine F.ok scTks (fun vs H Q E h => ?_) (fun cdv A outer s H vs Q E hr h => ?_)
  · obtain ⟨p, r, q, F, days, m, dead, name, row, rfl, _⟩ := h
    rfl
  · obtain ⟨p, r, q, F, days, m, dead, name, row, rfl, hC, hq, go⟩ := h
    refine ⟨_, (pss_cons (ps_asg (pv 3) (pg_tup (n := 2) rfl (pgs_cons (pg_name (i := 4) scTks.nd rfl (.inl rfl)) (pgs_cons (pg_name (i := 5) scTks.nd rfl (.inl rfl)) pgs_nil))))
      (pss_one (ps_ret (pe_and (pe_cmpR op_le (pv 5) pe_int (nomark _)) (pe_one (pe_call GSv (hr.mono (by decide)) (by rfl) mSv kSv bSv .nil pass0 (pa_cons (pv 0) (pa_cons (pv 1) (pa_cons (pv 2) (pa_cons (pv 4) pa_nil)))))))))), ?_⟩
    obtain ⟨⟨n, hF⟩, ⟨dx, rw, s', q', hR⟩, ⟨dd, hd⟩, -, -, -⟩ := hC
    refine ⟨_, rfl, q, _, rfl, hq, rfl, _, _, rfl, _, _, rfl, rfl, ?_⟩
    refine ⟨_, rfl, _, _, rfl, rfl, _, rfl, ?_⟩
    by_cases c : row ≤ 0
    · rw [decide_eq_true c] at go ⊢
      exact iteT ⟨_, rfl, _, rfl, _, rfl, _, rfl, p, r, n, F, dx, days, m, rw, s', q', dead, name, dd, rfl, hF, hR, hd, go⟩
    · rw [decide_eq_false c] at go ⊢
      exact iteF go
end
end ZF
namespace G
open PySem
/-! the rows of a node -/
abbrev Nd := Str × Int
structure Rw where
  n : Nd
  k : Str
  li : List Nd
  go : List Nd
  deriving DecidableEq
def kd (R : List Rw) (x : Nd) : Option Str := (R.find? fun r => decide (r.n = x)).map (·.k)
theorem some_not {o : Option Str} (h : o.isSome = true) : ¬ o.isNone = true := by cases o <;> simp_all
theorem none_yes {o : Option Str} (h : ¬ o.isSome = true) : o.isNone = true := by cases o <;> simp_all
theorem kd_app (R T : List Rw) (x : Nd) : kd (R ++ T) x = (kd R x).or (kd T x) := by
  unfold kd
  rw [List.find?_append]
  cases R.find? fun r => decide (r.n = x) <;> rfl
theorem kd_one (r : Rw) (x : Nd) : kd [r] x = if r.n = x then some r.k else none := by
  unfold kd
  by_cases e : r.n = x
  · rw [if_pos e, List.find?_cons_of_pos (by simpa using e)]
    rfl
  · rw [if_neg e, List.find?_cons_of_neg (by simpa using e)]
    rfl
theorem kd_mem {R : List Rw} {x : Nd} : (kd R x).isSome = true ↔ x ∈ R.map (·.n) := by
  unfold kd
  rw [Option.isSome_map, List.find?_isSome, List.mem_map]
  exact ⟨fun ⟨r, h, e⟩ => ⟨r, h, of_decide_eq_true e⟩, fun ⟨r, h, e⟩ => ⟨r, h, decide_eq_true e⟩⟩
section
variable (pf : Nd → List Nd) (tk : Nd → Bool)
def unk (R : List Rw) (x : Nd) : List Nd := if tk x = true then [] else (pf x).filter fun y => (kd R y).isNone
def rowOf (R : List Rw) (x : Nd) : Rw :=
  if tk x = true then ⟨x, "takes", [], []⟩ else
    ⟨x, if (pf x).filter (fun y => !decide (kd R y = some "gone")) = [] then "gone" else "divides", (pf x).filter (fun y => !decide (kd R y = some "gone")), (pf x).filter fun y => decide (kd R y = some "gone")⟩
theorem rowOf_n (R : List Rw) (x : Nd) : (rowOf pf tk R x).n = x := by
  unfold rowOf
  split <;> rfl
def wk : Nat → Nd → List Rw → List Rw
  | 0, _, R => R
  | f + 1, x, R => if (kd R x).isSome = true then R else if tk x = true then R ++ [rowOf pf tk R x] else
      (pf x).foldl (fun R y => wk f y R) R ++ [rowOf pf tk ((pf x).foldl (fun R y => wk f y R) R) x]
/-- what the stack comes to, in so many turns; the stack never above B -/
inductive Run (B : Nat) : Nat → List Nd → List Rw → List Rw → Prop
  | done (R : List Rw) : Run B 0 [] R R
  | push {n : Nat} {x : Nd} {S : List Nd} {R Z : List Rw} : unk pf tk R x ≠ [] → (unk pf tk R x ++ x :: S).length ≤ B → Run B n (unk pf tk R x ++ x :: S) R Z → Run B (n + 1) (x :: S) R Z
  | known {n : Nat} {x : Nd} {S : List Nd} {R Z : List Rw} : unk pf tk R x = [] → (kd R x).isSome = true → Run B n S R Z → Run B (n + 1) (x :: S) R Z
  | new {n : Nat} {x : Nd} {S : List Nd} {R Z : List Rw} : unk pf tk R x = [] → (kd R x).isSome = false → Run B n S (R ++ [rowOf pf tk R x]) Z → Run B (n + 1) (x :: S) R Z
variable {pf tk}
theorem Run.len {B n : Nat} {S : List Nd} {R Z : List Rw} (h : Run pf tk B n S R Z) : R.length ≤ Z.length := by
  induction h with
  | done => exact Nat.le_refl _
  | push _ _ _ ih => exact ih
  | known _ _ _ ih => exact ih
  | new _ _ _ ih =>
    rw [List.length_append] at ih
    omega
theorem fold_pre {α : Type} {g : List Rw → α → List Rw} (h : ∀ R y, R <+: g R y) : ∀ (ys : List α) (R : List Rw), R <+: ys.foldl g R
  | [], R => List.prefix_refl R
  | y :: ys, R => (h R y).trans (fold_pre h ys (g R y))
theorem wk_pre : ∀ (f : Nat) (x : Nd) (R : List Rw), R <+: wk pf tk f x R
  | 0, x, R => List.prefix_refl R
  | f + 1, x, R => by
    unfold wk
    split
    · exact List.prefix_refl R
    · split
      · exact List.prefix_append _ _
      · exact (fold_pre (fun R y => wk_pre f y R) (pf x) R).trans (List.prefix_append _ _)
theorem kd_pre {R T : List Rw} (h : R <+: T) {x : Nd} {k : Str} (e : kd R x = some k) : kd T x = some k := by
  obtain ⟨U, rfl⟩ := h
  rw [kd_app, e]
  rfl
theorem kd_preS {R T : List Rw} (h : R <+: T) {x : Nd} (e : (kd R x).isSome = true) : (kd T x).isSome = true := by
  obtain ⟨k, hk⟩ := Option.isSome_iff_exists.mp e
  rw [kd_pre h hk]
  rfl
/-- all that is needed is there -/
def Clo (pf : Nd → List Nd) (tk : Nd → Bool) (R : List Rw) : Prop := ∀ x, (kd R x).isSome = true → tk x = false → ∀ y ∈ pf x, (kd R y).isSome = true
theorem Clo.nil : Clo pf tk [] := fun x h => by cases h
theorem Clo.snoc {R : List Rw} (c : Clo pf tk R) {x : Nd} (h : tk x = false → ∀ y ∈ pf x, (kd R y).isSome = true) : Clo pf tk (R ++ [rowOf pf tk R x]) := fun z hz ht y hy => by
  refine kd_preS (List.prefix_append _ _) ?_
  rw [kd_app, kd_one, rowOf_n] at hz
  by_cases e : (kd R z).isSome = true
  · exact c z e ht y hy
  · have e2 : kd R z = none := by simpa using e
    rw [e2] at hz
    by_cases q : x = z
    · subst q
      exact h ht y hy
    · rw [if_neg q] at hz
      cases hz
theorem wk_skip {f : Nat} {x : Nd} {R : List Rw} (h : (kd R x).isSome = true) : wk pf tk f x R = R := by
  cases f with
  | zero => rfl
  | succ f =>
    unfold wk
    rw [if_pos h]
section
variable {ht : Nd → Nat} (hp : ∀ x, tk x = false → ∀ y ∈ pf x, ht y < ht x)
include hp
theorem wk_ok : ∀ (f : Nat) (x : Nd) (R : List Rw), ht x < f → Clo pf tk R → Clo pf tk (wk pf tk f x R) ∧ (kd (wk pf tk f x R) x).isSome = true
  | 0, x, R, h, _ => absurd h (Nat.not_lt_zero _)
  | f + 1, x, R, h, c => by
    unfold wk
    split
    · next e => exact ⟨c, e⟩
    · split
      · next e1 e2 =>
        refine ⟨c.snoc (fun z => by rw [e2] at z; cases z), ?_⟩
        rw [kd_app, kd_one, rowOf_n, if_pos rfl]
        cases kd R x <;> rfl
      · next e1 e2 =>
        have e3 : tk x = false := by simpa using e2
        have key : ∀ (ys : List Nd) (R : List Rw), (∀ y ∈ ys, y ∈ pf x) → Clo pf tk R → Clo pf tk (ys.foldl (fun R y => wk pf tk f y R) R) ∧ ∀ y ∈ ys, (kd (ys.foldl (fun R y => wk pf tk f y R) R) y).isSome = true := by
          intro ys
          induction ys with
          | nil => exact fun R _ c => ⟨c, fun y h => by cases h⟩
          | cons z ys ih =>
            intro R hm c
            have hz := hp x e3 z (hm z List.mem_cons_self)
            obtain ⟨c1, k1⟩ := wk_ok f z R (by omega) c
            obtain ⟨c2, k2⟩ := ih (wk pf tk f z R) (fun y hy => hm y (List.mem_cons_of_mem _ hy)) c1
            refine ⟨c2, fun y hy => ?_⟩
            rcases List.mem_cons.mp hy with q | q
            · rw [q]
              exact kd_preS (fold_pre (fun R y => wk_pre f y R) ys _) k1
            · exact k2 y q
        obtain ⟨c1, k1⟩ := key (pf x) R (fun y h => h) c
        refine ⟨c1.snoc fun _ => k1, ?_⟩
        rw [kd_app, kd_one, rowOf_n, if_pos rfl]
        cases kd _ x <;> rfl
theorem wk_fuel : ∀ (f g : Nat) (x : Nd) (R : List Rw), ht x < f → ht x < g → wk pf tk f x R = wk pf tk g x R
  | 0, _, x, R, h, _ => absurd h (Nat.not_lt_zero _)
  | _, 0, x, R, _, h => absurd h (Nat.not_lt_zero _)
  | f + 1, g + 1, x, R, h1, h2 => by
    unfold wk
    split
    · rfl
    · split
      · rfl
      · next e1 e2 =>
        have e3 : tk x = false := by simpa using e2
        have key : ∀ (ys : List Nd) (R : List Rw), (∀ y ∈ ys, y ∈ pf x) → ys.foldl (fun R y => wk pf tk f y R) R = ys.foldl (fun R y => wk pf tk g y R) R := by
          intro ys
          induction ys with
          | nil => exact fun R _ => rfl
          | cons z ys ih =>
            intro R hm
            have hz := hp x e3 z (hm z List.mem_cons_self)
            rw [List.foldl_cons, List.foldl_cons, wk_fuel f g z R (by omega) (by omega)]
            exact ih _ fun y hy => hm y (List.mem_cons_of_mem _ hy)
        rw [key (pf x) R fun y h => h]
/-- what a walk adds lies below its node -/
theorem wk_below : ∀ (f : Nat) (x : Nd) (R : List Rw) (z : Nd), (kd (wk pf tk f x R) z).isSome = true → (kd R z).isSome = true ∨ ht z ≤ ht x
  | 0, x, R, z, h => .inl h
  | f + 1, x, R, z, h => by
    unfold wk at h
    have last : ∀ R' : List Rw, ((kd R' z).isSome = true → (kd R z).isSome = true ∨ ht z ≤ ht x) → (kd (R' ++ [rowOf pf tk R' x]) z).isSome = true → (kd R z).isSome = true ∨ ht z ≤ ht x := fun R' h1 h2 => by
      rw [kd_app, kd_one, rowOf_n] at h2
      by_cases e : (kd R' z).isSome = true
      · exact h1 e
      · have e2 : kd R' z = none := by simpa using e
        rw [e2] at h2
        by_cases q : x = z
        · rw [q]
          exact .inr (Nat.le_refl _)
        · rw [if_neg q] at h2
          cases h2
    split at h
    · exact .inl h
    · split at h
      · exact last R .inl h
      · next e1 e2 =>
        have e3 : tk x = false := by simpa using e2
        refine last _ ?_ h
        have key : ∀ (ys : List Nd) (R : List Rw), (∀ y ∈ ys, y ∈ pf x) → (kd (ys.foldl (fun R y => wk pf tk f y R) R) z).isSome = true → (kd R z).isSome = true ∨ ht z ≤ ht x := by
          intro ys
          induction ys with
          | nil => exact fun R _ h => .inl h
          | cons y ys ih =>
            intro R hm h
            rcases ih _ (fun u hu => hm u (List.mem_cons_of_mem _ hu)) h with q | q
            · rcases wk_below f y R z q with q | q
              · exact .inl q
              · have := hp x e3 y (hm y List.mem_cons_self)
                exact .inr (by omega)
            · exact .inr q
        exact key (pf x) R fun y h => h
/-- those that are known already add nothing -/
theorem fold_unk {f : Nat} {R0 : List Rw} : ∀ (ys : List Nd) (R : List Rw), R0 <+: R → ys.foldl (fun R y => wk pf tk f y R) R = (ys.filter fun y => (kd R0 y).isNone).foldl (fun R y => wk pf tk f y R) R
  | [], R, _ => rfl
  | y :: ys, R, h => by
    by_cases e : (kd R0 y).isSome = true
    · rw [List.filter_cons_of_neg (p := fun y => (kd R0 y).isNone) (some_not e), List.foldl_cons, wk_skip (kd_preS h e)]
      exact fold_unk ys R h
    · rw [List.filter_cons_of_pos (p := fun y => (kd R0 y).isNone) (none_yes e), List.foldl_cons, List.foldl_cons]
      exact fold_unk ys _ (h.trans (wk_pre f y R))
theorem run_wk (hl : ∀ x, (pf x).length ≤ 400) {B : Nat} : ∀ (h : Nat) (x : Nd), ht x ≤ h → ∀ (S : List Nd) (R Z : List Rw) (n : Nat), Clo pf tk R → Run pf tk B n S (wk pf tk (ht x + 1) x R) Z → S.length + 401 * ht x + 1 ≤ B → ∃ m, Run pf tk B m (x :: S) R Z := by
  intro h
  induction h using Nat.strongRecOn with
  | _ h ih =>
    intro x hx S R Z n c run hB
    by_cases k : (kd R x).isSome = true
    · rw [wk_skip k] at run
      refine ⟨n + 1, .known ?_ k run⟩
      unfold unk
      split
      · rfl
      · next t =>
        refine List.filter_eq_nil_iff.mpr fun y hy => ?_
        exact some_not (c x k (by simpa using t) y hy)
    · have k0 : (kd R x).isSome = false := by simpa using k
      by_cases t : tk x = true
      · refine ⟨n + 1, .new ?_ k0 ?_⟩
        · unfold unk
          rw [if_pos t]
        · unfold wk at run
          rw [if_neg k, if_pos t] at run
          exact run
      · have t0 : tk x = false := by simpa using t
        have eu : unk pf tk R x = (pf x).filter fun y => (kd R y).isNone := by
          unfold unk
          rw [if_neg t]
        have ef : (pf x).foldl (fun R y => wk pf tk (ht x) y R) R = (unk pf tk R x).foldl (fun R y => wk pf tk (ht x) y R) R := by
          rw [eu]
          exact fold_unk hp (pf x) R (List.prefix_refl R)
        have ew : wk pf tk (ht x + 1) x R = (unk pf tk R x).foldl (fun R y => wk pf tk (ht x) y R) R ++ [rowOf pf tk ((unk pf tk R x).foldl (fun R y => wk pf tk (ht x) y R) R) x] := by
          rw [← ef]
          conv => lhs; unfold wk
          rw [if_neg k, if_neg t]
        rw [ew] at run
        have um : ∀ y ∈ unk pf tk R x, y ∈ pf x := fun y hy => by
          rw [eu] at hy
          exact (List.mem_filter.mp hy).1
        -- a list of nodes on the stack
        have lst : ∀ (us : List Nd) (T : List Nd) (R : List Rw) (n : Nat), (∀ y ∈ us, y ∈ pf x) → Clo pf tk R → Run pf tk B n T (us.foldl (fun R y => wk pf tk (ht x) y R) R) Z → us.length + T.length + 401 * (ht x - 1) + 1 ≤ B → ∃ m, Run pf tk B m (us ++ T) R Z := by
          intro us
          induction us with
          | nil => exact fun T R n _ _ r _ => ⟨n, r⟩
          | cons u us ihu =>
            intro T R n hm c r hb
            have hu := hp x t0 u (hm u List.mem_cons_self)
            have e1 : wk pf tk (ht x) u R = wk pf tk (ht u + 1) u R := wk_fuel hp _ _ _ _ (by omega) (by omega)
            rw [List.foldl_cons, e1] at r
            rw [List.length_cons] at hb
            obtain ⟨m, r2⟩ := ihu T _ n (fun y hy => hm y (List.mem_cons_of_mem _ hy)) (wk_ok hp _ u R (Nat.lt_succ_self _) c).1 r (by omega)
            have hle : 401 * ht u ≤ 401 * (ht x - 1) := Nat.mul_le_mul_left _ (by omega)
            exact ih (ht u) (by omega) u (Nat.le_refl _) (us ++ T) R Z m c r2 (by rw [List.length_append]; omega)
        have c1 : Clo pf tk ((unk pf tk R x).foldl (fun R y => wk pf tk (ht x) y R) R) ∧ ∀ y ∈ pf x, (kd ((unk pf tk R x).foldl (fun R y => wk pf tk (ht x) y R) R) y).isSome = true := by
          rw [← ef]
          have key : ∀ (ys : List Nd) (R : List Rw), (∀ y ∈ ys, y ∈ pf x) → Clo pf tk R → Clo pf tk (ys.foldl (fun R y => wk pf tk (ht x) y R) R) ∧ ∀ y ∈ ys, (kd (ys.foldl (fun R y => wk pf tk (ht x) y R) R) y).isSome = true := by
            intro ys
            induction ys with
            | nil => exact fun R _ c => ⟨c, fun y h => by cases h⟩
            | cons z ys ih2 =>
              intro R hm c
              have hz := hp x t0 z (hm z List.mem_cons_self)
              obtain ⟨c1, k1⟩ := wk_ok hp (ht x) z R hz c
              obtain ⟨c2, k2⟩ := ih2 (wk pf tk (ht x) z R) (fun y hy => hm y (List.mem_cons_of_mem _ hy)) c1
              refine ⟨c2, fun y hy => ?_⟩
              rcases List.mem_cons.mp hy with q | q
              · rw [q]
                exact kd_preS (fold_pre (fun R y => wk_pre _ y R) ys _) k1
              · exact k2 y q
          exact key (pf x) R (fun y h => h) c
        have kx : (kd ((unk pf tk R x).foldl (fun R y => wk pf tk (ht x) y R) R) x).isSome = false := by
          have key : ∀ (ys : List Nd) (R : List Rw), (∀ y ∈ ys, y ∈ pf x) → (kd (ys.foldl (fun R y => wk pf tk (ht x) y R) R) x).isSome = true → (kd R x).isSome = true := by
            intro ys
            induction ys with
            | nil => exact fun R _ h => h
            | cons y ys ih2 =>
              intro R hm h
              have hy := hp x t0 y (hm y List.mem_cons_self)
              rcases wk_below hp _ y R x (ih2 _ (fun u hu => hm u (List.mem_cons_of_mem _ hu)) h) with q | q
              · exact q
              · omega
          cases q : (kd ((unk pf tk R x).foldl (fun R y => wk pf tk (ht x) y R) R) x).isSome with
          | false => rfl
          | true => exact absurd (key _ R um q) k
        have un : unk pf tk ((unk pf tk R x).foldl (fun R y => wk pf tk (ht x) y R) R) x = [] := by
          conv => lhs; unfold unk
          rw [if_neg t]
          refine List.filter_eq_nil_iff.mpr fun y hy => ?_
          exact some_not (c1.2 y hy)
        have fin := Run.new un kx run
        by_cases ne : unk pf tk R x = []
        · rw [ne] at fin
          exact ⟨_, fin⟩
        · have ul : (unk pf tk R x).length ≤ 400 := by
            rw [eu]
            exact Nat.le_trans (List.length_filter_le _ _) (hl x)
          have h1 : 1 ≤ ht x := by
            obtain ⟨y, hy⟩ := List.exists_mem_of_ne_nil _ ne
            have := hp x t0 y (um y hy)
            omega
          obtain ⟨m, r2⟩ := lst _ (x :: S) R _ um c fin (by rw [List.length_cons]; omega)
          exact ⟨m + 1, .push ne (by rw [List.length_append, List.length_cons]; omega) r2⟩
end
end
end G
namespace ZF
open PySem L2 PyProof.Rows PySem.Spec G
abbrev sPto : Stmt := topS 36
def nc (p : Nd) : List V := [.str p.1, .int p.2]
/-- the parts of a node; hd says the heads below a person -/
def pts (hd : Fm → Int → Str → Str → List Str) (F : Fm) (days : Int) (m dead : Str) (x : Nd) : List Nd :=
  if 0 < x.2 then (F.pa x.1).map fun y => (y, x.2 - 1) else if x.2 = 0 ∧ m = "heads" then (hd F days dead x.1).map fun y => (y, -1) else (F.ch x.1).map fun y => (y, -1)
section
variable {P : Program} {w : World} {K : PySem.W.Frag} {mg : Str → Option Value} {base : Heap}
def spHds (C CB : Addr) (hd : Fm → Int → Str → Str → List Str) : Sp := fun vs H Q _ => ∃ (p r : Addr) (F : Fm) (days : Int) (m dead name : Str), vs = [.ref p, .ref r, .str dead, .str name] ∧ Cas C CB H p r F days m dead ∧ ∀ l H', Same H H' → H l = none → H' l = some (.lst ((hd F days dead name).map V.str)) → (hd F days dead name).length ≤ 900 → Q (.ref l) H'
def spPto (K : PySem.W.Frag) (C CB : Addr) (hd : Fm → Int → Str → Str → List Str) : Sp := fun vs H Q _ => ∃ (p r q : Addr) (F : Fm) (days : Int) (m dead name : Str) (row : Int), vs = [.ref p, .ref r, .str dead, .ref q] ∧ Cas C CB H p r F days m dead ∧ SqT K H q [.str name, .int row] ∧ ∀ l H' (qs : List Addr), Same H H' → H l = none → H' l = some (.lst (qs.map V.ref)) → ZK.TupsAt H' qs ((pts hd F days m dead (name, row)).map nc) → Q (.ref l) H'
abbrev nPto : List Str := ["family", "rules", "dead", "node", "name", "row", "child", "parent", "person"]
theorem scPto : FnScope nPto ["family", "rules", "dead", "node"] (defScope sPto) := ⟨rfl, rfl, rfl, by decide +kernel, rfl, by decide +kernel, by decide +kernel⟩

theorem ok_parts_of {f C CB : Addr} {fd : FuncData} {hd : Fm → Int → Str → Str → List Str} (F : Fun K "parts_of" "parts_of" sPto f fd) (D : FT K C) (DB : ZK.BT K CB) (HH : Has P w K mg base CX0 "_heads" ["family", "rules", "dead", "name"] 4 (spHds C CB hd)) (HP : HasM P w K mg base CX0 C "parents" ["self", "name"] 1 (spLs C fun F k => F.pa k)) (HC : HasM P w K mg base CX0 C "children" ["self", "name"] 1 (spLs C fun F k => F.ch k)) : FnOk P w K mg base CX0 5 f fd ["family", "rules", "dead", "node"] (spPto K C CB hd) := by
  obtain ⟨fHds, fdHds, mHds, kHds, bHds, GHds⟩ := HH.ok
  obtain ⟨fPar, fdPar, mePar, bPar, GPar⟩ := HP.ok
  obtain ⟨fChi, fdChi, meChi, bChi, GChi⟩ := HC.ok
  refine F.ok scPto (fun vs H Q E h => ?_) (fun cdv A outer s H vs Q E hr h => ?_)
  · obtain ⟨p, r, q, F, days, m, dead, name, row, rfl, _⟩ := h
    rfl
  · obtain ⟨p, r, q, F, days, m, dead, name, row, rfl, hC, hq, go⟩ := h
    have lc9 := (hC.l name).1
    have lp9 := (hC.l name).2
    refine ⟨_, (pss_cons (ps_asg (pv 3) (pg_tup (n := 2) rfl (pgs_cons (pg_name (i := 4) scPto.nd rfl (.inl rfl)) (pgs_cons (pg_name (i := 5) scPto.nd rfl (.inr rfl)) pgs_nil))))
      (pss_cons (ps_if (pt_cmpR op_gt (pv 5) pe_int (nomark _)) (pss_one (ps_ret (pe_lc (own := [("parent", 7)]) (g := gName 7) (tt := tYes) rfl scPto.nd (pi_list (pe_meth (pv 0) D.cl mePar GPar (hr.mono (by decide)) bPar .nil pass0 (pa_cons (pv 4) pa_nil))) (blkOk_by (N := nPto) (sc := defScope sPto) (by decide +kernel)) (fun _ _ _ _ _ => (pg_name (i := 7) scPto.nd rfl (.inl rfl) (.inr rfl))) (fun _ _ _ _ _ => pts_nil) (fun _ _ _ _ _ => (pe_tup (pa_cons (pv 7) (pa_cons (pe_op op_sub (pv 5) pe_int) pa_nil))))))) pss_nil)
      (pss_cons (ps_if (PW.pt (pw_and (pt_cmpR op_eq (pv 5) pe_int (nomark _)) (pw_and1 (pt_cmpR op_eq (pe_fld (pv 1) rfl) pe_str (nomark _))))) (pss_one (ps_ret (pe_lc (own := [("person", 8)]) (g := gName 8) (tt := tYes) rfl scPto.nd (pi_list (pe_call GHds (hr.mono (by decide)) (by rfl) mHds kHds bHds .nil pass0 (pa_cons (pv 0) (pa_cons (pv 1) (pa_cons (pv 2) (pa_cons (pv 4) pa_nil)))))) (blkOk_by (N := nPto) (sc := defScope sPto) (by decide +kernel)) (fun _ _ _ _ _ => (pg_name (i := 8) scPto.nd rfl (.inl rfl) (.inr rfl))) (fun _ _ _ _ _ => pts_nil) (fun _ _ _ _ _ => (pe_tup (pa_cons (pv 8) (pa_cons (pe_un un_neg pe_int) pa_nil))))))) pss_nil)
      (pss_one (ps_ret (pe_lc (own := [("child", 6)]) (g := gName 6) (tt := tYes) rfl scPto.nd (pi_list (pe_meth (pv 0) D.cl meChi GChi (hr.mono (by decide)) bChi .nil pass0 (pa_cons (pv 4) pa_nil))) (blkOk_by (N := nPto) (sc := defScope sPto) (by decide +kernel)) (fun _ _ _ _ _ => (pg_name (i := 6) scPto.nd rfl (.inl rfl) (.inr rfl))) (fun _ _ _ _ _ => pts_nil) (fun _ _ _ _ _ => (pe_tup (pa_cons (pv 6) (pa_cons (pe_un un_neg pe_int) pa_nil)))))))))), ?_⟩
    obtain ⟨⟨n, hF⟩, ⟨dx, rw', s', q', hR⟩, ⟨dd, hdd⟩, -, -, -⟩ := id hC
    obtain ⟨dxF, a1, a2, a3, a4, a5, a6, a7, hp, _⟩ := id hF.ex
    refine ⟨_, rfl, q, _, rfl, hq, rfl, _, _, rfl, _, _, rfl, rfl, ?_⟩
    refine ⟨_, rfl, _, _, rfl, rfl, _, rfl, ?_⟩
    unfold pts at go
    dsimp only at go
    by_cases c : 0 < row
    · rw [if_pos c, List.map_map] at go
      rw [decide_eq_true c]
      refine iteT ⟨_, rfl, p, dxF, _, rfl, hp, no_m1 ⟨a1, a2, a3, a4, a5, a6, a7⟩, _, rfl, p, name, n, F, rfl, hF, fun l H1 s1 nl el => ?_⟩
      · refine ⟨l, rfl, ⟨_, SqL.of el⟩, fun D1 nD1 => ?_⟩
        refine lc_it (walk_list (xs := (F.pa name).map V.str)) (fun i Hz => Same H1 Hz ∧ ∃ ts : List Addr, Hz D1 = some (.lst (ts.map V.ref)) ∧ ZK.TupsAt Hz ts (((F.pa name).take i).map fun y => nc (y, row - 1))) ⟨same_upd nD1, [], upd_same, .nil⟩ (fun i Hz _ h => SqL.of (h.1 _ _ el)) ?_ ?_
        · rintro i v Hz H' hi ⟨k1, ts, k2, k3⟩ ⟨rfl, ev⟩
          rw [List.getElem?_map] at ev
          obtain ⟨x, hx, rfl⟩ := Option.map_eq_some_iff.mp ev
          have hxl := (List.getElem?_eq_some_iff.mp hx).1
          refine ⟨rfl, _, rfl, _, rfl, _, _, rfl, rfl, (by show 2 ≤ sizeLine; decide), fun T1 n1 => ⟨_, (same_upd n1) _ _ k2, ?_, ?_, ts ++ [T1], ?_, ?_⟩⟩
          · have := k3.1
            rw [List.length_map, List.length_take] at this
            rw [List.length_map]
            exact small1000 (by omega)
          · intro b o hb
            rw [upd_ne (ne_of_none hb nD1)]
            exact (same_upd n1) _ _ (k1 b o hb)
          · rw [upd_same, List.map_append]
            rfl
          · rw [List.take_add_one, hx, List.map_append]
            have PT : T1 ≠ D1 := fun z => by rw [z, k2] at n1; cases n1
            refine ZK.TupsAt.snoc ⟨k3.1, fun j q c h1 h2 => ?_⟩ (by rw [upd_ne PT, upd_same]; rfl)
            have := same_upd n1 (o := .tup (nc (x, row - 1))) _ _ (k3.2 j q c h1 h2)
            rw [upd_ne (ne_of this ((same_upd n1 (o := .tup (nc (x, row - 1)))) _ _ k2) (by intro z; cases z))]
            exact this
        · rintro H2 ⟨k1, ts, k2, k3⟩
          rw [List.length_map, List.take_length] at k3
          refine go D1 H2 ts (s1.trans k1) (s1.free nD1) k2 ?_
          exact k3

    · rw [if_neg c] at go
      rw [decide_eq_false c]
      refine iteF ⟨_, rfl, rfl, _, rfl, ?_⟩
      by_cases z : row = 0
      · subst z
        rw [decide_eq_true rfl]
        refine iteT ⟨_, rfl, r, CB, dx, _, _, rfl, hR, DB.cl, DB.n2, ZK.lkm _ _ _ _ _, rfl, _, rfl, ?_⟩
        by_cases e : m = "heads"
        · rw [if_pos ⟨rfl, e⟩, List.map_map] at go
          rw [e, decide_eq_true rfl]
          refine iteT ⟨_, rfl, _, rfl, _, rfl, _, rfl, p, r, F, days, m, dead, name, rfl, hC, fun l H1 s1 nl el lh9 => ?_⟩
          refine ⟨l, rfl, ⟨_, SqL.of el⟩, fun D1 nD1 => ?_⟩
          refine lc_it (walk_list (xs := (hd F days dead name).map V.str)) (fun i Hz => Same H1 Hz ∧ ∃ ts : List Addr, Hz D1 = some (.lst (ts.map V.ref)) ∧ ZK.TupsAt Hz ts (((hd F days dead name).take i).map fun y => nc (y, -1))) ⟨same_upd nD1, [], upd_same, .nil⟩ (fun i Hz _ h => SqL.of (h.1 _ _ el)) ?_ ?_
          · rintro i v Hz H' hi ⟨k1, ts, k2, k3⟩ ⟨rfl, ev⟩
            rw [List.getElem?_map] at ev
            obtain ⟨x, hx, rfl⟩ := Option.map_eq_some_iff.mp ev
            have hxl := (List.getElem?_eq_some_iff.mp hx).1
            refine ⟨rfl, _, rfl, 1, rfl, (by show 2 ≤ sizeLine; decide), fun T1 n1 => ⟨_, (same_upd n1) _ _ k2, ?_, ?_, ts ++ [T1], ?_, ?_⟩⟩
            · have := k3.1
              rw [List.length_map, List.length_take] at this
              rw [List.length_map]
              exact small1000 (by omega)
            · intro b o hb
              rw [upd_ne (ne_of_none hb nD1)]
              exact (same_upd n1) _ _ (k1 b o hb)
            · rw [upd_same, List.map_append]
              rfl
            · rw [List.take_add_one, hx, List.map_append]
              have PT : T1 ≠ D1 := fun z => by rw [z, k2] at n1; cases n1
              refine ZK.TupsAt.snoc ⟨k3.1, fun j q c h1 h2 => ?_⟩ (by rw [upd_ne PT, upd_same]; rfl)
              have := same_upd n1 (o := .tup (nc (x, -1))) _ _ (k3.2 j q c h1 h2)
              rw [upd_ne (ne_of this ((same_upd n1 (o := .tup (nc (x, -1)))) _ _ k2) (by intro z; cases z))]
              exact this
          · rintro H2 ⟨k1, ts, k2, k3⟩
            rw [List.length_map, List.take_length] at k3
            refine go D1 H2 ts (s1.trans k1) (s1.free nD1) k2 ?_
            exact k3

        · rw [if_neg fun h => e h.2, List.map_map] at go
          rw [decide_eq_false fun h => e (V.str.inj h)]
          refine iteF ⟨_, rfl, p, dxF, _, rfl, hp, no_mc ⟨a1, a2, a3, a4, a5, a6, a7⟩, _, rfl, p, name, n, F, rfl, hF, fun l H1 s1 nl el => ?_⟩
          refine ⟨l, rfl, ⟨_, SqL.of el⟩, fun D1 nD1 => ?_⟩
          refine lc_it (walk_list (xs := (F.ch name).map V.str)) (fun i Hz => Same H1 Hz ∧ ∃ ts : List Addr, Hz D1 = some (.lst (ts.map V.ref)) ∧ ZK.TupsAt Hz ts (((F.ch name).take i).map fun y => nc (y, -1))) ⟨same_upd nD1, [], upd_same, .nil⟩ (fun i Hz _ h => SqL.of (h.1 _ _ el)) ?_ ?_
          · rintro i v Hz H' hi ⟨k1, ts, k2, k3⟩ ⟨rfl, ev⟩
            rw [List.getElem?_map] at ev
            obtain ⟨x, hx, rfl⟩ := Option.map_eq_some_iff.mp ev
            have hxl := (List.getElem?_eq_some_iff.mp hx).1
            refine ⟨rfl, _, rfl, 1, rfl, (by show 2 ≤ sizeLine; decide), fun T1 n1 => ⟨_, (same_upd n1) _ _ k2, ?_, ?_, ts ++ [T1], ?_, ?_⟩⟩
            · have := k3.1
              rw [List.length_map, List.length_take] at this
              rw [List.length_map]
              exact small1000 (by omega)
            · intro b o hb
              rw [upd_ne (ne_of_none hb nD1)]
              exact (same_upd n1) _ _ (k1 b o hb)
            · rw [upd_same, List.map_append]
              rfl
            · rw [List.take_add_one, hx, List.map_append]
              have PT : T1 ≠ D1 := fun z => by rw [z, k2] at n1; cases n1
              refine ZK.TupsAt.snoc ⟨k3.1, fun j q c h1 h2 => ?_⟩ (by rw [upd_ne PT, upd_same]; rfl)
              have := same_upd n1 (o := .tup (nc (x, -1))) _ _ (k3.2 j q c h1 h2)
              rw [upd_ne (ne_of this ((same_upd n1 (o := .tup (nc (x, -1)))) _ _ k2) (by intro z; cases z))]
              exact this
          · rintro H2 ⟨k1, ts, k2, k3⟩
            rw [List.length_map, List.take_length] at k3
            refine go D1 H2 ts (s1.trans k1) (s1.free nD1) k2 ?_
            exact k3

      · rw [if_neg fun h => z h.1, List.map_map] at go
        rw [decide_eq_false fun h => z (V.int.inj h)]
        refine iteF (iteF ⟨_, rfl, p, dxF, _, rfl, hp, no_mc ⟨a1, a2, a3, a4, a5, a6, a7⟩, _, rfl, p, name, n, F, rfl, hF, fun l H1 s1 nl el => ?_⟩)
        refine ⟨l, rfl, ⟨_, SqL.of el⟩, fun D1 nD1 => ?_⟩
        refine lc_it (walk_list (xs := (F.ch name).map V.str)) (fun i Hz => Same H1 Hz ∧ ∃ ts : List Addr, Hz D1 = some (.lst (ts.map V.ref)) ∧ ZK.TupsAt Hz ts (((F.ch name).take i).map fun y => nc (y, -1))) ⟨same_upd nD1, [], upd_same, .nil⟩ (fun i Hz _ h => SqL.of (h.1 _ _ el)) ?_ ?_
        · rintro i v Hz H' hi ⟨k1, ts, k2, k3⟩ ⟨rfl, ev⟩
          rw [List.getElem?_map] at ev
          obtain ⟨x, hx, rfl⟩ := Option.map_eq_some_iff.mp ev
          have hxl := (List.getElem?_eq_some_iff.mp hx).1
          refine ⟨rfl, _, rfl, 1, rfl, (by show 2 ≤ sizeLine; decide), fun T1 n1 => ⟨_, (same_upd n1) _ _ k2, ?_, ?_, ts ++ [T1], ?_, ?_⟩⟩
          · have := k3.1
            rw [List.length_map, List.length_take] at this
            rw [List.length_map]
            exact small1000 (by omega)
          · intro b o hb
            rw [upd_ne (ne_of_none hb nD1)]
            exact (same_upd n1) _ _ (k1 b o hb)
          · rw [upd_same, List.map_append]
            rfl
          · rw [List.take_add_one, hx, List.map_append]
            have PT : T1 ≠ D1 := fun z => by rw [z, k2] at n1; cases n1
            refine ZK.TupsAt.snoc ⟨k3.1, fun j q c h1 h2 => ?_⟩ (by rw [upd_ne PT, upd_same]; rfl)
            have := same_upd n1 (o := .tup (nc (x, -1))) _ _ (k3.2 j q c h1 h2)
            rw [upd_ne (ne_of this ((same_upd n1 (o := .tup (nc (x, -1)))) _ _ k2) (by intro z; cases z))]
            exact this
        · rintro H2 ⟨k1, ts, k2, k3⟩
          rw [List.length_map, List.take_length] at k3
          refine go D1 H2 ts (s1.trans k1) (s1.free nD1) k2 ?_
          exact k3

end
end ZF
namespace StS
open PySem PySem.Spec PyProof.Rows L2 PpSet
theorem is_strT (P : Program) (w : World) (k : Str) (u : Tok) : (strKind P w).is k (.str k u) = true := by
  show Value.isStrOf k (.str k u) = true
  simp [Value.isStrOf]
/-! ### what a set of texts is -/
def keyT (e : Int × Value) : Str := match e.2 with | .str k _ => k | _ => Str.empty
def GoodT (w : World) (e : Int × Value) : Prop := ∃ k u, e.2 = Value.str k u ∧ e.1 = hashStr w k
/-- the set of texts at a: S its members, n their number; its table rises and can be walked -/
def SetT (w : World) (h : Heap) (a : Addr) (S : Str → Bool) (n : Nat) : Prop :=
  ∃ o es ep t, h.get? a = some o ∧ o.ExactSet ∧ o.data = .set es ep t ∧ (∀ e ∈ es.toList, GoodT w e) ∧ (es.toList.map keyT).Nodup ∧ (∀ k, S k = true ↔ k ∈ es.toList.map keyT) ∧
    es.size < scanBound ∧ t.fits es.size = true ∧ es.size = n ∧ Ris t.place.toList ∧ (w.params.followText "set-order" = true ∨ t.led = true)

section
variable {P : Program} {w : World} {h h' : Heap} {a : Addr} {S : Str → Bool} {n : Nat}

theorem SetT.at (R : SetT w h a S n) (k : ∀ o, h.get? a = some o → h'.get? a = some o) : SetT w h' a S n := by
  obtain ⟨o, es, ep, t, ho, r⟩ := R
  exact ⟨o, es, ep, t, k o ho, r⟩
theorem SetT.lt (R : SetT w h a S n) : a < h.objs.size := by
  obtain ⟨o, es, ep, t, ho, r⟩ := R
  exact Heap.lt_size ho
theorem SetT.congr {S' : Str → Bool} (R : SetT w h a S n) (e : ∀ k, S' k = S k) : SetT w h a S' n := by
  have q : S' = S := funext e
  rw [q]; exact R
theorem goodT_elems {l : List (Int × Value)} (g : ∀ e ∈ l, GoodT w e) : ElemsOf (strKind P w) l := fun e he => by
  obtain ⟨k, u, h1, h2⟩ := g e he
  exact ⟨⟨k, by rw [h1]; exact is_strT P w k u, h2⟩, by rw [h1] <;> rfl⟩
theorem goodT_is {e : Int × Value} (g : GoodT w e) (k : Str) : (strKind P w).is k e.2 = true ↔ keyT e = k := by
  obtain ⟨k0, u0, h1, _⟩ := g
  unfold keyT
  rw [h1]
  show Value.isStrOf k (.str k0 u0) = true ↔ k0 = k
  simp [Value.isStrOf]
theorem goodT_mem {l : List (Int × Value)} (g : ∀ e ∈ l, GoodT w e) (k : Str) : k ∈ l.map keyT ↔ ∃ e ∈ l, (strKind P w).is k e.2 = true := by
  rw [List.mem_map]
  constructor
  · rintro ⟨e, he, q⟩
    exact ⟨e, he, (goodT_is (g e he) k).2 q⟩
  · rintro ⟨e, he, q⟩
    exact ⟨e, he, (goodT_is (g e he) k).1 q⟩
theorem SetT.setOf (R : SetT w h a S n) : h.SetOf (strKind P w) a S n := by
  obtain ⟨o, es, ep, t, ho, hx, hd, g, nd, hm, hb, hf, hn, _⟩ := R
  exact ⟨o, es, ep, t, ho, hx, hd, goodT_elems g, fun k => (hm k).trans (goodT_mem g k), hb, hf, hn⟩
end

section
variable {P : Program} {w : World} {A : Around} {E : Value → Shared → Prop} {s : Shared} {a : Addr} {S : Str → Bool} {n : Nat}

/-! ### add -/
theorem storeT_at {h : Heap} {a : Addr} {o : Obj} {es es' : Array (Int × Value)} {ep : Nat} {t t' : SetTable} (ho : h.get? a = some o) (hd : o.data = .set es ep t) :
    (h.update a (Obj.putSet es' t')).get? a = some { o with data := .set es' (ep + 1) t' } := by
  have q := Heap.get?_update_self (Obj.putSet es' t') ho (by rw [putSet_of es' t' hd]; rfl)
  rw [putSet_of es' t' hd] at q
  exact q

theorem setT_add_tail {g : Bool → Sem Unit} (hg : ∀ (b : Bool) (s₁ : Shared) (Q' : Unit → Shared → Prop), Q' () s₁ → wpAny (model P w) A (g b) Q' E s₁)
    {o : Obj} {es : Array (Int × Value)} {ep : Nat} {t : SetTable} (ho : s.heap.get? a = some o) (hex : o.ExactSet) (hd : o.data = .set es ep t)
    {es1 : Array (Int × Value)} {t2 : SetTable} {S' : Str → Bool} (g1 : ∀ e ∈ es1.toList, GoodT w e) (nd1 : (es1.toList.map keyT).Nodup) (m1 : ∀ k, S' k = true ↔ k ∈ es1.toList.map keyT)
    (hb1 : es1.size < scanBound) (hf2 : t2.fits es1.size = true) (hr : Ris t2.place.toList) (hl : w.params.followText "set-order" = true ∨ t2.led = true) {wasDummy : Bool} {R : Option Bool → Shared → Prop}
    (hR : ∀ h', Heap.SameBut a s.heap h' → SetT w h' a S' es1.size → R (some true) { s with heap := h' }) :
    wpAny (model P w) A (do
        storeSet a es1 t2
        if (!wasDummy && t2.tooFull) = true then do
            g (relayAll t2 es1 (SetTable.grown es1.size)).2.2
            storeSet a (relayAll t2 es1 (SetTable.grown es1.size)).1 (relayAll t2 es1 (SetTable.grown es1.size)).2.1
            pure (some true)
          else pure (some true)) R E s := by
  refine wpAny_bind (wpAny_storeSet_of ho hd ?_ (fits_of_scanBound hb1))
  have ho1 := storeT_at (es' := es1) (t' := t2) ho hd
  have sb1 := Heap.SameBut.update s.heap a (Obj.putSet es1 t2)
  split
  · have pm := relayAll_perm t2 es1 (SetTable.grown es1.size)
    have hf3 := relayAll_fits t2 es1 (SetTable.grown es1.size)
    have hr3 := relayAll_ris t2 es1 (SetTable.grown es1.size)
    have hl3 := relayAll_led t2 es1 (SetTable.grown es1.size)
    generalize relayAll t2 es1 (SetTable.grown es1.size) = Z at pm hf3 hr3 hl3 ⊢
    obtain ⟨es2, t3, gave⟩ := Z
    dsimp only at pm hf3 hr3 hl3 ⊢
    have hsz : es2.size = es1.size := by rw [← Array.length_toList, pm.length_eq, Array.length_toList]
    have hb2 : es2.size < scanBound := by rw [hsz]; exact hb1
    refine wpAny_bind (hg _ _ _ ?_)
    refine wpAny_bind (wpAny_storeSet_of ho1 rfl ?_ (fits_of_scanBound hb2))
    have ho2 := storeT_at (es' := es2) (t' := t3) ho1 rfl
    refine wpAny_pure (hR _ (sb1.trans (Heap.SameBut.update _ a _)) ?_)
    exact ⟨_, es2, _, t3, ho2, hex, rfl, fun e he => g1 e (pm.mem_iff.mp he), (pm.map keyT).nodup_iff.mpr nd1, fun k => (m1 k).trans (pm.map keyT).mem_iff.symm, hb2, hf3, hsz, hr3,
      hl.imp id fun z => by rw [hl3]; exact z⟩
  · exact wpAny_pure (hR _ sb1 ⟨_, es1, _, t2, ho1, hex, rfl, g1, nd1, m1, hb1, hf2, rfl, hr, hl⟩)

theorem setT_add_hashed {k : Str} {u : Tok} {Q : Bool → Shared → Prop} (R : SetT w s.heap a S n) (room : n + 1 < scanBound)
    (hQ : ∀ h', Heap.SameBut a s.heap h' → SetT w h' a (fun j => S j || decide (j = k)) (if S k = true then n else n + 1) → Q (!S k) { s with heap := h' }) :
    wpAny (model P w) A (setAddHashed a (.str k u) ((strKind P w).hash k)) Q E s := by
  obtain ⟨o, es, ep, t, ho, hex, hd, g, nd, hm, hb, hf, hn, hr, hl⟩ := R
  have hkey : (strKind P w).is k (.str k u) = true := is_strT P w k u
  have hsc : (Value.str k u).scannable = true := rfl
  have hel : ElemsOf (strKind P w) es.toList := goodT_elems g
  unfold setAddHashed setAddHashedIn
  refine wpAny_holding (wpAny_bind (wpAny_setState_of ho hd hf ?_))
  dsimp only
  rw [byScan_of hsc hb hel]
  simp only [↓reduceIte]
  unfold setAddByScan
  refine wpAny_bind ?_
  refine wpAny_bind (wpAny_rule ?_)
  refine wpAny_bind (wpAny_setScan_of hkey ho hd hf hel ?_)
  cases hfi : List.findIdx? (fun e => (strKind P w).is k e.2) es.toList with
  | some j =>
    dsimp only
    obtain ⟨hj, pj, _⟩ := List.findIdx?_eq_some_iff_getElem.mp hfi
    have hSk : S k = true := (hm k).2 ((goodT_mem (P := P) (w := w) g k).2 ⟨es.toList[j], List.getElem_mem hj, pj⟩)
    refine wpAny_pure (wpAny_pure ?_)
    have q := hQ s.heap (Heap.SameBut.refl a s.heap) ⟨o, es, ep, t, ho, hex, hd, g, nd, fun i => by
      rw [Bool.or_eq_true, decide_eq_true_eq, ← hm i]
      exact ⟨fun z => z.elim id (fun e => e ▸ hSk), .inl⟩, hb, hf, by rw [if_pos hSk]; exact hn, hr, hl⟩
    rw [hSk] at q
    exact q
  | none =>
    dsimp only
    have hnk : k ∉ es.toList.map keyT := fun z => by
      obtain ⟨e, he, q⟩ := (goodT_mem (P := P) (w := w) g k).1 z
      have c := List.findIdx?_eq_none_iff.mp hfi e he
      rw [q] at c
      cases c
    have hSk : S k = false := by
      cases q : S k with
      | false => rfl
      | true => exact absurd ((hm k).1 q) hnk
    have hgw : ∀ (b : Bool) {s₁ : Shared} {Q' : Unit → Shared → Prop}, Q' () s₁ → wpAny (model P w) A (match b with | true => rule "set.scan.the-table-gave-way" | false => pure ()) Q' E s₁ :=
      fun b s₁ Q' q => by cases b <;> first | exact wpAny_pure q | exact wpAny_rule q
    have pm := layNew_perm t es ((strKind P w).hash k) (.str k u)
    have hf1 := layNew_fits t es ((strKind P w).hash k) (.str k u)
    have hr1 := layNew_ris t es ((strKind P w).hash k) (.str k u) hr
    have hl1 := layNew_led t es ((strKind P w).hash k) (.str k u)
    generalize layNew t es ((strKind P w).hash k) (.str k u) = Z at pm hf1 hr1 hl1 ⊢
    obtain ⟨es1, t1, wasDummy, gave⟩ := Z
    dsimp only at pm hf1 hr1 hl1 ⊢
    rw [Array.toList_push] at pm
    have pc : es1.toList.Perm (((strKind P w).hash k, Value.str k u) :: es.toList) := pm.trans (List.perm_append_singleton _ _)
    have pk : (es1.toList.map keyT).Perm (k :: es.toList.map keyT) := pc.map keyT
    have g1 : ∀ e ∈ es1.toList, GoodT w e := fun e he => by
      rcases List.mem_cons.mp (pc.mem_iff.mp he) with z | z
      · rw [z]; exact ⟨k, u, rfl, rfl⟩
      · exact g e z
    have nd1 : (es1.toList.map keyT).Nodup := pk.nodup_iff.mpr (List.nodup_cons.mpr ⟨hnk, nd⟩)
    have m1 : ∀ i, (S i || decide (i = k)) = true ↔ i ∈ es1.toList.map keyT := fun i => by
      rw [Bool.or_eq_true, decide_eq_true_eq, hm i, pk.mem_iff, List.mem_cons]
      exact Or.comm
    have hsz : es1.size = n + 1 := by rw [← Array.length_toList, pc.length_eq, List.length_cons, Array.length_toList, hn]
    have hb1 : es1.size < scanBound := by rw [hsz]; exact room
    have hled : w.params.followText "set-order" = true ∨ t1.led = true := hl.imp id fun z => by rw [hl1]; exact z
    have fin : ∀ h', Heap.SameBut a s.heap h' → SetT w h' a (fun j => S j || decide (j = k)) es1.size → Q true { s with heap := h' } := fun h' sb r => by
      have q := hQ h' sb
      rw [hSk] at q
      rw [hsz] at r
      exact q r
    refine wpAny_bind (hgw _ ?_)
    split
    · refine wpAny_bind ?_
      rw [hashByValue_scannable 8 hsc]
      refine wpAny_pure ?_
      refine setT_add_tail ?_ ho hex hd g1 nd1 m1 hb1 ?_ ?_ ?_ ?_
      · intro b s₁ Q' q; cases b <;> first | exact wpAny_pure q | exact wpAny_rule q
      · first | (split <;> first | exact hf1 | exact SetTable.fits_plain_off hf1) | exact hf1
      · first | (split <;> exact hr1) | exact hr1
      · first | (split <;> exact hled) | exact hled
      · intro h' sb r; dsimp only; exact wpAny_pure (fin h' sb r)
    · refine wpAny_bind (wpAny_pure ?_)
      simp only [↓reduceIte]
      refine setT_add_tail ?_ ho hex hd g1 nd1 m1 hb1 hf1 hr1 hled ?_
      · intro b s₁ Q' q; cases b <;> first | exact wpAny_pure q | exact wpAny_rule q
      · intro h' sb r; dsimp only; exact wpAny_pure (fin h' sb r)

/-- found.add(k) -/
theorem setT_add {k : Str} {u : Tok} {Q : Value → Shared → Prop} (R : SetT w s.heap a S n) (room : n + 1 < scanBound)
    (hQ : ∀ h', Heap.SameBut a s.heap h' → SetT w h' a (fun j => S j || decide (j = k)) (if S k = true then n else n + 1) → Q .none { s with heap := h', toks := s.toks + 1 }) :
    wpAny (model P w) A (call (.builtin "set.add") [.ref a, .str k u]) Q E s := by
  have hS : s.heap.SetOf (strKind P w) a S n := R.setOf
  refine wpAny_call_entry F.slot_set_add hS.typeIs F.entry_set_add ?_ (F.args_set_add_2 _ _)
  unfold Builtin.«set.add» Builtin.Frozenset.oneOther
  simp only [List.isEmpty_nil, bind_assoc]
  unfold Builtin.Frozenset.addrOf setAdd
  refine wpAny_bind (wpAny_pure ?_)
  try dsimp only
  refine wpAny_bind (wpAny_pure ?_)
  try dsimp only
  refine wpAny_bind ?_
  refine wpAny_holding ?_
  refine wpAny_bind ((strKind P w).pyHash (is_strT P w k u) ?_)
  refine setT_add_hashed (s := { s with toks := s.toks + 1 }) R room fun h' sb r => ?_
  show wpAny _ _ (ret Value.none) _ _ _
  exact wpAny_pure ⟨_, rfl, hQ h' sb r⟩

end
section
variable {P : Program} {w : World} {A : Around} {E : Value → Shared → Prop} {s : Shared}
/-! ### a new set -/
theorem setT_fresh {h : Heap} (w : World) : SetT w (h.push { cls := .type "set", dict := none, data := .set #[] 0 (.fresh 0 0 (!w.params.followText "set-order")) }) h.objs.size (fun _ => false) 0 :=
  ⟨_, #[], 0, _, Heap.get?_push_size _ rfl, ⟨rfl, rfl, rfl⟩, rfl, (fun e he => by simp at he), (by simp), (fun k => by simp), (by decide), (by rfl), rfl, List.Pairwise.nil, by
    show _ ∨ (!w.params.followText "set-order") = true
    cases w.params.followText "set-order"
    · exact .inr rfl
    · exact .inl rfl⟩
theorem newSet_ok {Q : Value → Shared → Prop} (h : Q (.ref s.heap.objs.size) { s with heap := s.heap.push { cls := .type "set", dict := none, data := .set #[] 0 (.fresh 0 0 (!w.params.followText "set-order")) } }) :
    wpAny (model P w) A (newSet (.type "set")) Q E s := by
  unfold newSet
  refine wpAny_bind (wpAny_byText ?_)
  dsimp only
  simp only [newObj]
  exact wpAny_bind (wpAny_alloc (wpAny_pure h))

end
/-! ### as tracked things -/
/-- the set of texts at a -/
def SetTO (w : World) (a : Addr) (S : Str → Bool) (n : Nat) : HO := .ext fun h => SetT w h a S n
theorem setTO_new {w : World} {P : Program} {H : Hp} {h : Heap} {a : Addr} {S : Str → Bool} {n : Nat} (R : SetT w h a S n) : ObjOk P w H h a (SetTO w a S n) := by
  have ⟨o, _, _, _, ho, _⟩ := R
  exact ⟨R, ⟨o, ho⟩, fun h1 h2 p k => SetT.at p k⟩
section
variable {X : Cx}
theorem setTO_get {pins : List (Addr × Obj)} {σ : L2.St} {H : Hp} {s : Shared} {a : Addr} {S : Str → Bool} {n : Nat} (I : Inv X pins σ H s) (ha : H a = some (SetTO X.w a S n)) : SetT X.w s.heap a S n := (I.hok a _ ha).1
theorem addT_ok {pins : List (Addr × Obj)} {σ : L2.St} {H : Hp} {s : Shared} {E : Value → Shared → Prop} {D : Addr} {S : Str → Bool} {n : Nat} {y : Str} {u : Tok} {Q : Value → Shared → Prop} (I : Inv X pins σ H s) (hD : H D = some (SetTO X.w D S n)) (room : n + 1 < scanBound)
    (h : ∀ s', Inv X pins σ (upd H D (SetTO X.w D (fun j => S j || decide (j = y)) (if S y = true then n else n + 1))) s' → Q .none s') : wpAny (model X.prog X.w) X.A (call (.builtin "set.add") [.ref D, .str y u]) Q E s := by
  have R := setTO_get I hD
  refine setT_add R room fun h' sb new => ?_
  have he : ∃ u, h'.get? D = some u := by
    have ⟨o, _, _, _, ho, _⟩ := new
    exact ⟨o, ho⟩
  exact h _ (I.write (e := D) (t' := s.toks + 1) (by rw [hD]; trivial) (.inl rfl) (fun b u hb hu => (sb.2 b hb).trans hu) he (setTO_new new))
end
theorem compTurnS2_out (elt t0 i0 t1 i1 : Expr) (ifs0 ifs1 : List Expr) (scope : Scope) (pos : Pos) (it acc : Value) (env : Env) :
    compTurn (.SetComp elt [⟨t0, i0, ifs0, 0⟩, ⟨t1, i1, ifs1, 0⟩] scope pos) 0 it acc env = (do
      standAt i0.pos
      match ← pyNext it with
      | none => pure (.done .next)
      | some v =>
        letOwnedTupleGo t0 it v
        assign t0 env v
        let mut ok := true
        for c in ifs0 do
          if ok then ok ← isTrue c env (eval c env)
        if ok then
          let x ← eval i1 env
          standAt i1.pos
          let x ← foldedSetIterable i1 env x
          let _ ← runOwn (.compStart (.SetComp elt [⟨t0, i0, ifs0, 0⟩, ⟨t1, i1, ifs1, 0⟩] scope pos) 1 (← holding [x] (pyIter x)) acc env) env
        again (.compLoop (.SetComp elt [⟨t0, i0, ifs0, 0⟩, ⟨t1, i1, ifs1, 0⟩] scope pos) 0 it acc env)) := by rfl
theorem compTurnS2_in (elt t0 i0 t1 i1 : Expr) (ifs0 ifs1 : List Expr) (scope : Scope) (pos : Pos) (it acc : Value) (env : Env) :
    compTurn (.SetComp elt [⟨t0, i0, ifs0, 0⟩, ⟨t1, i1, ifs1, 0⟩] scope pos) 1 it acc env = (do
      standAt i1.pos
      match ← pyNext it with
      | none => pure (.done .next)
      | some v =>
        letOwnedTupleGo t1 it v
        assign t1 env v
        let mut ok := true
        for c in ifs1 do
          if ok then ok ← isTrue c env (eval c env)
        if ok then
          (do let v ← eval elt env; standAt elt.pos; let _ ← call (.builtin "set.add") [acc, v])
        again (.compLoop (.SetComp elt [⟨t0, i0, ifs0, 0⟩, ⟨t1, i1, ifs1, 0⟩] scope pos) 1 it acc env)) := by rfl

section
variable {prog : Program} {w : World} {A : Around} {R : Result → Shared → Prop} {s : Shared} {elt t0 i0 t1 i1 : Expr} {ifs0 ifs1 : List Expr} {scope : Scope} {pos : Pos} {it acc : Value} {env : Env}
/-- the loop of the first clause -/
theorem compLoopS2_out (hs : ∀ x, foldedSetIterable i1 env x = pure x) (I : Nat → Shared → Prop)
    (turn : ∀ n s, I n s → wpAny (model prog w) A (pyNext it) (fun r s₁ => match r with
      | none => R (.ok .next) s₁
      | some v => wpAny (model prog w) A (letOwnedTupleGo t0 it v) (fun _ s₁' => wpAny (model prog w) A (assign t0 env v) (fun _ s₂ =>
          wpAny (model prog w) A (forIn ifs0 true fun c r => if r = true then do let ok ← isTrue c env (eval c env); pure (ForInStep.yield ok) else pure (ForInStep.yield r)) (fun ok s₃ =>
            if ok = true then wpAny (model prog w) A (eval i1 env) (fun x s₄ => wpAny (model prog w) A (pyIter x) (fun it1 s₅ =>
              codeAny (model prog w) A (.compStart (.SetComp elt [⟨t0, i0, ifs0, 0⟩, ⟨t1, i1, ifs1, 0⟩] scope pos) 1 it1 acc env) (fun r s' => match r with
                | .ok _ => ∃ m, m < n ∧ I m s'
                | .error _ => False) s₅) (notedBy (model prog w) A env fun e s' => R (.error e) s') s₄) (notedBy (model prog w) A env fun e s' => R (.error e) s') s₃
            else ∃ m, m < n ∧ I m s₃) (notedBy (model prog w) A env fun e s' => R (.error e) s') s₂) (notedBy (model prog w) A env fun e s' => R (.error e) s') s₁') (notedBy (model prog w) A env fun e s' => R (.error e) s') s₁) (notedBy (model prog w) A env fun e s' => R (.error e) s') s)
    (n : Nat) (h : I n s) :
    codeAny (model prog w) A (.compLoop (.SetComp elt [⟨t0, i0, ifs0, 0⟩, ⟨t1, i1, ifs1, 0⟩] scope pos) 0 it acc env) R s := by
  refine codeAny_loop rfl I (fun n s hI => ?_) n h
  show wpAny _ A ((compTurn (.SetComp elt [⟨t0, i0, ifs0, 0⟩, ⟨t1, i1, ifs1, 0⟩] scope pos) 0 it acc env).onRaise (fun x => do noteFrame x env; theTreesLotGoes x)) _ _ s
  refine wpAny_noted ?_
  rw [compTurnS2_out]
  refine wpAny_bind (wpAny_standAt (wpAny_bind (wpAny_mono (turn n s hI) (fun r s₁ h₁ => ?_) fun _ _ h' => h')))
  cases r with
  | none => exact wpAny_pure h₁
  | some v =>
    refine wpAny_bind (wpAny_mono h₁ (fun _ s₁' h₁' => ?_) fun _ _ h' => h')
    refine wpAny_bind (wpAny_mono h₁' (fun _ s₂ h₂ => wpAny_bind (wpAny_mono h₂ (fun ok s₃ h₃ => ?_) fun _ _ h' => h')) fun _ _ h' => h')
    cases ok with
    | false => exact wpAny_pure ⟨rfl, h₃⟩
    | true =>
      refine wpAny_bind (wpAny_mono h₃ (fun x s₄ h₄ => ?_) fun _ _ h' => h')
      refine wpAny_bind (wpAny_standAt (wpAny_bind (wpAny_of_eq (hs x) (wpAny_bind (wpAny_holding (wpAny_mono h₄ (fun it1 s₅ h₅ => ?_) fun _ _ h' => h'))))))
      refine wpAny_bind (wpAny_runOwn ?_)
      rw [Around.mark_none]
      refine codeAny_mono h₅ fun r s' hr => ?_
      cases r with
      | ok f =>
        first
          | exact wpAny_pure ⟨rfl, hr⟩
          | exact wpAny_bind (wpAny_pure (wpAny_pure ⟨rfl, hr⟩))
      | error e => exact hr.elim
/-- the loop of the second -/
theorem compLoopS2_in (I : Nat → Shared → Prop)
    (turn : ∀ n s, I n s → wpAny (model prog w) A (pyNext it) (fun r s₁ => match r with
      | none => R (.ok .next) s₁
      | some v => wpAny (model prog w) A (letOwnedTupleGo t1 it v) (fun _ s₁' => wpAny (model prog w) A (assign t1 env v) (fun _ s₂ =>
          wpAny (model prog w) A (forIn ifs1 true fun c r => if r = true then do let ok ← isTrue c env (eval c env); pure (ForInStep.yield ok) else pure (ForInStep.yield r)) (fun ok s₃ =>
            if ok = true then wpAny (model prog w) A (eval elt env) (fun x s₄ =>
              wpAny (model prog w) A (call (.builtin "set.add") [acc, x]) (fun _ s₅ => ∃ m, m < n ∧ I m s₅) (notedBy (model prog w) A env fun e s' => R (.error e) s') s₄) (notedBy (model prog w) A env fun e s' => R (.error e) s') s₃
            else ∃ m, m < n ∧ I m s₃) (notedBy (model prog w) A env fun e s' => R (.error e) s') s₂) (notedBy (model prog w) A env fun e s' => R (.error e) s') s₁') (notedBy (model prog w) A env fun e s' => R (.error e) s') s₁) (notedBy (model prog w) A env fun e s' => R (.error e) s') s)
    (n : Nat) (h : I n s) :
    codeAny (model prog w) A (.compLoop (.SetComp elt [⟨t0, i0, ifs0, 0⟩, ⟨t1, i1, ifs1, 0⟩] scope pos) 1 it acc env) R s := by
  refine codeAny_loop rfl I (fun n s hI => ?_) n h
  show wpAny _ A ((compTurn (.SetComp elt [⟨t0, i0, ifs0, 0⟩, ⟨t1, i1, ifs1, 0⟩] scope pos) 1 it acc env).onRaise (fun x => do noteFrame x env; theTreesLotGoes x)) _ _ s
  refine wpAny_noted ?_
  rw [compTurnS2_in]
  refine wpAny_bind (wpAny_standAt (wpAny_bind (wpAny_mono (turn n s hI) (fun r s₁ h₁ => ?_) fun _ _ h' => h')))
  cases r with
  | none => exact wpAny_pure h₁
  | some v =>
    refine wpAny_bind (wpAny_mono h₁ (fun _ s₁' h₁' => ?_) fun _ _ h' => h')
    refine wpAny_bind (wpAny_mono h₁' (fun _ s₂ h₂ => wpAny_bind (wpAny_mono h₂ (fun ok s₃ h₃ => ?_) fun _ _ h' => h')) fun _ _ h' => h')
    cases ok with
    | false => exact wpAny_pure ⟨rfl, h₃⟩
    | true =>
      exact wpAny_bind (wpAny_bind (wpAny_mono h₃ (fun x s₄ h₄ => wpAny_bind (wpAny_standAt (wpAny_bind (wpAny_mono h₄ (fun _ s₅ h₅ => wpAny_pure (wpAny_pure ⟨rfl, h₅⟩)) fun _ _ h' => h')))) fun _ _ h' => h'))
/-- the second clause's start -/
theorem compStartS1_ok (h0 : codeAny (model prog w) A (.compLoop (.SetComp elt [⟨t0, i0, ifs0, 0⟩, ⟨t1, i1, ifs1, 0⟩] scope pos) 1 it acc env) R s)
    (h : wpAny (model prog w) A (pyIter it) (fun it' s' => codeAny (model prog w) A (.compLoop (.SetComp elt [⟨t0, i0, ifs0, 0⟩, ⟨t1, i1, ifs1, 0⟩] scope pos) 1 it' acc env) R s')
      (notedBy (model prog w) A env fun x s' => R (.error x) s') s) :
    codeAny (model prog w) A (.compStart (.SetComp elt [⟨t0, i0, ifs0, 0⟩, ⟨t1, i1, ifs1, 0⟩] scope pos) 1 it acc env) R s := by
  refine codeAny_of_tree ?_
  show wpAny _ _ ((compStart (.SetComp elt [⟨t0, i0, ifs0, 0⟩, ⟨t1, i1, ifs1, 0⟩] scope pos) 1 it acc env).onRaise (fun x => do noteFrame x env; standAt theWindowsPlace)) _ _ s
  refine wpAny_notedAt ?_
  unfold compStart
  show wpAny _ _ (ask >>= _) _ _ s
  refine wpAny_bind (wpAny_askSetting (wpAny_ite ?_))
  split
  · first
      | exact wpAny_bind (wpAny_pure (wpAny_pure (And.intro rfl h0)))
      | exact wpAny_pure (And.intro rfl h0)
  · first
      | exact wpAny_bind (wpAny_rule (wpAny_bind (wpAny_standAt (wpAny_bind (wpAny_mono h (fun it' s' h' => wpAny_pure (And.intro rfl h')) fun _ _ x => x)))))
      | (refine wpAny_bind (wpAny_rule ?_); show wpAny _ _ (standAt i1.pos >>= _) _ _ s; exact wpAny_bind (wpAny_standAt (wpAny_bind (wpAny_mono h (fun it' s' h' => wpAny_pure (And.intro rfl h')) fun _ _ x => x))))
end

section
variable {X : Cx}
/-- [elt for tg in iter if .. for tg1 in iter1 if ..]: behind the first clause's store and tests the second source's own loop, from which Nx is reached. vs: the block's names; vs1: those of the second target -/
def tSc2 (w : World) (wi : TI) (g : TG) (tt : TT) (wi1 : TI) (g1 : TG) (tt1 : TT) (te : TE) (vs vs1 : List Nat) : TE := fun σ H Q => wi σ H fun J H1 => ∀ D, H1 D = none → ∃ W : Nat → Nat → Hp → Prop, (∃ m, W 0 m (upd H1 D (SetTO w D (fun _ => false) 0))) ∧ ∀ i m H, W i m H →
  (J.stop i H ∧ Q (.ref D) H) ∨ (J.go i H ∧ ∃ Nx : Hp → Prop, (∀ H', Nx H' → ∃ m', m' < m ∧ W (i + 1) m' H') ∧ ∀ x H', J.yld i H x H' → g x (wipe σ vs) H' fun σ2 H2 => wipe σ2 vs = wipe σ vs ∧ tt σ2 H2 fun b H3 =>
    if b = true then wi1 σ2 H3 fun J1 H4 => ∃ W1 : Nat → Nat → Hp → Prop, (∃ m, W1 0 m H4) ∧ ∀ j k H, W1 j k H →
      (J1.stop j H ∧ Nx H) ∨ (J1.go j H ∧ ∃ Nx1 : Hp → Prop, (∀ H', Nx1 H' → ∃ k', k' < k ∧ W1 (j + 1) k' H') ∧ ∀ x H', J1.yld j H x H' → g1 x (wipe σ2 vs1) H' fun σ3 H5 => wipe σ3 vs1 = wipe σ2 vs1 ∧ tt1 σ3 H5 fun b H6 =>
        if b = true then te σ3 H6 fun y H7 => ∃ (c : PySem.Str) (S : PySem.Str → Bool) (n : Nat), y = .str c ∧ H7 D = some (SetTO w D S n) ∧ n + 1 < scanBound ∧ Nx1 (upd H7 D (SetTO w D (fun j => S j || decide (j = c)) (if S c = true then n else n + 1))) else Nx1 H6)
    else Nx H3)
theorem sc2_core {pins : List (Addr × Obj)} {s : Shared} {σ : L2.St} {H : Hp} {Q : VK} {elt tg iter tg1 iter1 : Expr} {ifs ifs1 : List Expr} {scope : Scope} {own : List (PySem.Str × Nat)} {vs1 : List Nat} {pos pos' : Pos} {wi wi1 : TI} {g g1 : TG} {tt tt1 : TT} {te : TE} {use : Option (Value → Sem Unit)} {Qf : Value → Shared → Prop}
    (hc : X.calm = true) (hN : X.N.Nodup) (I : Inv X pins σ H s) (hi : PI X tg iter wi) (ok : BlkOk X.N X.env.scope scope own) (hv : ∀ i ∈ vs1, i ∈ own.map (·.2))
    (hg : ∀ (s : Shared) (H : Hp) (C : Addr) (cl : List (PySem.Str × Addr)) (fp : List Addr), PG (X.blk s H scope (compEnvC scope cl C X.env) fp) tg g) (ht : ∀ (s : Shared) (H : Hp) (C : Addr) (cl : List (PySem.Str × Addr)) (fp : List Addr), PTs (X.blk s H scope (compEnvC scope cl C X.env) fp) ifs tt)
    (he : ∀ (s : Shared) (H : Hp) (C : Addr) (cl : List (PySem.Str × Addr)) (fp : List Addr), PE (X.blk s H scope (compEnvC scope cl C X.env) fp) elt te) (hs : ∀ x, foldedSetIterable iter X.env x = pure x)
    (hi1 : ∀ (s : Shared) (H : Hp) (C : Addr) (cl : List (PySem.Str × Addr)) (fp : List Addr), PI (X.blk s H scope (compEnvC scope cl C X.env) fp) tg1 iter1 wi1)
    (hg1 : ∀ (s : Shared) (H : Hp) (C : Addr) (cl : List (PySem.Str × Addr)) (fp : List Addr), PG (X.blk s H scope (compEnvC scope cl C X.env) fp) tg1 g1)
    (ht1 : ∀ (s : Shared) (H : Hp) (C : Addr) (cl : List (PySem.Str × Addr)) (fp : List Addr), PTs (X.blk s H scope (compEnvC scope cl C X.env) fp) ifs1 tt1)
    (hs1 : ∀ env x, foldedSetIterable iter1 env x = pure x)
    (h : tSc2 X.w wi g tt wi1 g1 tt1 te (own.map (·.2)) vs1 σ H Q)
    (hRR : ∀ D C s' m H', Inv X pins σ H' s' → Q (.ref D) H' → s'.heap.Ns C m → FpOk X pins H' C → compPost (model X.prog X.w) X.A X.xe use Qf (.ref D) C (.ok .next) s') :
    wpAny (model X.prog X.w) X.A (comprehension (.SetComp elt [⟨tg, iter, ifs, 0⟩, ⟨tg1, iter1, ifs1, 0⟩] scope pos) scope X.env pos' (newSet (.type "set")) false (eval iter X.env) use) Qf X.xe s := by
  have hfree : ∀ y ∈ scope.names, y.2 = .free → ∃ c, X.env.cells.lookup y.1 = some c := fun y hy e => by
    rcases ok.free y hy e with k | k
    · exact I.ok.has _ (.inl k)
    · exact I.ok.has _ (.inr k)
  refine wpAny_comprehension_free (use := use) rfl hs (closure_ok hfree) ok.kind (fun y hy e => by rw [ok.uniq y hy, e])
    (thn (hi.run pins s σ H _ I h) fun xv s1 hx => thn hx fun itv s2 h2 => ?_)
  obtain ⟨it, fp, tn, J, H2, e, I2, T, st2, f2, q⟩ := h2
  subst e
  refine newSet_ok (newEnv_comp ?_)
  generalize hD : s2.heap.objs.size = D
  have hDn : H2 D = none := I2.hok.fresh (Nat.le_of_eq hD)
  obtain ⟨W, ⟨m0, w0⟩, turn⟩ := q D hDn
  -- the new list
  generalize hs3 : ({ s2 with heap := s2.heap.push { cls := .type "set", dict := none, data := .set #[] 0 (.fresh 0 0 (!X.w.params.followText "set-order")) } } : Shared) = s3
  have I3 : Inv X pins σ (upd H2 D (SetTO X.w D (fun _ => false) 0)) s3 := by
    rw [← hs3]
    refine I2.laid (t' := s2.toks) (fun b o e => Heap.get?_push_of_some _ e) (Nat.le_of_eq hD) ?_
    rw [← hD]
    exact setTO_new (setT_fresh X.w)
  have h3 : s3.heap = s2.heap.push { cls := .type "set", dict := none, data := .set #[] 0 (.fresh 0 0 (!X.w.params.followText "set-order")) } := by rw [← hs3]
  have sz : ∀ b ∈ fp, b < s2.heap.objs.size := fun b hb => by
    obtain ⟨o, e, _⟩ := T.obj _ _ st2 b hb
    exact Heap.lt_size e
  have f3 : ∀ b ∈ fp, FpOk X pins (upd H2 D (SetTO X.w D (fun _ => false) 0)) b ∧ b < s3.heap.objs.size := fun b hb => by
    have hlt := sz b hb
    refine ⟨⟨?_, (f2 b hb).2⟩, by rw [h3, Heap.size_push]; exact Nat.lt_succ_of_lt hlt⟩
    rw [upd_ne (by rw [← hD]; exact Nat.ne_of_lt hlt)]
    exact (f2 b hb).1
  have st3 : tn 0 s3.heap := T.keep _ _ _ st2 fun b _ o e => by rw [h3]; exact Heap.get?_push_of_some _ e
  have I4 := block_start I3 ok hN f3
  have pg := hg s3 (upd H2 D (SetTO X.w D (fun _ => false) 0)) s3.heap.objs.size (cellsFrom (s3.heap.objs.size + 1) scope.names (cloFrom X.env.cells scope.names [])) fp
  have pt := ht s3 (upd H2 D (SetTO X.w D (fun _ => false) 0)) s3.heap.objs.size (cellsFrom (s3.heap.objs.size + 1) scope.names (cloFrom X.env.cells scope.names [])) fp
  have pe := he s3 (upd H2 D (SetTO X.w D (fun _ => false) 0)) s3.heap.objs.size (cellsFrom (s3.heap.objs.size + 1) scope.names (cloFrom X.env.cells scope.names [])) fp
  have pi1 := hi1 s3 (upd H2 D (SetTO X.w D (fun _ => false) 0)) s3.heap.objs.size (cellsFrom (s3.heap.objs.size + 1) scope.names (cloFrom X.env.cells scope.names [])) fp
  have pg1 := hg1 s3 (upd H2 D (SetTO X.w D (fun _ => false) 0)) s3.heap.objs.size (cellsFrom (s3.heap.objs.size + 1) scope.names (cloFrom X.env.cells scope.names [])) fp
  have pt1 := ht1 s3 (upd H2 D (SetTO X.w D (fun _ => false) 0)) s3.heap.objs.size (cellsFrom (s3.heap.objs.size + 1) scope.names (cloFrom X.env.cells scope.names [])) fp
  show codeAny _ _ (.compStart (.SetComp elt [⟨tg, iter, ifs, 0⟩, ⟨tg1, iter1, ifs1, 0⟩] scope pos) 0 (.ref it) (.ref D) (compEnvC scope (cellsFrom (s3.heap.objs.size + 1) scope.names (cloFrom X.env.cells scope.names [])) s3.heap.objs.size X.env)) (compPost (model X.prog X.w) X.A X.xe use Qf (.ref D) s3.heap.objs.size) { s3 with heap := pushCells (s3.heap.push { cls := .type "dict", data := .dict #[] }) scope.names }
  have nfp : ∀ b ∈ fp, (upd H2 D (SetTO X.w D (fun _ => false) 0)) b = none := fun b hb => (f3 b hb).1.1
  generalize hce : compEnvC scope (cellsFrom (s3.heap.objs.size + 1) scope.names (cloFrom X.env.cells scope.names [])) s3.heap.objs.size X.env = ce at I4 pg pt pe pi1 pg1 pt1 ⊢
  have cL : ce.locals = s3.heap.objs.size := by subst hce; rfl
  generalize hH3 : upd H2 D (SetTO X.w D (fun _ => false) 0) = H3 at I3 I4 pg pt pe pi1 pg1 pt1 w0 nfp f3
  generalize hs4 : ({ s3 with heap := pushCells (s3.heap.push { cls := .type "dict", data := .dict #[] }) scope.names } : Shared) = s4 at I4 ⊢
  have st4 : tn 0 s4.heap := T.keep _ _ _ st3 fun b _ o e => by rw [← hs4]; exact pushCells_keeps _ _ _ _ (Heap.get?_push_of_some _ e)
  have stat : ∀ {σ' : L2.St} {H' : Hp} {s' : Shared}, Inv (X.blk s3 H3 scope ce fp) [] σ' H' s' → (∀ b ∈ fp, H' b = none) → ∀ b ∈ fp, FpOk (X.blk s3 H3 scope ce fp) [] H' b := fun {σ' H' s'} I' hn b hb =>
    ⟨hn b hb, (I'.ok.exf b hb).1, I'.ok.exfs b hb, .inl hb, fun x c e => (I'.ok.exf b hb).2 x c e, fun p hp => absurd (show p ∈ ([] : List (Addr × Obj)) ++ [] from hp) (by simp)⟩
  have loop : codeAny (model X.prog X.w) X.A (.compLoop (.SetComp elt [⟨tg, iter, ifs, 0⟩, ⟨tg1, iter1, ifs1, 0⟩] scope pos) 0 (.ref it) (.ref D) ce) (compPost (model X.prog X.w) X.A X.xe use Qf (.ref D) s3.heap.objs.size) s4 := by
    refine compLoopS2_out (hs1 ce) (fun n s' => ∃ i H', Inv (X.blk s3 H3 scope ce fp) [] (wipe σ (own.map (·.2))) H' s' ∧ tn i s'.heap ∧ (∀ b ∈ fp, H' b = none) ∧ W i n H') ?_ m0 ⟨0, H3, I4, st4, nfp, w0⟩
    rintro n s5 ⟨i, H5, I5, st5, n5, w5⟩
    rcases turn i n H5 w5 with ⟨stop, qq⟩ | ⟨go, Nx, hNx, step⟩
    · have td := T.done (X.blk s3 H3 scope ce fp) rfl rfl rfl hc i [] s5 _ H5 (fun _ _ => False) I5 (stat I5 n5) st5 stop
      refine thnF td fun r s6 ⟨hr, I6⟩ => ?_
      subst hr
      -- back in the def's context
      have I7 : Inv X pins σ H5 s6 := I3.call' (ch := fp) I6.os I6.base I6.hok I6.bare fun b hb => ⟨(f3 b hb).1.2.2.2.1, (f3 b hb).1.2.1, (f3 b hb).1.2.2.2.2.1, (f3 b hb).1.2.2.2.2.2⟩
      have nC : H5 s3.heap.objs.size = none := by
        have z : H5 ce.locals = none := I6.free
        rw [cL] at z
        exact z
      obtain ⟨m, hn, _⟩ := I6.loc
      have hn : s6.heap.Ns ce.locals m := hn
      rw [cL] at hn
      exact hRR D s3.heap.objs.size s6 m H5 I7 qq hn (I3.fpOk (Nat.le_refl _) nC)
    · have ti := T.item (X.blk s3 H3 scope ce fp) rfl rfl rfl hc i [] s5 _ H5 (fun _ _ => False) I5 (stat I5 n5) st5 go
      refine thnF ti fun r s6 ⟨u, hr, h6⟩ => ?_
      subst hr
      refine thnF h6 fun _ s7 ⟨x, H7, I7, r7, y7, st7, n7⟩ => ?_
      have I7' := I7.pinned (stat I7 n7) (T.obj _ _ st7)
      refine thnF (pg.run _ s7 _ H7 x u _ I7' r7 (step x H7 y7)) fun _ s8 ⟨σ8, H8, I8, hw8, q8⟩ => ?_
      refine thnF (pt.run _ s8 σ8 H8 _ I8 q8) fun b s9 ⟨H9, I9, q9⟩ => ?_
      -- the turn's end, from any slots that know what the block knew at its start
      have fin : ∀ {σ9 : L2.St} {s' : Shared} {H' : Hp}, Inv (X.blk s3 H3 scope ce fp) ([] ++ pinsAt fp s7.heap) σ9 H' s' → (wipe σ (own.map (·.2))).length = σ9.length → (∀ (j : Nat) v, (wipe σ (own.map (·.2)))[j]? = some (some v) → σ9[j]? = some (some v)) → Nx H' →
          ∃ m, m < n ∧ ∃ i H', Inv (X.blk s3 H3 scope ce fp) [] (wipe σ (own.map (·.2))) H' s' ∧ tn i s'.heap ∧ (∀ b ∈ fp, H' b = none) ∧ W i m H' := fun {σ9 s' H'} I' hl hk nx => by
        obtain ⟨m', hm, w'⟩ := hNx H' nx
        have pin' : ∀ b ∈ fp, ∀ o, s7.heap.get? b = some o → s'.heap.get? b = some o ∧ H' b = none := fun b hb o e =>
          let z := I'.pin (b, o) (List.mem_append_right _ (List.mem_append_right _ (mem_pinsAt hb e)))
          ⟨z.1, z.2.1⟩
        refine ⟨m', hm, i + 1, H', (I'.unpinned (pins := [])).weak hl hk, T.keep _ _ _ st7 fun b hb o e => (pin' b hb o e).1, fun b hb => ?_, w'⟩
        obtain ⟨o, e, _⟩ := T.obj _ _ st7 b hb
        exact (pin' b hb o e).2
      have hl8 : (wipe σ (own.map (·.2))).length = σ8.length := by rw [← hw8, wipe_length]
      have hk8 : ∀ (j : Nat) v, (wipe σ (own.map (·.2)))[j]? = some (some v) → σ8[j]? = some (some v) := fun j v e => by
        rw [← hw8] at e
        exact (wipe_some e).1
      have hk9 : ∀ (j : Nat) v, (wipe σ (own.map (·.2)))[j]? = some (some v) → (wipe σ8 vs1)[j]? = some (some v) := fun j v e => by
        rw [← hw8] at e
        obtain ⟨e1, e2⟩ := wipe_some e
        rw [wipe_out fun z => e2 (hv j z)]
        exact e1
      cases b with
      | false =>
        simp only [Bool.false_eq_true, if_false] at q9 ⊢
        exact fin I9 hl8 hk8 q9
      | true =>
        simp only [if_true] at q9 ⊢
        refine thnF (pi1.run _ s9 σ8 H9 _ I9 q9) fun xv s10 hx => thnF hx fun itv s11 h11 => ?_
        obtain ⟨it1, fp1, tn1, J1, H11, e1, I11, T1, st11, f11, W1, ⟨m1, w1⟩, turn1⟩ := h11
        subst e1
        -- the inner loop
        have stat1 : ∀ {H' : Hp}, (∀ b ∈ fp1, H' b = none) → ∀ b ∈ fp1, FpOk (X.blk s3 H3 scope ce fp) ([] ++ pinsAt fp s7.heap) H' b := fun hn b hb => ⟨hn b hb, (f11 b hb).2⟩
        have loop1 : codeAny (model X.prog X.w) X.A (.compLoop (.SetComp elt [⟨tg, iter, ifs, 0⟩, ⟨tg1, iter1, ifs1, 0⟩] scope pos) 1 (.ref it1) (.ref D) ce)
            (fun r s' => match r with
              | .ok _ => ∃ m, m < n ∧ ∃ i H', Inv (X.blk s3 H3 scope ce fp) [] (wipe σ (own.map (·.2))) H' s' ∧ tn i s'.heap ∧ (∀ b ∈ fp, H' b = none) ∧ W i m H'
              | .error _ => False) s11 := by
          refine compLoopS2_in (fun k s' => ∃ j H', Inv (X.blk s3 H3 scope ce fp) ([] ++ pinsAt fp s7.heap) (wipe σ8 vs1) H' s' ∧ tn1 j s'.heap ∧ (∀ b ∈ fp1, H' b = none) ∧ W1 j k H') ?_ m1 ⟨0, H11, I11.weak (wipe_length _ _) (fun j v e => (wipe_some e).1), st11, fun b hb => (f11 b hb).1, w1⟩
          rintro k s12 ⟨j, H12, I12, st12, n12, w12⟩
          rcases turn1 j k H12 w12 with ⟨stop1, nx1⟩ | ⟨go1, Nx1, hNx1, step1⟩
          · refine thnF (T1.done (X.blk s3 H3 scope ce fp) rfl rfl rfl hc j _ s12 (wipe σ8 vs1) H12 (fun _ _ => False) I12 (stat1 n12) st12 stop1) fun r s13 ⟨hr, I13⟩ => ?_
            subst hr
            exact fin I13 (hl8.trans (wipe_length σ8 vs1).symm) hk9 nx1
          · refine thnF (T1.item (X.blk s3 H3 scope ce fp) rfl rfl rfl hc j _ s12 (wipe σ8 vs1) H12 (fun _ _ => False) I12 (stat1 n12) st12 go1) fun r s13 ⟨u1, hr, h13⟩ => ?_
            subst hr
            refine thnF h13 fun _ s14 ⟨x1, H14, I14, r14, y14, st14, n14⟩ => ?_
            have I14' := I14.pinned (stat1 n14) (T1.obj _ _ st14)
            refine thnF (pg1.run _ s14 (wipe σ8 vs1) H14 x1 u1 _ I14' r14 (step1 x1 H14 y14)) fun _ s15 ⟨σ15, H15, I15, hw15, q15⟩ => ?_
            refine thnF (pt1.run _ s15 σ15 H15 _ I15 q15) fun b1 s16 ⟨H16, I16, q16⟩ => ?_
            have fin1 : ∀ {s' : Shared} {H' : Hp}, Inv (X.blk s3 H3 scope ce fp) (([] ++ pinsAt fp s7.heap) ++ pinsAt fp1 s14.heap) σ15 H' s' → Nx1 H' → ∃ m, m < k ∧ ∃ j H', Inv (X.blk s3 H3 scope ce fp) ([] ++ pinsAt fp s7.heap) (wipe σ8 vs1) H' s' ∧ tn1 j s'.heap ∧ (∀ b ∈ fp1, H' b = none) ∧ W1 j m H' := fun {s' H'} I' nx => by
              obtain ⟨m', hm, w'⟩ := hNx1 H' nx
              have pin' : ∀ b ∈ fp1, ∀ o, s14.heap.get? b = some o → s'.heap.get? b = some o ∧ H' b = none := fun b hb o e =>
                let z := I'.pin (b, o) (List.mem_append_right _ (List.mem_append_right _ (mem_pinsAt hb e)))
                ⟨z.1, z.2.1⟩
              refine ⟨m', hm, j + 1, H', I'.unpinned.weak (by rw [← hw15, wipe_length]) (fun j v e => by rw [← hw15] at e; exact (wipe_some e).1), T1.keep _ _ _ st14 fun b hb o e => (pin' b hb o e).1, fun b hb => ?_, w'⟩
              obtain ⟨o, e, _⟩ := T1.obj _ _ st14 b hb
              exact (pin' b hb o e).2
            cases b1 with
            | false =>
              simp only [Bool.false_eq_true, if_false] at q16 ⊢
              exact fin1 I16 q16
            | true =>
              simp only [if_true] at q16 ⊢
              refine thnF (pe.run _ s16 σ15 H16 _ I16 q16) fun z s17 ⟨yv, H17, I17, r17, cb, S0, n0, ey, hD17, hz17, nx⟩ => ?_
              subst ey
              obtain ⟨uu, rfl⟩ : ∃ uu, z = Value.str cb uu := r17
              exact addT_ok (X := X.blk s3 H3 scope ce fp) I17 hD17 hz17 fun s18 I18 => fin1 I18 nx
        exact compStartS1_ok loop1 (T1.self X.A 0 _ _ _ st11 loop1)
  exact codeAny_compStart_set loop (T.self X.A 0 _ _ _ st4 loop)
theorem pe_sc2 {elt tg iter tg1 iter1 : Expr} {ifs ifs1 : List Expr} {scope : Scope} {own : List (PySem.Str × Nat)} {vs1 : List Nat} {pos : Pos} {wi wi1 : TI} {g g1 : TG} {tt tt1 : TT} {te : TE} (hc : X.calm = true) (hN : X.N.Nodup) (hi : PI X tg iter wi) (ok : BlkOk X.N X.env.scope scope own) (hv : ∀ i ∈ vs1, i ∈ own.map (·.2))
    (hg : ∀ (s : Shared) (H : Hp) (C : Addr) (cl : List (PySem.Str × Addr)) (fp : List Addr), PG (X.blk s H scope (compEnvC scope cl C X.env) fp) tg g) (ht : ∀ (s : Shared) (H : Hp) (C : Addr) (cl : List (PySem.Str × Addr)) (fp : List Addr), PTs (X.blk s H scope (compEnvC scope cl C X.env) fp) ifs tt)
    (hi1 : ∀ (s : Shared) (H : Hp) (C : Addr) (cl : List (PySem.Str × Addr)) (fp : List Addr), PI (X.blk s H scope (compEnvC scope cl C X.env) fp) tg1 iter1 wi1)
    (hg1 : ∀ (s : Shared) (H : Hp) (C : Addr) (cl : List (PySem.Str × Addr)) (fp : List Addr), PG (X.blk s H scope (compEnvC scope cl C X.env) fp) tg1 g1) (ht1 : ∀ (s : Shared) (H : Hp) (C : Addr) (cl : List (PySem.Str × Addr)) (fp : List Addr), PTs (X.blk s H scope (compEnvC scope cl C X.env) fp) ifs1 tt1)
    (he : ∀ (s : Shared) (H : Hp) (C : Addr) (cl : List (PySem.Str × Addr)) (fp : List Addr), PE (X.blk s H scope (compEnvC scope cl C X.env) fp) elt te) (hs : ∀ x, foldedSetIterable iter X.env x = pure x := by intro _; rfl) (hs1 : ∀ env x, foldedSetIterable iter1 env x = pure x := by intro _ _; rfl) :
    PE X (.SetComp elt [⟨tg, iter, ifs, 0⟩, ⟨tg1, iter1, ifs1, 0⟩] scope pos) (tSc2 X.w wi g tt wi1 g1 tt1 te (own.map (·.2)) vs1) := by
  refine ⟨fun pins s σ H Q I h => ?_⟩
  rw [eval_SetComp]
  refine sc2_core hc hN I hi ok hv hg ht he hs hi1 hg1 ht1 hs1 h fun D C s' m H' I' q hn f => ⟨m, hn, fun h'' sb => ?_⟩
  obtain ⟨f0, f1, f2, f3, f4, f5⟩ := f
  exact ⟨.ref D, H', I'.turned (t' := s'.toks) (fun b o hb e => (sb.2 b hb).trans e) f0 f1 f3 f4 f5, rfl, q⟩
end
end StS
namespace StS
open PySem PySem.Spec PyProof.Rows L2 PpSet G SrtO
theorem strs_of : ∀ (l : List Value), (∀ v ∈ l, ∃ k tk, v = Value.str k tk) → StrsAre l (l.map tx)
  | [], _ => .nil
  | v :: l, h => by
    obtain ⟨k, tk, rfl⟩ := h v List.mem_cons_self
    exact .cons k tk (strs_of l fun u hu => h u (List.mem_cons_of_mem _ hu))
section
variable {P : Program} {w : World} {A : Around} {E : Value → Shared → Prop} {s : Shared} {a : Addr}
theorem sorted_setT {S : PySem.Str → Bool} {n : Nat} {Q : Value → Shared → Prop} (R : SetT w s.heap a S n) (hh : A.handled = none)
    (hQ : ∀ s' p (out : Array Value) (c : Nat) (zs : List PySem.Str), (∀ b o, s.heap.get? b = some o → s'.heap.get? b = some o) → s'.gens = s.gens → s'.os = s.os → s.heap.objs.size ≤ p →
      s'.heap.get? p = some (seqObj "list" out c) → Vals ((srt zs).map V.str) out.toList → zs.Nodup → (∀ k, k ∈ zs ↔ S k = true) → zs.length = n → n ≤ sizeLine → Q (.ref p) s') :
    wpAny (model P w) A (call (.builtin "sorted") [.ref a]) Q E s := by
  obtain ⟨o, es, ep, t, ho, hex, hd, g, nd, hm, hb, hf, hn, hr, hl⟩ := R
  have nz : n ≤ sizeLine := by rw [← hn]; exact fits_of_scanBound hb
  refine Calls.call_function_entry kind_sorted plain_sorted entry_sorted (args_sorted1 _) ?_
  unfold Builtin.«sorted»
  refine wpAny_bind (m := checkCount "sorted" 1 1 _) (wpAny_pure ?_)
  refine wpAny_bind (collect_set (A := A.in1) hh ⟨o, ho, hex.1, hd⟩ hf hb hr hl fun s1 vs k1 hz g1 o1 pm => ?_)
  have hvl : vs.length = n := by rw [pm.length_eq, List.length_map, Array.length_toList]; exact hn
  have hT : StrsAre vs (vs.map tx) := strs_of vs fun v hv => by
    obtain ⟨e, he, q⟩ := List.mem_map.mp (pm.mem_iff.mp hv)
    obtain ⟨k, tk, h1, _⟩ := g e he
    exact ⟨k, tk, by rw [← q]; exact h1⟩
  have pk : (vs.map tx).Perm (es.toList.map keyT) := by
    have q := pm.map tx
    rw [List.map_map] at q
    have e : (tx ∘ fun x : Int × Value => x.2) = keyT := by
      funext x
      obtain ⟨i, v⟩ := x
      cases v <;> rfl
    rw [e] at q
    exact q
  refine wpAny_bind (wpAny_newList ?_ (by rw [hvl]; exact nz))
  have hoL : (s1.heap.push (seqObj "list" vs.toArray 0)).get? s1.heap.objs.size = some (seqObj "list" vs.toArray 0) := Heap.get?_push_size _ rfl
  show wpAny _ _ _ _ _ { s1 with heap := s1.heap.push (seqObj "list" vs.toArray 0) }
  refine wpAny_bind (wpAny_holding (wpAny_call_entry slot_list_sort ⟨_, hoL, rfl⟩ entry_list_sort (list_sort_ord (s := { s1 with heap := s1.heap.push (seqObj "list" vs.toArray 0) }) swoT hoL (by rw [hvl]; exact nz) (fun h2 => sortableT hT h2) fun out h1 h2 => ⟨_, rfl, ?_⟩) (args_list_sort _)))
  obtain ⟨e1, e2⟩ := srt_out hT h1 h2
  obtain ⟨c, hc⟩ := sortedHeap_at (vs := vs) (out := out.toArray) hoL
  refine wpAny_pure ⟨_, rfl, hQ _ s1.heap.objs.size out.toArray c (vs.map tx) (fun b u e => ?_) g1 o1 hz hc (by simpa using e2) (pk.nodup_iff.mpr nd) (fun k => by rw [pk.mem_iff, ← hm k]) (by rw [List.length_map]; exact hvl) nz⟩
  have q := k1 b u e
  have hlt := Heap.lt_size q
  show (sortedHeap (s1.heap.push (seqObj "list" vs.toArray 0)) s1.heap.objs.size vs out.toArray).get? b = some u
  rw [sortedHeap_old (Nat.ne_of_lt hlt) (by rw [size_push']; exact Nat.lt_succ_of_lt hlt)]
  exact Heap.get?_push_of_some _ q
end
/-- sorted(found), found a set of texts: l its members -/
def rSortSetT (w : World) : List V → Hp → VK → Prop := fun vs H Q => ∃ (a : Addr) (S : PySem.Str → Bool) (n : Nat), vs = [V.ref a] ∧ H a = some (SetTO w a S n) ∧
  ∀ (zs : List PySem.Str) (p : Addr), zs.Nodup → (∀ k, k ∈ zs ↔ S k = true) → H p = none → Q (.ref p) (upd H p (.lst ((srt zs).map V.str)))
section
variable {X : Cx}
theorem cr_sortSetT (hc : X.calm = true) : CallR X (.builtin "sorted") (rSortSetT X.w) := by
  intro pins s σ H vs us Q I r h
  obtain ⟨a, S, n, rfl, ha, q⟩ := h
  have R := setTO_get I ha
  rw [Vals.ref1 r]
  refine sorted_setT R (I.ok.hd hc) fun s' p out c zs k g o hp hg hi hs hm hl hz => ?_
  have hlen : ((srt zs).map V.str).length ≤ sizeLine := by rw [List.length_map, srt_len, hl]; exact hz
  have hn : H p = none := I.hok.fresh hp
  have J : Inv X pins σ (upd H p (.lst ((srt zs).map V.str))) { s with heap := s'.heap, gens := s'.gens, drawn := s'.drawn, toks := s'.toks } :=
    I.call (ch := []) (Un.laid k hp hn) (I.hok.laid k hp ⟨hlen, out.toList, c, hi, hg⟩) (by rw [g]; exact I.bare) (fun _ z => nomatch z)
  have e : s' = { s with heap := s'.heap, gens := s'.gens, drawn := s'.drawn, toks := s'.toks } := by
    cases s'
    cases s
    cases o
    rfl
  rw [e]
  exact ⟨.ref p, _, J, rfl, q zs p hs hm hn⟩
end
/-- the reading of {c for x in xs for c in ys(x)} by two walks -/
theorem sc2_it {w : World} {J : It} {n : Nat} {G : Hp → Prop} {Y : Nat → Hp → V → Hp → Prop} (wk : Walk J n G Y) {g : TG} {tt : TT} {wi1 : TI} {g1 : TG} {tt1 : TT} {te : TE} {vs vs1 : List Nat} {σ : L2.St} {H1 : Hp} {D : Addr} {Qd : Hp → Prop} (Pv : Nat → Hp → Prop)
    (h0 : Pv 0 (upd H1 D (SetTO w D (fun _ => false) 0))) (hG : ∀ i H, i ≤ n → Pv i H → G H)
    (hs : ∀ i x H H', i < n → Pv i H → Y i H x H' → g x (wipe σ vs) H' fun σ2 H2 => wipe σ2 vs = wipe σ vs ∧ tt σ2 H2 fun b H3 =>
      if b = true then wi1 σ2 H3 fun J1 H4 => ∃ W1 : Nat → Nat → Hp → Prop, (∃ m, W1 0 m H4) ∧ ∀ j k H, W1 j k H →
        (J1.stop j H ∧ Pv (i + 1) H) ∨ (J1.go j H ∧ ∃ Nx1 : Hp → Prop, (∀ H', Nx1 H' → ∃ k', k' < k ∧ W1 (j + 1) k' H') ∧ ∀ x H', J1.yld j H x H' → g1 x (wipe σ2 vs1) H' fun σ3 H5 => wipe σ3 vs1 = wipe σ2 vs1 ∧ tt1 σ3 H5 fun b H6 =>
          if b = true then te σ3 H6 fun y H7 => ∃ (c : PySem.Str) (S : PySem.Str → Bool) (n : Nat), y = .str c ∧ H7 D = some (SetTO w D S n) ∧ n + 1 < scanBound ∧ Nx1 (upd H7 D (SetTO w D (fun j => S j || decide (j = c)) (if S c = true then n else n + 1))) else Nx1 H6)
      else Pv (i + 1) H3)
    (hd : ∀ H, Pv n H → Qd H) :
    ∃ W : Nat → Nat → Hp → Prop, (∃ m, W 0 m (upd H1 D (SetTO w D (fun _ => false) 0))) ∧ ∀ i m H, W i m H →
      (J.stop i H ∧ Qd H) ∨ (J.go i H ∧ ∃ Nx : Hp → Prop, (∀ H', Nx H' → ∃ m', m' < m ∧ W (i + 1) m' H') ∧ ∀ x H', J.yld i H x H' → g x (wipe σ vs) H' fun σ2 H2 => wipe σ2 vs = wipe σ vs ∧ tt σ2 H2 fun b H3 =>
        if b = true then wi1 σ2 H3 fun J1 H4 => ∃ W1 : Nat → Nat → Hp → Prop, (∃ m, W1 0 m H4) ∧ ∀ j k H, W1 j k H →
          (J1.stop j H ∧ Nx H) ∨ (J1.go j H ∧ ∃ Nx1 : Hp → Prop, (∀ H', Nx1 H' → ∃ k', k' < k ∧ W1 (j + 1) k' H') ∧ ∀ x H', J1.yld j H x H' → g1 x (wipe σ2 vs1) H' fun σ3 H5 => wipe σ3 vs1 = wipe σ2 vs1 ∧ tt1 σ3 H5 fun b H6 =>
            if b = true then te σ3 H6 fun y H7 => ∃ (c : PySem.Str) (S : PySem.Str → Bool) (n : Nat), y = .str c ∧ H7 D = some (SetTO w D S n) ∧ n + 1 < scanBound ∧ Nx1 (upd H7 D (SetTO w D (fun j => S j || decide (j = c)) (if S c = true then n else n + 1))) else Nx1 H6)
        else Nx H3) := by
  refine ⟨fun i m H => m = n - i ∧ i ≤ n ∧ Pv i H, ⟨n, by simp, Nat.zero_le _, h0⟩, ?_⟩
  rintro i m H ⟨rfl, hi, pv'⟩
  have gg := hG i H hi pv'
  rcases Nat.lt_or_ge i n with hlt | hge
  · exact .inr ⟨wk.goes i H hlt gg, Pv (i + 1), fun H' p' => ⟨n - (i + 1), by omega, rfl, hlt, p'⟩, fun x H' y => hs i x H H' hlt pv' (wk.yields i H x H' hlt gg y)⟩
  · obtain rfl : i = n := by omega
    exact .inl ⟨wk.stops H gg, hd H pv'⟩
/-- the inner walk -/
theorem sc2_in {w : World} {J : It} {n : Nat} {G : Hp → Prop} {Y : Nat → Hp → V → Hp → Prop} (wk : Walk J n G Y) {g1 : TG} {tt1 : TT} {te : TE} {vs1 : List Nat} {σ2 : L2.St} {H4 : Hp} {D : Addr} {Qd : Hp → Prop} (Pv : Nat → Hp → Prop)
    (h0 : Pv 0 H4) (hG : ∀ i H, i ≤ n → Pv i H → G H)
    (hs : ∀ i x H H', i < n → Pv i H → Y i H x H' → g1 x (wipe σ2 vs1) H' fun σ3 H5 => wipe σ3 vs1 = wipe σ2 vs1 ∧ tt1 σ3 H5 fun b H6 =>
      if b = true then te σ3 H6 fun y H7 => ∃ (c : PySem.Str) (S : PySem.Str → Bool) (n : Nat), y = .str c ∧ H7 D = some (SetTO w D S n) ∧ n + 1 < scanBound ∧ Pv (i + 1) (upd H7 D (SetTO w D (fun j => S j || decide (j = c)) (if S c = true then n else n + 1))) else Pv (i + 1) H6)
    (hd : ∀ H, Pv n H → Qd H) :
    ∃ W1 : Nat → Nat → Hp → Prop, (∃ m, W1 0 m H4) ∧ ∀ j k H, W1 j k H →
      (J.stop j H ∧ Qd H) ∨ (J.go j H ∧ ∃ Nx1 : Hp → Prop, (∀ H', Nx1 H' → ∃ k', k' < k ∧ W1 (j + 1) k' H') ∧ ∀ x H', J.yld j H x H' → g1 x (wipe σ2 vs1) H' fun σ3 H5 => wipe σ3 vs1 = wipe σ2 vs1 ∧ tt1 σ3 H5 fun b H6 =>
        if b = true then te σ3 H6 fun y H7 => ∃ (c : PySem.Str) (S : PySem.Str → Bool) (n : Nat), y = .str c ∧ H7 D = some (SetTO w D S n) ∧ n + 1 < scanBound ∧ Nx1 (upd H7 D (SetTO w D (fun j => S j || decide (j = c)) (if S c = true then n else n + 1))) else Nx1 H6) := by
  refine ⟨fun i m H => m = n - i ∧ i ≤ n ∧ Pv i H, ⟨n, by simp, Nat.zero_le _, h0⟩, ?_⟩
  rintro i m H ⟨rfl, hi, pv'⟩
  have gg := hG i H hi pv'
  rcases Nat.lt_or_ge i n with hlt | hge
  · exact .inr ⟨wk.goes i H hlt gg, Pv (i + 1), fun H' p' => ⟨n - (i + 1), by omega, rfl, hlt, p'⟩, fun x H' y => hs i x H H' hlt pv' (wk.yields i H x H' hlt gg y)⟩
  · obtain rfl : i = n := by omega
    exact .inl ⟨wk.stops H gg, hd H pv'⟩
end StS
namespace ZF
open PySem L2 PyProof.Rows PySem.Spec G StS
abbrev sHds : Stmt := topS 35
structure TH (mg : Str → Option Value) : Prop where
  any : mg "any" = none
  sorted : mg "sorted" = none
section
variable {P : Program} {w : World} {K : PySem.W.Frag} {mg : Str → Option Value} {base : Heap}
abbrev nHds : List Str := ["family", "rules", "dead", "name", "generation", "person", "child"]
theorem scHds : FnScope nHds ["family", "rules", "dead", "name"] (defScope sHds) := ⟨rfl, rfl, rfl, by decide +kernel, rfl, by decide +kernel, by decide +kernel⟩

theorem ok_heads {f C CB : Addr} {fd : FuncData} (F : Fun K "_heads" "_heads" sHds f fd) (T : TH mg) (D : FT K C) (HS : Has P w K mg base CX0 "survives_rules" ["family", "rules", "dead", "name"] 2 (spSv C CB)) (HC : HasM P w K mg base CX0 C "children" ["self", "name"] 1 (spLs C fun F k => F.ch k)) : FnOk P w K mg base CX0 3 f fd ["family", "rules", "dead", "name"] (spHds C CB hd) := by
  obtain ⟨fSv, fdSv, mSv, kSv, bSv, GSv⟩ := HS.ok
  obtain ⟨fChi, fdChi, meChi, bChi, GChi⟩ := HC.ok
  refine F.ok scHds (fun vs H Q E h => ?_) (fun cdv A outer s H vs Q E hr h => ?_)
  · obtain ⟨p, r, F, days, m, dead, name, rfl, _⟩ := h
    rfl
  · obtain ⟨p, r, F, days, m, dead, name, rfl, hC, go⟩ := h
    refine ⟨_, (pss_cons (ps_set (i := 4) scHds.nd rfl (.inl rfl) (pe_meth (pv 0) D.cl meChi GChi (hr.mono (by decide)) bChi .nil pass0 (pa_cons (pv 3) pa_nil)))
      (pss_cons (ps_while PassesOwn.never (pt_truth (pv 4) (by intro _; rfl)) (pss_cons (ps_if (pt_val (pe_callB (cr_any rfl) (by rfl) T.any (by decide +kernel) (pa_cons (pe_lc (own := [("person", 5)]) (g := gName 5) (tt := tYes) rfl scHds.nd (pi_list (pv 4)) (blkOk_by (N := nHds) (sc := defScope sHds) (by decide +kernel)) (fun _ _ _ _ _ => (pg_name (i := 5) scHds.nd rfl (.inl rfl) (.inr rfl))) (fun _ _ _ _ _ => pts_nil) (fun _ _ _ _ _ => (pe_call GSv (hr.mono (by decide)) (by rfl) mSv kSv bSv .nil pass0 (pa_cons (pv 0) (pa_cons (pv 1) (pa_cons (pv 2) (pa_cons (pv 5) pa_nil))))))) pa_nil))) (pss_one (ps_ret (pv 4))) pss_nil)
      (pss_one (ps_set (i := 4) scHds.nd rfl (.inl rfl) (pe_callB (StS.cr_sortSetT rfl) (by rfl) T.sorted (by decide +kernel) (pa_cons (StS.pe_sc2 (own := [("child", 6), ("person", 5)]) (vs1 := [6]) (g := gName 5) (g1 := gName 6) (tt := tYes) (tt1 := tYes) rfl scHds.nd (pi_list (pv 4)) (blkOk_by (N := nHds) (sc := defScope sHds) (by decide +kernel)) (by decide) (fun _ _ _ _ _ => (pg_name (i := 5) scHds.nd rfl (.inl rfl) (.inr rfl))) (fun _ _ _ _ _ => pts_nil) (fun _ _ _ _ _ => (show PI _ _ _ (iList K _) from (pi_list (pe_meth (pv 0) D.cl meChi GChi (hr.mono (by decide)) bChi .nil pass0 (pa_cons (pv 5) pa_nil))))) (fun _ _ _ _ _ => (pg_name (i := 6) scHds.nd rfl (.inl rfl) (.inr rfl))) (fun _ _ _ _ _ => pts_nil) (fun _ _ _ _ _ => (pv 6))) pa_nil))))))
      (pss_one (ps_ret (pe_meth (pv 0) D.cl meChi GChi (hr.mono (by decide)) bChi .nil pass0 (pa_cons (pv 3) pa_nil)))))), ?_⟩
    obtain ⟨⟨n, hF⟩, ⟨dx, rw', s', q', hR⟩, ⟨dd, hdd⟩, ⟨rk, hk⟩, ⟨U, lU, hU⟩, hl⟩ := id hC
    obtain ⟨dxF, a1, a2, a3, a4, a5, a6, a7, hp, _⟩ := id hF.ex
    refine ⟨_, rfl, p, dxF, _, rfl, hp, no_mC ⟨a1, a2, a3, a4, a5, a6, a7⟩, _, rfl, p, name, n, F, rfl, hF, fun l0 H0 s0 nl0 el0 => ?_⟩
    refine ⟨fun mm σ Hx => ∃ (k : Nat) (g : List Str) (l : Addr), mm = 401 - k ∧ σ = [some (.ref p), some (.ref r), some (.str dead), some (.str name), some (.ref l), none, none] ∧ Same H Hx ∧ H l = none ∧ Hx l = some (.lst (g.map V.str)) ∧ g.length ≤ 400 ∧ Gk F rk days dead name k g,
      ⟨401, 0, F.ch name, l0, rfl, rfl, s0, nl0, el0, (hl name).1, Gk.start hk days dead name⟩, ?_⟩
    rintro mm σ Hx ⟨k, g, l, rfl, rfl, sm, nl, el, gl, G⟩
    refine ⟨_, rfl, _, .inl ⟨_, SqL.of el, rfl⟩, ?_⟩
    have hC1 := hC.same sm
    rcases List.eq_nil_or_concat g with rfl | ⟨g', y, eg⟩
    · obtain ⟨dxG, c1, c2, c3, c4, c5, c6, c7, hp1, _⟩ := id (hF.same sm).ex
      refine ⟨_, rfl, p, dxG, _, rfl, hp1, no_mC ⟨c1, c2, c3, c4, c5, c6, c7⟩, _, rfl, p, name, n, F, rfl, hF.same sm, fun l1 H1 s1 nl1 el1 => ?_⟩
      rw [G.none] at go
      exact go l1 H1 (sm.trans s1) (sm.free nl1) el1 (by have := (hl name).1; omega)
    have ne : g ≠ [] := fun z => by
      rw [z] at eg
      simp at eg
    have kk := G.small ne
    have net : (!(g.map V.str).isEmpty) = true := by
      cases g with
      | nil => exact absurd rfl ne
      | cons _ _ => rfl
    rw [net]
    clear eg g' y
    refine iteT ⟨fun σ1 H1 => ∃ (g1 : List Str) (l1 : Addr), σ1 = [some (.ref p), some (.ref r), some (.str dead), some (.str name), some (.ref l1), none, none] ∧ Same H H1 ∧ H l1 = none ∧ H1 l1 = some (.lst (g1.map V.str)) ∧ g1.length ≤ 400 ∧ Gk F rk days dead name (k + 1) g1, ?_, ?_⟩
    · rintro σ1 H1 ⟨g1, l1, rfl, sm1, nl1, el1, gl1, G1⟩
      exact ⟨401 - (k + 1), by omega, k + 1, g1, l1, rfl, rfl, sm1, nl1, el1, gl1, G1⟩
    -- any
    refine ⟨_, rfl, l, rfl, ⟨_, SqL.of el⟩, fun D1 nD1 => ?_⟩
    refine lc_it (walk_list (xs := g.map V.str)) (fun i Hz => Same Hx Hz ∧ Hz D1 = some (.lst (((g.take i).map (sv F days dead)).map V.bl))) ⟨same_upd nD1, upd_same⟩ (fun i Hz _ h => SqL.of (h.1 _ _ el)) ?_ ?_
    · rintro i v Hz H' hi ⟨k1, k2⟩ ⟨rfl, ev⟩
      rw [List.getElem?_map] at ev
      obtain ⟨x, hx, rfl⟩ := Option.map_eq_some_iff.mp ev
      obtain ⟨⟨n2, hF2⟩, ⟨dx2, rw2, s2, q2, hR2⟩, ⟨dd2, hdd2⟩, -, -, -⟩ := hC1.same k1
      refine ⟨rfl, _, rfl, _, rfl, _, rfl, _, rfl, p, r, n2, F, dx2, days, m, rw2, s2, q2, dead, x, dd2, rfl, hF2, hR2, hdd2, _, k2, ?_, ?_, ?_⟩
      · rw [List.length_map, List.length_map, List.length_take]
        exact small1000 (by omega)
      · intro b o hb
        rw [upd_ne (ne_of_none hb nD1)]
        exact k1 b o hb
      · rw [upd_same, List.take_add_one, hx, List.map_append, List.map_append]
        rfl
    rintro H2 ⟨k1, k2⟩
    rw [List.length_map, List.take_length] at k2
    have sm2 := sm.trans k1
    have el2 := k1 _ _ el
    have ean : ((g.map (sv F days dead)).any id) = g.any (sv F days dead) := by
      rw [List.any_map]
      rfl
    refine ⟨D1, _, rfl, SqL.of k2, _, rfl, ?_⟩
    rw [ean]
    cases ea : g.any (sv F days dead) with
    | true =>
      rw [if_pos rfl]
      rw [G.found ea] at go
      exact ⟨_, rfl, go l H2 sm2 nl el2 (by omega)⟩
    | false =>
      rw [if_neg Bool.false_ne_true]
      have hF2 := hF.same sm2
      -- the set
      refine ⟨_, rfl, l, rfl, ⟨_, SqL.of el2⟩, fun D nD => ?_⟩
      refine sc2_it (walk_list (xs := g.map V.str)) (fun i Hz => Same H2 Hz ∧ ∃ zs : List Str, Hz D = some (SetTO w D (fun k => decide (k ∈ zs)) zs.length) ∧ zs.Nodup ∧ ∀ k, k ∈ zs ↔ ∃ x ∈ g.take i, k ∈ F.ch x)
        ⟨same_upd nD, [], by rw [upd_same]; congr 1, List.nodup_nil, fun k => ⟨(fun h => by cases h), fun ⟨x, hx, _⟩ => by cases hx⟩⟩ (fun i Hz _ h => SqL.of (h.1 _ _ el2)) ?_ ?_
      · rintro i v Hz H' hi ⟨k3, zs, z1, z2, z3⟩ ⟨rfl, ev⟩
        rw [List.getElem?_map] at ev
        obtain ⟨x, hx, rfl⟩ := Option.map_eq_some_iff.mp ev
        have hF3 := hF2.same k3
        obtain ⟨dxG, c1, c2, c3, c4, c5, c6, c7, hp1, _⟩ := id hF3.ex
        refine ⟨rfl, _, rfl, p, dxG, _, rfl, hp1, no_mC ⟨c1, c2, c3, c4, c5, c6, c7⟩, _, rfl, p, x, n, F, rfl, hF3, fun l4 H4 s4 nl4 el4 => ⟨l4, rfl, ⟨_, SqL.of el4⟩, ?_⟩⟩
        have lD : l4 ≠ D := fun e => by
          rw [e, z1] at nl4
          cases nl4
        refine sc2_in (walk_list (xs := (F.ch x).map V.str)) (fun j Hy => Same H2 Hy ∧ Hy l4 = some (.lst ((F.ch x).map V.str)) ∧ ∃ zs : List Str, Hy D = some (SetTO w D (fun k => decide (k ∈ zs)) zs.length) ∧ zs.Nodup ∧ ∀ k, k ∈ zs ↔ (∃ x ∈ g.take i, k ∈ F.ch x) ∨ k ∈ (F.ch x).take j)
          ⟨k3.trans s4, el4, zs, s4 _ _ z1, z2, fun k => by rw [z3]; simp⟩ (fun j Hy _ h => SqL.of h.2.1) ?_ ?_
        · rintro j v Hy H' hj ⟨k5, e5, ys, y1, y2, y3⟩ ⟨rfl, ev⟩
          rw [List.getElem?_map] at ev
          obtain ⟨c, hc, rfl⟩ := Option.map_eq_some_iff.mp ev
          have ysU : ∀ k ∈ ys, k ∈ U := fun k hk => by
            rcases (y3 k).mp hk with ⟨z, _, h⟩ | h
            · exact hU z k h
            · exact hU x k (List.mem_of_mem_take h)
          have ylen := nodup_le y2 ysU
          refine ⟨rfl, _, rfl, c, _, _, rfl, y1, (by show _ < 4096; omega), fun b o hb => ?_, ?_, add1 ys c, ?_, add1_nd y2 c, fun k => ?_⟩
          · rw [upd_ne (ne_of_none hb nD)]
            exact k5 b o hb
          · rw [upd_ne lD]
            exact e5
          · rw [upd_same, add1_fun, add1_len]
            rfl
          · rw [add1_mem, y3, List.take_add_one, hc, List.mem_append]
            constructor
            · rintro ((h | h) | h)
              · exact .inl h
              · exact .inr (.inl h)
              · exact .inr (.inr (by rw [h]; exact List.mem_singleton.mpr rfl))
            · rintro (h | h | h)
              · exact .inl (.inl h)
              · exact .inl (.inr h)
              · exact .inr (List.mem_singleton.mp h)
        · rintro Hy ⟨k5, e5, ys, y1, y2, y3⟩
          refine ⟨k5, ys, y1, y2, fun k => ?_⟩
          rw [y3, List.length_map, List.take_length, List.take_add_one, hx]
          constructor
          · rintro (⟨z, hz, h⟩ | h)
            · exact ⟨z, List.mem_append_left _ hz, h⟩
            · exact ⟨x, List.mem_append_right _ (List.mem_singleton.mpr rfl), h⟩
          · rintro ⟨z, hz, h⟩
            rcases List.mem_append.mp hz with hz | hz
            · exact .inl ⟨z, hz, h⟩
            · rw [List.mem_singleton.mp hz] at h
              exact .inr h
      rintro H3 ⟨k3, zs, z1, z2, z3⟩
      rw [List.length_map, List.take_length] at z3
      refine ⟨D, _, _, rfl, z1, fun ws l5 nw mw nl5 => ?_⟩
      have e5 : srt ws = nextG F g := by
        unfold nextG
        refine srt_same nw uniq_nd fun x => ?_
        rw [mw, decide_eq_true_eq, z3, uniq_mem, List.mem_flatMap]
      have sm3 := sm2.trans k3
      refine ⟨nextG F g, l5, rfl, sm3.trans (same_upd nl5), sm3.free nl5, by rw [upd_same, e5], ?_, G.next hk ne ea⟩
      refine Nat.le_trans (nodup_le (nextG_nd F g) fun y hy => ?_) lU
      obtain ⟨x, _, h⟩ := nextG_mem.mp hy
      exact hU x y h
end
end ZF
namespace ZF
open PySem L2 PyProof.Rows PySem.Spec G
abbrev sDiv : Stmt := topS 38
/-- a node as a key -/
def ndk (x : Nd) : List Key := [Sum.inr x.1, Sum.inl x.2]
theorem ndk_inj {x y : Nd} (h : ndk x = ndk y) : x = y := by
  have h1 := (List.cons.inj h).1
  have h2 := (List.cons.inj (List.cons.inj h).2).1
  exact Prod.ext (Sum.inr.inj h1) (Sum.inl.inj h2)
/-- the kinds that rows tell, as a dict's pairs -/
def kdK (R : List Rw) : List (List Key × V) := R.map fun r => (ndk r.n, V.str r.k)
theorem kdK_val (R : List Rw) (x : Nd) : valV (kdK R) (ndk x) = (kd R x).map V.str := by
  unfold kdK kd
  induction R with
  | nil => rfl
  | cons r R ih =>
    by_cases e : r.n = x
    · rw [List.map_cons, List.find?_cons_of_pos (by simpa using e), valV_pos (congrArg ndk e)]
      rfl
    · rw [List.map_cons, List.find?_cons_of_neg (by simpa using e), valV_neg (fun z => e (ndk_inj z))]
      exact ih
/-- a row stands at t, its node's tuple at q -/
structure RowAt (H : Hp) (t q : Addr) (r : Rw) : Prop where
  ex : ∃ (l g : Addr) (ls gs : List Addr), H t = some (.tup [.ref q, .str r.k, .ref l, .ref g]) ∧ H q = some (.tup (nc r.n)) ∧ H l = some (.tup (ls.map V.ref)) ∧ ZK.TupsAt H ls (r.li.map nc) ∧ H g = some (.tup (gs.map V.ref)) ∧ ZK.TupsAt H gs (r.go.map nc)
theorem tups_same {H H' : Hp} {qs : List Addr} {cs : List (List V)} (h : ZK.TupsAt H qs cs) (s : Same H H') : ZK.TupsAt H' qs cs := ⟨h.1, fun i q c h1 h2 => s _ _ (h.2 i q c h1 h2)⟩
theorem tups_len {H : Hp} {qs : List Addr} {ps : List Nd} (h : ZK.TupsAt H qs (ps.map nc)) : qs.length = ps.length := by
  have := h.1
  rwa [List.length_map] at this
theorem RowAt.same {H H' : Hp} {t q : Addr} {r : Rw} (h : RowAt H t q r) (s : Same H H') : RowAt H' t q r := by
  obtain ⟨l, g, ls, gs, h1, h2, h3, h4, h5, h6⟩ := h.ex
  exact ⟨l, g, ls, gs, s _ _ h1, s _ _ h2, s _ _ h3, tups_same h4 s, s _ _ h5, tups_same h6 s⟩
structure TS (mg : Str → Option Value) : Prop where
  gone : ∃ t, mg "GONE" = some (.str "gone" t)
  divides : ∃ t, mg "DIVIDES" = some (.str "divides" t)
  takes : ∃ t, mg "TAKES" = some (.str "takes" t)
  tuple : mg "tuple" = none
/-- the row of a node that does not take -/
def divRow (R : List Rw) (x : Nd) (ps : List Nd) : Rw := ⟨x, if ps.filter (fun y => !decide (kd R y = some "gone")) = [] then "gone" else "divides", ps.filter (fun y => !decide (kd R y = some "gone")), ps.filter fun y => decide (kd R y = some "gone")⟩
section
variable {P : Program} {w : World} {K : PySem.W.Frag} {mg : Str → Option Value} {base : Heap}
def spDiv : Sp := fun vs H Q _ => ∃ (q l dk : Addr) (x : Nd) (ps : List Nd) (qs : List Addr) (R : List Rw), vs = [.ref q, .ref l, .ref dk] ∧ H q = some (.tup (nc x)) ∧ H l = some (.lst (qs.map V.ref)) ∧ ZK.TupsAt H qs (ps.map nc) ∧ H dk = some (.dT (kdK R)) ∧ (∀ y ∈ ps, (kd R y).isSome = true) ∧ ps.length ≤ 900 ∧
  ∀ t H', Same H H' → H t = none → RowAt H' t q (divRow R x ps) → Q (.ref t) H'
abbrev nDiv : List Str := ["node", "parts", "kinds", "live", "gone", "kind", "part"]
theorem scDiv : FnScope nDiv ["node", "parts", "kinds"] (defScope sDiv) := ⟨rfl, rfl, rfl, by decide +kernel, rfl, by decide +kernel, by decide +kernel⟩
theorem ok_div {f : Addr} {fd : FuncData} (F : Fun K "_divided_row" "_divided_row" sDiv f fd) (T : TS mg) : FnOk P w K mg base CX0 1 f fd ["node", "parts", "kinds"] spDiv := by
  obtain ⟨tGo, mGo⟩ := T.gone
  obtain ⟨tDi, mDi⟩ := T.divides
  refine F.ok scDiv (fun vs H Q E h => ?_) (fun cdv A outer s H vs Q E hr h => ?_)
  · obtain ⟨q, l, dk, x, ps, qs, R, rfl, _⟩ := h
    rfl
  · obtain ⟨q, l, dk, x, ps, qs, R, rfl, hq, hl, hT, hd, hk, h9, go⟩ := h
    have hu := hu_of hr
    refine ⟨_, (pss_cons (ps_set (i := 3) scDiv.nd rfl (.inl rfl) (pe_callTy call_tuple_of (by rfl) T.tuple (by decide +kernel) (pa_cons (pe_lc (own := [("part", 6)]) (g := gName 6) rfl scDiv.nd (pi_list (pv 1)) (blkOk_by (N := nDiv) (sc := defScope sDiv) (by decide +kernel)) (fun _ _ _ _ _ => (pg_name (i := 6) scDiv.nd rfl (.inl rfl) (.inr rfl))) (fun _ _ _ _ _ => pts_one (pt_cmpR op_ne (pe_dget hu (pv 2) (pv 6) (fun _ _ => rfl)) (pe_glob (v := .str "gone") (by rfl) mGo ⟨_, rfl⟩) (nomark _))) (fun _ _ _ _ _ => (pv 6))) pa_nil)))
      (pss_cons (ps_set (i := 4) scDiv.nd rfl (.inl rfl) (pe_callTy call_tuple_of (by rfl) T.tuple (by decide +kernel) (pa_cons (pe_lc (own := [("part", 6)]) (g := gName 6) rfl scDiv.nd (pi_list (pv 1)) (blkOk_by (N := nDiv) (sc := defScope sDiv) (by decide +kernel)) (fun _ _ _ _ _ => (pg_name (i := 6) scDiv.nd rfl (.inl rfl) (.inr rfl))) (fun _ _ _ _ _ => pts_one (pt_cmpR op_eq (pe_dget hu (pv 2) (pv 6) (fun _ _ => rfl)) (pe_glob (v := .str "gone") (by rfl) mGo ⟨_, rfl⟩) (nomark _))) (fun _ _ _ _ _ => (pv 6))) pa_nil)))
      (pss_cons (ps_set (i := 5) scDiv.nd rfl (.inl rfl) (pe_ifExp (pt_truth (pv 3) (by intro _; rfl)) (pe_glob (v := .str "divides") (by rfl) mDi ⟨_, rfl⟩) (pe_glob (v := .str "gone") (by rfl) mGo ⟨_, rfl⟩)))
      (pss_one (ps_ret (pe_tup (pa_cons (pv 0) (pa_cons (pv 5) (pa_cons (pv 3) (pa_cons (pv 4) pa_nil)))))))))), ?_⟩
    refine ⟨_, rfl, l, rfl, ⟨_, SqL.of hl⟩, fun D1 nD1 => ?_⟩
    refine lc_it (walk_list (xs := qs.map V.ref)) (fun i Hz => Same H Hz ∧ ∃ ts : List Addr, Hz D1 = some (.lst (ts.map V.ref)) ∧ ts.length ≤ i ∧ ZK.TupsAt Hz ts (((ps.take i).filter (fun y => !decide (kd R y = some "gone"))).map nc)) ⟨same_upd nD1, [], upd_same, Nat.le_refl _, .nil⟩ (fun i Hz _ h => SqL.of (h.1 _ _ hl)) ?_ ?_
    · rintro i v Hz H' hi ⟨k1, ts, k2, k4, k3⟩ ⟨rfl, ev⟩
      rw [List.getElem?_map] at ev
      obtain ⟨u, hu', rfl⟩ := Option.map_eq_some_iff.mp ev
      have hil := (List.getElem?_eq_some_iff.mp hu').1
      have hpl : i < ps.length := by rw [← tups_len hT]; exact hil
      have hy : ps[i]? = some ps[i] := List.getElem?_eq_getElem hpl
      obtain ⟨kk, hkk⟩ := Option.isSome_iff_exists.mp (hk ps[i] (List.getElem_mem hpl))
      have hun : H' u = some (.tup (nc ps[i])) := k1 _ _ (hT.2 i u (nc ps[i]) hu' (by rw [List.getElem?_map, hy]; rfl))
      have hG : DGet H' dk (.ref u) (some (.str kk)) := by
        have z := DGet.t (k := ndk ps[i]) (k1 _ _ hd) hun
        rw [kdK_val, hkk] at z
        exact z
      refine ⟨rfl, _, rfl, _, rfl, dk, _, rfl, hG, rfl, _, rfl, ?_⟩
      rw [List.take_add_one, hy, List.filter_append, List.map_append]
      by_cases c : kk = "gone"
      · subst c
        rw [decide_eq_true rfl]
        refine iteF ⟨k1, ts, k2, Nat.le_succ_of_le k4, ?_⟩
        rw [show List.filter (fun y => !decide (kd R y = some "gone")) (Option.toList (some ps[i])) = [] from by simp [hkk]]
        simpa using k3
      · have c2 : ¬ V.str kk = V.str "gone" := fun z => c (V.str.inj z)
        rw [decide_eq_false c2]
        refine iteT ?_
        rw [show List.filter (fun y => !decide (kd R y = some "gone")) (Option.toList (some ps[i])) = [ps[i]] from by simp [hkk, c]]
        refine ⟨_, rfl, _, k2, by rw [List.length_map]; exact small1000 (by omega), fun b o hb => ?_, ts ++ [u], ?_, by rw [List.length_append]; exact Nat.succ_le_succ k4, ?_⟩
        · rw [upd_ne (ne_of_none hb nD1)]
          exact k1 b o hb
        · rw [upd_same, List.map_append]
          rfl
        · refine ZK.TupsAt.snoc ⟨k3.1, fun j q c h1 h2 => ?_⟩ (by rw [upd_ne (ne_of hun k2 (by intro z; cases z))]; exact hun)
          rw [upd_ne (ne_of (k3.2 j q c h1 h2) k2 (by intro z; cases z))]
          exact k3.2 j q c h1 h2
    rintro H2 ⟨k1, ts, k2, k4, k3⟩
    rw [List.length_map, tups_len hT, List.take_length] at k3
    refine ⟨D1, _, rfl, .inl ⟨SqL.of k2, fun p1 np1 => ?_⟩⟩
    have s3 := k1.trans (same_upd (o := .tup (ts.map V.ref)) np1)
    have hl3 := s3 _ _ hl
    have hd3 := s3 _ _ hd
    have hq3 := s3 _ _ hq
    have hp3 : upd H2 p1 (.tup (ts.map V.ref)) p1 = some (.tup (ts.map V.ref)) := upd_same
    have k33 := tups_same k3 (same_upd (o := .tup (ts.map V.ref)) np1)
    have hT3 := tups_same hT s3
    generalize upd H2 p1 (.tup (ts.map V.ref)) = H3 at s3 hl3 hd3 hq3 hp3 k33 hT3 ⊢
    clear k3 k2 k1 np1
    refine ⟨_, rfl, l, rfl, ⟨_, SqL.of hl3⟩, fun D2 nD2 => ?_⟩
    refine lc_it (walk_list (xs := qs.map V.ref)) (fun i Hz => Same H3 Hz ∧ ∃ ts : List Addr, Hz D2 = some (.lst (ts.map V.ref)) ∧ ts.length ≤ i ∧ ZK.TupsAt Hz ts (((ps.take i).filter (fun y => decide (kd R y = some "gone"))).map nc)) ⟨same_upd nD2, [], upd_same, Nat.le_refl _, .nil⟩ (fun i Hz _ h => SqL.of (h.1 _ _ hl3)) ?_ ?_
    · rintro i v Hz H' hi ⟨k1, ts, k2, k4, k3⟩ ⟨rfl, ev⟩
      rw [List.getElem?_map] at ev
      obtain ⟨u, hu', rfl⟩ := Option.map_eq_some_iff.mp ev
      have hil := (List.getElem?_eq_some_iff.mp hu').1
      have hpl : i < ps.length := by rw [← tups_len hT3]; exact hil
      have hy : ps[i]? = some ps[i] := List.getElem?_eq_getElem hpl
      obtain ⟨kk, hkk⟩ := Option.isSome_iff_exists.mp (hk ps[i] (List.getElem_mem hpl))
      have hun : H' u = some (.tup (nc ps[i])) := k1 _ _ (hT3.2 i u (nc ps[i]) hu' (by rw [List.getElem?_map, hy]; rfl))
      have hG : DGet H' dk (.ref u) (some (.str kk)) := by
        have z := DGet.t (k := ndk ps[i]) (k1 _ _ hd3) hun
        rw [kdK_val, hkk] at z
        exact z
      refine ⟨rfl, _, rfl, _, rfl, dk, _, rfl, hG, rfl, _, rfl, ?_⟩
      rw [List.take_add_one, hy, List.filter_append, List.map_append]
      by_cases c : kk = "gone"
      · subst c
        rw [decide_eq_true rfl]
        refine iteT ?_
        rw [show List.filter (fun y => decide (kd R y = some "gone")) (Option.toList (some ps[i])) = [ps[i]] from by simp [hkk]]
        refine ⟨_, rfl, _, k2, by rw [List.length_map]; exact small1000 (by omega), fun b o hb => ?_, ts ++ [u], ?_, by rw [List.length_append]; exact Nat.succ_le_succ k4, ?_⟩
        · rw [upd_ne (ne_of_none hb nD2)]
          exact k1 b o hb
        · rw [upd_same, List.map_append]
          rfl
        · refine ZK.TupsAt.snoc ⟨k3.1, fun j q c h1 h2 => ?_⟩ (by rw [upd_ne (ne_of hun k2 (by intro z; cases z))]; exact hun)
          rw [upd_ne (ne_of (k3.2 j q c h1 h2) k2 (by intro z; cases z))]
          exact k3.2 j q c h1 h2
      · have c2 : ¬ V.str kk = V.str "gone" := fun z => c (V.str.inj z)
        rw [decide_eq_false c2]
        refine iteF ⟨k1, ts, k2, Nat.le_succ_of_le k4, ?_⟩
        rw [show List.filter (fun y => decide (kd R y = some "gone")) (Option.toList (some ps[i])) = [] from by simp [hkk, c]]
        simpa using k3
    rintro H4 ⟨k1, gs, k2, k5, k3⟩
    rw [List.length_map, tups_len hT, List.take_length] at k3
    refine ⟨D2, _, rfl, .inl ⟨SqL.of k2, fun p2 np2 => ?_⟩⟩
    have s5' := k1.trans (same_upd (o := .tup (gs.map V.ref)) np2)
    have hq5 := s5' _ _ hq3
    have hp5 := s5' _ _ hp3
    have hg5 : upd H4 p2 (.tup (gs.map V.ref)) p2 = some (.tup (gs.map V.ref)) := upd_same
    have kg5 := tups_same k3 (same_upd (o := .tup (gs.map V.ref)) np2)
    have kl5 := tups_same k33 s5'
    have s5 := s3.trans s5'
    generalize upd H4 p2 (.tup (gs.map V.ref)) = H5 at s5 hq5 hp5 hg5 kg5 kl5 ⊢
    clear k3 k2 k1 np2 s5' hT3 hl3 hd3 hq3 hp3 k33 s3
    have el : (!(ts.map V.ref).isEmpty) = !decide (ps.filter (fun y => !decide (kd R y = some "gone")) = []) := by
      have := tups_len kl5
      cases ts with
      | nil =>
        have e : ps.filter (fun y => !decide (kd R y = some "gone")) = [] := List.length_eq_zero_iff.mp this.symm
        rw [e]
        rfl
      | cons a b =>
        have e : ¬ ps.filter (fun y => !decide (kd R y = some "gone")) = [] := fun e => by
          rw [e] at this
          cases this
        rw [decide_eq_false e]
        rfl
    refine ⟨_, rfl, _, .inr (.inl ⟨_, SqT.of hp5, rfl⟩), ?_⟩
    rw [el]
    have fin (kk : Str) (e : kk = (divRow R x ps).k) (t : Addr) (nt : H5 t = none) : Q (.ref t) (upd H5 t (.tup [.ref q, .str kk, .ref p1, .ref p2])) := by
      have st := same_upd (o := .tup [.ref q, .str kk, .ref p1, .ref p2]) nt
      refine go t _ (s5.trans st) (s5.free nt) ⟨p1, p2, ts, gs, ?_, st _ _ hq5, st _ _ hp5, tups_same kl5 st, st _ _ hg5, tups_same kg5 st⟩
      rw [upd_same, e]
    by_cases c : ps.filter (fun y => !decide (kd R y = some "gone")) = []
    · rw [decide_eq_true c]
      refine iteF ⟨_, rfl, _, rfl, _, rfl, _, rfl, (by show 4 ≤ sizeLine; decide), fun t nt => fin "gone" ?_ t nt⟩
      show _ = if _ = [] then _ else _
      rw [if_pos c]
    · rw [decide_eq_false c]
      refine iteT ⟨_, rfl, _, rfl, _, rfl, _, rfl, (by show 4 ≤ sizeLine; decide), fun t nt => fin "divides" ?_ t nt⟩
      show _ = if _ = [] then _ else _
      rw [if_neg c]
end
end ZF
namespace ZF
open PySem L2 PyProof.Rows PySem.Spec G
abbrev sRow : Stmt := topS 39
/-- who takes by a node -/
def tkN (F : Fm) (days : Int) (dead : Str) (x : Nd) : Bool := decide (x.2 ≤ 0) && sv F days dead x.1
theorem hdN_len {F : Fm} {days : Int} {dead : Str} {U : List Str} (hU : ∀ x, ∀ y ∈ F.ch x, y ∈ U) (lU : U.length ≤ 400) : ∀ (n : Nat) (g : List Str), g.length ≤ 400 → ∀ z, hdN F days dead n g = some z → z.length ≤ 400
  | 0, _, _, z, h => by cases h
  | n + 1, g, hg, z, h => by
    unfold hdN at h
    split at h
    · rw [← Option.some.inj h]
      exact hg
    · refine hdN_len hU lU n _ (Nat.le_trans (nodup_le (nextG_nd F g) fun y hy => ?_) lU) z h
      obtain ⟨x, _, h⟩ := nextG_mem.mp hy
      exact hU x y h
theorem hd_len {F : Fm} {days : Int} {dead name : Str} {U : List Str} (hU : ∀ x, ∀ y ∈ F.ch x, y ∈ U) (lU : U.length ≤ 400) (l : (F.ch name).length ≤ 400) : (hd F days dead name).length ≤ 400 := by
  unfold hd
  cases e : hdN F days dead 401 (F.ch name) with
  | none => exact l
  | some z => exact hdN_len hU lU _ _ l z e
theorem Cas.pts_len {C CB : Addr} {H : Hp} {p r : Addr} {F : Fm} {days : Int} {m dead : Str} (h : Cas C CB H p r F days m dead) (x : Nd) : (pts hd F days m dead x).length ≤ 400 := by
  obtain ⟨U, lU, hU⟩ := h.u
  obtain ⟨l1, l2⟩ := h.l x.1
  unfold pts
  split
  · rw [List.length_map]
    exact l2
  · split
    · rw [List.length_map]
      exact hd_len hU lU l1
    · rw [List.length_map]
      exact l1
/-- tuples stay -/
def Tk (H H' : Hp) : Prop := ∀ b xs, H b = some (.tup xs) → H' b = some (.tup xs)
theorem Tk.of_same {H H' : Hp} (s : Same H H') : Tk H H' := fun b xs h => s _ _ h
theorem Tk.trans {H H1 H2 : Hp} (s : Tk H H1) (t : Tk H1 H2) : Tk H H2 := fun b xs h => t _ _ (s _ _ h)
theorem Tk.upd {H : Hp} {a : Addr} {o o' : HO} (h : H a = some o) (ne : ∀ xs, o ≠ .tup xs) : Tk H (upd H a o') := fun b xs hb => by
  rw [upd_ne (ne_of hb h (fun e => ne xs e.symm))]
  exact hb
theorem tups_tk {H H' : Hp} {qs : List Addr} {cs : List (List V)} (h : ZK.TupsAt H qs cs) (s : Tk H H') : ZK.TupsAt H' qs cs := ⟨h.1, fun i q c h1 h2 => s _ _ (h.2 i q c h1 h2)⟩
theorem RowAt.tk {H H' : Hp} {t q : Addr} {r : Rw} (h : RowAt H t q r) (s : Tk H H') : RowAt H' t q r := by
  obtain ⟨l, g, ls, gs, h1, h2, h3, h4, h5, h6⟩ := h.ex
  exact ⟨l, g, ls, gs, s _ _ h1, s _ _ h2, s _ _ h3, tups_tk h4 s, s _ _ h5, tups_tk h6 s⟩
/-- rows stand at these addresses -/
structure RowsAt (H : Hp) (ts : List Addr) (R : List Rw) : Prop where
  ln : ts.length = R.length
  at' : ∀ (i : Nat) (t : Addr) (r : Rw), ts[i]? = some t → R[i]? = some r → ∃ q, RowAt H t q r
theorem RowsAt.nil (H : Hp) : RowsAt H [] [] := ⟨rfl, fun i t r h => by cases h⟩
theorem RowsAt.tk {H H' : Hp} {ts : List Addr} {R : List Rw} (h : RowsAt H ts R) (s : Tk H H') : RowsAt H' ts R := ⟨h.ln, fun i t r h1 h2 => (h.at' i t r h1 h2).imp fun _ z => z.tk s⟩
theorem RowsAt.snoc {H : Hp} {ts : List Addr} {R : List Rw} (h : RowsAt H ts R) {t q : Addr} {r : Rw} (z : RowAt H t q r) : RowsAt H (ts ++ [t]) (R ++ [r]) := by
  refine ⟨by rw [List.length_append, List.length_append, h.ln]; rfl, fun i u v h1 h2 => ?_⟩
  by_cases c : i < ts.length
  · rw [List.getElem?_append_left c] at h1
    rw [List.getElem?_append_left (by rw [← h.ln]; exact c)] at h2
    exact h.at' i u v h1 h2
  · have l1 := (List.getElem?_eq_some_iff.mp h1).1
    rw [List.length_append, List.length_singleton] at l1
    have ei : i = ts.length := by omega
    rw [List.getElem?_append_right (by omega), ei, Nat.sub_self] at h1
    rw [List.getElem?_append_right (by rw [← h.ln]; omega), ei, h.ln, Nat.sub_self] at h2
    cases h1
    cases h2
    exact ⟨q, z⟩
theorem tups_app {H : Hp} {qs us : List Addr} {cs ds : List (List V)} (h : ZK.TupsAt H qs cs) (g : ZK.TupsAt H us ds) : ZK.TupsAt H (qs ++ us) (cs ++ ds) := by
  refine ⟨by rw [List.length_append, List.length_append, h.1, g.1], fun i q c h1 h2 => ?_⟩
  by_cases k : i < qs.length
  · rw [List.getElem?_append_left k] at h1
    rw [List.getElem?_append_left (by rw [← h.1]; exact k)] at h2
    exact h.2 i q c h1 h2
  · rw [List.getElem?_append_right (by omega)] at h1
    rw [List.getElem?_append_right (by rw [← h.1]; omega), ← h.1] at h2
    exact g.2 _ q c h1 h2
theorem tups_rev {H : Hp} {qs : List Addr} {cs : List (List V)} (h : ZK.TupsAt H qs cs) : ZK.TupsAt H qs.reverse cs.reverse := by
  refine ⟨by rw [List.length_reverse, List.length_reverse, h.1], fun i q c h1 h2 => ?_⟩
  have l := (List.getElem?_eq_some_iff.mp h1).1
  rw [List.length_reverse] at l
  rw [List.getElem?_reverse (by omega)] at h1
  rw [List.getElem?_reverse (by rw [← h.1]; omega), ← h.1] at h2
  exact h.2 _ q c h1 h2
theorem cut_lh {G : Prop} {C : Addr → Hp → List Addr → Prop} {N : Addr → Hp → Prop} (main : (∀ l Hz qs, C l Hz qs → N l Hz) → G) (key : ∀ l Hz qs, C l Hz qs → N l Hz) : G := main key
theorem kdK_put {R : List Rw} {r : Rw} (h : kd R r.n = none) : putK (kdK R) (ndk r.n) (.str r.k) = kdK (R ++ [r]) := by
  rw [putK_new _ (by rw [kdK_val, h]; rfl)]
  unfold kdK
  rw [List.map_append]
  rfl
section
variable {P : Program} {w : World} {K : PySem.W.Frag} {mg : Str → Option Value} {base : Heap}
def spRow (C CB : Addr) : Sp := fun vs H Q _ => ∃ (p r q : Addr) (F : Fm) (days : Int) (m dead : Str) (x : Nd) (Z : List Rw) (n : Nat), vs = [.ref p, .ref r, .str dead, .ref q] ∧ Cas C CB H p r F days m dead ∧ H q = some (.tup (nc x)) ∧ Run (pts hd F days m dead) (tkN F days dead) 400000 n [x] [] Z ∧ Z.length ≤ 100000 ∧
  ∀ t H' (ts : List Addr), Same H H' → H t = none → H' t = some (.tup (ts.map V.ref)) → RowsAt H' ts Z → Q (.ref t) H'
abbrev nRow : List Str := ["family", "rules", "dead", "node", "rows", "kinds", "waiting", "top", "is_taker", "parts", "unknown", "row", "part"]
theorem scRow : FnScope nRow ["family", "rules", "dead", "node"] (defScope sRow) := ⟨rfl, rfl, rfl, by decide +kernel, rfl, by decide +kernel, by decide +kernel⟩
theorem ok_rows {f C CB : Addr} {fd : FuncData} (F : Fun K "rows_of" "rows_of" sRow f fd) (T : TS mg) (HT : Has P w K mg base CX0 "takes" ["family", "rules", "dead", "node"] 5 (spTks K C CB)) (HP : Has P w K mg base CX0 "parts_of" ["family", "rules", "dead", "node"] 5 (spPto K C CB hd)) (HD : Has P w K mg base CX0 "_divided_row" ["node", "parts", "kinds"] 5 spDiv) : FnOk P w K mg base CX0 6 f fd ["family", "rules", "dead", "node"] (spRow C CB) := by
  obtain ⟨tTa, mTa⟩ := T.takes
  obtain ⟨fTk, fdTk, mTk, kTk, bTk, GTk⟩ := HT.ok
  obtain ⟨fPto, fdPto, mPto, kPto, bPto, GPto⟩ := HP.ok
  obtain ⟨fDiv, fdDiv, mDiv, kDiv, bDiv, GDiv⟩ := HD.ok
  refine F.ok scRow (fun vs H Q E h => ?_) (fun cdv A outer s H vs Q E hr h => ?_)
  · obtain ⟨p, r, q, F, days, m, dead, x, Z, n, rfl, _⟩ := h
    rfl
  · obtain ⟨p, r, q, F, days, m, dead, x0, Z, n0, rfl, hC, hq, run0, zl, go⟩ := h
    have hu := hu_of hr
    refine ⟨_, (pss_cons (ps_set (i := 4) scRow.nd rfl (.inl rfl) (pe_lst pa_nil))
      (pss_cons (ps_set (i := 5) scRow.nd rfl (.inr rfl) pe_dnewT)
      (pss_cons (ps_set (i := 6) scRow.nd rfl (.inl rfl) (pe_lst (pa_cons (pv 3) pa_nil)))
      (pss_cons (ps_while PassesOwn.never (pt_truth (pv 6) (by intro _; rfl)) (pss_cons (ps_set (i := 7) scRow.nd rfl (.inl rfl) (pe_ix ix_list (pv 6) (pe_un un_neg pe_int) (fun _ _ => rfl)))
      (pss_cons (ps_set (i := 8) scRow.nd rfl (.inl rfl) (pe_call GTk (hr.mono (by decide)) (by rfl) mTk kTk bTk .nil pass0 (pa_cons (pv 0) (pa_cons (pv 1) (pa_cons (pv 2) (pa_cons (pv 7) pa_nil))))))
      (pss_cons (ps_set (i := 9) scRow.nd rfl (.inl rfl) (pe_ifExp (pt_val (pv 8)) (pe_lst pa_nil) (pe_call GPto (hr.mono (by decide)) (by rfl) mPto kPto bPto .nil pass0 (pa_cons (pv 0) (pa_cons (pv 1) (pa_cons (pv 2) (pa_cons (pv 7) pa_nil)))))))
      (pss_cons (ps_setLc (i := 10) (own := [("part", 12)]) (g := gName 12) rfl scRow.nd rfl rfl (sw_true rfl rfl rfl (by decide +kernel)) (pi_list (pv 9)) (blkOk_by (N := nRow) (sc := defScope sRow) (by decide +kernel)) (fun _ _ _ _ _ => (pg_name (i := 12) scRow.nd rfl (.inl rfl) (.inr rfl))) (fun _ _ _ _ _ => pts_one (pt_cmp (pc_dnotin hu (pv 12) (pv 5)))) (fun _ _ _ _ _ => (pv 12)))
      (pss_cons (ps_if (pt_truth (pv 10) (by intro _; rfl)) (pss_cons (ps_expr (pe_bm PySem.F.plainAttrs_list PySem.F.slot_list_extend PySem.F.type_list_extend mt_extend (pv 6) (pa_cons (pe_revL (pv 10)) pa_nil)))
      (pss_one ps_continue)) pss_nil)
      (pss_cons (ps_expr (pe_bm0 PySem.F.plainAttrs_list PySem.F.slot_list_pop PySem.F.type_list_pop mt_pop (pv 6)))
      (pss_one (ps_if (pt_cmp (pc_dnotin hu (pv 7) (pv 5))) (pss_cons (ps_set (i := 11) scRow.nd rfl (.inl rfl) (pe_ifExp (pt_val (pv 8)) (pe_tup (pa_cons (pv 7) (pa_cons (pe_glob (v := .str "takes") (by rfl) mTa ⟨_, rfl⟩) (pa_cons (pe_tup pa_nil) (pa_cons (pe_tup pa_nil) pa_nil))))) (pe_call GDiv (hr.mono (by decide)) (by rfl) mDiv kDiv bDiv .nil pass0 (pa_cons (pv 7) (pa_cons (pv 9) (pa_cons (pv 5) pa_nil))))))
      (pss_cons (ps_dput hu (pv 5) (pv 7) (pe_ix ix_tup (pv 11) pe_int (fun _ _ => rfl)) rfl)
      (pss_one (ps_expr (pe_bm PySem.F.plainAttrs_list PySem.F.slot_list_append PySem.F.type_list_append mt_append (pv 4) (pa_cons (pv 11) pa_nil)))))) pss_nil)))))))))
      (pss_one (ps_ret (pe_callTy call_tuple_of (by rfl) T.tuple (by decide +kernel) (pa_cons (pv 4) pa_nil)))))))), ?_⟩
    refine ⟨Nat.zero_le _, fun lr nlr => ?_⟩
    intro dk ndk'
    have rd : lr ≠ dk := ne_of_none upd_same ndk'
    refine ⟨_, rfl, (by show 1 ≤ sizeLine; decide), fun lw nlw => ?_⟩
    have s1 : Same H (upd (upd (upd H lr (.lst [])) dk (.dT [])) lw (.lst [.ref q])) := ((same_upd nlr).trans (same_upd ndk')).trans (same_upd nlw)
    have hr1 : upd (upd (upd H lr (.lst [])) dk (.dT [])) lw (.lst [.ref q]) lr = some (.lst []) := by
      rw [upd_ne (ne_of_none (by rw [upd_ne rd, upd_same]) nlw), upd_ne rd, upd_same]
    have hd1 : upd (upd (upd H lr (.lst [])) dk (.dT [])) lw (.lst [.ref q]) dk = some (.dT (kdK [])) := by
      rw [upd_ne (ne_of_none upd_same nlw), upd_same]
      rfl
    have Hr : H lr = none := nlr
    have Hd : H dk = none := (same_upd nlr).free ndk'
    have Hw : H lw = none := ((same_upd nlr).trans (same_upd ndk')).free nlw
    have rw1 : lr ≠ lw := fun e => by
      rw [← e, upd_ne rd, upd_same] at nlw
      cases nlw
    have dw : dk ≠ lw := fun e => by
      rw [← e, upd_same] at nlw
      cases nlw
    refine ⟨fun mm σ Hx => ∃ (S : List Nd) (R : List Rw) (ws ts : List Addr) (y7 y8 y9 y10 y11 : Option V), σ = [some (.ref p), some (.ref r), some (.str dead), some (.ref q), some (.ref lr), some (.ref dk), some (.ref lw), y7, y8, y9, y10, y11, none] ∧ Same H Hx ∧ Hx lr = some (.lst (ts.map V.ref)) ∧ RowsAt Hx ts R ∧ Hx dk = some (.dT (kdK R)) ∧ Hx lw = some (.lst (ws.map V.ref)) ∧ ZK.TupsAt Hx ws (S.reverse.map nc) ∧ Run (pts hd F days m dead) (tkN F days dead) 400000 mm S R Z ∧ S.length ≤ 400000,
      ⟨n0, [x0], [], [q], [], none, none, none, none, none, rfl, s1, hr1, .nil _, hd1, upd_same, ⟨rfl, fun i u c h1 h2 => ?_⟩, run0, by show 1 ≤ 400000; decide⟩, ?_⟩
    · match i, h1, h2 with
      | 0, h1, h2 =>
        cases h1
        cases h2
        exact s1 _ _ hq
      | i + 1, h1, h2 => cases h1
    rintro mm σ Hx ⟨S, R, ws, ts, y7, y8, y9, y10, y11, rfl, sm, hrx, hR, hdx, hwx, hW, run, sl⟩
    have lZ : R.length ≤ 100000 := Nat.le_trans run.len zl
    refine ⟨_, rfl, _, .inl ⟨_, SqL.of hwx, rfl⟩, ?_⟩
    cases S with
    | nil =>
      have wn : ws = [] := List.length_eq_zero_iff.mp (tups_len hW)
      subst wn
      refine iteF ?_
      cases run
      refine ⟨_, rfl, lr, _, rfl, .inl ⟨SqL.of hrx, fun t nt => ?_⟩⟩
      exact go t _ ts (sm.trans (same_upd nt)) (sm.free nt) upd_same (hR.tk (Tk.of_same (same_upd nt)))
    | cons x S =>
    obtain ⟨ws', u, rfl⟩ : ∃ ws' u, ws = ws' ++ [u] := by
      have := tups_len hW
      rcases List.eq_nil_or_concat ws with rfl | ⟨a, b, e⟩
      · simp at this
      · exact ⟨a, b, by rw [e, List.concat_eq_append]⟩
    have hWl := tups_len hW
    simp only [List.length_append, List.length_reverse, List.length_cons, List.length_nil] at hWl
    have hux : Hx u = some (.tup (nc x)) := hW.2 S.length u (nc x) (by rw [List.getElem?_append_right (by omega), show S.length - ws'.length = 0 by omega]; rfl) (by
      rw [List.getElem?_map, List.reverse_cons, List.getElem?_append_right (by rw [List.length_reverse]; exact Nat.le_refl _), List.length_reverse, Nat.sub_self]
      rfl)
    have hWs : ZK.TupsAt Hx ws' (S.reverse.map nc) := by
      refine ⟨by rw [List.length_map, List.length_reverse]; omega, fun i v c h1 h2 => hW.2 i v c (by rw [List.getElem?_append_left (List.getElem?_eq_some_iff.mp h1).1]; exact h1) ?_⟩
      rw [List.reverse_cons, List.map_append, List.getElem?_append_left (List.getElem?_eq_some_iff.mp h2).1]
      exact h2
    have hne : (!((ws' ++ [u]).map V.ref).isEmpty) = true := by simp
    rw [hne]
    refine iteT ⟨fun σ1 Hy => ∃ (m' : Nat) (S : List Nd) (R : List Rw) (ws ts : List Addr) (y7 y8 y9 y10 y11 : Option V), m' < mm ∧ σ1 = [some (.ref p), some (.ref r), some (.str dead), some (.ref q), some (.ref lr), some (.ref dk), some (.ref lw), y7, y8, y9, y10, y11, none] ∧ Same H Hy ∧ Hy lr = some (.lst (ts.map V.ref)) ∧ RowsAt Hy ts R ∧ Hy dk = some (.dT (kdK R)) ∧ Hy lw = some (.lst (ws.map V.ref)) ∧ ZK.TupsAt Hy ws (S.reverse.map nc) ∧ Run (pts hd F days m dead) (tkN F days dead) 400000 m' S R Z ∧ S.length ≤ 400000, ?_, ?_⟩
    · rintro σ1 Hy ⟨m', S1, R1, ws1, ts1, z7, z8, z9, z10, z11, lt, h⟩
      exact ⟨m', lt, S1, R1, ws1, ts1, z7, z8, z9, z10, z11, h⟩
    -- top, is_taker
    have hCx := hC.same sm
    refine ⟨_, rfl, 1, rfl, lw, _, _, .ref u, rfl, rfl, SqL.of hwx, by rw [List.map_append]; exact atI_last _ _, ?_⟩
    refine ⟨_, rfl, _, rfl, _, rfl, _, rfl, p, r, u, F, days, m, dead, x.1, x.2, rfl, hCx, SqT.of hux, ?_⟩
    show _
    generalize htk : (decide (x.2 ≤ 0) && sv F days dead x.1) = tkb
    have htk' : tkN F days dead x = tkb := htk
    -- parts
    apply cut_lh (C := fun l Hz qs => Same Hx Hz ∧ Hz l = some (.lst (qs.map V.ref)) ∧ ZK.TupsAt Hz qs ((if tkb = true then [] else pts hd F days m dead x).map nc) ∧ Hx l = none)
    · intro cut
      refine ⟨_, rfl, _, rfl, ?_⟩
      refine ite2 (fun e => ?_) (fun e => ?_)
      · refine ⟨Nat.zero_le _, fun l nl => ?_⟩
        have a1 := same_upd (o := .lst []) nl
        have a2 : upd Hx l (.lst []) l = some (.lst ([].map V.ref)) := upd_same
        generalize upd Hx l (.lst []) = Hz at a1 a2 ⊢
        refine cut l Hz [] ⟨a1, a2, ?_, nl⟩
        rw [if_pos e]
        exact ⟨rfl, fun i q c h => by cases h⟩
      · refine ⟨_, rfl, _, rfl, _, rfl, _, rfl, p, r, u, F, days, m, dead, x.1, x.2, rfl, hCx, SqT.of hux, fun l H' qs s' nl el hq' => ?_⟩
        refine cut l H' qs ⟨s', el, ?_, nl⟩
        rw [if_neg e]
        exact hq'
    rintro l H3 qs ⟨s3, hl3, hT3, nlx⟩
    have lne : l ≠ lw := fun e => by
      rw [e, hwx] at nlx
      cases nlx
    have ps9 : (if tkb = true then [] else pts hd F days m dead x).length ≤ 400 := by
      split
      · exact Nat.zero_le _
      · exact hCx.pts_len x
    have eU : unk (pts hd F days m dead) (tkN F days dead) R x = (if tkb = true then [] else pts hd F days m dead x).filter fun y => (kd R y).isNone := by
      unfold unk
      rw [htk']
      split <;> rfl
    have eps : ¬ tkb = true → (if tkb = true then [] else pts hd F days m dead x) = pts hd F days m dead x := fun e => if_neg e
    generalize (if tkb = true then [] else pts hd F days m dead x) = ps at hT3 ps9 eU eps
    have hr3 := s3 _ _ hrx
    have hd3 := s3 _ _ hdx
    have hw3 := s3 _ _ hwx
    have hu3 := s3 _ _ hux
    have gK (Hz : Hp) (y : Nd) (v : Addr) (hd : Hz dk = some (.dT (kdK R))) (hv : Hz v = some (.tup (nc y))) : DGet Hz dk (.ref v) ((kd R y).map V.str) := by
      have z := DGet.t (k := ndk y) hd hv
      rw [kdK_val] at z
      exact z
    -- unknown
    refine ⟨_, rfl, l, rfl, ⟨_, SqL.of hl3⟩, fun D1 nD1 => ?_⟩
    refine lc_it (walk_list (xs := qs.map V.ref)) (fun i Hz => Same H3 Hz ∧ ∃ vs : List Addr, Hz D1 = some (.lst (vs.map V.ref)) ∧ vs.length ≤ i ∧ ZK.TupsAt Hz vs (((ps.take i).filter fun y => (kd R y).isNone).map nc)) ⟨same_upd nD1, [], upd_same, Nat.le_refl _, .nil⟩ (fun i Hz _ h => SqL.of (h.1 _ _ hl3)) ?_ ?_
    · rintro i v Hz H' hi ⟨k1, vs, k2, k4, k3⟩ ⟨rfl, ev⟩
      rw [List.getElem?_map] at ev
      obtain ⟨v', hv', rfl⟩ := Option.map_eq_some_iff.mp ev
      have hil := (List.getElem?_eq_some_iff.mp hv').1
      have hpl : i < ps.length := by rw [← tups_len hT3]; exact hil
      have hy : ps[i]? = some ps[i] := List.getElem?_eq_getElem hpl
      have hun : H' v' = some (.tup (nc ps[i])) := k1 _ _ (hT3.2 i v' (nc ps[i]) hv' (by rw [List.getElem?_map, hy]; rfl))
      refine ⟨rfl, _, rfl, _, rfl, dk, _, rfl, gK H' _ _ (k1 _ _ hd3) hun, _, rfl, ?_⟩
      rw [List.take_add_one, hy, List.filter_append, List.map_append, Option.isSome_map]
      cases c : kd R ps[i] with
      | some kk =>
        refine iteF ⟨k1, vs, k2, Nat.le_succ_of_le k4, ?_⟩
        rw [show List.filter (fun y => (kd R y).isNone) (Option.toList (some ps[i])) = [] from by simp [c]]
        simpa using k3
      | none =>
        refine iteT ?_
        rw [show List.filter (fun y => (kd R y).isNone) (Option.toList (some ps[i])) = [ps[i]] from by simp [c]]
        refine ⟨_, rfl, _, k2, by rw [List.length_map]; exact small1000 (by omega), fun b o hb => ?_, vs ++ [v'], ?_, by rw [List.length_append]; exact Nat.succ_le_succ k4, ?_⟩
        · rw [upd_ne (ne_of_none hb nD1)]
          exact k1 b o hb
        · rw [upd_same, List.map_append]
          rfl
        · refine ZK.TupsAt.snoc ⟨k3.1, fun j q c h1 h2 => ?_⟩ (by rw [upd_ne (ne_of hun k2 (by intro z; cases z))]; exact hun)
          rw [upd_ne (ne_of (k3.2 j q c h1 h2) k2 (by intro z; cases z))]
          exact k3.2 j q c h1 h2
    rintro H5 ⟨k1, vs, k2, k4, k3⟩
    rw [List.length_map, tups_len hT3, List.take_length, ← eU] at k3
    have s5 := s3.trans k1
    have hr5 := k1 _ _ hr3
    have hd5 := k1 _ _ hd3
    have hw5 := k1 _ _ hw3
    have hu5 := k1 _ _ hu3
    have hT5 := tups_same hT3 k1
    have hl5 := k1 _ _ hl3
    have hR5 := hR.tk (Tk.of_same s5)
    have hWs5 := tups_same hWs s5
    have hW5 := tups_same hW s5
    have sm5 := sm.trans s5
    clear k1 hr3 hd3 hw3 hu3 hl3 hT3 nD1 s3 k4 gK hWs hW hR hrx hdx hwx
    have gK (Hz : Hp) (y : Nd) (v : Addr) (hd : Hz dk = some (.dT (kdK R))) (hv : Hz v = some (.tup (nc y))) : DGet Hz dk (.ref v) ((kd R y).map V.str) := by
      have z := DGet.t (k := ndk y) hd hv
      rw [kdK_val] at z
      exact z
    refine ⟨_, rfl, _, .inl ⟨_, SqL.of k2, rfl⟩, ?_⟩
    have vne : (!(vs.map V.ref).isEmpty) = !decide (unk (pts hd F days m dead) (tkN F days dead) R x = []) := by
      have := tups_len k3
      cases vs with
      | nil =>
        have e := List.length_eq_zero_iff.mp this.symm
        rw [e]
        rfl
      | cons a b =>
        have e : ¬ unk (pts hd F days m dead) (tkN F days dead) R x = [] := fun e => by
          rw [e] at this
          cases this
        rw [decide_eq_false e]
        rfl
    rw [vne]

    have pop1 : ((ws' ++ [u]).map V.ref)[((ws' ++ [u]).map V.ref).length - 1]? = some (.ref u) := by
      rw [List.length_map, List.length_append, List.map_append]
      simp
    have pop2 : ((ws' ++ [u]).map V.ref).dropLast = ws'.map V.ref := by
      rw [List.map_append]
      exact List.dropLast_concat
    have lw7 : Tk H5 (upd H5 lw (.lst (ws'.map V.ref))) := Tk.upd hw5 (by intro xs z; cases z)
    have sm7 : Same H (upd H5 lw (.lst (ws'.map V.ref))) := fun b o hb => by
      rw [upd_ne (ne_of_none hb Hw)]
      exact sm5 b o hb
    have hr7 : upd H5 lw (.lst (ws'.map V.ref)) lr = some (.lst (ts.map V.ref)) := by
      rw [upd_ne rw1]
      exact hr5
    have hd7 : upd H5 lw (.lst (ws'.map V.ref)) dk = some (.dT (kdK R)) := by
      rw [upd_ne dw]
      exact hd5
    have hu7 := lw7 _ _ hu5
    cases run with
    | @push n' _ _ _ _ ne lb run' =>
      rw [decide_eq_false ne]
      refine iteT ⟨_, rfl, .inl ⟨rfl, _, .inl (.inl hw5)⟩, _, rfl, D1, _, rfl, SqL.of k2, fun p1 np1 => ?_⟩
      have h6 := same_upd (o := .lst (vs.map V.ref).reverse) np1
      have hw6 := h6 _ _ hw5
      refine ⟨lw, p1, _, _, rfl, rfl, hw6, upd_same, ?_, ?_⟩
      · have l1 := tups_len k3
        rw [List.length_append, List.length_cons] at lb
        rw [List.length_reverse, List.length_map, List.length_map, l1, List.length_append, List.length_singleton]
        show _ ≤ 2 ^ 24
        omega
      · have t8 : Tk H5 (upd (upd H5 p1 (.lst (vs.map V.ref).reverse)) lw (.lst ((ws' ++ [u]).map V.ref ++ (vs.map V.ref).reverse))) := (Tk.of_same h6).trans (Tk.upd hw6 (by intro xs z; cases z))
        refine ⟨n', unk (pts hd F days m dead) (tkN F days dead) R x ++ x :: S, R, ws' ++ [u] ++ vs.reverse, ts, _, _, _, _, _, Nat.lt_succ_self _, rfl, fun b o hb => ?_, ?_, hR5.tk t8, ?_, ?_, ?_, run', lb⟩
        · rw [upd_ne (ne_of_none hb Hw)]
          exact h6 _ _ (sm5 b o hb)
        · rw [upd_ne rw1]
          exact h6 _ _ hr5
        · rw [upd_ne dw]
          exact h6 _ _ hd5
        · rw [upd_same, List.map_append (l₁ := ws' ++ [u]), List.map_reverse]
        · rw [List.reverse_append, List.map_append (f := nc)]
          refine tups_app (tups_tk hW5 t8) ?_
          rw [List.map_reverse (f := nc)]
          exact tups_rev (tups_tk k3 t8)
    | @known n' _ _ _ _ un kn run' =>
      rw [decide_eq_true un]
      obtain ⟨kk, hkk⟩ := Option.isSome_iff_exists.mp kn
      refine iteF ⟨_, rfl, .inl ⟨rfl, _, .inl (.inl hw5)⟩, lw, _, .ref u, rfl, rfl, hw5, pop1, ?_⟩
      rw [pop2]
      have g7 := gK _ _ _ hd7 hu7
      rw [hkk] at g7
      refine ⟨_, rfl, _, rfl, dk, _, rfl, g7, _, rfl, ?_⟩
      refine iteF ⟨n', S, R, ws', ts, _, _, _, _, _, Nat.lt_succ_self _, rfl, sm7, hr7, hR5.tk lw7, hd7, upd_same, tups_tk hWs5 lw7, run', ?_⟩
      rw [List.length_cons] at sl
      omega
    | @new n' _ _ _ _ un kn run' =>
      rw [decide_eq_true un]
      have hkk : kd R x = none := by simpa using kn
      have hkr : kd R (rowOf (pts hd F days m dead) (tkN F days dead) R x).n = none := by
        rw [rowOf_n]
        exact hkk
      refine iteF ⟨_, rfl, .inl ⟨rfl, _, .inl (.inl hw5)⟩, lw, _, .ref u, rfl, rfl, hw5, pop1, ?_⟩
      rw [pop2]
      have g7 := gK _ _ _ hd7 hu7
      rw [hkk] at g7
      refine ⟨_, rfl, _, rfl, dk, _, rfl, g7, _, rfl, ?_⟩
      have hR7 := hR5.tk lw7
      have hWs7 := tups_tk hWs5 lw7
      have hw7 : upd H5 lw (.lst (ws'.map V.ref)) lw = some (.lst (ws'.map V.ref)) := upd_same
      have hl7 : l ≠ lw → upd H5 lw (.lst (ws'.map V.ref)) l = some (.lst (qs.map V.ref)) := fun e => by
        rw [upd_ne e]
        exact hl5
      have hT7 := tups_tk hT5 lw7
      have hl7 := hl7 lne
      generalize upd H5 lw (.lst (ws'.map V.ref)) = H7 at *
      refine iteT ?_
      apply cut_lh (C := fun t Hz _ => Same H7 Hz ∧ RowAt Hz t u (rowOf (pts hd F days m dead) (tkN F days dead) R x))
      · intro cut
        refine ⟨_, rfl, _, rfl, ?_⟩
        refine ite2 (fun e => ?_) (fun e => ?_)
        · refine ⟨_, rfl, Nat.zero_le _, fun e1 ne1 => ⟨Nat.zero_le _, fun e2 ne2 => ⟨(by show 4 ≤ sizeLine; decide), fun t nt => ?_⟩⟩⟩
          have q1 := same_upd (o := .tup []) ne1
          have q2 := same_upd (o := .tup []) ne2
          have q3 := same_upd (o := .tup [.ref u, .str "takes", .ref e1, .ref e2]) nt
          have a1 := (q1.trans q2).trans q3
          have a2 : upd (upd (upd H7 e1 (.tup [])) e2 (.tup [])) t (.tup [.ref u, .str "takes", .ref e1, .ref e2]) t = some (.tup [.ref u, .str "takes", .ref e1, .ref e2]) := upd_same
          have a3 := q3 _ _ (q2 _ _ (upd_same (H := H7) (a := e1) (o := .tup [])))
          have a4 := q3 _ _ (upd_same (H := upd H7 e1 (.tup [])) (a := e2) (o := .tup []))
          generalize upd (upd (upd H7 e1 (.tup [])) e2 (.tup [])) t (.tup [.ref u, .str "takes", .ref e1, .ref e2]) = Hz at a1 a2 a3 a4 ⊢
          have er : rowOf (pts hd F days m dead) (tkN F days dead) R x = ⟨x, "takes", [], []⟩ := by
            unfold rowOf
            rw [htk', if_pos e]
          refine cut t Hz [] ⟨a1, ?_⟩
          rw [er]
          exact ⟨e1, e2, [], [], a2, a1 _ _ hu7, a3, ⟨rfl, fun i q c h => by cases h⟩, a4, ⟨rfl, fun i q c h => by cases h⟩⟩
        · have ep := eps e
          refine ⟨_, rfl, _, rfl, _, rfl, u, l, dk, x, ps, qs, R, rfl, hu7, hl7, hT7, hd7, fun y hy => ?_, by omega, fun t Hz sz nt ra => cut t Hz [] ⟨sz, ?_⟩⟩
          · rw [eU] at un
            have := List.filter_eq_nil_iff.mp un y hy
            cases q : kd R y with
            | none => rw [q] at this; exact absurd rfl this
            | some _ => rfl
          · have er : rowOf (pts hd F days m dead) (tkN F days dead) R x = divRow R x ps := by
              unfold rowOf divRow
              rw [htk', if_neg e, ep]
            rw [er]
            exact ra
      · rintro t H8 _ ⟨s8, ra⟩
        obtain ⟨la, ga, lsa, gsa, h1, h2, h3, h4, h5, h6⟩ := id ra.ex
        have hd8 := s8 _ _ hd7
        have hr8 := s8 _ _ hr7
        have hw8 := s8 _ _ hw7
        have hu8 := s8 _ _ hu7
        have t9 : Tk H8 (upd H8 dk (.dT (putK (kdK R) (ndk x) (.str (rowOf (pts hd F days m dead) (tkN F days dead) R x).k)))) := Tk.upd hd8 (by intro xs z; cases z)
        refine ⟨_, rfl, t, _, 1, _, rfl, rfl, SqT.of h1, atI_nat (j := 1) rfl, _, rfl, _, rfl, dk, _, rfl, DPut.t (k := ndk x) hd8 hu8 ?_, ?_⟩
        · unfold kdK
          rw [List.length_map]
          show _ < 2 ^ 24
          omega
        have ekp := kdK_put hkr
        rw [rowOf_n] at ekp
        rw [ekp] at t9 ⊢
        have hr9 : upd H8 dk (.dT (kdK (R ++ [rowOf (pts hd F days m dead) (tkN F days dead) R x]))) lr = some (.lst (ts.map V.ref)) := by
          rw [upd_ne rd]
          exact hr8
        have hw9 : upd H8 dk (.dT (kdK (R ++ [rowOf (pts hd F days m dead) (tkN F days dead) R x]))) lw = some (.lst (ws'.map V.ref)) := by
          rw [upd_ne dw.symm]
          exact hw8
        have hd9 : upd H8 dk (.dT (kdK (R ++ [rowOf (pts hd F days m dead) (tkN F days dead) R x]))) dk = some (.dT (kdK (R ++ [rowOf (pts hd F days m dead) (tkN F days dead) R x]))) := upd_same
        have sm9 : Same H (upd H8 dk (.dT (kdK (R ++ [rowOf (pts hd F days m dead) (tkN F days dead) R x])))) := fun b o hb => by
          rw [upd_ne (ne_of_none hb Hd)]
          exact s8 _ _ (sm7 b o hb)
        have ra9 := ra.tk t9
        have hR9 := (hR7.tk (Tk.of_same s8)).tk t9
        have hWs9 := (tups_tk hWs7 (Tk.of_same s8)).elim fun a b => tups_tk ⟨a, b⟩ t9
        generalize upd H8 dk (.dT (kdK (R ++ [rowOf (pts hd F days m dead) (tkN F days dead) R x]))) = H9 at *
        have t10 : Tk H9 (upd H9 lr (.lst (ts.map V.ref ++ [V.ref t]))) := Tk.upd hr9 (by intro xs z; cases z)
        refine ⟨_, rfl, .inl ⟨rfl, _, .inl (.inl hr9)⟩, _, rfl, lr, _, _, rfl, rfl, hr9, ?_, ?_⟩
        · rw [List.length_map, hR9.ln]
          show _ < 2 ^ 24
          omega
        · refine ⟨n', S, R ++ [rowOf (pts hd F days m dead) (tkN F days dead) R x], ws', ts ++ [t], _, _, _, _, _, Nat.lt_succ_self _, rfl, fun b o hb => ?_, ?_, (hR9.tk t10).snoc (ra9.tk t10), ?_, ?_, tups_tk hWs9 t10, run', ?_⟩
          · rw [upd_ne (ne_of_none hb Hr)]
            exact sm9 b o hb
          · rw [upd_same, List.map_append]
            rfl
          · rw [upd_ne rd.symm]
            exact hd9
          · rw [upd_ne rw1.symm]
            exact hw9
          · rw [List.length_cons] at sl
            omega
end
end ZF
namespace G
open PySem
/-! what the rows of a node share out -/
def rsum (l : List Rat) : Rat := l.foldr (· + ·) 0
theorem rsum_cons (x : Rat) (l : List Rat) : rsum (x :: l) = x + rsum l := rfl
theorem rsum_app (l m : List Rat) : rsum (l ++ m) = rsum l + rsum m := by
  induction l with
  | nil => show rsum m = 0 + rsum m; grind
  | cons x l ih => rw [List.cons_append, rsum_cons, rsum_cons, ih]; grind
/-- what comes to a name by a node; the rows backwards -/
def wOf : List Rw → Nd → Str → Rat
  | [], _, _ => 0
  | r :: T, x, n => if x = r.n then (if r.k = "takes" then (if n = x.1 then 1 else 0) else rsum (r.li.map fun y => wOf T y n) / (r.li.length : Nat)) else wOf T x n
/-- rows, backwards, that follow from one another -/
inductive RwOk : List Rw → Prop
  | nil : RwOk []
  | cons {r : Rw} {T : List Rw} : RwOk T → r.n ∉ T.map (·.n) → (∀ y ∈ r.li, y ∈ T.map (·.n)) → (r.k = "takes" → r.li = []) → RwOk (r :: T)
/-- what is held and what has been given come to the same -/
def pot (h : Nd → Rat) (s : Str → Rat) (T : List Rw) (n : Str) : Rat := s n + rsum (T.map fun r => h r.n * wOf T r.n n)
theorem wOf_skip {r : Rw} {T : List Rw} {x : Nd} (h : x ≠ r.n) (n : Str) : wOf (r :: T) x n = wOf T x n := by
  conv => lhs; unfold wOf
  rw [if_neg h]
theorem pot_cons {h : Nd → Rat} {s : Str → Rat} {r : Rw} {T : List Rw} (ok : RwOk (r :: T)) (n : Str) : pot h s (r :: T) n = h r.n * wOf (r :: T) r.n n + pot h s T n := by
  cases ok with
  | cons _ h1 _ _ =>
    unfold pot
    rw [List.map_cons, rsum_cons]
    have e : (T.map fun q => h q.n * wOf (r :: T) q.n n) = T.map fun q => h q.n * wOf T q.n n := List.map_congr_left fun q hq => by
      rw [wOf_skip (fun z => h1 (by rw [← z]; exact List.mem_map.mpr ⟨q, hq, rfl⟩))]
    rw [e]
    grind
theorem pot_nil (h : Nd → Rat) (s : Str → Rat) (n : Str) : pot h s [] n = s n := by
  show s n + 0 = s n
  grind
def upN (h : Nd → Rat) (x : Nd) (v : Rat) : Nd → Rat := fun y => if y = x then v else h y
theorem rsum_one {T : List Rw} (h : Nd → Rat) (f : Rw → Rat) {x : Nd} {c : Rat} (nd : (T.map (·.n)).Nodup) (m : x ∈ T.map (·.n)) (g : Nd → Rat) (hf : ∀ r ∈ T, f r = g r.n) :
    rsum (T.map fun r => upN h x (h x + c) r.n * f r) = rsum (T.map fun r => h r.n * f r) + c * g x := by
  induction T with
  | nil => cases m
  | cons r T ih =>
    rw [List.map_cons, List.nodup_cons] at nd
    rw [List.map_cons, List.map_cons, rsum_cons, rsum_cons]
    by_cases e : r.n = x
    · have e2 : (T.map fun r => upN h x (h x + c) r.n * f r) = T.map fun r => h r.n * f r := List.map_congr_left fun q hq => by
        have : q.n ≠ x := fun z => nd.1 (by
          rw [e, ← z]
          exact List.mem_map.mpr ⟨q, hq, rfl⟩)
        unfold upN
        rw [if_neg this]
      rw [e2, hf r List.mem_cons_self]
      unfold upN
      rw [if_pos e, e]
      grind
    · have m2 : x ∈ T.map (·.n) := by
        rcases List.mem_cons.mp m with z | z
        · exact absurd z.symm e
        · exact z
      rw [ih nd.2 m2 fun q hq => hf q (List.mem_cons_of_mem _ hq)]
      have : upN h x (h x + c) r.n = h r.n := if_neg e
      rw [this]
      grind
theorem RwOk.nd {T : List Rw} (h : RwOk T) : (T.map (·.n)).Nodup := by
  induction h with
  | nil => exact List.nodup_nil
  | cons _ h1 _ _ ih => exact List.nodup_cons.mpr ⟨h1, ih⟩
theorem RwOk.tail {r : Rw} {T : List Rw} (h : RwOk (r :: T)) : RwOk T := by
  cases h with
  | cons a _ _ _ => exact a
theorem pot_put {h : Nd → Rat} {s : Str → Rat} {T : List Rw} (ok : RwOk T) {x : Nd} {c : Rat} (m : x ∈ T.map (·.n)) (n : Str) : pot (upN h x (h x + c)) s T n = pot h s T n + c * wOf T x n := by
  unfold pot
  rw [rsum_one h (fun r => wOf T r.n n) ok.nd m (fun y => wOf T y n) fun _ _ => rfl]
  grind
def upS (s : Str → Rat) (k : Str) (v : Rat) : Str → Rat := fun j => if j = k then v else s j
theorem pot_take {h : Nd → Rat} {s : Str → Rat} {r : Rw} {T : List Rw} (ok : RwOk (r :: T)) (tk : r.k = "takes") (n : Str) : pot h (upS s r.n.1 (s r.n.1 + h r.n)) T n = pot h s (r :: T) n := by
  rw [pot_cons ok]
  have e : wOf (r :: T) r.n n = if n = r.n.1 then 1 else 0 := by
    conv => lhs; unfold wOf
    rw [if_pos rfl, if_pos tk]
  rw [e]
  unfold pot upS
  by_cases c : n = r.n.1
  · rw [if_pos c, if_pos c, c]
    grind
  · rw [if_neg c, if_neg c]
    grind
/-- the parts get theirs, one by one -/
def give (h : Nd → Rat) (c : Rat) : List Nd → Nd → Rat
  | [] => h
  | y :: ys => give (upN h y (h y + c)) c ys
theorem give_snoc (h : Nd → Rat) (c : Rat) (ys : List Nd) (y : Nd) : give h c (ys ++ [y]) = upN (give h c ys) y (give h c ys y + c) := by
  induction ys generalizing h with
  | nil => rfl
  | cons z ys ih => exact ih _
theorem pot_give {s : Str → Rat} {T : List Rw} (ok : RwOk T) {c : Rat} (n : Str) : ∀ (ys : List Nd) (h : Nd → Rat), (∀ y ∈ ys, y ∈ T.map (·.n)) → pot (give h c ys) s T n = pot h s T n + c * rsum (ys.map fun y => wOf T y n)
  | [], h, _ => by
    show pot h s T n = pot h s T n + c * 0
    grind
  | y :: ys, h, m => by
    show pot (give (upN h y (h y + c)) c ys) s T n = _
    rw [pot_give ok n ys _ fun z hz => m z (List.mem_cons_of_mem _ hz), pot_put ok (m y List.mem_cons_self), List.map_cons, rsum_cons]
    grind
theorem pot_div {h : Nd → Rat} {s : Str → Rat} {r : Rw} {T : List Rw} (ok : RwOk (r :: T)) (tk : r.k ≠ "takes") (n : Str) : pot (give h (h r.n * (1 / ((r.li.length : Nat) : Int))) r.li) s T n = pot h s (r :: T) n := by
  rw [pot_cons ok]
  have e : wOf (r :: T) r.n n = rsum (r.li.map fun y => wOf T y n) / (r.li.length : Nat) := by
    conv => lhs; unfold wOf
    rw [if_pos rfl, if_neg tk]
  rw [e]
  cases ok with
  | cons a _ b _ =>
    rw [pot_give a n _ _ b]
    have e2 : ((r.li.length : Nat) : Rat) = (((r.li.length : Nat) : Int) : Rat) := by
      rw [Rat.intCast_natCast]
    rw [e2, Rat.div_def, Rat.div_def]
    grind
theorem pot_zero {h : Nd → Rat} {s : Str → Rat} {r : Rw} {T : List Rw} (ok : RwOk (r :: T)) (z : h r.n = 0) (n : Str) : pot h s T n = pot h s (r :: T) n := by
  rw [pot_cons ok, z]
  grind
theorem pot_start {T : List Rw} (ok : RwOk T) {x : Nd} (m : x ∈ T.map (·.n)) (n : Str) : pot (upN (fun _ => 0) x 1) (fun _ => 0) T n = wOf T x n := by
  have h := pot_put (h := fun _ => 0) (s := fun _ => 0) (c := 1) ok m n
  have e : pot (fun _ => 0) (fun _ => 0) T n = 0 := by
    have key : ∀ (l : List Rw) (f : Rw → Rat), rsum (l.map fun r => 0 * f r) = 0 := by
      intro l f
      induction l with
      | nil => rfl
      | cons r l ih =>
        rw [List.map_cons, rsum_cons, ih]
        grind
    unfold pot
    rw [key T fun r => wOf T r.n n]
    grind
  rw [e] at h
  have e2 : ((0 : Rat) + 1) = 1 := by grind
  rw [e2] at h
  rw [h]
  grind
/-! sizes -/
/-- a part over D, at most 2 ^ e -/
structure Vz (D e : Nat) (q : Rat) : Prop where
  nn : 0 ≤ q
  le : q ≤ ((2 ^ e : Nat) : Rat)
  it : ∃ k : Int, q * ((D : Int) : Rat) = k
theorem Vz.zero (D e : Nat) : Vz D e 0 := ⟨by grind, by exact_mod_cast Nat.zero_le _, 0, by grind⟩
theorem Vz.one (D e : Nat) : Vz D e 1 := ⟨by decide, by exact_mod_cast Nat.one_le_two_pow, D, by grind⟩
theorem Vz.mono {D e f : Nat} {q : Rat} (h : Vz D e q) (l : e ≤ f) : Vz D f q := ⟨h.nn, Rat.le_trans h.le (by exact_mod_cast Nat.pow_le_pow_right (by decide) l), h.it⟩
theorem Vz.wide {D e k : Nat} {q : Rat} (h : Vz D e q) : Vz (D * k) e q := by
  obtain ⟨j, hj⟩ := h.it
  refine ⟨h.nn, h.le, j * k, ?_⟩
  rw [Int.natCast_mul, Rat.intCast_mul, Rat.intCast_mul, ← hj]
  grind
theorem Vz.add {D e : Nat} {p q : Rat} (h : Vz D e p) (g : Vz D e q) : Vz D (e + 1) (p + q) := by
  obtain ⟨j, hj⟩ := h.it
  obtain ⟨k, hk⟩ := g.it
  refine ⟨?_, ?_, j + k, ?_⟩
  · have := h.nn
    have := g.nn
    grind
  · have a := h.le
    have b := g.le
    have e2 : ((2 ^ (e + 1) : Nat) : Rat) = ((2 ^ e : Nat) : Rat) + ((2 ^ e : Nat) : Rat) := by
      have : 2 ^ (e + 1) = 2 ^ e + 2 ^ e := by rw [Nat.pow_succ]; omega
      rw [this]
      exact_mod_cast rfl
    rw [e2]
    grind
  · rw [Rat.intCast_add, ← hj, ← hk]
    grind
theorem Vz.part {D e n : Nat} {q : Rat} (h : Vz D e q) (hn : 0 < n) : Vz (D * n) e (q * (1 / ((n : Int) : Rat))) := by
  obtain ⟨k, hk⟩ := h.it
  have n0 : (0 : Rat) < ((n : Int) : Rat) := by exact_mod_cast (show (0 : Int) < (n : Int) by omega)
  have n1 : (1 : Rat) ≤ ((n : Int) : Rat) := by exact_mod_cast (show (1 : Int) ≤ (n : Int) by omega)
  have i0 : (0 : Rat) ≤ 1 / ((n : Int) : Rat) := by
    rw [Rat.div_def, Rat.one_mul]
    exact Rat.le_of_lt (Rat.inv_pos.mpr n0)
  have ii : 1 / ((n : Int) : Rat) * ((n : Int) : Rat) = 1 := by
    rw [Rat.div_def, Rat.one_mul, Rat.inv_mul_cancel]
    grind
  have i1 : 1 / ((n : Int) : Rat) ≤ 1 := by
    have := Rat.mul_le_mul_of_nonneg_right n1 i0
    rw [Rat.one_mul, Rat.mul_comm, ii] at this
    exact this
  refine ⟨Rat.mul_nonneg h.nn i0, ?_, k, ?_⟩
  · have a := Rat.mul_le_mul_of_nonneg_right i1 h.nn
    rw [Rat.one_mul, Rat.mul_comm] at a
    exact Rat.le_trans a h.le
  · rw [Int.natCast_mul, Rat.intCast_mul, ← hk]
    generalize ((n : Int) : Rat) = m at *
    rw [show q * (1 / m) * (((D : Int) : Rat) * m) = q * ((D : Int) : Rat) * (1 / m * m) by grind, ii, Rat.mul_one]
theorem qden_num (r : Rat) : r * ((r.den : Int) : Rat) = (r.num : Rat) := by
  have d0 : ((r.den : Int) : Rat) ≠ 0 := by
    have := r.den_nz
    exact_mod_cast this
  have e : r = (r.num : Rat) / ((r.den : Int) : Rat) := by
    rw [← Rat.divInt_eq_div, Rat.num_divInt_den]
  generalize (r.num : Rat) = n at *
  generalize ((r.den : Int) : Rat) = d at *
  rw [e, Rat.div_def, Rat.mul_assoc, Rat.inv_mul_cancel _ d0, Rat.mul_one]
theorem Vz.den {D e : Nat} {q : Rat} (h : Vz D e q) (hD : 0 < D) : q.den ≤ D := by
  obtain ⟨k, hk⟩ := h.it
  have D0 : (D : Int) ≠ 0 := by omega
  have d0 : ((D : Int) : Rat) ≠ 0 := by exact_mod_cast D0
  have e : q = Rat.divInt k (D : Int) := by
    rw [Rat.divInt_eq_div, ← hk, Rat.div_def, Rat.mul_assoc, Rat.mul_inv_cancel _ d0, Rat.mul_one]
  have := den_le (t := k) D0
  rw [← e, Int.natAbs_natCast] at this
  exact this
theorem Vz.num {D e : Nat} {q : Rat} (h : Vz D e q) (hD : 0 < D) : 0 ≤ q.num ∧ q.num ≤ ((2 ^ e * D : Nat) : Int) := by
  refine ⟨Rat.num_nonneg.mpr h.nn, ?_⟩
  have d := h.den hD
  have a : (q.num : Rat) ≤ (((2 ^ e * D : Nat) : Int) : Rat) := by
    rw [← qden_num]
    have d1 : ((q.den : Int) : Rat) ≤ ((D : Int) : Rat) := by exact_mod_cast (show (q.den : Int) ≤ (D : Int) by omega)
    have d2 : (0 : Rat) ≤ ((q.den : Int) : Rat) := by exact_mod_cast (show (0 : Int) ≤ (q.den : Int) by omega)
    have b := Rat.mul_le_mul_of_nonneg_right h.le d2
    have c : ((q.den : Int) : Rat) * ((2 ^ e : Nat) : Rat) ≤ ((D : Int) : Rat) * ((2 ^ e : Nat) : Rat) := Rat.mul_le_mul_of_nonneg_right d1 (by exact_mod_cast Nat.zero_le _)
    have e3 : (((2 ^ e * D : Nat) : Int) : Rat) = ((2 ^ e : Nat) : Rat) * ((D : Int) : Rat) := by
      rw [Int.natCast_mul, Rat.intCast_mul, Rat.intCast_natCast]
    rw [e3]
    grind
  exact_mod_cast a
theorem Vz.fsz {D e : Nat} {q : Rat} (h : Vz D e q) (hD : 0 < D) (lD : D ≤ 2 ^ e) (le : e ≤ 3000) : FSz q := by
  have d := h.den hD
  obtain ⟨n0, n1⟩ := h.num hD
  have p : 2 ^ e ≤ 2 ^ 3000 := Nat.pow_le_pow_right (by decide) le
  refine ⟨⟨6001, by decide, by decide, ⟨?_⟩⟩, ⟨?_⟩⟩
  · have a : 2 ^ e * D ≤ 2 ^ 3000 * 2 ^ 3000 := Nat.mul_le_mul p (Nat.le_trans lD p)
    have b : (2 : Nat) ^ 3000 * 2 ^ 3000 < 2 ^ 6001 := by
      rw [← Nat.pow_add]
      exact Nat.pow_lt_pow_right (by decide) (by decide)
    omega
  · rw [Int.natAbs_natCast]
    have b : (2 : Nat) ^ 3000 < 2 ^ 4000 := Nat.pow_lt_pow_right (by decide) (by decide)
    omega
theorem Vz.bt {D e : Nat} {q : Rat} (h : Vz D e q) (hD : 0 < D) (lD : D ≤ 2 ^ e) (le : e ≤ 3000) : Bt 6001 q.num := by
  obtain ⟨n0, n1⟩ := h.num hD
  have p : 2 ^ e ≤ 2 ^ 3000 := Nat.pow_le_pow_right (by decide) le
  have a : 2 ^ e * D ≤ 2 ^ 3000 * 2 ^ 3000 := Nat.mul_le_mul p (Nat.le_trans lD p)
  have b : (2 : Nat) ^ 3000 * 2 ^ 3000 < 2 ^ 6001 := by
    rw [← Nat.pow_add]
    exact Nat.pow_lt_pow_right (by decide) (by decide)
  exact ⟨by omega⟩
end G
namespace G
open PySem
/-- rows that a walk may stand at -/
structure RI (pf : Nd → List Nd) (tk : Nd → Bool) (U : List Nd) (R : List Rw) : Prop where
  ok : RwOk R.reverse
  sb : ∀ r ∈ R, r.n ∈ U
  cl : Clo pf tk R
  li : ∀ r ∈ R, r.li.length ≤ 16
structure UI (pf : Nd → List Nd) (U : List Nd) : Prop where
  cl : ∀ x ∈ U, ∀ y ∈ pf x, y ∈ U
  pl : ∀ x ∈ U, (pf x).length ≤ 16
  ln : U.length ≤ 100
section
variable {pf : Nd → List Nd} {tk : Nd → Bool} {U : List Nd}
theorem RI.nil : RI pf tk U [] := ⟨.nil, fun r h => (by cases h), Clo.nil, fun r h => (by cases h)⟩
theorem nd_le {α : Type} [DecidableEq α] : ∀ {l U : List α}, l.Nodup → (∀ x ∈ l, x ∈ U) → l.length ≤ U.length
  | [], U, _, _ => Nat.zero_le _
  | x :: l, U, nd, s => by
    have nd2 := List.nodup_cons.mp nd
    have h := nd_le (U := U.erase x) nd2.2 fun y hy => (List.mem_erase_of_ne (fun e => nd2.1 (by rw [← e]; exact hy))).mpr (s y (List.mem_cons_of_mem _ hy))
    rw [List.length_erase_of_mem (s x List.mem_cons_self)] at h
    have : 0 < U.length := List.length_pos_of_mem (s x List.mem_cons_self)
    rw [List.length_cons]
    omega
theorem RI.len {R : List Rw} (h : RI pf tk U R) (u : UI pf U) : R.length ≤ 100 := by
  have h1 := nd_le h.ok.nd (U := U) fun x hx => by
    obtain ⟨r, hr, rfl⟩ := List.mem_map.mp hx
    exact h.sb r (List.mem_reverse.mp hr)
  rw [List.length_map, List.length_reverse] at h1
  exact Nat.le_trans h1 u.ln
theorem rowOf_li (R : List Rw) (x : Nd) : ∀ y ∈ (rowOf pf tk R x).li, tk x = false ∧ y ∈ pf x := fun y hy => by
  unfold rowOf at hy
  split at hy
  · cases hy
  · next h => exact ⟨by simpa using h, (List.mem_filter.mp hy).1⟩
theorem rowOf_tk (R : List Rw) (x : Nd) (h : (rowOf pf tk R x).k = "takes") : (rowOf pf tk R x).li = [] := by
  unfold rowOf at h ⊢
  split
  · rfl
  · next t =>
    rw [if_neg t] at h
    exfalso
    have h' : (if (pf x).filter (fun y => !decide (kd R y = some "gone")) = [] then ("gone" : Str) else "divides") = "takes" := h
    split at h'
    · exact absurd h' (by decide +kernel)
    · exact absurd h' (by decide +kernel)
theorem RI.snoc {R : List Rw} (h : RI pf tk U R) (u : UI pf U) {x : Nd} (hx : x ∈ U) (no : kd R x = none) (kn : tk x = false → ∀ y ∈ pf x, (kd R y).isSome = true) : RI pf tk U (R ++ [rowOf pf tk R x]) := by
  refine ⟨?_, fun r hr => ?_, h.cl.snoc kn, fun r hr => ?_⟩
  · rw [List.reverse_append]
    refine .cons h.ok ?_ (fun y hy => ?_) (rowOf_tk R x)
    · rw [rowOf_n]
      intro m
      have : (kd R x).isSome = true := kd_mem.mpr (by
        obtain ⟨r, hr, e⟩ := List.mem_map.mp m
        exact List.mem_map.mpr ⟨r, List.mem_reverse.mp hr, e⟩)
      rw [no] at this
      cases this
    · obtain ⟨a, b⟩ := rowOf_li R x y hy
      obtain ⟨r, hr, e⟩ := List.mem_map.mp (kd_mem.mp (kn a y b))
      exact List.mem_map.mpr ⟨r, List.mem_reverse.mpr hr, e⟩
  · rcases List.mem_append.mp hr with m | m
    · exact h.sb r m
    · rw [List.mem_singleton.mp m, rowOf_n]
      exact hx
  · rcases List.mem_append.mp hr with m | m
    · exact h.li r m
    · rw [List.mem_singleton.mp m]
      have := u.pl x hx
      unfold rowOf
      split
      · exact Nat.zero_le _
      · exact Nat.le_trans (List.length_filter_le _ _) this
section
variable {ht : Nd → Nat} (hp : ∀ x, tk x = false → ∀ y ∈ pf x, ht y < ht x)
include hp
theorem fold_none {f : Nat} {x : Nd} (t : tk x = false) : ∀ (ys : List Nd) (R : List Rw), (∀ y ∈ ys, y ∈ pf x) → kd R x = none → kd (ys.foldl (fun R y => wk pf tk f y R) R) x = none
  | [], R, _, h => h
  | y :: ys, R, hm, h => by
    refine fold_none t ys (wk pf tk f y R) (fun z hz => hm z (List.mem_cons_of_mem _ hz)) ?_
    cases e : kd (wk pf tk f y R) x with
    | none => rfl
    | some k =>
      have hy := hp x t y (hm y List.mem_cons_self)
      rcases wk_below hp f y R x (by rw [e]; rfl) with q | q
      · rw [h] at q
        cases q
      · omega
theorem fold_clo {f : Nat} {x : Nd} (t : tk x = false) (hx : ht x ≤ f) : ∀ (ys : List Nd) (R : List Rw), (∀ y ∈ ys, y ∈ pf x) → Clo pf tk R → Clo pf tk (ys.foldl (fun R y => wk pf tk f y R) R) ∧ ∀ y ∈ ys, (kd (ys.foldl (fun R y => wk pf tk f y R) R) y).isSome = true
  | [], R, _, c => ⟨c, fun y h => by cases h⟩
  | z :: ys, R, hm, c => by
    have hz := hp x t z (hm z List.mem_cons_self)
    obtain ⟨c1, k1⟩ := wk_ok hp f z R (by omega) c
    obtain ⟨c2, k2⟩ := fold_clo t hx ys (wk pf tk f z R) (fun y hy => hm y (List.mem_cons_of_mem _ hy)) c1
    refine ⟨c2, fun y hy => ?_⟩
    rcases List.mem_cons.mp hy with q | q
    · rw [q]
      exact kd_preS (fold_pre (fun R y => wk_pre f y R) ys _) k1
    · exact k2 y q
theorem wk_ri (u : UI pf U) : ∀ (f : Nat) (x : Nd) (R : List Rw), ht x < f → x ∈ U → RI pf tk U R → RI pf tk U (wk pf tk f x R)
  | 0, x, R, h, _, _ => absurd h (Nat.not_lt_zero _)
  | f + 1, x, R, h, hx, ri => by
    unfold wk
    split
    · exact ri
    · next e1 =>
      have no : kd R x = none := by
        cases e : kd R x with
        | none => rfl
        | some k => rw [e] at e1; exact absurd rfl e1
      split
      · next e2 => exact ri.snoc u hx no fun z => by rw [e2] at z; cases z
      · next e2 =>
        have t : tk x = false := by simpa using e2
        have key : ∀ (ys : List Nd) (R : List Rw), (∀ y ∈ ys, y ∈ pf x) → RI pf tk U R → RI pf tk U (ys.foldl (fun R y => wk pf tk f y R) R) := by
          intro ys
          induction ys with
          | nil => exact fun R _ h => h
          | cons y ys ih =>
            intro R hm h
            have hy := hp x t y (hm y List.mem_cons_self)
            exact ih _ (fun z hz => hm z (List.mem_cons_of_mem _ hz)) (wk_ri u f y R (by omega) (u.cl x hx y (hm y List.mem_cons_self)) h)
        exact (key (pf x) R (fun y h => h) ri).snoc u hx (fold_none hp t (pf x) R (fun y h => h) no) fun _ => (fold_clo hp t (by omega) (pf x) R (fun y h => h) ri.cl).2
end
end
end G
namespace ZF
open PySem L2 PyProof.Rows PySem.Spec G
/-- how high a node stands -/
def htN (x : Nd) : Nat := if 0 < x.2 then 31 + x.2.toNat else 30 - ZF.rk x.1
structure R9 (F : Fm) : Prop where
  ch : ∀ x y, y ∈ F.ch x → ZF.rk x < ZF.rk y ∧ ZF.rk y ≤ 29
theorem hdN_in {F : Fm} (R : R9 F) {days : Int} {dead : Str} {r : Nat} : ∀ (n : Nat) (g z : List Str), (∀ y ∈ g, r < ZF.rk y ∧ ∃ x, y ∈ F.ch x) → hdN F days dead n g = some z → ∀ y ∈ z, r < ZF.rk y ∧ ∃ x, y ∈ F.ch x
  | 0, g, z, _, h => by cases h
  | n + 1, g, z, hg, h => by
    unfold hdN at h
    split at h
    · rw [← Option.some.inj h]
      exact hg
    · refine hdN_in R n (nextG F g) z (fun y hy => ?_) h
      obtain ⟨x, hx, c⟩ := nextG_mem.mp hy
      exact ⟨Nat.lt_trans (hg x hx).1 (R.ch x y c).1, x, c⟩
theorem hd_in {F : Fm} (R : R9 F) {days : Int} {dead x y : Str} (h : y ∈ hd F days dead x) : ZF.rk x < ZF.rk y ∧ ∃ x, y ∈ F.ch x := by
  unfold hd at h
  have base : ∀ y ∈ F.ch x, ZF.rk x < ZF.rk y ∧ ∃ x, y ∈ F.ch x := fun y c => ⟨(R.ch x y c).1, x, c⟩
  cases e : hdN F days dead 401 (F.ch x) with
  | none =>
    rw [e] at h
    exact base y h
  | some z =>
    rw [e] at h
    exact hdN_in R 401 _ z base e y h
theorem hdN_nd {F : Fm} {days : Int} {dead : Str} : ∀ (n : Nat) (g z : List Str), g.Nodup → hdN F days dead n g = some z → z.Nodup
  | 0, g, z, _, h => by cases h
  | n + 1, g, z, hg, h => by
    unfold hdN at h
    split at h
    · rw [← Option.some.inj h]
      exact hg
    · exact hdN_nd n (nextG F g) z (nextG_nd F g) h
theorem hd_nd {F : Fm} {days : Int} {dead x : Str} (h : (F.ch x).Nodup) : (hd F days dead x).Nodup := by
  unfold hd
  cases e : hdN F days dead 401 (F.ch x) with
  | none => exact h
  | some z => exact hdN_nd 401 _ z h e
theorem ht_pts {F : Fm} (R : R9 F) {days : Int} {m dead : Str} {x y : Nd} (h : y ∈ pts hd F days m dead x) : htN y < htN x := by
  unfold pts at h
  have low : ∀ z : Str, ZF.rk x.1 < ZF.rk z → ZF.rk z ≤ 29 → ¬ 0 < x.2 → htN (z, -1) < htN x := fun z h1 h2 h3 => by
    unfold htN
    rw [if_neg (show ¬ (0 : Int) < ((z, (-1 : Int)) : Nd).2 from (show ¬ (0 : Int) < -1 by decide)), if_neg h3]
    show 30 - ZF.rk z < 30 - ZF.rk x.1
    omega
  split at h
  · next c =>
    obtain ⟨z, hz, rfl⟩ := List.mem_map.mp h
    unfold htN
    rw [if_pos c]
    show (if 0 < x.2 - 1 then 31 + (x.2 - 1).toNat else 30 - ZF.rk z) < _
    split <;> omega
  · next c =>
    split at h
    · obtain ⟨z, hz, rfl⟩ := List.mem_map.mp h
      obtain ⟨h1, u, hu⟩ := hd_in R hz
      exact low z h1 (R.ch u z hu).2 c
    · obtain ⟨z, hz, rfl⟩ := List.mem_map.mp h
      exact low z (R.ch _ z hz).1 (R.ch _ z hz).2 c
/-- the nodes of the law -/
def univ : List Nd := (bnames ++ (["zz"] : List Str)).flatMap fun n => [(n, -1), (n, 0), (n, 1), (n, 2), (n, 3), (n, 4)]
theorem univ_mem {x : Nd} : x ∈ univ ↔ (x.1 ∈ bnames ∨ x.1 = "zz") ∧ -1 ≤ x.2 ∧ x.2 ≤ 4 := by
  unfold univ
  rw [List.mem_flatMap]
  constructor
  · rintro ⟨n, hn, h⟩
    simp only [List.mem_cons, List.not_mem_nil, or_false] at h
    rw [List.mem_append, List.mem_singleton] at hn
    rcases h with rfl | rfl | rfl | rfl | rfl | rfl <;> exact ⟨hn, by dsimp only; omega, by dsimp only; omega⟩
  · rintro ⟨h1, h2, h3⟩
    refine ⟨x.1, by rw [List.mem_append, List.mem_singleton]; exact h1, ?_⟩
    obtain ⟨n, i⟩ := x
    have h2' : -1 ≤ i := h2
    have h3' : i ≤ 4 := h3
    have : i = -1 ∨ i = 0 ∨ i = 1 ∨ i = 2 ∨ i = 3 ∨ i = 4 := by omega
    rcases this with rfl | rfl | rfl | rfl | rfl | rfl <;> simp
theorem univ_len : univ.length ≤ 100 := by decide +kernel
theorem bn_nd : bnames.Nodup := by decide +kernel
theorem univ_nm {x : Nd} (h : x ∈ univ) : isNm x.1 = true := by
  rcases (univ_mem.mp h).1 with h | h
  · exact bn_nm _ h
  · rw [h]
    decide +kernel
theorem bn_le {l : List Str} (nd : l.Nodup) (s : ∀ y ∈ l, y ∈ bnames) : l.length ≤ 16 := Nat.le_trans (nd_le nd s) (show bnames.length ≤ 16 by decide +kernel)
/-! nodes as data -/
def ncD (x : Nd) : PyData := .tuple [.str x.1, .int x.2]
theorem dp_nc {K : PySem.W.Frag} {H : Hp} {q : Addr} {x : Nd} (h : H q = some (.tup (nc x))) : Dp K H (.ref q) (ncD x) := .tup (SqT.of h) (.cons (.str _) (.cons (.int _) .nil))
theorem eqv_nc (x y : Nd) : PyData.eqv (ncD x) (ncD y) = decide (x = y) := by
  show ((x.1 == y.1) && ((x.2 == y.2) && true)) = _
  rw [Bool.eq_iff_iff, Bool.and_true, Bool.and_eq_true, decide_eq_true_eq, beq_iff_eq, beq_iff_eq, Prod.ext_iff]
theorem sha_nc {x : Nd} (h : isNm x.1 = true) : SeqAt.shaped (ncD x) = true := by
  unfold SeqAt.shaped
  show ((PyData.strOk x.1 && (true && true)) && _) = true
  rw [nm_ok h]
  rfl
end ZF
namespace DtN
open PySem L2 PyProof.Rows
def rNeT (K : PySem.W.Frag) : R2 := fun x y H Q => ∃ (a b : Addr) (ks ls : List (Key × V)), x = .ref a ∧ y = .ref b ∧ H a = some (.dK ks) ∧ H b = some (.dK ls) ∧ ks.length = ls.length ∧ (∀ p ∈ ks, ∃ v d, valV ls p.1 = some v ∧ Dp K H p.2 d ∧ Dp K H v d ∧ d.canLay0 = true ∧ d.depth ≤ 64 ∧ PyData.eqv d d = true) ∧ Q (.bl false) H
theorem hitsT {X : Cx} {pins : List (Addr × Obj)} {σ : L2.St} {H : Hp} {s : Shared} (I : Inv X pins σ H s) {A : Around} (hu : A.units + 64 < cLine) {ls : List (Key × V)} {vb : List (Key × Value)} (rb : KV ls vb) {ks : List (Key × V)} {va : List (Key × Value)} (ra : KV ks va) :
    (∀ p ∈ ks, ∃ v d, valV ls p.1 = some v ∧ Dp X.K H p.2 d ∧ Dp X.K H v d ∧ d.canLay0 = true ∧ d.depth ≤ 64 ∧ PyData.eqv d d = true) → PySem.W.KeqHits A s vb va true := by
  unfold KV at ra
  induction ra with
  | nil => exact fun _ => .nil
  | @cons p q ps qs one _ ih =>
    intro hp
    obtain ⟨v, d, e, h1, h2, h3, h4, h5⟩ := hp p List.mem_cons_self
    have rel : RelO (some v) (valueAt vb p.1) := by
      rw [← e]
      exact rb.val p.1
    obtain ⟨y, hy, ry⟩ := rel.some_of
    obtain ⟨k, u⟩ := q
    rw [show p.1 = k from one.1] at hy
    have r2 : RelV p.2 u := one.2
    obtain ⟨as, r1⟩ := Dp.reads I d p.2 u h1 r2
    obtain ⟨bs, r3⟩ := Dp.reads I d v y h2 ry
    have hm : min d.depth d.depth ≤ d.depth := Nat.min_le_left _ _
    have ea := SeqAt.eqAt_reads d d A s u y as bs r1 r3 h3 h3 (by omega)
    rw [h5] at ea
    show PySem.W.KeqHits A s vb ((k, _) :: qs) (true && true)
    exact .hit hy ea (ih fun p' hm => hp p' (List.mem_cons_of_mem _ hm))
theorem op_neT {X : Cx} (hu : X.A.units + 66 < cLine) : OpR X (compareOp .NotEq) (rNeT X.K) := by
  intro pins s σ H x y v u Q I rx ry h
  obtain ⟨a, b, ks, ls, rfl, rfl, ea, eb, hlen, hp, go⟩ := h
  obtain rfl : v = Value.ref a := rx
  obtain rfl : u = Value.ref b := ry
  obtain ⟨_, ya, va, ra, da⟩ := (show ObjOk X.prog X.w H s.heap a (.dK ks) from I.hok a _ ea)
  obtain ⟨_, yb, vb, rb, db⟩ := (show ObjOk X.prog X.w H s.heap b (.dK ls) from I.hok b _ eb)
  have hl : va.length = vb.length := by rw [← ra.length, ← rb.length]; exact hlen
  exact PySem.W.keq_ne (knd := mixKind X.prog X.w) (r := true) ya yb da db (by omega) (fun _ => hitsT I (A := X.A.in1) (by show X.A.units + 1 + 64 < cLine; omega) rb ra hp) (fin_bl I go (by simp [hl]))
end DtN
namespace G
open PySem
section
variable {pf : Nd → List Nd} {tk : Nd → Bool} {U : List Nd}
theorem wk_rows {Pr : Rw → Prop} (cl : ∀ x ∈ U, ∀ y ∈ pf x, y ∈ U) (hP : ∀ R x, x ∈ U → Pr (rowOf pf tk R x)) : ∀ (f : Nat) (x : Nd) (R : List Rw), x ∈ U → (∀ r ∈ R, Pr r) → ∀ r ∈ wk pf tk f x R, Pr r
  | 0, _, _, _, h => h
  | f + 1, x, R, hx, h => by
    have key : ∀ (ys : List Nd) (R : List Rw), (∀ y ∈ ys, y ∈ U) → (∀ r ∈ R, Pr r) → ∀ r ∈ ys.foldl (fun R y => wk pf tk f y R) R, Pr r := by
      intro ys
      induction ys with
      | nil => exact fun R _ h => h
      | cons y ys ih => exact fun R hm h => ih _ (fun z hz => hm z (List.mem_cons_of_mem _ hz)) (wk_rows cl hP f y R (hm y List.mem_cons_self) h)
    unfold wk
    split
    · exact h
    · split
      · intro r hr
        rcases List.mem_append.mp hr with m | m
        · exact h r m
        · rw [List.mem_singleton.mp m]
          exact hP R x hx
      · intro r hr
        rcases List.mem_append.mp hr with m | m
        · exact key (pf x) R (cl x hx) h r m
        · rw [List.mem_singleton.mp m]
          exact hP _ x hx
end
end G
namespace ZF
open PySem L2 PyProof.Rows PySem.Spec G
structure RowSh (r : Rw) : Prop where
  n : r.n ∈ univ
  k : r.k ∈ (["takes", "divides", "gone"] : List Str)
  li : r.li.length ≤ 16 ∧ ∀ y ∈ r.li, y ∈ univ ∧ htN y < htN r.n
  go : r.go.length ≤ 16 ∧ ∀ y ∈ r.go, y ∈ univ
theorem rowSh {F : Fm} {days : Int} {m dead : Str} (R9' : R9 F) (ui : UI (pts hd F days m dead) univ) (R : List Rw) (x : Nd) (hx : x ∈ univ) : RowSh (rowOf (pts hd F days m dead) (tkN F days dead) R x) := by
  have pl := ui.pl x hx
  unfold rowOf
  split
  · exact ⟨hx, by simp, ⟨Nat.zero_le _, fun y h => by cases h⟩, ⟨Nat.zero_le _, fun y h => by cases h⟩⟩
  · refine ⟨hx, ?_, ⟨Nat.le_trans (List.length_filter_le _ _) pl, fun y h => ?_⟩, ⟨Nat.le_trans (List.length_filter_le _ _) pl, fun y h => ?_⟩⟩
    · show (if _ = [] then ("gone" : Str) else "divides") ∈ _
      split <;> simp
    · have h' := (List.mem_filter.mp h).1
      exact ⟨ui.cl x hx y h', ht_pts R9' h'⟩
    · exact ui.cl x hx y (List.mem_filter.mp h).1
/-! data that fits -/
structure Fit (d : PyData) (k w : Nat) : Prop where
  sh : d.showable = true
  hd : d.hasDict = false
  cl : d.canLay0 = true
  dp : d.depth ≤ k
  lv : d.leavesShort 13 = true
  wt : d.weight ≤ w
  eq : PyData.eqv d d = true
theorem Fit.mono {d : PyData} {k w k' w' : Nat} (h : Fit d k w) (a : k ≤ k') (b : w ≤ w') : Fit d k' w' := ⟨h.sh, h.hd, h.cl, Nat.le_trans h.dp a, h.lv, Nat.le_trans h.wt b, h.eq⟩
structure FitA (ds : List PyData) (k w : Nat) : Prop where
  sh : PyData.showableAll ds = true
  hd : PyData.hasDictAll ds = false
  cl : PyData.canLayAll0 ds = true
  dp : PyData.depthAll ds ≤ k
  lv : PyData.leavesShortAll 13 ds = true
  wt : PyData.weightAll ds ≤ ds.length * (w + 1)
  eq : PyData.eqvAll ds ds = true
theorem fitA {k w : Nat} : ∀ {ds : List PyData}, (∀ d ∈ ds, Fit d k w) → FitA ds k w
  | [], _ => ⟨rfl, rfl, rfl, Nat.zero_le _, rfl, Nat.zero_le _, rfl⟩
  | d :: r, h => by
    have a := h d List.mem_cons_self
    have b := fitA (ds := r) fun y hy => h y (List.mem_cons_of_mem _ hy)
    refine ⟨?_, ?_, ?_, ?_, ?_, ?_, ?_⟩
    · show (d.showable && PyData.showableAll r) = true
      rw [a.sh, b.sh]; rfl
    · show (d.hasDict || PyData.hasDictAll r) = false
      rw [a.hd, b.hd]; rfl
    · show (d.canLay0 && PyData.canLayAll0 r) = true
      rw [a.cl, b.cl]; rfl
    · show max d.depth (PyData.depthAll r) ≤ k
      have := a.dp
      have := b.dp
      omega
    · show (d.leavesShort 13 && PyData.leavesShortAll 13 r) = true
      rw [a.lv, b.lv]; rfl
    · show d.weight + 1 + PyData.weightAll r ≤ (r.length + 1) * (w + 1)
      have := a.wt
      have := b.wt
      rw [Nat.succ_mul]
      omega
    · show (PyData.eqv d d && PyData.eqvAll r r) = true
      rw [a.eq, b.eq]; rfl
theorem FitA.tup {ds : List PyData} {k w : Nat} (h : FitA ds k w) : Fit (.tuple ds) (k + 1) (ds.length * (w + 1)) := ⟨h.sh, h.hd, h.cl, Nat.succ_le_succ h.dp, h.lv, h.wt, h.eq⟩
theorem FitA.lst {ds : List PyData} {k w : Nat} (h : FitA ds k w) : Fit (.list ds) (k + 1) (ds.length * (w + 1)) := ⟨h.sh, h.hd, h.cl, Nat.succ_le_succ h.dp, h.lv, h.wt, h.eq⟩
theorem Fit.shown {d : PyData} {k w : Nat} (h : Fit d k w) (a : k ≤ 64) (b : w ≤ 2 ^ 20) : d.showable = true ∧ d.hasDict = false ∧ d.depth ≤ 64 ∧ d.shown.length ≤ sizeLine := ⟨h.sh, h.hd, Nat.le_trans h.dp a, PyData.shown_fits (B := 13) (by decide) (by decide) h.lv (Nat.le_trans h.wt b)⟩
theorem fit_str {x : Str} (h : PyData.strOk x = true) (l : x.length ≤ 12) : Fit (.str x) 0 12 := by
  have s := short_strs (zs := [x]) fun y hy => by rw [List.mem_singleton.mp hy]; exact h
  refine ⟨rfl, rfl, h, Nat.le_refl _, ?_, l, ?_⟩
  · have s' : (PyData.leavesShort 13 (.str x) && true) = true := s
    rwa [Bool.and_true] at s'
  · show (x == x) = true
    simp
theorem fit_int {i : Int} (h : i.natAbs < 10 ^ 12) : Fit (.int i) 0 41 := by
  have hl := log_12 h
  refine ⟨decide_eq_true (by omega), rfl, rfl, Nat.le_refl _, decide_eq_true (PyData.shown_int_le h), ?_, ?_⟩
  · show (if (i == 0) = true then 0 else i.natAbs.log2 + 1) ≤ 41
    split <;> omega
  · show (i == i) = true
    simp
theorem fit_nc {x : Nd} (h : x ∈ univ) : Fit (ncD x) 1 84 := by
  have nm := univ_nm h
  obtain ⟨-, h1, h2⟩ := univ_mem.mp h
  exact (fitA (k := 0) (w := 41) (ds := [.str x.1, .int x.2]) fun d hd => by
    rcases List.mem_cons.mp hd with e | hd
    · rw [e]
      exact (fit_str (nm_ok nm) (nm_len nm)).mono (Nat.le_refl _) (by decide)
    · rw [List.mem_singleton.mp hd]
      exact fit_int (by omega)).tup
def ncsD (l : List Nd) : PyData := .tuple (l.map ncD)
theorem fit_ncs {l : List Nd} (h : ∀ y ∈ l, y ∈ univ) (n : l.length ≤ 16) : FitA (l.map ncD) 1 84 ∧ Fit (ncsD l) 2 1360 := by
  have := fitA (ds := l.map ncD) (k := 1) (w := 84) fun d hd => by
    obtain ⟨y, hy, rfl⟩ := List.mem_map.mp hd
    exact fit_nc (h y hy)
  refine ⟨this, this.tup.mono (Nat.le_refl _) ?_⟩
  rw [List.length_map]
  exact Nat.mul_le_mul_right 85 n
def rowD (r : Rw) : PyData := .tuple [ncD r.n, .str r.k, ncsD r.li, ncsD r.go]
theorem fit_row {r : Rw} (h : RowSh r) : Fit (rowD r) 3 5444 := by
  have ks : ∀ k ∈ (["takes", "divides", "gone"] : List Str), PyData.strOk k = true ∧ k.length ≤ 12 := by decide +kernel
  exact (fitA (k := 2) (w := 1360) (ds := [ncD r.n, .str r.k, ncsD r.li, ncsD r.go]) fun d hd => by
    simp only [List.mem_cons, List.not_mem_nil, or_false] at hd
    rcases hd with e | e | e | e <;> rw [e]
    · exact (fit_nc h.n).mono (by decide) (by decide)
    · exact (fit_str (ks _ h.k).1 (ks _ h.k).2).mono (by decide) (by decide)
    · exact (fit_ncs (fun y hy => (h.li.2 y hy).1) h.li.1).2
    · exact (fit_ncs h.go.2 h.go.1).2).tup
def rowsD (R : List Rw) : PyData := .tuple (R.map rowD)
theorem fit_rows {R : List Rw} (h : ∀ r ∈ R, RowSh r) (n : R.length ≤ 100) : Fit (rowsD R) 4 544500 := by
  have := fitA (ds := R.map rowD) (k := 3) (w := 5444) fun d hd => by
    obtain ⟨y, hy, rfl⟩ := List.mem_map.mp hd
    exact fit_row (h y hy)
  refine this.tup.mono (Nat.le_refl _) ?_
  rw [List.length_map]
  exact Nat.mul_le_mul_right 5445 n
theorem dp_tups {K : PySem.W.Frag} {H : Hp} : ∀ {qs : List Addr} {l : List Nd}, ZK.TupsAt H qs (l.map nc) → DpAll K H (qs.map V.ref) (l.map ncD)
  | [], [], _ => .nil
  | [], x :: l, h => by have := h.1; simp at this
  | q :: qs, [], h => by have := h.1; simp at this
  | q :: qs, x :: l, h => .cons (dp_nc (h.2 0 q (nc x) rfl rfl)) (dp_tups ⟨Nat.succ.inj h.1, fun i q' c h1 h2 => h.2 (i + 1) q' c h1 h2⟩)
theorem dp_row {K : PySem.W.Frag} {H : Hp} {t q : Addr} {r : Rw} (h : RowAt H t q r) : Dp K H (.ref t) (rowD r) := by
  obtain ⟨l, g, ls, gs, h1, h2, h3, h4, h5, h6⟩ := h.ex
  exact .tup (SqT.of h1) (.cons (dp_nc h2) (.cons (.str _) (.cons (.tup (SqT.of h3) (dp_tups h4)) (.cons (.tup (SqT.of h5) (dp_tups h6)) .nil))))
theorem dp_rowsA {K : PySem.W.Frag} {H : Hp} : ∀ {ts : List Addr} {R : List Rw}, RowsAt H ts R → DpAll K H (ts.map V.ref) (R.map rowD)
  | [], [], _ => .nil
  | [], r :: R, h => by have := h.ln; simp at this
  | t :: ts, [], h => by have := h.ln; simp at this
  | t :: ts, r :: R, h => by
    obtain ⟨q, hq⟩ := h.at' 0 t r rfl rfl
    exact .cons (dp_row hq) (dp_rowsA ⟨Nat.succ.inj h.ln, fun i t' r' h1 h2 => h.at' (i + 1) t' r' h1 h2⟩)
theorem dp_rows {K : PySem.W.Frag} {H : Hp} {a : Addr} {ts : List Addr} {R : List Rw} (h : RowsAt H ts R) (ha : H a = some (.tup (ts.map V.ref))) : Dp K H (.ref a) (rowsD R) := .tup (SqT.of ha) (dp_rowsA h)
/-- a list of nodes as data -/
theorem dp_ncl {K : PySem.W.Frag} {H : Hp} {a : Addr} {qs : List Addr} {l : List Nd} (h : ZK.TupsAt H qs (l.map nc)) (ha : H a = some (.lst (qs.map V.ref))) : Dp K H (.ref a) (.list (l.map ncD)) := .lst (SqL.of ha) (dp_tups h)
/-! fractions as data -/
end ZF
namespace ZF
open PySem L2 PyProof.Rows PySem.Spec G
section
variable {H H' : Hp} {d l : Addr} {i : Int}
end
section
variable {C CB : Addr} {fam bk wd fa na d l : Addr} {fs : List Fct} {F : Fm} {days : Int} {m dead : Str} {xs : List Int} {cnt a : Nat} {H H' : Hp}
end
theorem same_but {H B B' : Hp} {e : Addr} (s : Same H B) (fr : H e = none) (b : ZK.But e B B') : Same H B' := fun c o hc => b c o (s c o hc) (ne_of_none hc fr)
theorem ht_univ {x : Nd} (h : x ∈ univ) : htN x < 36 := by
  obtain ⟨-, h1, h2⟩ := univ_mem.mp h
  unfold htN
  split <;> omega
/-- all about the rows of a node -/
structure ZF (F : Fm) (days : Int) (m dead : Str) (x : Nd) (Z : List Rw) : Prop where
  run : ∃ n, Run (pts hd F days m dead) (tkN F days dead) 400000 n [x] [] Z
  ok : RwOk Z.reverse
  len : Z.length ≤ 100
  sh : ∀ r ∈ Z, RowSh r
  mem : x ∈ Z.map (·.n)
theorem zf_wk {F : Fm} {days : Int} {m dead : Str} (R : R9 F) (ui : UI (pts hd F days m dead) univ) {x : Nd} (hx : x ∈ univ) (pl : ∀ x, (pts hd F days m dead x).length ≤ 400) : ZF F days m dead x (wk (pts hd F days m dead) (tkN F days dead) 36 x []) := by
  have hpp : ∀ z, tkN F days dead z = false → ∀ y ∈ pts hd F days m dead z, htN y < htN z := fun z _ y hy => ht_pts R hy
  have h36 := ht_univ hx
  have ri := wk_ri hpp ui 36 x [] h36 hx RI.nil
  refine ⟨?_, ri.ok, ri.len ui, wk_rows ui.cl (fun R x h => rowSh ‹R9 F› ui R x h) 36 x [] hx (fun r h => by cases h), kd_mem.mp (wk_ok hpp 36 x [] h36 Clo.nil).2⟩
  refine run_wk hpp pl (B := 400000) (htN x) x (Nat.le_refl _) [] [] _ 0 Clo.nil ?_ ?_
  · rw [wk_fuel hpp (htN x + 1) 36 x [] (Nat.lt_succ_self _) h36]
    exact .done _
  · have : 401 * htN x ≤ 401 * 35 := Nat.mul_le_mul_left _ (by omega)
    rw [List.length_nil]
    omega
end ZF
namespace ZK
open PySem L2 PyProof.Rows G
theorem putK_len (kvs : List (Key × V)) (k : Key) (v : V) : (putK kvs k v).length ≤ kvs.length + 1 := by
  unfold putK
  split
  · rw [List.length_map]
    omega
  · rw [List.length_append]
    exact Nat.le_refl _
/-! debts by their ranks -/
abbrev Db := Str × Int × Int
def dueOf (ds : List Db) (r : Int) : Int := ((ds.filter fun d => decide (d.2.1 = r)).map (·.2.2)).sum
theorem due_snoc (ds : List Db) (d : Db) (r : Int) : dueOf (ds ++ [d]) r = dueOf ds r + if d.2.1 = r then d.2.2 else 0 := by
  unfold dueOf
  rw [List.filter_append, List.map_append, List.sum_append]
  congr 1
  by_cases e : d.2.1 = r
  · rw [if_pos e, List.filter_cons, decide_eq_true e]
    simp
  · rw [if_neg e, List.filter_cons, decide_eq_false e]
    simp
def lft (du : Int → Int) : Int → List Int → Int
  | l, [] => l
  | l, r :: rs => lft du (l - min l (du r)) rs
theorem lft_snoc (du : Int → Int) : ∀ (l : Int) (rs : List Int) (r : Int), lft du l (rs ++ [r]) = lft du l rs - min (lft du l rs) (du r)
  | _, [], _ => rfl
  | l, s :: rs, r => lft_snoc du (l - min l (du s)) rs r
def pt (du : Int → Int) (l : Int) (r : Int) : Rat := if 0 < du r then Rat.divInt (min l (du r)) (du r) else 1
/-- the ranks, ascending -/
structure Rks (ds : List Db) (rs : List Int) : Prop where
  pw : rs.Pairwise (· < ·)
  mem : ∀ r, r ∈ rs ↔ ∃ d ∈ ds, d.2.1 = r
theorem Rks.one {ds : List Db} {rs ss : List Int} (R : Rks ds rs) (p : ss.Pairwise (· ≤ ·)) (nd : ss.Nodup) (m : ∀ r, r ∈ ss ↔ ∃ d ∈ ds, d.2.1 = r) : ss = rs := by
  have p2 : rs.Pairwise (· ≤ ·) := R.pw.imp Int.le_of_lt
  have nd2 : rs.Nodup := R.pw.imp Int.ne_of_lt
  refine ((List.perm_ext_iff_of_nodup nd nd2).mpr fun r => (m r).trans (R.mem r).symm).eq_of_pairwise (fun a b _ _ h1 h2 => Int.le_antisymm h1 h2) p p2
theorem Rks.ix {ds : List Db} {rs : List Int} (R : Rks ds rs) {i j : Nat} {r : Int} (a : rs[i]? = some r) (b : rs[j]? = some r) : i = j := by
  rcases Nat.lt_trichotomy i j with l | l | l
  · have := List.pairwise_iff_getElem.mp R.pw i j (List.getElem?_eq_some_iff.mp a).1 (List.getElem?_eq_some_iff.mp b).1 l
    rw [(List.getElem?_eq_some_iff.mp a).2, (List.getElem?_eq_some_iff.mp b).2] at this
    omega
  · exact l
  · have := List.pairwise_iff_getElem.mp R.pw j i (List.getElem?_eq_some_iff.mp b).1 (List.getElem?_eq_some_iff.mp a).1 l
    rw [(List.getElem?_eq_some_iff.mp a).2, (List.getElem?_eq_some_iff.mp b).2] at this
    omega
/-- the dict of dues while debts are read -/
structure Dus (H : Hp) (d : Addr) (ds : List Db) (n : Nat) : Prop where
  ex : ∃ (kvs : List (Key × V)) (ks : List Int), H d = some (.dK kvs) ∧ kvs.map (·.1) = ks.map Sum.inl ∧ ks.Nodup ∧ (∀ r, r ∈ ks ↔ ∃ p ∈ ds, p.2.1 = r) ∧ (∀ r, valV kvs (Sum.inl r : Key) = if (∃ p ∈ ds, p.2.1 = r) then some (.int (dueOf ds r)) else none) ∧ kvs.length ≤ n
theorem due_none {ds : List Db} {r : Int} (h : ¬ ∃ p ∈ ds, p.2.1 = r) : dueOf ds r = 0 := by
  unfold dueOf
  rw [List.filter_eq_nil_iff.mpr fun p hp => by
    rw [decide_eq_true_eq]
    exact fun e => h ⟨p, hp, e⟩]
  rfl
theorem ex_snoc {ds : List Db} {d : Db} {r : Int} : (∃ p ∈ ds ++ [d], p.2.1 = r) ↔ (∃ p ∈ ds, p.2.1 = r) ∨ d.2.1 = r := by
  constructor
  · rintro ⟨p, hp, e⟩
    rcases List.mem_append.mp hp with h | h
    · exact .inl ⟨p, h, e⟩
    · rw [List.mem_singleton.mp h] at e
      exact .inr e
  · rintro (⟨p, hp, e⟩ | e)
    · exact ⟨p, List.mem_append_left _ hp, e⟩
    · exact ⟨d, List.mem_append_right _ (List.mem_singleton.mpr rfl), e⟩
theorem Dus.put {H : Hp} {a : Addr} {ds : List Db} {n : Nat} (D : Dus H a ds n) (d : Db) {kvs : List (Key × V)} (hk : H a = some (.dK kvs)) : Dus (upd H a (.dK (putK kvs (Sum.inl d.2.1 : Key) (.int (dueOf ds d.2.1 + d.2.2))))) a (ds ++ [d]) (n + 1) := by
  obtain ⟨kvs', ks, h1, h2, h3, h4, h5, h6⟩ := D.ex
  rw [hk] at h1
  obtain rfl := HO.dK.inj (Option.some.inj h1)
  have val (r : Int) : valV (putK kvs (Sum.inl d.2.1 : Key) (.int (dueOf ds d.2.1 + d.2.2))) (Sum.inl r : Key) = if (∃ p ∈ ds ++ [d], p.2.1 = r) then some (.int (dueOf (ds ++ [d]) r)) else none := by
    rw [valV_put]
    by_cases e : r = d.2.1
    · rw [if_pos (by rw [e]), if_pos (ex_snoc.mpr (.inr e.symm)), due_snoc, if_pos e.symm, e]
    · have dn : (if d.2.1 = r then d.2.2 else 0) = 0 := if_neg fun z => e z.symm
      rw [if_neg (fun z => e (Sum.inl.inj z)), h5 r, due_snoc, dn, Int.add_zero]
      have : (∃ p ∈ ds ++ [d], p.2.1 = r) ↔ ∃ p ∈ ds, p.2.1 = r := ex_snoc.trans ⟨fun h => h.elim id fun z => absurd z.symm e, .inl⟩
      by_cases c : ∃ p ∈ ds, p.2.1 = r
      · rw [if_pos c, if_pos (this.mpr c)]
      · rw [if_neg c, if_neg (fun z => c (this.mp z))]
  by_cases m : d.2.1 ∈ ks
  · refine ⟨_, ks, upd_same, ?_, h3, fun r => (h4 r).trans (Iff.symm (ex_snoc.trans ⟨fun h => h.elim id fun e => e ▸ (h4 _).mp m, .inl⟩)), val, Nat.le_trans ?_ (Nat.le_succ_of_le h6)⟩
    · unfold putK
      rw [valV_any, h5, if_pos ((h4 _).mp m)]
      show (if true = true then _ else _ : List (Key × V)).map _ = _
      rw [if_pos rfl, List.map_map, ← h2]
      refine List.map_congr_left fun p hp => ?_
      show (if p.1 = _ then (p.1, _) else p).1 = p.1
      split <;> rfl
    · unfold putK
      rw [valV_any, h5, if_pos ((h4 _).mp m)]
      show (if true = true then _ else _ : List (Key × V)).length ≤ _
      rw [if_pos rfl, List.length_map]
      exact Nat.le_refl _
  · have nv : valV kvs (Sum.inl d.2.1 : Key) = none := by rw [h5, if_neg (fun z => m ((h4 _).mpr z))]
    refine ⟨_, ks ++ [d.2.1], upd_same, ?_, ?_, fun r => ?_, val, ?_⟩
    · rw [putK_new _ nv, List.map_append, List.map_append, h2]
      rfl
    · refine List.nodup_append.mpr ⟨h3, List.pairwise_singleton _ _, fun a ha b hb e => m ?_⟩
      rw [← List.mem_singleton.mp hb, ← e]
      exact ha
    · rw [List.mem_append, List.mem_singleton, h4, ex_snoc]
      exact or_congr Iff.rfl ⟨fun h => h.symm, fun h => h.symm⟩
    · rw [putK_new _ nv, List.length_append]
      exact Nat.succ_le_succ h6
/-- the dict of parts -/
def PtsAt (K : PySem.W.Frag) (H : Hp) (d : Addr) (du : Int → Int) (l : Int) (rs : List Int) : Prop := ∃ kvs : List (Key × V), H d = some (.dK kvs) ∧ kvs.length ≤ rs.length ∧ ∀ (i : Nat) (r : Int), rs[i]? = some r → ∃ t, valV kvs (Sum.inl r : Key) = some (.ref t) ∧ SqT K H t (fv (pt du (lft du l (rs.take i)) r))
/-- sizes -/
structure DSz (ds : List Db) : Prop where
  ln : ds.length ≤ 60
  am : ∀ d ∈ ds, 0 ≤ d.2.2 ∧ d.2.2 ≤ 1000000000
theorem due_sz : ∀ (ds : List Db), (∀ d ∈ ds, 0 ≤ d.2.2 ∧ d.2.2 ≤ 1000000000) → ∀ r, 0 ≤ dueOf ds r ∧ dueOf ds r ≤ 1000000000 * (ds.length : Int)
  | [], _, r => ⟨Int.le_refl _, by show (0 : Int) ≤ 1000000000 * 0; omega⟩
  | d :: ds, h, r => by
    obtain ⟨a, b⟩ := due_sz ds (fun e he => h e (List.mem_cons_of_mem _ he)) r
    obtain ⟨c, e⟩ := h d List.mem_cons_self
    have : dueOf (d :: ds) r = (if d.2.1 = r then d.2.2 else 0) + dueOf ds r := by
      unfold dueOf
      by_cases q : d.2.1 = r
      · rw [if_pos q, List.filter_cons, decide_eq_true q]
        simp
      · rw [if_neg q, List.filter_cons, decide_eq_false q]
        simp
    rw [this, List.length_cons]
    split <;> omega
theorem lft_sz (du : Int → Int) (h : ∀ r, 0 ≤ du r) : ∀ (l : Int) (rs : List Int), 0 ≤ l → 0 ≤ lft du l rs ∧ lft du l rs ≤ l
  | l, [], h0 => ⟨h0, Int.le_refl _⟩
  | l, r :: rs, h0 => by
    have hr := h r
    obtain ⟨a, b⟩ := lft_sz du h (l - min l (du r)) rs (by omega)
    exact ⟨a, by show lft du (l - min l (du r)) rs ≤ l; omega⟩
theorem pt_sz {du : Int → Int} {l r : Int} (h0 : 0 ≤ l) (h1 : du r < 2 ^ 60) : FSz (pt du l r) ∧ Bt 64 (pt du l r).num := by
  unfold pt
  split
  · next c =>
    have b : Bt 64 (min l (du r)) := ⟨by show (min l (du r)).natAbs < 2 ^ 64; omega⟩
    exact ⟨FSz.div (k := 64) (by omega) b (by decide) (by decide) (by omega), b.le (num_le (by omega))⟩
  · exact ⟨⟨⟨1, by decide, by decide, ⟨by decide⟩⟩, ⟨by decide +kernel⟩⟩, ⟨by decide⟩⟩
section
variable {P : Program} {w : World} {K : PySem.W.Frag} {mg : Str → Option Value} {base : Heap}
theorem int_sz {i : Int} (h0 : 0 ≤ i) (h1 : i ≤ 1000000000) : FSz (i : Rat) ∧ Bt 64 ((i : Rat)).num := by
  have e : ((i : Rat)).num = i := Rat.num_intCast i
  have d : ((i : Rat)).den = 1 := Rat.den_intCast i
  exact ⟨⟨⟨64, by decide, by decide, ⟨by rw [e]; omega⟩⟩, ⟨by rw [d]; decide +kernel⟩⟩, ⟨by rw [e]; omega⟩⟩
theorem fv_int (i : Int) : fv (i : Rat) = [.int i, .int 1] := by
  unfold fv
  rw [Rat.num_intCast, Rat.den_intCast]
  rfl
def spPdp (K : PySem.W.Frag) : Sp := fun vs H Q _ => ∃ (d : Addr) (l : Int) (ds : List Db) (rs : List Int), vs = [.ref d, .int l] ∧ Dus H d ds 60 ∧ DSz ds ∧ Rks ds rs ∧ 0 ≤ l ∧ ∀ t p H', Same H H' → H t = none → H p = none → H' t = some (.tup [.ref p, .int (lft (dueOf ds) l rs)]) → PtsAt K H' p (dueOf ds) l rs → Q (.ref t) H'
/-- a debt's line, paid -/
def PdAt (K : PySem.W.Frag) (H : Hp) (du : Int → Int) (l : Int) (rs : List Int) (d : Db) (q : Addr) : Prop := ∃ (f : Addr) (i : Nat), H q = some (.tup [.str d.1, .ref f]) ∧ rs[i]? = some d.2.1 ∧ SqT K H f (fv ((d.2.2 : Rat) * pt du (lft du l (rs.take i)) d.2.1))
theorem PdAt.same {H H' : Hp} {du : Int → Int} {l : Int} {rs : List Int} {d : Db} {q : Addr} (h : PdAt K H du l rs d q) (s : Same H H') : PdAt K H' du l rs d q := by
  obtain ⟨f, i, a, b, c⟩ := h
  exact ⟨f, i, s _ _ a, b, sameT s c⟩
def spPdd (K : PySem.W.Frag) (C : Addr) : Sp := fun vs H Q _ => ∃ (p : Addr) (c : Int) (ws : List (Str × Int)) (qs : List Addr) (ds : List Db) (rs : List Int), vs = [.ref p] ∧ EstAt C H p c ws (qs.map V.ref) ∧ TupsAt H qs (ds.map dc) ∧ DSz ds ∧ Rks ds rs ∧ 0 ≤ c + (ws.map (·.2)).sum ∧
  ∀ t l H' (us : List Addr), Same H H' → H t = none → H' t = some (.tup [.ref l, .int (lft (dueOf ds) (c + (ws.map (·.2)).sum) rs)]) → H' l = some (.lst (us.map V.ref)) → us.length = ds.length → (∀ (i : Nat) (d : Db) (u : Addr), ds[i]? = some d → us[i]? = some u → PdAt K H' (dueOf ds) (c + (ws.map (·.2)).sum) rs d u) → Q (.ref t) H'
end
end ZK
namespace ZK
open PySem L2 PyProof.Rows PySem.Spec G
def three : List Str := ["ring", "house", "cow"]
def cnames : List Str := ["c0", "c1", "p1", "p4", "q1"]
def cranks : List Int := [0, 1, 2, 9, 10, 1000000000]
/-- a drawn estate -/
structure EstD (coins : Int) (ws : List (Str × Int)) (ds : List Db) : Prop where
  c0 : 0 ≤ coins
  c1 : coins ≤ 1000000000
  n : (ws.map (·.1)).Sublist three
  w : ∀ p ∈ ws, 0 ≤ p.2 ∧ p.2 ≤ 1000000000
  l : ds.length ≤ 3
  dn : ∀ p ∈ ds, p.1 ∈ cnames
  dr : ∀ p ∈ ds, p.2.1 ∈ cranks
  da : ∀ p ∈ ds, 0 ≤ p.2.2 ∧ p.2.2 ≤ 1000000000
section
variable {P : Program} {w : World} {K : PySem.W.Frag} {mg : Str → Option Value} {base : Heap}
def spLes : Sp := fun vs H Q _ => ∃ (d l : Addr) (a : Nat) (xs : List Int), vs = [.ref d] ∧ Feed H d l a xs ∧ a < 90000 ∧ ∀ (p t u : Addr) (H' : Hp) (coins : Int) (ws : List (Str × Int)) (ds : List Db) (qs us : List Addr) (a' : Nat), Fd H H' d l a' xs → a' ≤ a + 60 → H p = none → H t = none → H u = none → H' p = some (.lst [.int coins, .ref t, .ref u]) → H' t = some (.tup (qs.map V.ref)) → TupsAt H' qs (ws.map tc) → H' u = some (.tup (us.map V.ref)) → TupsAt H' us (ds.map dc) → EstD coins ws ds → Q (.ref p) H'
abbrev nLes : List Str := ["feed", "things", "thing", "debts", "k", "name", "rank", "coins"]
theorem scLes : FnScope nLes ["feed"] (defScope sLes) := ⟨rfl, rfl, rfl, by decide +kernel, rfl, by decide +kernel, by decide +kernel⟩
theorem ok_les {f : Addr} {fd : FuncData} (F : Fun K "_law_estate" "_law_estate" sLes f fd) (mgR : mg "range" = none) (mgT : mg "tuple" = none) (TT : Has P w K mg base CX0 "_law_take" ["feed", "limit"] 1 spTak) : FnOk P w K mg base CX0 2 f fd ["feed"] spLes := by
  obtain ⟨fT, fdT, mT, kT, bT, GT⟩ := TT.ok
  refine F.ok scLes (fun vs H Q E h => ?_) (fun cdv A outer s H vs Q E hr h => ?_)
  · obtain ⟨d, l, a, xs, rfl, _⟩ := h
    rfl
  · obtain ⟨d, l, a, xs, rfl, f0, ha, go⟩ := h
    refine ⟨_, (pss_cons (ps_set (i := 1) scLes.nd rfl (.inl rfl) (pe_lst pa_nil))
      (pss_cons (ps_for PassesOwn.never rfl (pi_list (pe_lst (pa_cons pe_str (pa_cons pe_str (pa_cons pe_str pa_nil))))) (pg_name (i := 2) scLes.nd rfl (.inl rfl)) (pss_one (ps_if (pt_cmpR op_gt (pe_call GT (hr.mono (by decide)) (by rfl) mT kT bT .nil pass0 (pa_cons (pv 0) (pa_cons pe_int pa_nil))) pe_int (nomark _)) (pss_one (ps_expr (pe_bm PySem.F.plainAttrs_list PySem.F.slot_list_append PySem.F.type_list_append mt_append (pv 1) (pa_cons (pe_tup (pa_cons (pv 2) (pa_cons (pe_ix ix_list (pe_lst (pa_cons pe_int (pa_cons pe_int (pa_cons pe_int (pa_cons pe_int (pa_cons (pe_call GT (hr.mono (by decide)) (by rfl) mT kT bT .nil pass0 (pa_cons (pv 0) (pa_cons pe_int pa_nil))) pa_nil)))))) (pe_call GT (hr.mono (by decide)) (by rfl) mT kT bT .nil pass0 (pa_cons (pv 0) (pa_cons pe_int pa_nil))) (fun _ _ => rfl)) pa_nil))) pa_nil)))) pss_nil)))
      (pss_cons (ps_set (i := 3) scLes.nd rfl (.inl rfl) (pe_lst pa_nil))
      (pss_cons (ps_for PassesOwn.never rfl (pi_range1 rfl mgR (pa_cons (pe_call GT (hr.mono (by decide)) (by rfl) mT kT bT .nil pass0 (pa_cons (pv 0) (pa_cons pe_int pa_nil))) pa_nil)) (pg_name (i := 4) scLes.nd rfl (.inl rfl)) (pss_cons (ps_set (i := 5) scLes.nd rfl (.inl rfl) (pe_ix ix_list (pe_lst (pa_cons pe_str (pa_cons pe_str (pa_cons pe_str (pa_cons pe_str (pa_cons pe_str pa_nil)))))) (pe_call GT (hr.mono (by decide)) (by rfl) mT kT bT .nil pass0 (pa_cons (pv 0) (pa_cons pe_int pa_nil))) (fun _ _ => rfl)))
      (pss_cons (ps_set (i := 6) scLes.nd rfl (.inl rfl) (pe_ix ix_list (pe_lst (pa_cons pe_int (pa_cons pe_int (pa_cons pe_int (pa_cons pe_int (pa_cons pe_int (pa_cons pe_int pa_nil))))))) (pe_call GT (hr.mono (by decide)) (by rfl) mT kT bT .nil pass0 (pa_cons (pv 0) (pa_cons pe_int pa_nil))) (fun _ _ => rfl)))
      (pss_one (ps_expr (pe_bm PySem.F.plainAttrs_list PySem.F.slot_list_append PySem.F.type_list_append mt_append (pv 3) (pa_cons (pe_tup (pa_cons (pv 5) (pa_cons (pv 6) (pa_cons (pe_ix ix_list (pe_lst (pa_cons (pe_call GT (hr.mono (by decide)) (by rfl) mT kT bT .nil pass0 (pa_cons (pv 0) (pa_cons pe_int pa_nil))) (pa_cons pe_int pa_nil))) (pe_op op_fdiv (pe_call GT (hr.mono (by decide)) (by rfl) mT kT bT .nil pass0 (pa_cons (pv 0) (pa_cons pe_int pa_nil))) pe_int) (fun _ _ => rfl)) pa_nil)))) pa_nil)))))))
      (pss_cons (ps_set (i := 7) scLes.nd rfl (.inl rfl) (pe_ix ix_list (pe_lst (pa_cons pe_int (pa_cons pe_int (pa_cons pe_int (pa_cons pe_int (pa_cons (pe_call GT (hr.mono (by decide)) (by rfl) mT kT bT .nil pass0 (pa_cons (pv 0) (pa_cons pe_int pa_nil))) pa_nil)))))) (pe_call GT (hr.mono (by decide)) (by rfl) mT kT bT .nil pass0 (pa_cons (pv 0) (pa_cons pe_int pa_nil))) (fun _ _ => rfl)))
      (pss_one (ps_ret (pe_lst (pa_cons (pv 7) (pa_cons (pe_callTy call_tuple_of (by rfl) mgT (by decide +kernel) (pa_cons (pv 1) pa_nil)) (pa_cons (pe_callTy call_tuple_of (by rfl) mgT (by decide +kernel) (pa_cons (pv 3) pa_nil)) pa_nil))))))))))), ?_⟩
    have X0 : Fd H H d l a xs := ⟨fun b o h _ => h, f0⟩
    refine ⟨Nat.zero_le _, fun tl ntl => ?_⟩
    have tll : tl ≠ l := fun e => by rw [e, f0.hl] at ntl; cases ntl
    have X1 := X0.go (same_upd ntl (o := .lst []))
    refine ⟨(by show 3 ≤ sizeLine; decide), fun nl nnl => ?_⟩
    have X2 := X1.go (same_upd nnl (o := .lst (three.map V.str)))
    have nlN := X1.free nnl
    have tnl : tl ≠ nl := ne_of_none (H := upd H tl (.lst [])) upd_same nnl
    refine ⟨nl, rfl, ⟨_, SqL.of upd_same⟩, for_it (walk_list (xs := three.map V.str)) (fun i σ Hy => ∃ (y2 : Option V) (a' : Nat) (qs : List Addr) (ws : List (Str × Int)), σ = [some (.ref d), some (.ref tl), y2, none, none, none, none, none] ∧ Fd H Hy d l a' xs ∧ a' ≤ a + 3 * i ∧ Hy nl = some (.lst (three.map V.str)) ∧ Hy tl = some (.lst (qs.map V.ref)) ∧ TupsAt Hy qs (ws.map tc) ∧ (ws.map (·.1)).Sublist (three.take i) ∧ ∀ p ∈ ws, 0 ≤ p.2 ∧ p.2 ≤ 1000000000)
      ⟨none, a, [], [], rfl, X2, by omega, upd_same, by rw [upd_ne tnl, upd_same]; rfl, .nil, List.Sublist.slnil, fun p h => by cases h⟩ (fun i σ Hy _ ⟨_, _, _, _, _, _, _, h, _⟩ => SqL.of h) ?_ ?_⟩
    · rintro i v σ Hy H' hi ⟨y2, a', qs, ws, rfl, X, la, en, ep, hT, sb, hw⟩ ⟨rfl, ev⟩
      have hi3 : i < 3 := hi
      rw [List.getElem?_map] at ev
      obtain ⟨n, hn, rfl⟩ := Option.map_eq_some_iff.mp ev
      have stp : three.take (i + 1) = three.take i ++ [n] := by rw [List.take_add_one, hn]; rfl
      have hw3 : ws.length ≤ 3 := by
        have := sb.length_le
        rw [List.length_map, List.length_take] at this
        omega
      refine ⟨_, rfl, d, l, a', xs, 3, rfl, X.f, by omega, by decide, fun r H1 r0 r1 b1 f1 => ⟨_, _, rfl, rfl, _, rfl, ite2 (fun c => ?_) (fun c => ?_)⟩⟩
      · have X1 := X.take b1 f1
        have ep1 := X.f.keepL b1 ep
        refine ⟨_, rfl, .inl ⟨rfl, _, SqL.of ep1⟩, _, rfl, _, rfl, d, l, _, xs, 1000, rfl, f1, by omega, by decide, fun r2 H2 q0 q1 b2 f2 => ⟨(by show 5 ≤ sizeLine; decide), fun L nL => ?_⟩⟩
        have X2 := X1.take b2 f2
        have X3 := X2.go (same_upd nL (o := .lst ([(0 : Int), 7, 1000000000, 333, r2].map V.int)))
        refine ⟨_, rfl, d, l, _, xs, 5, rfl, X3.f, by omega, by decide, fun r3 H3 z0 z1 b3 f3 => ?_⟩
        obtain ⟨wv, hwv, hat⟩ := pick_int (ns := [0, 7, 1000000000, 333, r2]) z0 (by show r3 < 5; exact z1)
        have X4 := X3.take b3 f3
        have bw : 0 ≤ wv ∧ wv ≤ 1000000000 := by
          simp only [List.mem_cons, List.not_mem_nil, or_false] at hwv
          omega
        refine ⟨L, _, _, _, rfl, rfl, SqL.of (X3.f.keepL b3 upd_same), hat, (by show 2 ≤ sizeLine; decide), fun T1 nT => ?_⟩
        have X5 := X4.go (same_upd nT (o := .tup (tc (n, wv))))
        have e5 {q : Addr} {zs : List V} (h : H' q = some (.lst zs)) : (upd H3 T1 (.tup (tc (n, wv)))) q = some (.lst zs) := (same_upd nT) _ _ (X3.f.keepL b3 ((same_upd nL) _ _ (X1.f.keepL b2 (X.f.keepL b1 h))))
        have t5 : TupsAt (upd H3 T1 (.tup (tc (n, wv)))) qs (ws.map tc) := (X3.f.tups b3 ((X1.f.tups b2 (X.f.tups b1 hT)).same (same_upd nL))).same (same_upd nT)
        refine ⟨tl, _, _, rfl, rfl, e5 ep, ?_, ?_⟩
        · rw [List.length_map, hT.1, List.length_map]
          exact small1000 (by omega)
        · refine ⟨_, _, qs ++ [T1], ws ++ [(n, wv)], rfl, X5.put ntl (e5 ep) tll, by omega, ?_, ?_, ?_, ?_, ?_⟩
          · rw [upd_ne (Ne.symm tnl)]
            exact e5 en
          · rw [upd_same, List.map_append]
            rfl
          · rw [List.map_append]
            refine TupsAt.but (a := tl) (xs := qs.map V.ref) (H := upd H3 T1 (.tup (tc (n, wv)))) ?_ (e5 ep) (fun b o hb ne => by rw [upd_ne ne]; exact hb)
            exact t5.snoc upd_same
          · rw [stp, List.map_append]
            exact List.Sublist.append sb (List.Sublist.refl _)
          · intro p hp
            rcases List.mem_append.mp hp with m | m
            · exact hw p m
            · rw [List.mem_singleton.mp m]
              exact bw
      · refine ⟨_, _, qs, ws, rfl, X.take b1 f1, by omega, X.f.keepL b1 en, X.f.keepL b1 ep, X.f.tups b1 hT, ?_, hw⟩
        rw [stp]
        exact sb.trans (List.sublist_append_left _ _)
    · rintro σ Hy ⟨y2, a', qs, ws, rfl, X, la, en, ep, hT, sb, hw⟩
      have la' : a' ≤ a + 9 := la
      have sb3 : (ws.map (·.1)).Sublist three := sb
      have hw3 : ws.length ≤ 3 := by
        have := sb3.length_le
        rw [List.length_map] at this
        exact this
      refine ⟨Nat.zero_le _, fun dl ndl => ?_⟩
      have dlN := X.free ndl
      have dll : dl ≠ l := fun e => by rw [e, X.f.hl] at ndl; cases ndl
      have tdl : tl ≠ dl := ne_of_none ep ndl
      have X1 := X.go (same_upd ndl (o := .lst []))
      refine ⟨_, rfl, d, l, a', xs, 4, rfl, X1.f, by omega, by decide, fun r H1 r0 r1 b1 f1 => ?_⟩
      have X2 := X1.take b1 f1
      refine ⟨_, rfl, by show -(2 ^ 62 : Int) ≤ r; omega, by show r < 2 ^ 62; omega, ?_⟩
      obtain ⟨m, em⟩ : ∃ m : Nat, r = (m : Int) := ⟨r.toNat, by omega⟩
      subst em
      rw [Int.toNat_natCast]
      refine for_range (lo := 0) (n := m) (fun i σ Hz => ∃ (y4 y5 y6 : Option V) (b' : Nat) (us : List Addr) (ds : List Db), σ = [some (.ref d), some (.ref tl), y2, some (.ref dl), y4, y5, y6, none] ∧ Fd H Hz d l b' xs ∧ b' ≤ a + 10 + 4 * i ∧ Hz tl = some (.lst (qs.map V.ref)) ∧ TupsAt Hz qs (ws.map tc) ∧ Hz dl = some (.lst (us.map V.ref)) ∧ TupsAt Hz us (ds.map dc) ∧ ds.length = i ∧ (∀ p ∈ ds, p.1 ∈ cnames) ∧ (∀ p ∈ ds, p.2.1 ∈ cranks) ∧ ∀ p ∈ ds, 0 ≤ p.2.2 ∧ p.2.2 ≤ 1000000000)
        ⟨none, none, none, _, [], [], rfl, X2, by omega, X1.f.keepL b1 ((same_upd ndl) _ _ ep), X1.f.tups b1 (hT.same (same_upd ndl)), X1.f.keepL b1 upd_same, .nil, rfl, (fun p h => by cases h), (fun p h => by cases h), fun p h => by cases h⟩ ?_ ?_
      · rintro i σ Hz hi ⟨y4, y5, y6, b', us, ds, rfl, X, lb, et, hT, ed, hD, hl, k1, k2, k3⟩
        refine ⟨(by show 5 ≤ sizeLine; decide), fun L nL => ⟨_, rfl, d, l, _, xs, 5, rfl, (X.go (same_upd nL (o := .lst (cnames.map V.str)))).f, by omega, by decide, fun r2 H2 q0 q1 b2 f2 => ?_⟩⟩
        have Y1 := X.go (same_upd nL (o := .lst (cnames.map V.str)))
        obtain ⟨n, hn, hat⟩ := pick_str (ns := cnames) q0 (by show r2 < 5; exact q1)
        have Y2 := Y1.take b2 f2
        refine ⟨L, _, _, _, rfl, rfl, SqL.of (Y1.f.keepL b2 upd_same), hat, ?_⟩
        refine ⟨(by show 6 ≤ sizeLine; decide), fun L3 nL3 => ⟨_, rfl, d, l, _, xs, 6, rfl, (Y2.go (same_upd nL3 (o := .lst (cranks.map V.int)))).f, by omega, by decide, fun r3 H3 z0 z1 b3 f3 => ?_⟩⟩
        have Y3 := Y2.go (same_upd nL3 (o := .lst (cranks.map V.int)))
        obtain ⟨rk, hrk, hat3⟩ := pick_int (ns := cranks) z0 (by show r3 < 6; exact z1)
        have Y4 := Y3.take b3 f3
        refine ⟨L3, _, _, _, rfl, rfl, SqL.of (Y3.f.keepL b3 upd_same), hat3, ?_⟩
        have ed3 : H3 dl = some (.lst (us.map V.ref)) := Y3.f.keepL b3 ((same_upd nL3) _ _ (Y1.f.keepL b2 ((same_upd nL) _ _ ed)))
        refine ⟨_, rfl, .inl ⟨rfl, _, SqL.of ed3⟩, _, rfl, _, rfl, _, rfl, d, l, _, xs, 500, rfl, f3, by omega, by decide, fun r4 H4 w0 w1 b4 f4 => ⟨(by show 2 ≤ sizeLine; decide), fun L5 nL5 => ?_⟩⟩
        have Y5 := Y4.take b4 f4
        have Y6 := Y5.go (same_upd nL5 (o := .lst ([r4, 1000000000].map V.int)))
        refine ⟨_, rfl, d, l, _, xs, 8, rfl, Y6.f, by omega, by decide, fun r6 H6 x0 x1 b6 f6 => ⟨_, _, rfl, rfl, ⟨by decide, by decide⟩, ?_⟩⟩
        obtain ⟨am, ham, hat6⟩ := pick_int (ns := [r4, 1000000000]) (r := r6 / 7) (by omega) (by show r6 / 7 < 2; omega)
        have Y7 := Y6.take b6 f6
        have bw : 0 ≤ am ∧ am ≤ 1000000000 := by
          simp only [List.mem_cons, List.not_mem_nil, or_false] at ham
          omega
        refine ⟨L5, _, _, _, rfl, rfl, SqL.of (Y6.f.keepL b6 upd_same), hat6, (by show 3 ≤ sizeLine; decide), fun T1 nT => ?_⟩
        have e7 {q : Addr} {zs : List V} (h : Hz q = some (.lst zs)) : (upd H6 T1 (.tup (dc (n, rk, am)))) q = some (.lst zs) := (same_upd nT) _ _ (Y6.f.keepL b6 ((same_upd nL5) _ _ (Y4.f.keepL b4 (Y3.f.keepL b3 ((same_upd nL3) _ _ (Y1.f.keepL b2 ((same_upd nL) _ _ h)))))))
        have t7 {zs : List Addr} {cs : List (List V)} (h : TupsAt Hz zs cs) : TupsAt (upd H6 T1 (.tup (dc (n, rk, am)))) zs cs := (Y6.f.tups b6 ((Y4.f.tups b4 (Y3.f.tups b3 ((Y1.f.tups b2 (h.same (same_upd nL))).same (same_upd nL3)))).same (same_upd nL5))).same (same_upd nT)
        have Y8 := Y7.go (same_upd nT (o := .tup (dc (n, rk, am))))
        refine ⟨dl, _, _, rfl, rfl, e7 ed, ?_, ?_⟩
        · rw [List.length_map, hD.1, List.length_map]
          exact small1000 (by omega)
        · have bt {zs : List Addr} {cs : List (List V)} {o : HO} (h : TupsAt (upd H6 T1 (.tup (dc (n, rk, am)))) zs cs) : TupsAt (upd (upd H6 T1 (.tup (dc (n, rk, am)))) dl o) zs cs := TupsAt.but (a := dl) (xs := us.map V.ref) h (e7 ed) (fun b o hb ne => by rw [upd_ne ne]; exact hb)
          refine ⟨_, _, _, _, us ++ [T1], ds ++ [(n, rk, am)], rfl, Y8.put dlN (e7 ed) dll, by omega, ?_, bt (t7 hT), ?_, ?_, ?_, ?_, ?_, ?_⟩
          · rw [upd_ne tdl]
            exact e7 et
          · rw [upd_same, List.map_append]
            rfl
          · rw [List.map_append]
            exact bt ((t7 hD).snoc upd_same)
          · rw [List.length_append, hl]
            rfl
          · intro p hp
            rcases List.mem_append.mp hp with m | m
            · exact k1 p m
            · rw [List.mem_singleton.mp m]
              exact hn
          · intro p hp
            rcases List.mem_append.mp hp with m | m
            · exact k2 p m
            · rw [List.mem_singleton.mp m]
              exact hrk
          · intro p hp
            rcases List.mem_append.mp hp with m | m
            · exact k3 p m
            · rw [List.mem_singleton.mp m]
              exact bw
      · rintro σ Hz ⟨y4, y5, y6, b', us, ds, rfl, X, lb, et, hT, ed, hD, hl, k1, k2, k3⟩
        refine ⟨_, rfl, d, l, _, xs, 100000, rfl, X.f, by omega, by decide, fun r2 H2 q0 q1 b2 f2 => ⟨(by show 5 ≤ sizeLine; decide), fun L nL => ?_⟩⟩
        have Y1 := X.take b2 f2
        have Y2 := Y1.go (same_upd nL (o := .lst ([(0 : Int), 1, 100, 1000000000, r2].map V.int)))
        refine ⟨_, rfl, d, l, _, xs, 5, rfl, Y2.f, by omega, by decide, fun r3 H3 z0 z1 b3 f3 => ?_⟩
        obtain ⟨cv, hcv, hat⟩ := pick_int (ns := [0, 1, 100, 1000000000, r2]) z0 (by show r3 < 5; exact z1)
        have Y3 := Y2.take b3 f3
        have bw : 0 ≤ cv ∧ cv ≤ 1000000000 := by
          simp only [List.mem_cons, List.not_mem_nil, or_false] at hcv
          omega
        have e3 {q : Addr} {zs : List V} (h : Hz q = some (.lst zs)) : H3 q = some (.lst zs) := Y2.f.keepL b3 ((same_upd nL) _ _ (X.f.keepL b2 h))
        have t3 {zs : List Addr} {cs : List (List V)} (h : TupsAt Hz zs cs) : TupsAt H3 zs cs := Y2.f.tups b3 ((X.f.tups b2 h).same (same_upd nL))
        refine ⟨L, _, _, _, rfl, rfl, SqL.of (Y2.f.keepL b3 upd_same), hat, _, rfl, _, rfl, tl, _, rfl, .inl ⟨SqL.of (e3 et), fun t nt => ?_⟩⟩
        have Y4 := Y3.go (same_upd nt (o := .tup (qs.map V.ref)))
        refine ⟨_, rfl, dl, _, rfl, .inl ⟨SqL.of ((same_upd nt) _ _ (e3 ed)), fun u nu => ⟨(by show 3 ≤ sizeLine; decide), fun p np => ?_⟩⟩⟩
        have Y5 := Y4.go (same_upd nu (o := .tup (us.map V.ref)))
        have s5 := same_upd nu (o := .tup (us.map V.ref))
        have s6 := same_upd np (o := .lst [.int cv, .ref t, .ref u])
        exact go p t u _ cv ws ds qs us _ (Y5.go s6) (by omega) (Y5.free np) (Y3.free nt) (Y4.free nu) upd_same ((s5.trans s6) _ _ upd_same) ((t3 hT).same (((same_upd nt).trans s5).trans s6)) (s6 _ _ upd_same) ((t3 hD).same (((same_upd nt).trans s5).trans s6)) ⟨bw.1, bw.2, sb3, hw, by omega, k1, k2, k3⟩
end
end ZK
namespace ZK
open PySem L2 PyProof.Rows PySem.Spec G
def fourT : List Str := ["ring", "house", "cow", "ship"]
theorem four_tn : ∀ z ∈ fourT, isTn z = true := by decide +kernel
/-- a drawn line -/
def NMs : List Str := ["p0", "p1", "p2", "p3", "p4", "p5", "p6", "p7", "p8", "p9", "p10", "p11", "p12", "q1", "q2", "zz"]
def nmK (t : Str) : Prop := isNm t = true ∧ t ∈ NMs
def WlD : Wl → Prop
  | .gift w n x ts => (0 ≤ n ∧ n < 6) ∧ (ts ≠ [] ∧ ts.length ≤ 5 ∧ ∀ t ∈ ts, nmK t) ∧ ((w = "thing" ∧ ∃ z ∈ fourT, x = .str z) ∨ (w = "sum" ∧ ∃ i, x = .int i ∧ 0 ≤ i ∧ i < 300) ∨ (w = "rest" ∧ ∃ i, x = .int i ∧ 1 ≤ i ∧ i ≤ 5))
  | .rev n => 0 ≤ n ∧ n < 6
  | .all => True
theorem amt_ok {n : Int} (h : 0 ≤ n ∧ n ≤ 1000000000) : amtV (.int n) = true := by
  show (decide (0 ≤ n) && decide (n ≤ 1000000000)) = true
  rw [decide_eq_true h.1, decide_eq_true h.2]
  rfl
theorem tks_ok {ts : List Str} (h : ts ≠ [] ∧ ts.length ≤ 5 ∧ ∀ t ∈ ts, nmK t) : tksB (some (ts.map V.str)) = true := by
  show ((decide (1 ≤ (ts.map V.str).length) && decide ((ts.map V.str).length ≤ 5)) && (ts.map V.str).all nameV) = true
  rw [List.length_map, decide_eq_true (show 1 ≤ ts.length from List.length_pos_iff.mpr h.1), decide_eq_true h.2.1, List.all_map]
  exact List.all_eq_true.mpr fun t ht => (h.2.2 t ht).1
theorem WlD.ok {w : Wl} (h : WlD w) : lnB w.ln = true := by
  cases w with
  | gift w n x ts =>
    obtain ⟨hn, ht, hx⟩ := h
    show (amtV (.int n) && (givB w x && tksB (some (ts.map V.str)))) = true
    rw [amt_ok (by omega), tks_ok ht, Bool.and_true, Bool.true_and]
    rcases hx with ⟨rfl, z, hz, rfl⟩ | ⟨rfl, i, rfl, i0, i1⟩ | ⟨rfl, i, rfl, i0, i1⟩
    · exact (if_pos rfl).trans (four_tn z hz)
    · exact (if_neg (by decide +kernel)).trans ((if_pos rfl).trans (amt_ok (by omega)))
    · refine (if_neg (by decide +kernel)).trans ((if_neg (by decide +kernel)).trans ?_)
      rw [amt_ok (by omega)]
      show (true && (true && decide (0 < i))) = true
      rw [decide_eq_true (by omega)]
      rfl
  | rev n =>
    show (isStr (.str "revoke") && (amtV (.int n) && decide (V.str ("revoke" : Str) = .str "revoke"))) = true
    rw [amt_ok (by have := h.1; have := h.2; omega), decide_eq_true rfl]
    rfl
  | all => exact (show (true && decide (V.str ("revoke" : Str) = .str "revoke")) = true by rw [decide_eq_true rfl]; rfl)
theorem wl_move {K : PySem.W.Frag} {H H' : Hp} {q : Addr} {w : Wl} (mv : ∀ q xs, SqT K H q xs → SqT K H' q xs) (h : LnAt K H q w.ln) : LnAt K H' q w.ln := by
  cases w with
  | gift w n x ts =>
    obtain ⟨t, h1, h2, h3, h4, q', e, h5, h6⟩ := h
    exact ⟨t, mv _ _ h1, h2, h3, h4, q', e, mv _ _ h5, h6⟩
  | rev n => exact ⟨mv _ _ h.1, h.2⟩
  | all => exact ⟨mv _ _ h.1, h.2⟩
theorem sq_upd {K : PySem.W.Frag} {H : Hp} {p q : Addr} {o : HO} {zs xs : List V} (hp : H p = some (.lst zs)) (h : SqT K H q xs) : SqT K (upd H p o) q xs := by
  rcases h with (h | ⟨u, h⟩) | h
  · exact .inl (.inl (by rw [upd_ne (ne_of h hp (by intro z; cases z))]; exact h))
  · exact .inl (.inr ⟨u, by rw [upd_ne (ne_of h hp (by intro z; cases z))]; exact h⟩)
  · exact .inr h
theorem sq_but {K : PySem.W.Frag} {H H' : Hp} {d l q : Addr} {a : Nat} {zs : List Int} {xs : List V} (f : Feed H d l a zs) (b : But d H H') (h : SqT K H q xs) : SqT K H' q xs := by
  rcases h with (h | ⟨u, h⟩) | h
  · exact .inl (.inl (b _ _ h (ne_of h f.hd (by intro z; cases z))))
  · exact .inl (.inr ⟨u, b _ _ h (ne_of h f.hd (by intro z; cases z))⟩)
  · exact .inr h
/-- lines that stand in a list -/
structure Wls (K : PySem.W.Frag) (Hy : Hp) (ll : Addr) (ps : List (Addr × Wl)) : Prop where
  el : Hy ll = some (.lst (ps.map fun p => .ref p.1))
  at' : ∀ p ∈ ps, LnAt K Hy p.1 p.2.ln ∧ WlD p.2
theorem Wls.same {K : PySem.W.Frag} {H H' : Hp} {ll : Addr} {ps : List (Addr × Wl)} (h : Wls K H ll ps) (s : Same H H') : Wls K H' ll ps := ⟨s _ _ h.el, fun p hp => ⟨(h.at' p hp).1.same s, (h.at' p hp).2⟩⟩
theorem Wls.but {K : PySem.W.Frag} {H H' : Hp} {ll d l : Addr} {ps : List (Addr × Wl)} {a : Nat} {zs : List Int} (h : Wls K H ll ps) (f : Feed H d l a zs) (b : But d H H') : Wls K H' ll ps := ⟨f.keepL b h.el, fun p hp => ⟨wl_move (fun q xs => sq_but f b) (h.at' p hp).1, (h.at' p hp).2⟩⟩
theorem Wls.push {K : PySem.W.Frag} {H : Hp} {ll q : Addr} {ps : List (Addr × Wl)} {w : Wl} (h : Wls K H ll ps) (a : LnAt K H q w.ln) (g : WlD w) : Wls K (upd H ll (.lst (ps.map (fun p => V.ref p.1) ++ [.ref q]))) ll (ps ++ [(q, w)]) := by
  refine ⟨by rw [upd_same, List.map_append]; rfl, fun p hp => ?_⟩
  rcases List.mem_append.mp hp with m | m
  · exact ⟨wl_move (fun q xs => sq_upd h.el) (h.at' p m).1, (h.at' p m).2⟩
  · rw [List.mem_singleton.mp m]
    exact ⟨wl_move (fun q xs => sq_upd h.el) a, g⟩
theorem okw {x : Str} (h : x.length ≤ 1000) : OkV (.str x) := ⟨rfl, fun y e => by
  have := V.str.inj e
  rw [← this]
  exact h⟩
theorem oki (i : Int) : OkV (.int i) := ⟨rfl, fun y e => by cases e⟩
theorem nm_len {x : Str} (h : isNm x = true) : x.length ≤ 12 := by
  unfold isNm at h
  rw [Bool.and_eq_true, Bool.and_eq_true, Bool.and_eq_true] at h
  exact of_decide_eq_true h.1.2.2
section
variable {P : Program} {w : World} {K : PySem.W.Frag} {mg : Str → Option Value} {base : Heap}
def spLwi (K : PySem.W.Frag) : Sp := fun vs H Q _ => ∃ (d l na : Addr) (a : Nat) (xs : List Int) (ns : List Str), vs = [.ref d, .ref na] ∧ Feed H d l a xs ∧ a < 90000 ∧ H na = some (.lst (ns.map V.str)) ∧ ns.length ≤ 100 ∧ (∀ n ∈ ns, nmK n) ∧ ∀ (ll : Addr) (H' : Hp) (ps : List (Addr × Wl)) (a' : Nat), Fd H H' d l a' xs → a' ≤ a + 100 → H ll = none → Wls K H' ll ps → ps.length ≤ 6 → Q (.ref ll) H'
abbrev nLwi : List Str := ["feed", "names", "lines", "known", "k", "takers", "number", "pick", "j"]
theorem scLwi : FnScope nLwi ["feed", "names"] (defScope sLwi) := ⟨rfl, rfl, rfl, by decide +kernel, rfl, by decide +kernel, by decide +kernel⟩
theorem ok_lwi {f : Addr} {fd : FuncData} (F : Fun K "_law_will" "_law_will" sLwi f fd) (mgR : mg "range" = none) (mgT : mg "tuple" = none) (mgL : mg "len" = none) (TT : Has P w K mg base CX0 "_law_take" ["feed", "limit"] 1 spTak) : FnOk P w K mg base CX0 2 f fd ["feed", "names"] (spLwi K) := by
  obtain ⟨fT, fdT, mT, kT, bT, GT⟩ := TT.ok
  refine F.ok scLwi (fun vs H Q E h => ?_) (fun cdv A outer s H vs Q E hr h => ?_)
  · obtain ⟨d, l, na, a, xs, ns, rfl, _⟩ := h
    rfl
  · obtain ⟨d, l, na, a, xs, ns, rfl, f0, ha, en, hn, hnm, go⟩ := h
    refine ⟨_, (pss_cons (ps_set (i := 2) scLwi.nd rfl (.inl rfl) (pe_lst pa_nil))
      (pss_cons (ps_set (i := 3) scLwi.nd rfl (.inr rfl) (pe_op op_cat (pv 1) (pe_lst (pa_cons pe_str (pa_cons pe_str pa_nil)))))
      (pss_cons (ps_for PassesOwn.never rfl (pi_range1 rfl mgR (pa_cons (pe_call GT (hr.mono (by decide)) (by rfl) mT kT bT .nil pass0 (pa_cons (pv 0) (pa_cons pe_int pa_nil))) pa_nil)) (pg_name (i := 4) scLwi.nd rfl (.inl rfl)) (pss_cons (ps_set (i := 5) scLwi.nd rfl (.inl rfl) (pe_callTy call_tuple_of (by rfl) mgT (by decide +kernel) (pa_cons (pe_lc (own := [("j", 8)]) (g := gName 8) (tt := tYes) rfl scLwi.nd (pi_range1 rfl mgR (pa_cons (pe_op op_add pe_int (pe_call GT (hr.mono (by decide)) (by rfl) mT kT bT .nil pass0 (pa_cons (pv 0) (pa_cons pe_int pa_nil)))) pa_nil)) (blkOk_by (N := nLwi) (sc := defScope sLwi) (by decide +kernel)) (fun _ _ _ _ _ => (pg_name (i := 8) scLwi.nd rfl (.inl rfl) (.inr rfl))) (fun _ _ _ _ _ => pts_nil) (fun _ _ _ _ _ => (pe_ix (show IxR _ (rIxL K) from ix_list) (pv 3) (pe_call GT (hr.mono (by decide)) (by rfl) mT kT bT .nil pass0 (pa_cons (pv 0) (pa_cons (pe_callB (show CallR _ _ (fun xs H Q => ∃ p ys, xs = [.ref p] ∧ (SqL K H p ys ∨ SqT K H p ys) ∧ Q (.int (ys.length : Int)) H) from call_len_seq) (by rfl) mgL PySem.boot_len (pa_cons (pv 3) pa_nil)) pa_nil))) (fun _ _ => rfl)))) pa_nil)))
      (pss_cons (ps_set (i := 6) scLwi.nd rfl (.inl rfl) (pe_call GT (hr.mono (by decide)) (by rfl) mT kT bT .nil pass0 (pa_cons (pv 0) (pa_cons pe_int pa_nil))))
      (pss_cons (ps_set (i := 7) scLwi.nd rfl (.inl rfl) (pe_call GT (hr.mono (by decide)) (by rfl) mT kT bT .nil pass0 (pa_cons (pv 0) (pa_cons pe_int pa_nil))))
      (pss_one (ps_if (pt_cmpR op_lt (pv 7) pe_int (nomark _)) (pss_one (ps_expr (pe_bm PySem.F.plainAttrs_list PySem.F.slot_list_append PySem.F.type_list_append mt_append (pv 2) (pa_cons (pe_tup (pa_cons pe_str (pa_cons (pv 6) (pa_cons (pe_ix ix_list (pe_lst (pa_cons pe_str (pa_cons pe_str (pa_cons pe_str (pa_cons pe_str pa_nil))))) (pe_call GT (hr.mono (by decide)) (by rfl) mT kT bT .nil pass0 (pa_cons (pv 0) (pa_cons pe_int pa_nil))) (fun _ _ => rfl)) (pa_cons (pv 5) pa_nil))))) pa_nil)))) (pss_one (ps_if (pt_cmpR op_lt (pv 7) pe_int (nomark _)) (pss_one (ps_expr (pe_bm PySem.F.plainAttrs_list PySem.F.slot_list_append PySem.F.type_list_append mt_append (pv 2) (pa_cons (pe_tup (pa_cons pe_str (pa_cons (pv 6) (pa_cons (pe_call GT (hr.mono (by decide)) (by rfl) mT kT bT .nil pass0 (pa_cons (pv 0) (pa_cons pe_int pa_nil))) (pa_cons (pv 5) pa_nil))))) pa_nil)))) (pss_one (ps_if (pt_cmpR op_lt (pv 7) pe_int (nomark _)) (pss_one (ps_expr (pe_bm PySem.F.plainAttrs_list PySem.F.slot_list_append PySem.F.type_list_append mt_append (pv 2) (pa_cons (pe_tup (pa_cons pe_str (pa_cons (pv 6) (pa_cons (pe_op op_add pe_int (pe_call GT (hr.mono (by decide)) (by rfl) mT kT bT .nil pass0 (pa_cons (pv 0) (pa_cons pe_int pa_nil)))) (pa_cons (pv 5) pa_nil))))) pa_nil)))) (pss_one (ps_if (pt_cmpR op_eq (pv 7) pe_int (nomark _)) (pss_one (ps_expr (pe_bm PySem.F.plainAttrs_list PySem.F.slot_list_append PySem.F.type_list_append mt_append (pv 2) (pa_cons (pe_tup (pa_cons pe_str (pa_cons (pv 6) pa_nil))) pa_nil)))) (pss_one (ps_if (pt_cmpR op_eq (pe_call GT (hr.mono (by decide)) (by rfl) mT kT bT .nil pass0 (pa_cons (pv 0) (pa_cons pe_int pa_nil))) pe_int (nomark _)) (pss_one (ps_expr (pe_bm PySem.F.plainAttrs_list PySem.F.slot_list_append PySem.F.type_list_append mt_append (pv 2) (pa_cons (pe_tup (pa_cons pe_str pa_nil)) pa_nil)))) pss_nil))))))))))))))
      (pss_one (ps_ret (pv 2)))))), ?_⟩
    have X0 : Fd H H d l a xs := ⟨fun b o h _ => h, f0⟩
    refine ⟨Nat.zero_le _, fun ll nll => ?_⟩
    have lll : ll ≠ l := fun e => by rw [e, f0.hl] at nll; cases nll
    have X1 := X0.go (same_upd nll (o := .lst []))
    refine ⟨_, rfl, (by show 2 ≤ sizeLine; decide), fun L nL => ⟨na, L, _, _, rfl, rfl, ((same_upd nll).trans (same_upd nL)) _ _ en, upd_same, ?_, fun kn nkn => ?_⟩⟩
    · rw [List.length_map]
      exact Nat.le_of_lt (small1000 (by show ns.length + 2 ≤ 1000; omega))
    have s1 := ((same_upd nll (o := .lst [])).trans (same_upd nL (o := .lst [.str "q1", .str "zz"]))).trans (same_upd nkn (o := .lst (ns.map V.str ++ [.str "q1", .str "zz"])))
    have X2 := X0.go s1
    let known : List Str := ns ++ (["q1", "zz"] : List Str)
    have ekn0 : (upd (upd (upd H ll (.lst [])) L (.lst [.str "q1", .str "zz"])) kn (.lst (ns.map V.str ++ [.str "q1", .str "zz"]))) kn = some (.lst (known.map V.str)) := by
      rw [upd_same, List.map_append]
      rfl
    have kll : kn ≠ ll := Ne.symm (ne_of_none ((same_upd nL (o := .lst [.str "q1", .str "zz"])) ll _ (upd_same (H := H) (o := .lst []))) nkn)
    have ell0 : (upd (upd (upd H ll (.lst [])) L (.lst [.str "q1", .str "zz"])) kn (.lst (ns.map V.str ++ [.str "q1", .str "zz"]))) ll = some (.lst []) := by
      rw [upd_ne (Ne.symm kll)]
      exact (same_upd nL) _ _ upd_same
    have klen : known.length = ns.length + 2 := by rw [List.length_append]; rfl
    have kok : ∀ n ∈ known, nmK n := fun n h => by
      rcases List.mem_append.mp h with m | m
      · exact hnm n m
      · have all : ∀ x ∈ (["q1", "zz"] : List Str), nmK x := by unfold nmK; decide +kernel
        exact all n m
    refine ⟨_, rfl, d, l, a, xs, 7, rfl, X2.f, by omega, by decide, fun r H1 r0 r1 b1 f1 => ?_⟩
    have X3 := X2.take b1 f1
    obtain ⟨m, em⟩ : ∃ m : Nat, r = (m : Int) := ⟨r.toNat, by omega⟩
    subst em
    refine ⟨_, rfl, by show -(2 ^ 62 : Int) ≤ (m : Int); omega, by show (m : Int) < 2 ^ 62; omega, ?_⟩
    rw [Int.toNat_natCast]
    refine for_range (lo := 0) (n := m) (fun i σ Hz => ∃ (y4 y5 y6 y7 : Option V) (b' : Nat) (ps : List (Addr × Wl)), σ = [some (.ref d), some (.ref na), some (.ref ll), some (.ref kn), y4, y5, y6, y7, none] ∧ Fd H Hz d l b' xs ∧ b' ≤ a + 1 + 12 * i ∧ Hz kn = some (.lst (known.map V.str)) ∧ Wls K Hz ll ps ∧ ps.length ≤ i)
      ⟨none, none, none, none, _, [], rfl, X3, by omega, X2.f.keepL b1 ekn0, ⟨X2.f.keepL b1 ell0, fun p h => by cases h⟩, Nat.le_refl _⟩ ?_ ?_
    · rintro i σ Hz hi ⟨y4, y5, y6, y7, b', ps, rfl, X, lb, ek, hW, hl⟩
      refine ⟨_, rfl, d, l, _, xs, 5, rfl, X.f, by omega, by decide, fun r2 H2 q0 q1 b2 f2 => ⟨_, _, rfl, rfl, ?_⟩⟩
      have Y1 := X.take b2 f2
      obtain ⟨tn, etn⟩ : ∃ tn : Nat, (1 : Int) + r2 = (tn : Int) := ⟨((1 : Int) + r2).toNat, by omega⟩
      refine ⟨_, rfl, by show -(2 ^ 62 : Int) ≤ 1 + r2; omega, by show (1 + r2 : Int) < 2 ^ 62; omega, fun Dn nD => ?_⟩
      rw [etn, Int.toNat_natCast]
      have ek2 := X.f.keepL b2 ek
      have Z0 : Fd H2 H2 d l (b' + 1) xs := ⟨fun b o h _ => h, f2⟩
      have Dl : Dn ≠ l := fun e => by rw [e, f2.hl] at nD; cases nD
      have knD : kn ≠ Dn := ne_of_none ek2 nD
      refine lc_it walk_range (fun j Hw => ∃ ts : List Str, Fd H2 Hw d l (b' + 1 + j) xs ∧ Hw Dn = some (.lst (ts.map V.str)) ∧ ts.length = j ∧ ∀ t ∈ ts, nmK t)
        ⟨[], Z0.go (same_upd nD), upd_same, rfl, fun t h => by cases h⟩ (fun _ _ _ _ => trivial) ?_ ?_
      · rintro j v Hw H' hj ⟨ts, Z, eD, lt, ht⟩ ⟨rfl, rfl⟩
        have ekw : H' kn = some (.lst (known.map V.str)) := Z.b _ _ ek2 (ne_of ek2 f2.hd (by intro z; cases z))
        refine ⟨rfl, _, rfl, _, rfl, _, rfl, kn, _, rfl, .inl (SqL.of ekw), d, l, _, xs, _, rfl, Z.f, by omega, (by rw [List.length_map, klen]; omega), fun r3 H3 z0 z1 b3 f3 => ?_⟩
        rw [List.length_map] at z1
        obtain ⟨tv, htv, hat⟩ := pick_str (ns := known) z0 z1
        have ekw3 := Z.f.keepL b3 ekw
        refine ⟨kn, _, _, _, rfl, rfl, SqL.of ekw3, hat, _, Z.f.keepL b3 eD, ?_, ts ++ [tv], ?_, ?_, ?_, ?_⟩
        · rw [List.length_map]
          exact small1000 (by omega)
        · have := (Z.take b3 f3).put (o := .lst (ts.map V.str ++ [.str tv])) nD (Z.f.keepL b3 eD) Dl
          rw [show b' + 1 + (j + 1) = b' + 1 + j + 1 by omega]
          exact this
        · rw [upd_same, List.map_append]
          rfl
        · rw [List.length_append, lt]
          rfl
        · intro t h
          rcases List.mem_append.mp h with m | m
          · exact ht t m
          · rw [List.mem_singleton.mp m]
            exact kok tv htv
      · rintro Hw ⟨ts, Z, eD, lt, ht⟩
        refine ⟨Dn, _, rfl, .inl ⟨SqL.of eD, fun tk ntk => ?_⟩⟩
        -- what stood at the turn's start stands behind the takers
        have Yw : Fd H Hw d l (b' + 1 + tn) xs := ⟨fun b o h n => Z.b b o (Y1.b b o h n) n, Z.f⟩
        have ekw : Hw kn = some (.lst (known.map V.str)) := Z.b _ _ ek2 (ne_of ek2 f2.hd (by intro z; cases z))
        have hW2 : Wls K Hw ll ps := by
          have h2 := hW.but X.f b2
          refine ⟨Z.b _ _ h2.el (ne_of h2.el f2.hd (by intro z; cases z)), fun p hp => ⟨wl_move (fun q xs h => ?_) (h2.at' p hp).1, (h2.at' p hp).2⟩⟩
          exact sq_but f2 Z.b h
        have Y2 := Yw.go (same_upd ntk (o := .tup (ts.map V.str)))
        refine ⟨_, rfl, d, l, _, xs, 6, rfl, Y2.f, by omega, by decide, fun num H4 n0 n1 b4 f4 => ?_⟩
        have Y3 := Y2.take b4 f4
        refine ⟨_, rfl, d, l, _, xs, 10, rfl, Y3.f, by omega, by decide, fun pk H5 p0 p1 b5 f5 => ?_⟩
        have Y4 := Y3.take b5 f5
        have ek5 : H5 kn = some (.lst (known.map V.str)) := Y3.f.keepL b5 (Y2.f.keepL b4 ((same_upd ntk) _ _ ekw))
        have hW5 : Wls K H5 ll ps := ((hW2.same (same_upd ntk)).but Y2.f b4).but Y3.f b5
        have tk5 : H5 tk = some (.tup (ts.map V.str)) := Y3.f.keep b5 (Y2.f.keep b4 upd_same)
        have tsn : ts ≠ [] := fun e => by rw [e] at lt; have : tn = 0 := lt.symm; omega
        have hts : ts ≠ [] ∧ ts.length ≤ 5 ∧ ∀ t ∈ ts, nmK t := ⟨tsn, by omega, ht⟩
        have vts {Hq : Hp} (h : Hq tk = some (.tup (ts.map V.str))) : VsIt K Hq (.ref tk) (some (ts.map V.str)) := ⟨tk, rfl, SqT.of h, fun x hx => by
          obtain ⟨t, h1, rfl⟩ := List.mem_map.mp hx
          exact okw (by have := nm_len (ht t h1).1; omega), by rw [List.length_map]; omega⟩
        have lsz : (ps.map fun p => V.ref p.1).length < sizeLine := by
          rw [List.length_map]
          exact small1000 (by omega)
        -- one more line
        have fin {Hq : Hp} {c' : Nat} {q : Addr} {wl : Wl} (Xq : Fd H Hq d l c' xs) (lc : c' ≤ a + 1 + 12 * (i + 1)) (ekq : Hq kn = some (.lst (known.map V.str))) (hq : Wls K Hq ll ps) (a1 : LnAt K Hq q wl.ln) (g1 : WlD wl) :
            ∃ (y4 y5 y6 y7 : Option V) (b' : Nat) (ps' : List (Addr × Wl)), ([some (.ref d), some (.ref na), some (.ref ll), some (.ref kn), some (.int (0 + (i : Int))), some (.ref tk), some (.int num), some (.int pk), none] : List (Option V)) = [some (.ref d), some (.ref na), some (.ref ll), some (.ref kn), y4, y5, y6, y7, none] ∧ Fd H (upd Hq ll (.lst (ps.map (fun p => V.ref p.1) ++ [.ref q]))) d l b' xs ∧ b' ≤ a + 1 + 12 * (i + 1) ∧ (upd Hq ll (.lst (ps.map (fun p => V.ref p.1) ++ [.ref q]))) kn = some (.lst (known.map V.str)) ∧ Wls K (upd Hq ll (.lst (ps.map (fun p => V.ref p.1) ++ [.ref q]))) ll ps' ∧ ps'.length ≤ i + 1 := by
          refine ⟨_, _, _, _, c', ps ++ [(q, wl)], rfl, Xq.put nll hq.el lll, lc, ?_, hq.push a1 g1, ?_⟩
          · rw [upd_ne kll]
            exact ekq
          · rw [List.length_append]
            exact Nat.succ_le_succ hl
        refine ⟨_, rfl, _, _, rfl, rfl, _, rfl, ite2 (fun c1 => ?_) (fun c1 => ?_)⟩
        · refine ⟨_, rfl, .inl ⟨rfl, _, SqL.of hW5.el⟩, _, rfl, (by show 4 ≤ sizeLine; decide), fun L4 nL4 => ⟨_, rfl, d, l, _, xs, 4, rfl, (Y4.go (same_upd nL4 (o := .lst (fourT.map V.str)))).f, by omega, by decide, fun r6 H6 x0 x1 b6 f6 => ?_⟩⟩
          have W1 := Y4.go (same_upd nL4 (o := .lst (fourT.map V.str)))
          obtain ⟨z, hz, hat⟩ := pick_str (ns := fourT) x0 (by show r6 < 4; exact x1)
          have hW6 := (hW5.same (same_upd nL4 (o := .lst (fourT.map V.str)))).but W1.f b6
          have ek6 := W1.f.keepL b6 ((same_upd nL4) _ _ ek5)
          have tk6 := W1.f.keep b6 ((same_upd nL4) _ _ tk5)
          refine ⟨L4, _, _, _, rfl, rfl, SqL.of (W1.f.keepL b6 upd_same), hat, _, rfl, (by show 4 ≤ sizeLine; decide), fun T1 nT => ?_⟩
          have s7 := same_upd nT (o := .tup [.str "thing", .int num, .str z, .ref tk])
          have hz12 : OkV (.str z) := okw (by
            have all : ∀ x ∈ fourT, x.length ≤ 1000 := by decide +kernel
            exact all z hz)
          exact ⟨ll, _, _, rfl, rfl, (hW6.same s7).el, lsz, fin (wl := .gift "thing" num (.str z) ts) ((W1.take b6 f6).go s7) (by omega) (s7 _ _ ek6) (hW6.same s7) ⟨.ref tk, SqT.of upd_same, okw (by decide +kernel), oki _, hz12, vts (s7 _ _ tk6)⟩ ⟨⟨n0, n1⟩, hts, .inl ⟨rfl, z, hz, rfl⟩⟩⟩
        · refine ⟨_, rfl, _, _, rfl, rfl, _, rfl, ite2 (fun c2 => ?_) (fun c2 => ?_)⟩
          · refine ⟨_, rfl, .inl ⟨rfl, _, SqL.of hW5.el⟩, _, rfl, _, rfl, d, l, _, xs, 300, rfl, Y4.f, by omega, by decide, fun r6 H6 x0 x1 b6 f6 => ⟨_, rfl, (by show 4 ≤ sizeLine; decide), fun T1 nT => ?_⟩⟩
            have hW6 := hW5.but Y4.f b6
            have s7 := same_upd nT (o := .tup [.str "sum", .int num, .int r6, .ref tk])
            exact ⟨ll, _, _, rfl, rfl, (hW6.same s7).el, lsz, fin (wl := .gift "sum" num (.int r6) ts) ((Y4.take b6 f6).go s7) (by omega) (s7 _ _ (Y4.f.keepL b6 ek5)) (hW6.same s7) ⟨.ref tk, SqT.of upd_same, okw (by decide +kernel), oki _, oki _, vts (s7 _ _ (Y4.f.keep b6 tk5))⟩ ⟨⟨n0, n1⟩, hts, .inr (.inl ⟨rfl, r6, rfl, x0, x1⟩)⟩⟩
          · refine ⟨_, rfl, _, _, rfl, rfl, _, rfl, ite2 (fun c3 => ?_) (fun c3 => ?_)⟩
            · refine ⟨_, rfl, .inl ⟨rfl, _, SqL.of hW5.el⟩, _, rfl, _, rfl, d, l, _, xs, 5, rfl, Y4.f, by omega, by decide, fun r6 H6 x0 x1 b6 f6 => ⟨_, _, rfl, rfl, _, rfl, (by show 4 ≤ sizeLine; decide), fun T1 nT => ?_⟩⟩
              have hW6 := hW5.but Y4.f b6
              have s7 := same_upd nT (o := .tup [.str "rest", .int num, .int (1 + r6), .ref tk])
              exact ⟨ll, _, _, rfl, rfl, (hW6.same s7).el, lsz, fin (wl := .gift "rest" num (.int (1 + r6)) ts) ((Y4.take b6 f6).go s7) (by omega) (s7 _ _ (Y4.f.keepL b6 ek5)) (hW6.same s7) ⟨.ref tk, SqT.of upd_same, okw (by decide +kernel), oki _, oki _, vts (s7 _ _ (Y4.f.keep b6 tk5))⟩ ⟨⟨n0, n1⟩, hts, .inr (.inr ⟨rfl, 1 + r6, rfl, by omega, by omega⟩)⟩⟩
            · refine ⟨_, rfl, rfl, _, rfl, ite2 (fun c4 => ?_) (fun c4 => ?_)⟩
              · refine ⟨_, rfl, .inl ⟨rfl, _, SqL.of hW5.el⟩, _, rfl, (by show 2 ≤ sizeLine; decide), fun T1 nT => ?_⟩
                have s7 := same_upd nT (o := .tup [.str "revoke", .int num])
                exact ⟨ll, _, _, rfl, rfl, (hW5.same s7).el, lsz, fin (wl := .rev num) (Y4.go s7) (by omega) (s7 _ _ ek5) (hW5.same s7) ⟨SqT.of upd_same, okw (by decide +kernel), oki _⟩ ⟨n0, n1⟩⟩
              · refine ⟨_, rfl, d, l, _, xs, 4, rfl, Y4.f, by omega, by decide, fun r6 H6 x0 x1 b6 f6 => ⟨rfl, _, rfl, ite2 (fun c5 => ?_) (fun c5 => ?_)⟩⟩
                · have hW6 := hW5.but Y4.f b6
                  refine ⟨_, rfl, .inl ⟨rfl, _, SqL.of hW6.el⟩, (by show 1 ≤ sizeLine; decide), fun T1 nT => ?_⟩
                  have s7 := same_upd nT (o := .tup [.str "revoke"])
                  exact ⟨ll, _, _, rfl, rfl, (hW6.same s7).el, lsz, fin (wl := .all) ((Y4.take b6 f6).go s7) (by omega) (s7 _ _ (Y4.f.keepL b6 ek5)) (hW6.same s7) ⟨SqT.of upd_same, okw (by decide +kernel)⟩ trivial⟩
                · exact ⟨_, _, _, _, _, ps, rfl, Y4.take b6 f6, by omega, Y4.f.keepL b6 ek5, hW5.but Y4.f b6, by omega⟩
    · rintro σ Hz ⟨y4, y5, y6, y7, b', ps, rfl, X, lb, ek, hW, hl⟩
      exact ⟨_, rfl, go ll Hz ps b' X (by omega) nll hW (by omega)⟩
end
end ZK
namespace ZK
open PySem L2 PyProof.Rows PySem.Spec G
theorem nm_ok {x : Str} (h : isNm x = true) : PyData.strOk x = true := by
  unfold isNm at h
  rw [Bool.and_eq_true, Bool.and_eq_true] at h
  have h2 := h.2
  rw [List.all_eq_true] at h2
  show x.cps.all (· < 0x110000) = true
  rw [← Array.all_toList, List.all_eq_true]
  intro c hc
  have m := of_decide_eq_true (h2 c hc)
  have all : ∀ c ∈ signs.cps.toList, c < 0x110000 := by decide +kernel
  exact decide_eq_true (all c m)
/-- a line as data -/
def xD : V → PyData
  | .int i => .int i
  | .str x => .str x
  | _ => .none
def wdat : Wl → PyData
  | .gift w n x ts => .tuple [.str w, .int n, xD x, .tuple (ts.map PyData.str)]
  | .rev n => .tuple [.str "revoke", .int n]
  | .all => .tuple [.str "revoke"]
theorem dp_strsT {K : PySem.W.Frag} {H : Hp} : ∀ (zs : List Str), DpAll K H (zs.map V.str) (zs.map PyData.str)
  | [] => .nil
  | z :: zs => .cons (.str z) (dp_strsT zs)
theorem dp_wl {K : PySem.W.Frag} {H : Hp} {q : Addr} {w : Wl} (h : LnAt K H q w.ln) (g : WlD w) : Dp K H (.ref q) (wdat w) := by
  cases w with
  | gift w n x ts =>
    obtain ⟨t, h1, h2, h3, h4, q', rfl, h5, h6⟩ := h
    have hx : Dp K H x (xD x) := by
      rcases g.2.2 with ⟨_, z, _, rfl⟩ | ⟨_, i, rfl, _⟩ | ⟨_, i, rfl, _⟩
      · exact .str _
      · exact .int _
      · exact .int _
    exact .tup h1 (.cons (.str _) (.cons (.int _) (.cons hx (.cons (.tup h5 (dp_strsT ts)) .nil))))
  | rev n => exact .tup h.1 (.cons (.str _) (.cons (.int _) .nil))
  | all => exact .tup h.1 (.cons (.str _) .nil)
theorem lay_strs : ∀ {zs : List Str}, (∀ z ∈ zs, PyData.strOk z = true) → PyData.canLayAll0 (zs.map PyData.str) = true
  | [], _ => rfl
  | z :: zs, h => by
    show (PyData.canLay0 (.str z) && PyData.canLayAll0 (zs.map PyData.str)) = true
    rw [lay_strs fun y hy => h y (List.mem_cons_of_mem _ hy), Bool.and_true]
    show PyData.strOk z = true
    exact h z List.mem_cons_self
theorem dep_strs : ∀ (zs : List Str), PyData.depthAll (zs.map PyData.str) = 0
  | [] => rfl
  | z :: zs => by
    show max 0 (PyData.depthAll (zs.map PyData.str)) = 0
    rw [dep_strs zs]
    rfl
theorem four_ok : ∀ z ∈ fourT, PyData.strOk z = true := by decide +kernel
theorem lay_wl {w : Wl} (g : WlD w) : PyData.canLay0 (wdat w) = true ∧ PyData.depth (wdat w) ≤ 2 := by
  cases w with
  | gift w n x ts =>
    have hx : PyData.canLay0 (xD x) = true ∧ PyData.depth (xD x) = 0 := by
      rcases g.2.2 with ⟨_, z, hz, rfl⟩ | ⟨_, i, rfl, _⟩ | ⟨_, i, rfl, _⟩
      · exact ⟨four_ok z hz, rfl⟩
      · exact ⟨rfl, rfl⟩
      · exact ⟨rfl, rfl⟩
    have hw : PyData.strOk w = true := by
      rcases g.2.2 with ⟨rfl, _⟩ | ⟨rfl, _⟩ | ⟨rfl, _⟩ <;> decide +kernel
    have ht := lay_strs fun z hz => nm_ok (g.2.1.2.2 z hz).1
    have hd := dep_strs ts
    constructor
    · show (PyData.canLay0 (.str w) && (PyData.canLay0 (.int n) && (PyData.canLay0 (xD x) && (PyData.canLay0 (.tuple (ts.map PyData.str)) && PyData.canLayAll0 [])))) = true
      rw [show PyData.canLay0 (.str w) = true from hw, hx.1, show PyData.canLay0 (.tuple (ts.map PyData.str)) = true from ht]
      rfl
    · simp only [wdat, PyData.depth, PyData.depthAll, hx.2, hd]
      omega
  | rev n => exact ⟨by show (PyData.strOk ("revoke" : Str) && true) = true; decide +kernel, by simp [wdat, PyData.depth, PyData.depthAll]⟩
  | all => exact ⟨by show (PyData.strOk ("revoke" : Str) && true) = true; decide +kernel, by simp [wdat, PyData.depth, PyData.depthAll]⟩
theorem sha_wl {w : Wl} (g : WlD w) : SeqAt.shaped (wdat w) = true := by
  obtain ⟨a, b⟩ := lay_wl g
  unfold SeqAt.shaped
  rw [a, decide_eq_true (by omega)]
  rfl
def isA : Wl → Bool
  | .all => true
  | _ => false
theorem eqv_all {w : Wl} (g : WlD w) : PyData.eqv (wdat w) (.tuple [.str "revoke"]) = isA w := by
  cases w with
  | gift w n x ts =>
    have ne : (w == ("revoke" : Str)) = false := by
      rcases g.2.2 with ⟨rfl, _⟩ | ⟨rfl, _⟩ | ⟨rfl, _⟩ <;> decide +kernel
    show ((w == ("revoke" : Str)) && _) = false
    rw [ne]
    rfl
  | rev n =>
    show (("revoke" == ("revoke" : Str)) && false) = false
    rw [Bool.and_false]
  | all =>
    show (("revoke" == ("revoke" : Str)) && true) = true
    decide +kernel
theorem stp_all {acc : List (Addr × Wl)} {q : Addr} {w : Wl} (h : isA w = true) : stp acc (q, w) = [] := by
  cases w with
  | all =>
    unfold stp
    have e : acc.filter (fun g => !tak .all g.2) = [] := List.filter_eq_nil_iff.mpr fun g _ => by
      show ¬ (!true) = true
      decide
    rw [show (fun g : Addr × Wl => !tak (q, Wl.all).2 g.2) = fun g => !tak .all g.2 from rfl, e]
    rfl
  | gift w n x ts => cases h
  | rev n => cases h
section
variable {P : Program} {w : World} {K : PySem.W.Frag} {mg : Str → Option Value} {base : Heap}
def spLst (K : PySem.W.Frag) : Sp := fun vs H Q _ => ∃ (ll : Addr) (ps : List (Addr × Wl)), vs = [.ref ll] ∧ Wls K H ll ps ∧ ps.length ≤ 60 ∧ ∀ l H', Same H H' → H l = none → H' l = some (.lst ((stn ps).map fun p => .ref p.1)) → Q (.ref l) H'
abbrev nLst : List Str := ["will", "found", "line", "one"]
theorem scLst : FnScope nLst ["will"] (defScope sLst) := ⟨rfl, rfl, rfl, by decide +kernel, rfl, by decide +kernel, by decide +kernel⟩
theorem ok_lst {f : Addr} {fd : FuncData} (F : Fun K "_law_standing" "_law_standing" sLst f fd)  : FnOk P w K mg base CX0 1 f fd ["will"] (spLst K) := by
  refine F.ok scLst (fun vs H Q E h => ?_) (fun cdv A outer s H vs Q E hr h => ?_)
  · obtain ⟨ll, ps, rfl, _⟩ := h
    rfl
  · obtain ⟨ll, ps, rfl, hW, hz, go⟩ := h
    have hu : (A.deeper (envOfC "_law_standing" (defScope sLst) s.heap.objs.size f cdv)).units + 64 < cLine := by have := hr.un; omega
    refine ⟨_, (pss_cons (ps_set (i := 1) scLst.nd rfl (.inl rfl) (pe_lst pa_nil))
      (pss_cons (ps_for PassesOwn.never rfl (pi_list (pv 0)) (pg_name (i := 2) scLst.nd rfl (.inr rfl)) (pss_one (ps_if (pt_cmpR (op_eqD hu) (pv 2) (pe_tup (pa_cons pe_str pa_nil)) (nomark _)) (pss_one (ps_set (i := 1) scLst.nd rfl (.inl rfl) (pe_lst pa_nil))) (pss_cons (ps_setLc (i := 1) (own := [("one", 3)]) (g := gName 3) rfl scLst.nd rfl rfl (sw_true rfl rfl rfl (by decide +kernel)) (pi_list (pv 1)) (blkOk_by (N := nLst) (sc := defScope sLst) (by decide +kernel)) (fun _ _ _ _ _ => (pg_name (i := 3) scLst.nd rfl (.inl rfl) (.inr rfl))) (fun _ _ _ _ _ => pts_one (pt_cmpR op_ne (pe_ix (show IxR _ (rIxT K) from ix_tup) (pv 3) pe_int (fun _ _ => rfl)) (pe_ix (show IxR _ (rIxT K) from ix_tup) (pv 2) pe_int (fun _ _ => rfl)) (nomark _))) (fun _ _ _ _ _ => (pv 3)))
      (pss_one (ps_if (pt_cmpR op_ne (pe_ix ix_tup (pv 2) pe_int (fun _ _ => rfl)) pe_str (nomark _)) (pss_one (ps_expr (pe_bm PySem.F.plainAttrs_list PySem.F.slot_list_append PySem.F.type_list_append mt_append (pv 1) (pa_cons (pv 2) pa_nil)))) pss_nil))))))
      (pss_one (ps_ret (pv 1))))), ?_⟩
    refine ⟨Nat.zero_le _, fun G0 nG0 => ?_⟩
    refine ⟨_, rfl, ll, rfl, ⟨_, SqL.of ((same_upd nG0) _ _ hW.el)⟩, for_it (walk_list (xs := ps.map fun p => V.ref p.1)) (fun i σ Hy => ∃ (y2 : Option V) (gA : Addr), σ = [some (.ref ll), some (.ref gA), y2, none] ∧ Same H Hy ∧ H gA = none ∧ Hy gA = some (.lst ((stn (ps.take i)).map fun p => .ref p.1)))
      ⟨none, G0, rfl, same_upd nG0, nG0, upd_same⟩ (fun i σ Hy _ ⟨_, _, _, k, _⟩ => SqL.of (k _ _ hW.el)) ?_ ?_⟩
    · rintro i v σ Hy H' hi ⟨y2, gA, rfl, sy, nG, eG⟩ ⟨rfl, ev⟩
      rw [List.getElem?_map] at ev
      obtain ⟨⟨q, l⟩, hq, rfl⟩ := Option.map_eq_some_iff.mp ev
      have stE : stn (ps.take (i + 1)) = stp (stn (ps.take i)) (q, l) := by
        rw [List.take_add_one, hq]
        exact stn_snoc _ _
      obtain ⟨a1, g1⟩ := hW.at' _ (List.mem_of_getElem? hq)
      have a1 := wl_move (fun q xs => sameT sy) a1
      have lt : (stn (ps.take i)).length ≤ 60 := by
        have := stn_len (ps.take i)
        rw [List.length_take] at this
        omega
      refine ⟨_, rfl, (by show 1 ≤ sizeLine; decide), fun R1 nR1 => ⟨_, _, dp_wl (wl_move (fun q xs => sameT (same_upd nR1)) a1) g1, .tup (SqT.of upd_same) (.cons (.str _) .nil), sha_wl g1, by decide +kernel, _, rfl, ?_⟩⟩
      rw [eqv_all g1]
      have sR := same_upd nR1 (o := .tup [.str "revoke"])
      have sy1 := sy.trans sR
      cases ea : isA l with
      | true =>
        refine iteT ⟨Nat.zero_le _, fun G2 nG2 => ⟨_, G2, rfl, sy1.trans (same_upd nG2), sy1.free nG2, ?_⟩⟩
        rw [stE, stp_all ea]
        exact upd_same
      | false =>
        obtain ⟨ls, z, hls, hl0, hrv, hl1⟩ := ln_seq (wl_move (fun q xs => sameT sR) a1) g1.ok
        have hna : l ≠ .all := fun e => by rw [e] at ea; cases ea
        obtain ⟨hn1, hnum⟩ : ls.length ≠ 1 ∧ ls[1]? = some (.int l.num) := by
          rcases hl1 with ⟨e, _⟩ | ⟨_, x, y⟩
          · exact absurd e hna
          · exact ⟨x, y⟩
        have eG2 := sR _ _ eG
        generalize upd H' R1 (.tup [.str "revoke"]) = H2 at sR sy1 eG2 hls ⊢
        refine iteF ⟨_, rfl, gA, rfl, ⟨_, SqL.of eG2⟩, fun D nD => lc_it (walk_list (xs := (stn (ps.take i)).map fun p => V.ref p.1)) (fun j Hz => Same H2 Hz ∧ Hz D = some (.lst ((((stn (ps.take i)).take j).filter fun g => !tak l g.2).map fun p => .ref p.1))) ⟨same_upd nD, upd_same⟩ (fun j Hz _ h => SqL.of (h.1 _ _ eG2)) ?_ ?_⟩
        · rintro j gv Hz Hz' hj ⟨k1, k2⟩ ⟨rfl, eg⟩
          rw [List.getElem?_map] at eg
          obtain ⟨⟨gq, gl⟩, hg, rfl⟩ := Option.map_eq_some_iff.mp eg
          have gm := stn_mem (List.mem_of_getElem? hg)
          obtain ⟨b1, gg1⟩ := hW.at' _ (List.mem_of_mem_take gm.1)
          obtain ⟨gs, z', hgs, _, _, hg1⟩ := ln_seq (wl_move (fun q xs => sameT (sy1.trans k1)) b1) gg1.ok
          have hgi : gs[1]? = some (.int gl.num) := by
            rcases hg1 with ⟨ea', _⟩ | ⟨_, _, h⟩
            · have := gm.2
              rw [show gl = .all from ea'] at this
              cases this
            · exact h
          have step : ((stn (ps.take i)).take (j + 1)).filter (fun g => !tak l g.2) = ((stn (ps.take i)).take j).filter (fun g => !tak l g.2) ++ if (!tak l gl) = true then [(gq, gl)] else [] := by
            rw [List.take_add_one, hg, List.filter_append]
            congr 1
            show List.filter _ [(gq, gl)] = _
            rw [List.filter_cons, List.filter_nil]
          refine ⟨rfl, _, rfl, gq, gs, 1, _, rfl, rfl, hgs, atI_nat (j := 1) hgi, _, rfl, q, ls, 1, _, rfl, rfl, sameT k1 hls, atI_nat (j := 1) hnum, rfl, _, rfl, ?_⟩
          have en : (!decide (V.int gl.num = V.int l.num)) = !tak l gl := by
            rw [tak_num hna]
            congr 1
            exact decide_eq_decide.mpr ⟨fun e => (V.int.inj e).symm, fun e => congrArg V.int e.symm⟩
          rw [en]
          cases eb : tak l gl with
          | true =>
            rw [eb, show (if (!true) = true then [(gq, gl)] else []) = ([] : List (Addr × Wl)) from if_neg (by decide), List.append_nil] at step
            refine iteF ⟨k1, ?_⟩
            rw [step]
            exact k2
          | false =>
            rw [eb, show (if (!false) = true then [(gq, gl)] else []) = [(gq, gl)] from if_pos rfl] at step
            refine iteT ⟨_, rfl, _, k2, ?_, fun b o hb => ?_, ?_⟩
            · rw [List.length_map]
              have h1 := List.length_filter_le (fun g : Addr × Wl => !tak l g.2) ((stn (ps.take i)).take j)
              rw [List.length_take] at h1
              exact small1000 (by omega)
            · rw [upd_ne (ne_of_none hb nD)]
              exact k1 b o hb
            · rw [upd_same, step, List.map_append]
              rfl
        · rintro H3 ⟨k1, k2⟩
          rw [List.length_map, List.take_length] at k2
          refine ⟨_, rfl, q, ls, 0, .str z, rfl, rfl, sameT k1 hls, atI_nat (j := 0) hl0, rfl, _, rfl, ?_⟩
          rw [hrv]
          have stE2 : stn (ps.take (i + 1)) = (stn (ps.take i)).filter (fun g => !tak l g.2) ++ if isG l then [(q, l)] else [] := stE
          cases eg : isG l with
          | false =>
            rw [eg, show (if false = true then [(q, l)] else []) = ([] : List (Addr × Wl)) from if_neg (by decide), List.append_nil] at stE2
            refine iteF ⟨_, D, rfl, sy1.trans k1, sy1.free nD, ?_⟩
            rw [stE2]
            exact k2
          | true =>
            rw [eg, show (if true = true then [(q, l)] else []) = [(q, l)] from if_pos rfl] at stE2
            refine iteT ⟨_, rfl, .inl ⟨rfl, _, SqL.of k2⟩, _, rfl, D, _, _, rfl, rfl, k2, ?_, _, D, rfl, fun b o hb => ?_, sy1.free nD, ?_⟩
            · rw [List.length_map]
              have h1 := List.length_filter_le (fun g : Addr × Wl => !tak l g.2) (stn (ps.take i))
              exact small1000 (by omega)
            · rw [upd_ne (ne_of_none (sy1 b o hb) nD)]
              exact (sy1.trans k1) b o hb
            · rw [upd_same, stE2, List.map_append]
              rfl
    · rintro σ Hy ⟨y2, gA, rfl, sy, nG, eG⟩
      rw [List.length_map, List.take_length] at eG
      exact ⟨_, rfl, go gA Hy sy nG eG⟩
end
end ZK
namespace ZK
open PySem L2 PyProof.Rows PySem.Spec G
theorem upt_ok {i m : Int} (h0 : 0 ≤ i) (h1 : i ≤ m) (h2 : i ≤ 1000000000) : uptV (.int i) m = true := by
  show (amtV (.int i) && decide (i ≤ m)) = true
  rw [amt_ok ⟨h0, h2⟩, decide_eq_true h1]
  rfl
theorem rulOut_ok {dv mv : V} {r : Int} {o : Option (List (Option (List V)))} (h : uptV dv 1000 = true) (g : modeB mv = true) (k : uptV (.int r) 3 = true) (p : partsB o (r + 1) = true) : rulOut dv mv (.int r) o = none := by
  unfold rulOut
  rw [if_neg (by rw [h]; decide), if_neg (by rw [g]; decide), if_neg (by rw [k]; decide)]
  show (if partsB o (r + 1) = false then some ("spouse" : Str) else none) = _
  rw [if_neg (by rw [p]; decide)]
theorem six_part : ∀ p ∈ six, partV (pc p) = true := by decide +kernel
theorem RulD.u {days : Int} {md : Str} {ps : List (Int × Int)} {rows : Int} (R : RulD days md ps rows) : uptV (.int days) 1000 = true ∧ modeB (.str md) = true ∧ uptV (.int rows) 3 = true := by
  refine ⟨upt_ok R.d0 (by have := R.d1; omega) (by have := R.d1; omega), ?_, upt_ok R.r0 R.r1 (by have := R.r1; omega)⟩
  rcases R.m with e | e
  · rw [e]
    decide +kernel
  · rw [e]
    decide +kernel
def posO (ps : List (Int × Int)) : List (Option (List V)) := ps.map fun p => some (pc p)
theorem pos_some (ps : List (Int × Int)) : (posO ps).all (·.isSome) = true := by
  unfold posO
  rw [List.all_map]
  exact List.all_eq_true.mpr fun p _ => rfl
theorem parts_it {K : PySem.W.Frag} {H : Hp} {qs : List Addr} {ps : List (Int × Int)} (hT : TupsAt H qs (ps.map pc)) (h6 : ∀ q ∈ ps, q ∈ six) : (posO ps).length = (qs.map V.ref).length ∧ ∀ (i : Nat) (x : V) (o : Option (List V)), (qs.map V.ref)[i]? = some x → (posO ps)[i]? = some o → ItB K partV H x o := by
  refine ⟨by have := hT.1; rw [List.length_map] at this; unfold posO; rw [List.length_map, List.length_map, this], fun i x o h1 h2 => ?_⟩
  rw [List.getElem?_map] at h1
  unfold posO at h2
  rw [List.getElem?_map] at h2
  obtain ⟨q, hq, rfl⟩ := Option.map_eq_some_iff.mp h1
  obtain ⟨p, hp, rfl⟩ := Option.map_eq_some_iff.mp h2
  refine ⟨q, rfl, SqT.of (hT.2 i q (pc p) hq (by rw [List.getElem?_map, hp]; rfl)), fun y hy => ?_, six_part p (h6 p (List.mem_of_getElem? hp))⟩
  simp only [pc, List.mem_cons, List.not_mem_nil, or_false] at hy
  rcases hy with rfl | rfl
  · exact oki _
  · exact oki _
theorem made {H : Hp} {p dx C : Addr} (np : H p = none) (nd : H dx = none) (ne : dx ≠ p) : Same H (upd (upd H dx (.own p)) p (.ins C dx [])) := (same_upd nd).trans (same_upd (by rw [upd_ne (Ne.symm ne)]; exact np))
theorem madeK {H H' : Hp} {p dx C : Addr} (np : H p = none) (nd : H dx = none) (ne : dx ≠ p) (k : Kp p (upd (upd H dx (.own p)) p (.ins C dx [])) H') : Same H H' := fun b o hb => k b o (made np nd ne b o hb) (ne_of_none hb np)
abbrev kwR (aS : Addr) : List (Str × V) := [("days", .int 0), ("mode", .str "stocks"), ("spouse", .ref aS), ("rows", .int 3), ("steps_in", .bl true)]
abbrev psR : List Str := ["self", "days", "mode", "spouse", "rows", "steps_in"]
theorem kb5 {K : PySem.W.Frag} {f : Addr} {fd : FuncData} {aS : Addr} (F : FunD K "__init__" "Rules.__init__" (defArgs sBokI) (defBody sBokI) (defScope sBokI) [] (kwR aS) f fd) : ∃ mv : List Value, KBn K fd psR 1 ["days", "mode", "spouse", "rows", "steps_in"] (fun us ws => us ++ ws) (fun vs zs => vs ++ zs) :=
  F.kbinds0 1 ["days", "mode", "spouse", "rows", "steps_in"] [] (fun us mv ws => us ++ ws) (by intro h; cases h) (fun q h => by cases h) (fun r1 _ r3 => r1.append r3) (fun D doc pm an cdv ct us mv ws h1 h2 h3 =>
    match us, mv, ws, h1, h2, h3 with
    | [u], [], [a, b, c, d, e], _, _, _ => rfl)
end ZK
namespace ZF
open PySem L2 PyProof.Rows PySem.Spec G
abbrev sCasI : Stmt := inClass (topS 66) 0
abbrev sCsv : Stmt := inClass (topS 66) 1
abbrev sCsp : Stmt := inClass (topS 66) 2
abbrev sNea : Stmt := inClass (topS 66) 3
abbrev sFst : Stmt := inClass (topS 66) 4
structure CT (K : PySem.W.Frag) (C : Addr) : Prop where
  cl : Cls K C
  n1 : NoAttr K C "dead"
  n2 : NoAttr K C "family"
  n3 : NoAttr K C "rules"
  n4 : NoAttr K C "estate"
  n5 : NoAttr K C "gifts"
structure TC (mg : Str → Option Value) : Prop where
  any : mg "any" = none
  len : mg "len" = none
abbrev cfl (dead : Str) (fam bk es gl : Addr) : List (Str × V) := [("dead", .str dead), ("family", .ref fam), ("rules", .ref bk), ("estate", .ref es), ("gifts", .ref gl)]
section
variable (dead : Str) (fam bk es gl : Addr)
theorem lc1 : (cfl dead fam bk es gl).lookup ("dead" : Str) = some (.str dead) := by kernel_rfl
theorem lc2 : (cfl dead fam bk es gl).lookup ("family" : Str) = some (.ref fam) := by kernel_rfl
theorem lc3 : (cfl dead fam bk es gl).lookup ("rules" : Str) = some (.ref bk) := by kernel_rfl
theorem lc5 : (cfl dead fam bk es gl).lookup ("gifts" : Str) = some (.ref gl) := by kernel_rfl
theorem nc1 : (cfl dead fam bk es gl).lookup ("survives" : Str) = none := by kernel_rfl
theorem nc2 : (cfl dead fam bk es gl).lookup ("spouses" : Str) = none := by kernel_rfl
theorem nc3 : (cfl dead fam bk es gl).lookup ("is_near" : Str) = none := by kernel_rfl
theorem nc4 : (cfl dead fam bk es gl).lookup ("first_taker" : Str) = none := by kernel_rfl
end
theorem no_mSp (A : FA) : A.fl.lookup ("spouses" : Str) = none := by kernel_rfl
theorem no_mRe (A : FA) : A.fl.lookup ("reaches" : Str) = none := by kernel_rfl
theorem no_mPa (A : FA) : A.fl.lookup ("parents" : Str) = none := by kernel_rfl
/-- a case of a family, rules, a dead person -/
structure CaseAt (C CB CC : Addr) (H : Hp) (cs fam bk es gl : Addr) (F : Fm) (days : Int) (m dead : Str) (rows : Int) (st : Bool) : Prop where
  ob : ∃ dx, H cs = some (.ins CC dx (cfl dead fam bk es gl))
  ca : Cas C CB H fam bk F days m dead
  rb : ∃ dx s, H bk = some (.ins CB dx (ZK.rfl5 days m rows (.bl st) s))
theorem CaseAt.same {C CB CC : Addr} {H H' : Hp} {cs fam bk es gl : Addr} {F : Fm} {days : Int} {m dead : Str} {rows : Int} {st : Bool} (h : CaseAt C CB CC H cs fam bk es gl F days m dead rows st) (s : Same H H') : CaseAt C CB CC H' cs fam bk es gl F days m dead rows st := by
  obtain ⟨⟨dx, a⟩, b, dy, z, c⟩ := h
  exact ⟨⟨dx, s _ _ a⟩, b.same s, dy, z, s _ _ c⟩
/-- a name near the dead person -/
def Near (F : Fm) (dead x : Str) : Prop := ∃ a ∈ dead :: F.pa dead, Dsc F.ch a x
/-- the first of the takers who survives -/
def ftV (F : Fm) (days : Int) (dead : Str) (ts : List Str) : V := match ts.find? (sv F days dead) with
  | some x => .str x
  | none => .non
section
variable {P : Program} {w : World} {K : PySem.W.Frag} {mg : Str → Option Value} {base : Heap} {C CB CC : Addr}
def spCsv (C CB CC : Addr) : Sp := fun vs H Q _ => ∃ (cs fam bk es gl : Addr) (F : Fm) (days : Int) (m dead x : Str) (rows : Int) (st : Bool), vs = [.ref cs, .str x] ∧ CaseAt C CB CC H cs fam bk es gl F days m dead rows st ∧ Q (.bl (sv F days dead x)) H
abbrev nCsv : List Str := ["self", "name"]
theorem scCsv : FnScope nCsv ["self", "name"] (defScope sCsv) := ⟨rfl, rfl, rfl, by decide +kernel, rfl, by decide +kernel, by decide +kernel⟩
theorem ok_csv {f : Addr} {fd : FuncData} (F : Fun K "survives" "Case.survives" sCsv f fd) (DC : CT K CC) (HS : Has P w K mg base CX0 "survives_rules" ["family", "rules", "dead", "name"] 2 (spSv C CB)) : FnOk P w K mg base CX0 3 f fd ["self", "name"] (spCsv C CB CC) := by
  obtain ⟨fSv, fdSv, mSv, kSv, bSv, GSv⟩ := HS.ok
  refine F.ok scCsv (fun vs H Q E h => ?_) (fun cdv A outer s H vs Q E hr h => ?_)
  · obtain ⟨cs, fam, bk, es, gl, F, days, m, dead, x, rows, st, rfl, _⟩ := h
    rfl
  · obtain ⟨cs, fam, bk, es, gl, F, days, m, dead, x, rows, st, rfl, hC, go⟩ := h
    refine ⟨_, (pss_one (ps_ret (pe_call GSv (hr.mono (by decide)) (by rfl) mSv kSv bSv .nil pass0 (pa_cons (pe_fld (pv 0) rfl) (pa_cons (pe_fld (pv 0) rfl) (pa_cons (pe_fld (pv 0) rfl) (pa_cons (pv 1) pa_nil))))))), ?_⟩
    obtain ⟨⟨dx, hc⟩, ⟨⟨n, hF⟩, ⟨dxb, rw', s', q', hR⟩, ⟨dd, hd⟩, -, -, -⟩, -⟩ := hC
    exact ⟨_, rfl, cs, CC, dx, _, _, rfl, hc, DC.cl, DC.n2, lc2 _ _ _ _ _, _, rfl, cs, CC, dx, _, _, rfl, hc, DC.cl, DC.n3, lc3 _ _ _ _ _, _, rfl, cs, CC, dx, _, _, rfl, hc, DC.cl, DC.n1, lc1 _ _ _ _ _, _, rfl, fam, bk, n, F, dxb, days, m, rw', s', q', dead, x, dd, rfl, hF, hR, hd, go⟩
def spCsp (C CB CC : Addr) : Sp := fun vs H Q _ => ∃ (cs fam bk es gl : Addr) (F : Fm) (days : Int) (m dead : Str) (rows : Int) (st : Bool), vs = [.ref cs] ∧ CaseAt C CB CC H cs fam bk es gl F days m dead rows st ∧ (F.we dead).length ≤ 900 ∧ ∀ l H', Same H H' → H l = none → H' l = some (.lst (((sp F dead).filter (sv F days dead)).map V.str)) → Q (.ref l) H'
abbrev nCsp : List Str := ["self", "name"]
theorem scCsp : FnScope nCsp ["self"] (defScope sCsp) := ⟨rfl, rfl, rfl, by decide +kernel, rfl, by decide +kernel, by decide +kernel⟩
theorem ok_csp {f : Addr} {fd : FuncData} (F : Fun K "spouses" "Case.spouses" sCsp f fd) (D : FT K C) (DC : CT K CC) (HP : HasM P w K mg base CX0 C "spouses" ["self", "name"] 1 (spSpo C)) (HV : HasM P w K mg base CX0 CC "survives" ["self", "name"] 3 (spCsv C CB CC)) : FnOk P w K mg base CX0 4 f fd ["self"] (spCsp C CB CC) := by
  obtain ⟨fSpo, fdSpo, meSpo, bSpo, GSpo⟩ := HP.ok
  obtain ⟨fCsv, fdCsv, meCsv, bCsv, GCsv⟩ := HV.ok
  refine F.ok scCsp (fun vs H Q E h => ?_) (fun cdv A outer s H vs Q E hr h => ?_)
  · obtain ⟨cs, fam, bk, es, gl, F, days, m, dead, rows, st, rfl, _⟩ := h
    rfl
  · obtain ⟨cs, fam, bk, es, gl, F, days, m, dead, rows, st, rfl, hC, hw, go⟩ := h
    refine ⟨_, (pss_one (ps_ret (pe_lc (own := [("name", 1)]) (g := gName 1) rfl scCsp.nd (pi_list (pe_meth (pe_fld (pv 0) rfl) D.cl meSpo GSpo (hr.mono (by decide)) bSpo .nil pass0 (pa_cons (pe_fld (pv 0) rfl) pa_nil))) (blkOk_by (N := nCsp) (sc := defScope sCsp) (by decide +kernel)) (fun _ _ _ _ _ => (pg_name (i := 1) scCsp.nd rfl (.inl rfl) (.inr rfl))) (fun _ _ _ _ _ => pts_one (pt_val (pe_meth (pv 0) DC.cl meCsv GCsv (hr.mono (by decide)) bCsv .nil pass0 (pa_cons (pv 1) pa_nil)))) (fun _ _ _ _ _ => (pv 1))))), ?_⟩
    obtain ⟨⟨dx, hc⟩, ⟨⟨n, hF⟩, -, -, -, -, -⟩, -⟩ := id hC
    obtain ⟨dxF, a1, a2, a3, a4, a5, a6, a7, hp, _⟩ := id hF.ex
    have spl : (sp F dead).length ≤ 900 := Nat.le_trans (List.length_filter_le _ _) hw
    refine ⟨_, rfl, cs, CC, dx, _, _, rfl, hc, DC.cl, DC.n2, lc2 _ _ _ _ _, fam, dxF, _, rfl, hp, no_mSp ⟨a1, a2, a3, a4, a5, a6, a7⟩, _, rfl, cs, CC, dx, _, _, rfl, hc, DC.cl, DC.n1, lc1 _ _ _ _ _, fam, dead, n, F, rfl, hF, hw, fun l H1 s1 nl el => ?_⟩
    refine ⟨l, rfl, ⟨_, SqL.of el⟩, fun D1 nD1 => ?_⟩
    refine lc_it (walk_list (xs := (sp F dead).map V.str)) (fun i Hz => Same H1 Hz ∧ Hz D1 = some (.lst ((((sp F dead).take i).filter (sv F days dead)).map V.str))) ⟨same_upd nD1, upd_same⟩ (fun i Hz _ h => SqL.of (h.1 _ _ el)) ?_ ?_
    · rintro i v Hz H' hi ⟨k1, k2⟩ ⟨rfl, ev⟩
      rw [List.getElem?_map] at ev
      obtain ⟨x, hx, rfl⟩ := Option.map_eq_some_iff.mp ev
      have hC1 := hC.same (s1.trans k1)
      obtain ⟨dx1, hc1⟩ := hC1.ob
      have st : ((sp F dead).take (i + 1)).filter (sv F days dead) = ((sp F dead).take i).filter (sv F days dead) ++ if sv F days dead x = true then [x] else [] := by
        rw [List.take_add_one, hx, List.filter_append]
        congr 1
        show List.filter _ [x] = _
        rw [List.filter_cons]
        rfl
      refine ⟨rfl, _, rfl, cs, dx1, _, rfl, hc1, nc1 _ _ _ _ _, _, rfl, cs, fam, bk, es, gl, F, days, m, dead, x, rows, _, rfl, hC1, ?_⟩
      cases c : sv F days dead x with
      | true =>
        rw [c, if_pos rfl] at st
        refine ⟨_, rfl, iteT ⟨_, rfl, _, k2, ?_, ?_, ?_⟩⟩
        · rw [List.length_map]
          have := List.length_filter_le (sv F days dead) ((sp F dead).take i)
          rw [List.length_take] at this
          exact small1000 (by omega)
        · intro b o hb
          rw [upd_ne (ne_of_none hb nD1)]
          exact k1 b o hb
        · rw [upd_same, st, List.map_append]
          rfl
      | false =>
        rw [c, if_neg Bool.false_ne_true, List.append_nil] at st
        exact ⟨_, rfl, iteF ⟨k1, by rw [st]; exact k2⟩⟩
    · rintro H2 ⟨k1, k2⟩
      rw [List.length_map, List.take_length] at k2
      exact go D1 H2 (s1.trans k1) (s1.free nD1) k2
def spNea (C CB CC : Addr) : Sp := fun vs H Q _ => ∃ (cs fam bk es gl : Addr) (F : Fm) (days : Int) (m dead x : Str) (rows : Int) (st : Bool), vs = [.ref cs, .str x] ∧ CaseAt C CB CC H cs fam bk es gl F days m dead rows st ∧ ∀ b H', Same H H' → (b = true ↔ Near F dead x) → Q (.bl b) H'
abbrev nNea : List Str := ["self", "name", "ancestors", "ancestor"]
theorem scNea : FnScope nNea ["self", "name"] (defScope sNea) := ⟨rfl, rfl, rfl, by decide +kernel, rfl, by decide +kernel, by decide +kernel⟩
theorem ok_near {f : Addr} {fd : FuncData} (F : Fun K "is_near" "Case.is_near" sNea f fd) (T : TC mg) (D : FT K C) (DC : CT K CC) (HP : HasM P w K mg base CX0 C "parents" ["self", "name"] 1 (spLs C fun F k => F.pa k)) (HR : HasM P w K mg base CX0 C "reaches" ["self", "name", "wanted"] 2 (spRea C)) : FnOk P w K mg base CX0 3 f fd ["self", "name"] (spNea C CB CC) := by
  obtain ⟨fPar, fdPar, mePar, bPar, GPar⟩ := HP.ok
  obtain ⟨fRea, fdRea, meRea, bRea, GRea⟩ := HR.ok
  refine F.ok scNea (fun vs H Q E h => ?_) (fun cdv A outer s H vs Q E hr h => ?_)
  · obtain ⟨cs, fam, bk, es, gl, F, days, m, dead, x, rows, st, rfl, _⟩ := h
    rfl
  · obtain ⟨cs, fam, bk, es, gl, F, days, m, dead, x, rows, st, rfl, hC, go⟩ := h
    refine ⟨_, (pss_cons (ps_set (i := 2) scNea.nd rfl (.inl rfl) (pe_op op_cat (pe_lst (pa_cons (pe_fld (pv 0) rfl) pa_nil)) (pe_meth (pe_fld (pv 0) rfl) D.cl mePar GPar (hr.mono (by decide)) bPar .nil pass0 (pa_cons (pe_fld (pv 0) rfl) pa_nil))))
      (pss_one (ps_ret (pe_callB (cr_any rfl) (by rfl) T.any (by decide +kernel) (pa_cons (pe_lc (own := [("ancestor", 3)]) (g := gName 3) (tt := tYes) rfl scNea.nd (pi_list (pv 2)) (blkOk_by (N := nNea) (sc := defScope sNea) (by decide +kernel)) (fun _ _ _ _ _ => (pg_name (i := 3) scNea.nd rfl (.inl rfl) (.inr rfl))) (fun _ _ _ _ _ => pts_nil) (fun _ _ _ _ _ => (pe_meth (show PE _ _ (tFld K _ _) from pe_fld (pv 0) rfl) D.cl meRea GRea (hr.mono (by decide)) bRea .nil pass0 (pa_cons (pv 3) (pa_cons (pv 1) pa_nil))))) pa_nil))))), ?_⟩
    obtain ⟨⟨dx, hc⟩, ⟨⟨n, hF⟩, -, -, -, ⟨U, lU, hU⟩, hl⟩, -⟩ := id hC
    obtain ⟨dxF, a1, a2, a3, a4, a5, a6, a7, hp, _⟩ := id hF.ex
    refine ⟨_, rfl, cs, CC, dx, _, _, rfl, hc, DC.cl, DC.n1, lc1 _ _ _ _ _, (by show 1 ≤ sizeLine; decide), fun L nL => ?_⟩
    have q1 := same_upd nL (o := .lst [.str dead])
    refine ⟨_, rfl, cs, CC, dx, _, _, rfl, q1 _ _ hc, DC.cl, DC.n2, lc2 _ _ _ _ _, fam, dxF, _, rfl, q1 _ _ hp, no_mPa ⟨a1, a2, a3, a4, a5, a6, a7⟩, _, rfl, cs, CC, dx, _, _, rfl, q1 _ _ hc, DC.cl, DC.n1, lc1 _ _ _ _ _, fam, dead, n, F, rfl, hF.same q1, fun l H1 s1 nl el => ?_⟩
    refine ⟨L, l, _, _, rfl, rfl, s1 _ _ upd_same, el, ?_, fun A1 nA1 => ?_⟩
    · have := (hl dead).2
      rw [List.length_map]
      exact Nat.le_of_lt (small1000 (by show 1 + (F.pa dead).length ≤ 1000; omega))
    have q2 := (q1.trans s1).trans (same_upd nA1 (o := .lst ([.str dead] ++ (F.pa dead).map V.str)))
    have hA : upd H1 A1 (.lst ([.str dead] ++ (F.pa dead).map V.str)) A1 = some (.lst ((dead :: F.pa dead).map V.str)) := upd_same
    generalize upd H1 A1 (.lst ([.str dead] ++ (F.pa dead).map V.str)) = H2 at q2 hA ⊢
    have al : (dead :: F.pa dead).length ≤ 401 := by
      have := (hl dead).2
      rw [List.length_cons]
      omega
    generalize hal : dead :: F.pa dead = as at hA al
    refine ⟨_, rfl, A1, rfl, ⟨_, SqL.of hA⟩, fun D1 nD1 => ?_⟩
    refine lc_it (walk_list (xs := as.map V.str)) (fun i Hz => Same H2 Hz ∧ ∃ bs : List Bool, Hz D1 = some (.lst (bs.map V.bl)) ∧ bs.length = i ∧ (bs.any id = true ↔ ∃ a ∈ as.take i, Dsc F.ch a x)) ⟨same_upd nD1, [], upd_same, rfl, ⟨fun h => (by cases h), fun ⟨a, h, _⟩ => (by cases h)⟩⟩ (fun i Hz _ h => SqL.of (h.1 _ _ hA)) ?_ ?_
    · rintro i v Hz H' hi ⟨k1, bs, k2, k3, k4⟩ ⟨rfl, ev⟩
      rw [List.getElem?_map] at ev
      obtain ⟨a, ha, rfl⟩ := Option.map_eq_some_iff.mp ev
      have hC1 := hC.same (q2.trans k1)
      obtain ⟨⟨dx1, hc1⟩, ⟨⟨n1, hF1⟩, -, -, -, -, -⟩, -⟩ := id hC1
      obtain ⟨dxG, c1, c2, c3, c4, c5, c6, c7, hp1, _⟩ := id hF1.ex
      refine ⟨rfl, _, rfl, cs, CC, dx1, _, _, rfl, hc1, DC.cl, DC.n2, lc2 _ _ _ _ _, fam, dxG, _, rfl, hp1, no_mRe ⟨c1, c2, c3, c4, c5, c6, c7⟩, _, rfl, _, rfl, fam, a, x, n1, F, U, rfl, hF1, lU, hU, fun u => by have := (hl u).1; omega, fun H3 b s3 hb => ⟨_, s3 _ _ k2, ?_, ?_, bs ++ [b], ?_, ?_, ?_⟩⟩
      · rw [List.length_map]
        have : i < as.length := (List.getElem?_eq_some_iff.mp ha).1
        exact small1000 (by omega)
      · intro b o hb
        rw [upd_ne (ne_of_none hb nD1)]
        exact s3 _ _ (k1 b o hb)
      · rw [upd_same, List.map_append]
        rfl
      · rw [List.length_append, k3]
        rfl
      · rw [List.any_append, Bool.or_eq_true, k4, List.take_add_one, ha]
        show _ ∨ (b || false) = true ↔ _
        rw [Bool.or_false, hb]
        constructor
        · rintro (⟨u, h1, h2⟩ | h)
          · exact ⟨u, List.mem_append_left _ h1, h2⟩
          · exact ⟨a, List.mem_append_right _ (List.mem_singleton.mpr rfl), h⟩
        · rintro ⟨u, h1, h2⟩
          rcases List.mem_append.mp h1 with h1 | h1
          · exact .inl ⟨u, h1, h2⟩
          · rw [List.mem_singleton.mp h1] at h2
            exact .inr h2
    · rintro H3 ⟨k1, bs, k2, k3, k4⟩
      rw [List.length_map, List.take_length] at k4
      refine ⟨D1, _, rfl, SqL.of k2, go _ H3 (q2.trans k1) ?_⟩
      rw [k4, ← hal]
      exact Iff.rfl
def spFst (K : PySem.W.Frag) (C CB CC : Addr) : Sp := fun vs H Q _ => ∃ (cs fam bk es gl a : Addr) (F : Fm) (days : Int) (m dead : Str) (rows : Int) (st : Bool) (ts : List Str), vs = [.ref cs, .ref a] ∧ CaseAt C CB CC H cs fam bk es gl F days m dead rows st ∧ SqT K H a (ts.map V.str) ∧ Q (ftV F days dead ts) H
abbrev nFst : List Str := ["self", "names", "name"]
theorem scFst : FnScope nFst ["self", "names"] (defScope sFst) := ⟨rfl, rfl, rfl, by decide +kernel, rfl, by decide +kernel, by decide +kernel⟩
theorem ok_first {f : Addr} {fd : FuncData} (F : Fun K "first_taker" "Case.first_taker" sFst f fd) (DC : CT K CC) (HV : HasM P w K mg base CX0 CC "survives" ["self", "name"] 3 (spCsv C CB CC)) : FnOk P w K mg base CX0 4 f fd ["self", "names"] (spFst K C CB CC) := by
  obtain ⟨fCsv, fdCsv, meCsv, bCsv, GCsv⟩ := HV.ok
  refine F.ok scFst (fun vs H Q E h => ?_) (fun cdv A outer s H vs Q E hr h => ?_)
  · obtain ⟨cs, fam, bk, es, gl, a, F, days, m, dead, rows, st, ts, rfl, _⟩ := h
    rfl
  · obtain ⟨cs, fam, bk, es, gl, a, F, days, m, dead, rows, st, ts, rfl, hC, ha, go⟩ := h
    refine ⟨_, (pss_cons (ps_for PassesOwn.never rfl (pi_tup (pv 1)) (pg_name (i := 2) scFst.nd rfl (.inl rfl)) (pss_one (ps_if (pt_val (pe_meth (pv 0) DC.cl meCsv GCsv (hr.mono (by decide)) bCsv .nil pass0 (pa_cons (pv 2) pa_nil))) (pss_one (ps_ret (pv 2))) pss_nil)))
      (pss_one (ps_ret pe_non))), ?_⟩
    obtain ⟨dx, hc⟩ := hC.ob
    refine ⟨_, rfl, a, rfl, ⟨_, ha⟩, for_tup (K := K) (a := a) (xs := ts.map V.str) (fun i σ Hy => ∃ y2 : Option V, σ = [some (.ref cs), some (.ref a), y2] ∧ Hy = H ∧ ∀ t ∈ ts.take i, sv F days dead t = false)
      ⟨none, rfl, rfl, fun t h => by cases h⟩ (fun i σ Hy _ ⟨_, _, z, _⟩ => by rw [z]; exact ha) ?_ ?_⟩
    · rintro i v σ Hy hi ⟨y2, rfl, rfl, no⟩
      rw [List.getElem?_map] at hi
      obtain ⟨x, hx, rfl⟩ := Option.map_eq_some_iff.mp hi
      refine ⟨_, rfl, cs, dx, _, rfl, hc, nc1 _ _ _ _ _, _, rfl, cs, fam, bk, es, gl, F, days, m, dead, x, rows, _, rfl, hC, ?_⟩
      cases c : sv F days dead x with
      | true =>
        refine ⟨_, rfl, iteT ⟨_, rfl, ?_⟩⟩
        have e : ts.find? (sv F days dead) = some x := by
          have := List.take_append_drop i ts
          rw [← this, List.find?_append, List.find?_eq_none.mpr (fun t ht => by rw [no t ht]; exact Bool.false_ne_true), List.drop_eq_getElem_cons (List.getElem?_eq_some_iff.mp hx).1, (List.getElem?_eq_some_iff.mp hx).2, List.find?_cons_of_pos c]
          rfl
        unfold ftV at go
        rw [e] at go
        exact go
      | false =>
        refine ⟨_, rfl, iteF ⟨_, rfl, rfl, fun t ht => ?_⟩⟩
        rw [List.take_add_one, hx] at ht
        rcases List.mem_append.mp ht with m | m
        · exact no t m
        · rw [List.mem_singleton.mp m]
          exact c
    · rintro σ Hy ⟨y2, rfl, rfl, no⟩
      rw [List.length_map, List.take_length] at no
      have e : ts.find? (sv F days dead) = none := List.find?_eq_none.mpr fun t ht => by
        rw [no t ht]
        exact Bool.false_ne_true
      unfold ftV at go
      rw [e] at go
      exact go
end
end ZF
namespace ZF
open PySem L2 PyProof.Rows PySem.Spec G
abbrev sNn : Stmt := topS 47
abbrev sGl : Stmt := topS 48
abbrev sDl : Stmt := topS 49
abbrev sMp : Stmt := topS 50
structure TP (mg : Str → Option Value) : Prop where
  gi : ∃ t, mg "GIFT" = some (.str "gift" t)
  de : ∃ t, mg "DESCENT" = some (.str "descent" t)
  pe : ∃ t, mg "PERSON" = some (.str "person" t)
  st : ∃ t, mg "STOCK" = some (.str "stock" t)
  la : ∃ t, mg "LAPSE" = some (.str "lapse" t)
  go : ∃ t, mg "GONE" = some (.str "gone" t)
  nr : ∃ t, mg "NO_ROW" = some (.int (-1) t)
  tuple : mg "tuple" = none
  range : mg "range" = none
theorem sqT_same' {K : PySem.W.Frag} {H H' : Hp} {t : Addr} {xs : List V} (h : SqT K H t xs) (s : Same H H') : SqT K H' t xs := by
  rcases h with (h | ⟨z, h⟩) | h
  · exact .inl (.inl (s _ _ h))
  · exact .inl (.inr ⟨z, s _ _ h⟩)
  · exact .inr h
def lastK (Z : List Rw) : Str := (Z.getLast?.map (·.k)).getD ""
open Classical in
/-- how a gift falls, and the rows told of it -/
noncomputable def glR (F : Fm) (days : Int) (m dead : Str) (st : Bool) (ts : List Str) : Str × List Rw :=
  if (ts.find? (sv F days dead)).isSome = true then ("person", []) else
    if st = true ∧ Near F dead (ts.headD "") then ((if lastK (wk (pts hd F days m dead) (tkN F days dead) 36 (ts.headD "", 0) []) = "gone" then "lapse" else "stock"), wk (pts hd F days m dead) (tkN F days dead) 36 (ts.headD "", 0) []) else ("lapse", [])
def addR (acc : List Rw) (r : Rw) : List Rw := if (kd acc r.n).isSome = true then acc else acc ++ [r]
/-- the line of the descent: rows of heights h, h + 1, .. each node once -/
def dlR (Zf : Nat → List Rw) : Nat → Nat → List Rw → Int × List Rw
  | 0, _, acc => (-1, acc)
  | k + 1, h, acc => if ¬ lastK ((Zf h).foldl addR acc) = "gone" then ((h : Int), (Zf h).foldl addR acc) else dlR Zf k (h + 1) ((Zf h).foldl addR acc)
section
variable {P : Program} {w : World} {K : PySem.W.Frag} {mg : Str → Option Value} {base : Heap} {C CB CC : Addr}
def spNn (K : PySem.W.Frag) (C CB CC : Addr) : Sp := fun vs H Q _ => ∃ (cs fam bk es gl a : Addr) (F : Fm) (days : Int) (m dead : Str) (rows : Int) (st : Bool) (t0 : Str) (ts : List Str), vs = [.ref cs, .ref a] ∧ CaseAt C CB CC H cs fam bk es gl F days m dead rows st ∧ SqT K H a ((t0 :: ts).map V.str) ∧ ∀ b H', Same H H' → (b = true ↔ ((t0 :: ts).find? (sv F days dead)).isSome = false ∧ st = true ∧ Near F dead t0) → Q (.bl b) H'
abbrev nNn : List Str := ["case", "takers"]
theorem scNn : FnScope nNn ["case", "takers"] (defScope sNn) := ⟨rfl, rfl, rfl, by decide +kernel, rfl, by decide +kernel, by decide +kernel⟩
theorem ok_needs {f : Addr} {fd : FuncData} (F : Fun K "needs_node" "needs_node" sNn f fd) (DB : ZK.BT K CB) (DC : CT K CC) (HF : HasM P w K mg base CX0 CC "first_taker" ["self", "names"] 4 (spFst K C CB CC)) (HN : HasM P w K mg base CX0 CC "is_near" ["self", "name"] 3 (spNea C CB CC)) : FnOk P w K mg base CX0 5 f fd ["case", "takers"] (spNn K C CB CC) := by
  obtain ⟨fFst, fdFst, meFst, bFst, GFst⟩ := HF.ok
  obtain ⟨fNea, fdNea, meNea, bNea, GNea⟩ := HN.ok
  refine F.ok scNn (fun vs H Q E h => ?_) (fun cdv A outer s H vs Q E hr h => ?_)
  · obtain ⟨cs, fam, bk, es, gl, a, F, days, m, dead, rows, st, t0, ts, rfl, _⟩ := h
    rfl
  · obtain ⟨cs, fam, bk, es, gl, a, F, days, m, dead, rows, st, t0, ts, rfl, hC, ha, go⟩ := h
    refine ⟨_, (pss_cons (ps_if (pt_cmpR op_notN (pe_meth (pv 0) DC.cl meFst GFst (hr.mono (by decide)) bFst .nil pass0 (pa_cons (pv 1) pa_nil)) pe_non (nomark _)) (pss_one (ps_ret pe_bl)) pss_nil)
      (pss_one (ps_ret (pe_and (pe_fld (pe_fld (pv 0) rfl) rfl) (pe_one (pe_meth (pv 0) DC.cl meNea GNea (hr.mono (by decide)) bNea .nil pass0 (pa_cons (pe_ix ix_tup (pv 1) pe_int (fun _ _ => rfl)) pa_nil))))))), ?_⟩
    obtain ⟨⟨dx, hc⟩, -, dy, sv0, hb⟩ := id hC
    refine ⟨_, rfl, cs, dx, _, rfl, hc, nc4 _ _ _ _ _, _, rfl, cs, fam, bk, es, gl, a, F, days, m, dead, rows, st, t0 :: ts, rfl, hC, ha, rfl, ?_⟩
    cases e : (t0 :: ts).find? (sv F days dead) with
    | some x =>
      rw [e] at go
      have ev : ftV F days dead (t0 :: ts) = .str x := by
        unfold ftV
        rw [e]
      rw [ev]
      exact ⟨_, rfl, iteT (go false H (Same.refl H) ⟨(fun h => by cases h), fun h => by cases h.1⟩)⟩
    | none =>
      rw [e] at go
      have ev : ftV F days dead (t0 :: ts) = .non := by
        unfold ftV
        rw [e]
      rw [ev]
      refine ⟨_, rfl, iteF ?_⟩
      refine ⟨_, rfl, cs, CC, dx, _, _, rfl, hc, DC.cl, DC.n3, lc3 _ _ _ _ _, bk, CB, dy, _, _, rfl, hb, DB.cl, DB.n4, ZK.lks _ _ _ _ _, ?_⟩
      cases st with
      | false => exact ⟨_, rfl, iteF (go false H (Same.refl H) ⟨(fun h => by cases h), fun h => by cases h.2.1⟩)⟩
      | true =>
        refine ⟨_, rfl, iteT ⟨_, rfl, cs, dx, _, rfl, hc, nc3 _ _ _ _ _, _, rfl, a, _, 0, _, rfl, rfl, ha, atI_nat (j := 0) rfl, cs, fam, bk, es, gl, F, days, m, dead, t0, rows, true, rfl, hC, fun b H' s' hb => go b H' s' ⟨fun h => ⟨rfl, rfl, hb.mp h⟩, fun h => hb.mpr h.2.2⟩⟩⟩
/-- the line of a gift -/
structure GlAt (H : Hp) (t : Addr) (n : Int) (r : Str × List Rw) : Prop where
  ex : ∃ (rt : Addr) (us : List Addr), H t = some (.tup [.str "gift", .int n, .str r.1, .ref rt]) ∧ H rt = some (.tup (us.map V.ref)) ∧ RowsAt H us r.2
theorem GlAt.same {H H' : Hp} {t : Addr} {n : Int} {r : Str × List Rw} (h : GlAt H t n r) (s : Same H H') : GlAt H' t n r := by
  obtain ⟨rt, us, a, b, c⟩ := h.ex
  exact ⟨rt, us, s _ _ a, s _ _ b, c.tk (Tk.of_same s)⟩
/-- what the walks of a case want -/
structure Wlk (F : Fm) (days : Int) (m dead : Str) : Prop where
  r9 : R9 F
  ui : UI (pts hd F days m dead) univ
  pl : ∀ x, (pts hd F days m dead x).length ≤ 400
def spGl (K : PySem.W.Frag) (C CB CC : Addr) : Sp := fun vs H Q _ => ∃ (cs fam bk es gl g a : Addr) (F : Fm) (days : Int) (m dead w : Str) (rows n : Int) (gx : V) (st : Bool) (t0 : Str) (ts : List Str), vs = [.ref cs, .ref g] ∧ CaseAt C CB CC H cs fam bk es gl F days m dead rows st ∧ SqT K H g [.str w, .int n, gx, .ref a] ∧ SqT K H a ((t0 :: ts).map V.str) ∧ Wlk F days m dead ∧ ((t0, 0) : Nd) ∈ univ ∧
  ∀ t H', Same H H' → H t = none → GlAt H' t n (glR F days m dead st (t0 :: ts)) → Q (.ref t) H'
abbrev nGl : List Str := ["case", "gift", "_", "number", "takers", "rows", "how"]
theorem scGl : FnScope nGl ["case", "gift"] (defScope sGl) := ⟨rfl, rfl, rfl, by decide +kernel, rfl, by decide +kernel, by decide +kernel⟩
theorem ok_gl {f : Addr} {fd : FuncData} (F : Fun K "_gift_line" "_gift_line" sGl f fd) (T : TP mg) (DC : CT K CC) (HN : Has P w K mg base CX0 "needs_node" ["case", "takers"] 6 (spNn K C CB CC)) (HR : Has P w K mg base CX0 "rows_of" ["family", "rules", "dead", "node"] 6 (spRow C CB)) (HF : HasM P w K mg base CX0 CC "first_taker" ["self", "names"] 4 (spFst K C CB CC)) : FnOk P w K mg base CX0 7 f fd ["case", "gift"] (spGl K C CB CC) := by
  obtain ⟨tGI, mGI⟩ := T.gi
  obtain ⟨tDE, mDE⟩ := T.de
  obtain ⟨tPE, mPE⟩ := T.pe
  obtain ⟨tST, mST⟩ := T.st
  obtain ⟨tLA, mLA⟩ := T.la
  obtain ⟨tGO, mGO⟩ := T.go
  obtain ⟨tNR, mNR⟩ := T.nr
  obtain ⟨fNn, fdNn, mNn, kNn, bNn, GNn⟩ := HN.ok
  obtain ⟨fRow, fdRow, mRow, kRow, bRow, GRow⟩ := HR.ok
  obtain ⟨fFst, fdFst, meFst, bFst, GFst⟩ := HF.ok
  refine F.ok scGl (fun vs H Q E h => ?_) (fun cdv A outer s H vs Q E hr h => ?_)
  · obtain ⟨cs, fam, bk, es, gl, g, a, F, days, m, dead, w, rows, n, gx, st, t0, ts, rfl, _⟩ := h
    rfl
  · obtain ⟨cs, fam, bk, es, gl, g, a, F, days, m, dead, w, rows, n, gx, st, t0, ts, rfl, hC, hg, ha, wl, tU, go⟩ := h
    refine ⟨_, (pss_cons (ps_asg (pv 1) (pg_tup (n := 4) rfl (pgs_cons (pg_name (i := 2) scGl.nd rfl (.inl rfl)) (pgs_cons (pg_name (i := 3) scGl.nd rfl (.inl rfl)) (pgs_cons (pg_name (i := 2) scGl.nd rfl (.inl rfl)) (pgs_cons (pg_name (i := 4) scGl.nd rfl (.inl rfl)) pgs_nil))))))
      (pss_cons (ps_if (pt_val (pe_call GNn (hr.mono (by decide)) (by rfl) mNn kNn bNn .nil pass0 (pa_cons (pv 0) (pa_cons (pv 4) pa_nil)))) (pss_cons (ps_set (i := 5) scGl.nd rfl (.inl rfl) (pe_call GRow (hr.mono (by decide)) (by rfl) mRow kRow bRow .nil pass0 (pa_cons (pe_fld (pv 0) rfl) (pa_cons (pe_fld (pv 0) rfl) (pa_cons (pe_fld (pv 0) rfl) (pa_cons (pe_tup (pa_cons (pe_ix ix_tup (pv 4) pe_int (fun _ _ => rfl)) (pa_cons pe_int pa_nil))) pa_nil))))))
      (pss_cons (ps_set (i := 6) scGl.nd rfl (.inl rfl) (pe_ifExp (pt_cmpR op_eq (pe_ix ix_tup (pe_ix ix_tup (pv 5) (pe_un un_neg pe_int) (fun _ _ => rfl)) pe_int (fun _ _ => rfl)) (pe_glob (v := .str "gone") (by rfl) mGO ⟨_, rfl⟩) (nomark _)) (pe_glob (v := .str "lapse") (by rfl) mLA ⟨_, rfl⟩) (pe_glob (v := .str "stock") (by rfl) mST ⟨_, rfl⟩)))
      (pss_one (ps_ret (pe_tup (pa_cons (pe_glob (v := .str "gift") (by rfl) mGI ⟨_, rfl⟩) (pa_cons (pv 3) (pa_cons (pv 6) (pa_cons (pv 5) pa_nil))))))))) pss_nil)
      (pss_cons (ps_set (i := 6) scGl.nd rfl (.inl rfl) (pe_ifExp (pt_cmpR op_isN (pe_meth (pv 0) DC.cl meFst GFst (hr.mono (by decide)) bFst .nil pass0 (pa_cons (pv 4) pa_nil)) pe_non (nomark _)) (pe_glob (v := .str "lapse") (by rfl) mLA ⟨_, rfl⟩) (pe_glob (v := .str "person") (by rfl) mPE ⟨_, rfl⟩)))
      (pss_one (ps_ret (pe_tup (pa_cons (pe_glob (v := .str "gift") (by rfl) mGI ⟨_, rfl⟩) (pa_cons (pv 3) (pa_cons (pv 6) (pa_cons (pe_tup pa_nil) pa_nil)))))))))), ?_⟩
    refine ⟨_, rfl, g, _, rfl, hg, rfl, _, _, rfl, _, _, rfl, _, _, rfl, _, _, rfl, rfl, ?_⟩
    refine ⟨_, rfl, _, rfl, cs, fam, bk, es, gl, a, F, days, m, dead, rows, st, t0, ts, rfl, hC, ha, fun b H1 s1 hb => ⟨_, rfl, ?_⟩⟩
    have hC1 := hC.same s1
    have ha1 := sqT_same' ha s1
    cases b with
    | true =>
      obtain ⟨b1, b2, b3⟩ := hb.mp rfl
      have zf := zf_wk (m := m) (days := days) (dead := dead) wl.r9 wl.ui tU wl.pl
      have er : glR F days m dead st (t0 :: ts) = ((if lastK (wk (pts hd F days m dead) (tkN F days dead) 36 (t0, 0) []) = "gone" then ("lapse" : Str) else "stock"), wk (pts hd F days m dead) (tkN F days dead) 36 (t0, 0) []) := by
        unfold glR
        rw [if_neg (by rw [b1]; exact Bool.false_ne_true), if_pos ⟨b2, b3⟩]
        rfl
      rw [er] at go
      generalize wk (pts hd F days m dead) (tkN F days dead) 36 (t0, 0) [] = Z at zf go
      obtain ⟨nn, run⟩ := zf.run
      have zl := zf.len
      obtain ⟨dx, hc1⟩ := hC1.ob
      refine iteT ⟨_, rfl, cs, CC, dx, _, _, rfl, hc1, DC.cl, DC.n2, lc2 _ _ _ _ _, _, rfl, cs, CC, dx, _, _, rfl, hc1, DC.cl, DC.n3, lc3 _ _ _ _ _, _, rfl, cs, CC, dx, _, _, rfl, hc1, DC.cl, DC.n1, lc1 _ _ _ _ _, _, rfl, a, _, 0, _, rfl, rfl, ha1, atI_nat (j := 0) rfl, (by show 2 ≤ sizeLine; decide), fun q nq => ?_⟩
      have s2 := s1.trans (same_upd nq (o := .tup [.str t0, .int 0]))
      refine ⟨fam, bk, q, F, days, m, dead, (t0, 0), Z, nn, rfl, hC1.ca.same (same_upd nq), upd_same, run, by omega, fun rt H3 us s3 nrt ert hR => ?_⟩
      have s3' := s2.trans s3
      obtain ⟨Zi, z, rfl⟩ : ∃ Zi z, Z = Zi ++ [z] := by
        rcases List.eq_nil_or_concat Z with e | ⟨x, y, e⟩
        · have := zf.mem
          rw [e] at this
          cases this
        · exact ⟨x, y, by rw [e, List.concat_eq_append]⟩
      have eus := hR.ln
      obtain ⟨ui, u, rfl⟩ : ∃ ui u, us = ui ++ [u] := by
        rcases List.eq_nil_or_concat us with e | ⟨x, y, e⟩
        · rw [e] at eus
          simp at eus
        · exact ⟨x, y, by rw [e, List.concat_eq_append]⟩
      rw [List.length_append, List.length_append, List.length_singleton, List.length_singleton] at eus
      have lk : lastK (Zi ++ [z]) = z.k := by
        unfold lastK
        rw [List.getLast?_append]
        rfl
      obtain ⟨q', ra⟩ := hR.at' Zi.length u z (by rw [List.getElem?_append_right (by omega), show Zi.length - ui.length = 0 by omega]; rfl) (by rw [List.getElem?_append_right (Nat.le_refl _), Nat.sub_self]; rfl)
      obtain ⟨la, ga, ls, gs, h1, -⟩ := ra.ex
      rw [lk] at go
      refine ⟨_, rfl, 1, rfl, rt, _, _, .ref u, rfl, rfl, SqT.of ert, by rw [List.map_append]; exact atI_last _ _, u, _, 1, .str z.k, rfl, rfl, SqT.of h1, atI_nat (j := 1) rfl, rfl, _, rfl, ?_⟩
      have fin (k : Str) (ek : k = if z.k = "gone" then ("lapse" : Str) else "stock") (t : Addr) (nt : H3 t = none) : Q (.ref t) (upd H3 t (.tup [.str "gift", .int n, .str k, .ref rt])) := by
        have st4 := same_upd nt (o := .tup [.str "gift", .int n, .str k, .ref rt])
        refine go t _ (s3'.trans st4) (s3'.free nt) ⟨rt, ui ++ [u], ?_, st4 _ _ ert, hR.tk (Tk.of_same st4)⟩
        rw [upd_same, ek]
      by_cases c : z.k = "gone"
      · rw [decide_eq_true (congrArg V.str c)]
        exact iteT ⟨_, rfl, _, rfl, _, rfl, (by show 4 ≤ sizeLine; decide), fun t nt => fin "lapse" (by rw [if_pos c]) t nt⟩
      · rw [decide_eq_false (show ¬ V.str z.k = V.str "gone" from fun z => c (V.str.inj z))]
        exact iteF ⟨_, rfl, _, rfl, _, rfl, (by show 4 ≤ sizeLine; decide), fun t nt => fin "stock" (by rw [if_neg c]) t nt⟩
    | false =>
      obtain ⟨dx, hc1⟩ := hC1.ob
      refine iteF ⟨_, rfl, cs, dx, _, rfl, hc1, nc4 _ _ _ _ _, _, rfl, cs, fam, bk, es, gl, a, F, days, m, dead, rows, st, t0 :: ts, rfl, hC1, ha1, rfl, ?_⟩
      have fin (k : Str) (ek : glR F days m dead st (t0 :: ts) = (k, [])) (e t : Addr) (ne : H1 e = none) (nt : upd H1 e (.tup []) t = none) : Q (.ref t) (upd (upd H1 e (.tup [])) t (.tup [.str "gift", .int n, .str k, .ref e])) := by
        have q1 := same_upd ne (o := .tup [])
        have q2 := same_upd nt (o := .tup [.str "gift", .int n, .str k, .ref e])
        refine go t _ ((s1.trans q1).trans q2) ((s1.trans q1).free nt) ?_
        rw [ek]
        exact ⟨e, [], upd_same, q2 _ _ upd_same, RowsAt.nil _⟩
      cases e : (t0 :: ts).find? (sv F days dead) with
      | some x =>
        have ev : ftV F days dead (t0 :: ts) = .str x := by
          unfold ftV
          rw [e]
        rw [ev]
        refine ⟨_, rfl, iteF ⟨_, rfl, _, rfl, Nat.zero_le _, fun e0 ne0 => ⟨(by show 4 ≤ sizeLine; decide), fun t nt => fin "person" ?_ e0 t ne0 nt⟩⟩⟩
        unfold glR
        rw [e]
        exact if_pos rfl
      | none =>
        have ev : ftV F days dead (t0 :: ts) = .non := by
          unfold ftV
          rw [e]
        rw [ev]
        refine ⟨_, rfl, iteT ⟨_, rfl, _, rfl, Nat.zero_le _, fun e0 ne0 => ⟨(by show 4 ≤ sizeLine; decide), fun t nt => fin "lapse" ?_ e0 t ne0 nt⟩⟩⟩
        unfold glR
        rw [e]
        refine (if_neg Bool.false_ne_true).trans (if_neg fun h => ?_)
        have := hb.mpr ⟨by rw [e]; rfl, h.1, h.2⟩
        cases this
end
end ZF
namespace ZF
open PySem L2 PyProof.Rows PySem.Spec G
/-- rows, each node once, of the law's nodes -/
structure AOk (acc : List Rw) : Prop where
  nd : (acc.map (·.n)).Nodup
  un : ∀ r ∈ acc, RowSh r
theorem AOk.len {acc : List Rw} (h : AOk acc) : acc.length ≤ 100 := by
  have h1 := nd_le h.nd (U := univ) fun y hy => by
    obtain ⟨r, hr, rfl⟩ := List.mem_map.mp hy
    exact (h.un r hr).n
  rw [List.length_map] at h1
  exact Nat.le_trans h1 univ_len
theorem AOk.nil : AOk [] := ⟨List.nodup_nil, fun r h => by cases h⟩
theorem AOk.add {acc : List Rw} (h : AOk acc) {r : Rw} (s : RowSh r) : AOk (addR acc r) := by
  unfold addR
  split
  · exact h
  · next c =>
    refine ⟨?_, fun q hq => ?_⟩
    · rw [List.map_append]
      refine List.nodup_append.mpr ⟨h.nd, List.pairwise_singleton _ _, fun a ha b hb e => ?_⟩
      rw [List.mem_singleton.mp hb] at e
      rw [e] at ha
      exact c (kd_mem.mpr ha)
    · rcases List.mem_append.mp hq with m | m
      · exact h.un q m
      · rw [List.mem_singleton.mp m]
        exact s
theorem AOk.fold : ∀ {Z : List Rw} {acc : List Rw}, AOk acc → (∀ r ∈ Z, RowSh r) → AOk (Z.foldl addR acc)
  | [], _, h, _ => h
  | r :: Z, acc, h, s => AOk.fold (Z := Z) (acc := addR acc r) (h.add (s r List.mem_cons_self)) fun q hq => s q (List.mem_cons_of_mem _ hq)
theorem addR_ne {acc : List Rw} {r : Rw} : addR acc r ≠ [] := by
  unfold addR
  split
  · next c =>
    intro e
    rw [e] at c
    cases c
  · simp
theorem fold_ne : ∀ {Z : List Rw} {acc : List Rw}, (Z ≠ [] ∨ acc ≠ []) → Z.foldl addR acc ≠ []
  | [], _, h => h.elim (fun z => absurd rfl z) id
  | r :: Z, acc, _ => fold_ne (Z := Z) (.inr addR_ne)
/-- the known nodes as a dict's pairs -/
def kT (acc : List Rw) : List (List Key × V) := acc.map fun r => (ndk r.n, V.bl true)
theorem kT_val (R : List Rw) (x : Nd) : valV (kT R) (ndk x) = (kd R x).map fun _ => V.bl true := by
  unfold kT kd
  induction R with
  | nil => rfl
  | cons r R ih =>
    by_cases e : r.n = x
    · rw [List.map_cons, List.find?_cons_of_pos (by simpa using e), valV_pos (congrArg ndk e)]
      rfl
    · rw [List.map_cons, List.find?_cons_of_neg (by simpa using e), valV_neg (fun z => e (ndk_inj z))]
      exact ih
theorem kT_put {R : List Rw} {r : Rw} (h : kd R r.n = none) : putK (kT R) (ndk r.n) (.bl true) = kT (R ++ [r]) := by
  rw [putK_new _ (by rw [kT_val, h]; rfl)]
  unfold kT
  rw [List.map_append]
  rfl
structure DlAt (H : Hp) (t : Addr) (r : Int × List Rw) : Prop where
  ex : ∃ (rt : Addr) (us : List Addr), H t = some (.tup [.str "descent", .int r.1, .ref rt]) ∧ H rt = some (.tup (us.map V.ref)) ∧ RowsAt H us r.2
theorem last_rows {H : Hp} {us : List Addr} {acc : List Rw} (hR : RowsAt H us acc) (ne : acc ≠ []) : ∃ ui u q z, us = ui ++ [u] ∧ lastK acc = z.k ∧ RowAt H u q z := by
  obtain ⟨Zi, z, rfl⟩ : ∃ Zi z, acc = Zi ++ [z] := by
    rcases List.eq_nil_or_concat acc with e | ⟨x, y, e⟩
    · exact absurd e ne
    · exact ⟨x, y, by rw [e, List.concat_eq_append]⟩
  have eus := hR.ln
  obtain ⟨ui, u, rfl⟩ : ∃ ui u, us = ui ++ [u] := by
    rcases List.eq_nil_or_concat us with e | ⟨x, y, e⟩
    · rw [e] at eus
      simp at eus
    · exact ⟨x, y, by rw [e, List.concat_eq_append]⟩
  rw [List.length_append, List.length_append, List.length_singleton, List.length_singleton] at eus
  obtain ⟨q', ra⟩ := hR.at' Zi.length u z (by rw [List.getElem?_append_right (by omega), show Zi.length - ui.length = 0 by omega]; rfl) (by rw [List.getElem?_append_right (Nat.le_refl _), Nat.sub_self]; rfl)
  refine ⟨ui, u, q', z, rfl, ?_, ra⟩
  unfold lastK
  rw [List.getLast?_append]
  rfl
section
variable {P : Program} {w : World} {K : PySem.W.Frag} {mg : Str → Option Value} {base : Heap} {C CB CC : Addr}
def Zh (F : Fm) (days : Int) (m dead : Str) (h : Nat) : List Rw := wk (pts hd F days m dead) (tkN F days dead) 36 (dead, (h : Int)) []
def spDl (C CB CC : Addr) : Sp := fun vs H Q _ => ∃ (cs fam bk es gl : Addr) (F : Fm) (days : Int) (m dead : Str) (rows : Nat) (st : Bool), vs = [.ref cs] ∧ CaseAt C CB CC H cs fam bk es gl F days m dead (rows : Int) st ∧ rows ≤ 3 ∧ Wlk F days m dead ∧ dead ∈ bnames ∧
  ∀ t H', Same H H' → H t = none → DlAt H' t (dlR (Zh F days m dead) (rows + 1) 0 []) → Q (.ref t) H'
abbrev nDl : List Str := ["case", "rows", "known", "height", "row"]
theorem scDl : FnScope nDl ["case"] (defScope sDl) := ⟨rfl, rfl, rfl, by decide +kernel, rfl, by decide +kernel, by decide +kernel⟩
theorem ok_dl {f : Addr} {fd : FuncData} (F : Fun K "_descent_line" "_descent_line" sDl f fd) (T : TP mg) (DB : ZK.BT K CB) (DC : CT K CC) (HR : Has P w K mg base CX0 "rows_of" ["family", "rules", "dead", "node"] 6 (spRow C CB)) : FnOk P w K mg base CX0 7 f fd ["case"] (spDl C CB CC) := by
  obtain ⟨tGI, mGI⟩ := T.gi
  obtain ⟨tDE, mDE⟩ := T.de
  obtain ⟨tPE, mPE⟩ := T.pe
  obtain ⟨tST, mST⟩ := T.st
  obtain ⟨tLA, mLA⟩ := T.la
  obtain ⟨tGO, mGO⟩ := T.go
  obtain ⟨tNR, mNR⟩ := T.nr
  obtain ⟨fRow, fdRow, mRow, kRow, bRow, GRow⟩ := HR.ok
  refine F.ok scDl (fun vs H Q E h => ?_) (fun cdv A outer s H vs Q E hr h => ?_)
  · obtain ⟨cs, fam, bk, es, gl, F, days, m, dead, rows, st, rfl, _⟩ := h
    rfl
  · obtain ⟨cs, fam, bk, es, gl, F, days, m, dead, rows, st, rfl, hC, r3, wl, dU, go⟩ := h
    have hu := hu_of hr
    refine ⟨_, (pss_cons (ps_set (i := 1) scDl.nd rfl (.inl rfl) (pe_lst pa_nil))
      (pss_cons (ps_set (i := 2) scDl.nd rfl (.inl rfl) pe_dnewT)
      (pss_cons (ps_for PassesOwn.never rfl (pi_range1 rfl T.range (pa_cons (pe_op op_add (pe_fld (pe_fld (pv 0) rfl) rfl) pe_int) pa_nil)) (pg_name (i := 3) scDl.nd rfl (.inl rfl)) (pss_cons (ps_for PassesOwn.never rfl (pi_tup (pe_call GRow (hr.mono (by decide)) (by rfl) mRow kRow bRow .nil pass0 (pa_cons (pe_fld (pv 0) rfl) (pa_cons (pe_fld (pv 0) rfl) (pa_cons (pe_fld (pv 0) rfl) (pa_cons (pe_tup (pa_cons (pe_fld (pv 0) rfl) (pa_cons (pv 3) pa_nil))) pa_nil)))))) (pg_name (i := 4) scDl.nd rfl (.inl rfl)) (pss_one (ps_if (pt_cmp (pc_dnotin hu (pe_ix ix_tup (pv 4) pe_int (fun _ _ => rfl)) (pv 2))) (pss_cons (ps_dput hu (pv 2) (pe_ix ix_tup (pv 4) pe_int (fun _ _ => rfl)) pe_bl rfl)
      (pss_one (ps_expr (pe_bm PySem.F.plainAttrs_list PySem.F.slot_list_append PySem.F.type_list_append mt_append (pv 1) (pa_cons (pv 4) pa_nil))))) pss_nil)))
      (pss_one (ps_if (pt_cmpR op_ne (pe_ix ix_tup (pe_ix ix_list (pv 1) (pe_un un_neg pe_int) (fun _ _ => rfl)) pe_int (fun _ _ => rfl)) (pe_glob (v := .str "gone") (by rfl) mGO ⟨_, rfl⟩) (nomark _)) (pss_one (ps_ret (pe_tup (pa_cons (pe_glob (v := .str "descent") (by rfl) mDE ⟨_, rfl⟩) (pa_cons (pv 3) (pa_cons (pe_callTy call_tuple_of (by rfl) T.tuple (by decide +kernel) (pa_cons (pv 1) pa_nil)) pa_nil)))))) pss_nil))))
      (pss_one (ps_ret (pe_tup (pa_cons (pe_glob (v := .str "descent") (by rfl) mDE ⟨_, rfl⟩) (pa_cons (pe_glob (v := .int (-1)) (by rfl) mNR ⟨_, rfl⟩) (pa_cons (pe_callTy call_tuple_of (by rfl) T.tuple (by decide +kernel) (pa_cons (pv 1) pa_nil)) pa_nil))))))))), ?_⟩
    obtain ⟨⟨dx, hc⟩, -, dy, sv0, hb⟩ := id hC
    refine ⟨Nat.zero_le _, fun lr nlr => ?_⟩
    intro dk ndk'
    have q1 := (same_upd nlr (o := .lst [])).trans (same_upd ndk' (o := .dT []))
    have rd : lr ≠ dk := ne_of_none upd_same ndk'
    have hl1 : upd (upd H lr (.lst [])) dk (.dT []) lr = some (.lst (([] : List Addr).map V.ref)) := by
      rw [upd_ne rd, upd_same]
      rfl
    have hd1 : upd (upd H lr (.lst [])) dk (.dT []) dk = some (.dT (kT [])) := upd_same
    have Hlr : H lr = none := nlr
    have Hdk : H dk = none := (same_upd nlr).free ndk'
    generalize upd (upd H lr (.lst [])) dk (.dT []) = H1 at q1 hl1 hd1 ⊢
    clear nlr ndk'
    refine ⟨_, rfl, cs, CC, dx, _, _, rfl, q1 _ _ hc, DC.cl, DC.n3, lc3 _ _ _ _ _, bk, CB, dy, _, _, rfl, q1 _ _ hb, DB.cl, DB.n3, ZK.lkr _ _ _ _ _, _, _, rfl, rfl, _, rfl, by omega, by omega, ?_⟩
    rw [show ((rows : Int) + 1).toNat = rows + 1 by omega]
    refine for_range (lo := 0) (n := rows + 1) (fun i σ Hx => ∃ (acc : List Rw) (ts : List Addr) (y3 y4 : Option V), σ = [some (.ref cs), some (.ref lr), some (.ref dk), y3, y4] ∧ Same H Hx ∧ Hx lr = some (.lst (ts.map V.ref)) ∧ RowsAt Hx ts acc ∧ Hx dk = some (.dT (kT acc)) ∧ AOk acc ∧ dlR (Zh F days m dead) (rows + 1) 0 [] = dlR (Zh F days m dead) (rows + 1 - i) i acc)
      ⟨[], [], none, none, rfl, q1, hl1, RowsAt.nil _, hd1, AOk.nil, rfl⟩ ?_ ?_
    · rintro i σ Hx hi ⟨acc, ts, y3, y4, rfl, sm, hl, hR, hdk, ao, ed⟩
      have xU : ((dead, (i : Int)) : Nd) ∈ univ := univ_mem.mpr ⟨.inl dU, by show (-1 : Int) ≤ i; omega, by show (i : Int) ≤ 4; omega⟩
      have zf := zf_wk (m := m) (days := days) (dead := dead) wl.r9 wl.ui xU wl.pl
      have hC1 := hC.same sm
      obtain ⟨dx1, hc1⟩ := hC1.ob
      have eds : dlR (Zh F days m dead) (rows + 1 - i) i acc = if ¬ lastK ((Zh F days m dead i).foldl addR acc) = "gone" then ((i : Int), (Zh F days m dead i).foldl addR acc) else dlR (Zh F days m dead) (rows + 1 - (i + 1)) (i + 1) ((Zh F days m dead i).foldl addR acc) := by
        rw [show rows + 1 - i = (rows + 1 - (i + 1)) + 1 by omega]
        rfl
      rw [eds] at ed
      have ez : Zh F days m dead i = wk (pts hd F days m dead) (tkN F days dead) 36 (dead, (i : Int)) [] := rfl
      rw [← ez] at zf
      generalize Zh F days m dead i = Z at zf ed
      clear ez eds
      obtain ⟨nn, run⟩ := zf.run
      have zl := zf.len
      refine ⟨_, rfl, cs, CC, dx1, _, _, rfl, hc1, DC.cl, DC.n2, lc2 _ _ _ _ _, _, rfl, cs, CC, dx1, _, _, rfl, hc1, DC.cl, DC.n3, lc3 _ _ _ _ _, _, rfl, cs, CC, dx1, _, _, rfl, hc1, DC.cl, DC.n1, lc1 _ _ _ _ _, _, rfl, cs, CC, dx1, _, _, rfl, hc1, DC.cl, DC.n1, lc1 _ _ _ _ _, _, rfl, (by show 2 ≤ sizeLine; decide), fun q nq => ?_⟩
      have s2 := same_upd nq (o := .tup [.str dead, .int (0 + (i : Int))])
      have hqq : upd Hx q (.tup [.str dead, .int (0 + (i : Int))]) q = some (.tup (nc (dead, (i : Int)))) := by
        rw [upd_same, Int.zero_add]
        rfl
      refine ⟨fam, bk, q, F, days, m, dead, (dead, (i : Int)), Z, nn, rfl, hC1.ca.same s2, hqq, run, by omega, fun rt H3 us s3 nrt ert hR3 => ⟨rt, rfl, ⟨_, SqT.of ert⟩, ?_⟩⟩
      have s23 := s2.trans s3
      have hl3 := s23 _ _ hl
      have hd3 := s23 _ _ hdk
      have hR3' := hR.tk (Tk.of_same s23)
      have sm3 := sm.trans s23
      clear s23 s2 s3 nrt hR hl hdk sm
      have zsh := zf.sh
      have zne : Z ≠ [] := fun e => by
        have := zf.mem
        rw [e] at this
        cases this
      refine for_tup (K := K) (a := rt) (xs := us.map V.ref) (fun j σ Hy => ∃ (acc' : List Rw) (ts : List Addr) (y4 : Option V), σ = [some (.ref cs), some (.ref lr), some (.ref dk), some (.int (0 + (i : Int))), y4] ∧ Same H Hy ∧ Hy lr = some (.lst (ts.map V.ref)) ∧ RowsAt Hy ts acc' ∧ Hy dk = some (.dT (kT acc')) ∧ AOk acc' ∧ acc' = (Z.take j).foldl addR acc ∧ Hy rt = some (.tup (us.map V.ref)) ∧ RowsAt Hy us Z)
        ⟨acc, ts, _, rfl, sm3, hl3, hR3', hd3, ao, rfl, ert, hR3⟩ (fun j σ Hy _ ⟨_, _, _, _, _, _, _, _, _, _, z, _⟩ => SqT.of z) ?_ ?_
      · rintro j v σ Hy hj ⟨acc', ts, y4, rfl, sm, hl, hR, hdk, ao', ea, ert, hZ⟩
        rw [List.getElem?_map] at hj
        obtain ⟨u, hu', rfl⟩ := Option.map_eq_some_iff.mp hj
        have jl : j < Z.length := by
          rw [← hZ.ln]
          exact (List.getElem?_eq_some_iff.mp hu').1
        have hr0 : Z[j]? = some Z[j] := List.getElem?_eq_getElem jl
        obtain ⟨q', ra⟩ := hZ.at' j u _ hu' hr0
        have rsh := zsh _ (List.getElem_mem jl)
        generalize Z[j] = r at hr0 ra rsh
        have est : (Z.take (j + 1)).foldl addR acc = addR acc' r := by
          rw [List.take_add_one, hr0, List.foldl_append, ← ea]
          rfl
        obtain ⟨la, ga, ls, gs, h1, h2, h3, h4, h5, h6⟩ := id ra.ex
        have lacc := ao'.len
        have hG : DGet Hy dk (.ref q') ((kd acc' r.n).map fun _ => V.bl true) := by
          have z := DGet.t (k := ndk r.n) hdk h2
          rw [kT_val] at z
          exact z
        refine ⟨_, rfl, u, _, 0, _, rfl, rfl, SqT.of h1, atI_nat (j := 0) rfl, _, rfl, dk, _, rfl, hG, _, rfl, ?_⟩
        cases c : kd acc' r.n with
        | some kk =>
          have e1 : addR acc' r = acc' := by
            unfold addR
            rw [c]
            rfl
          exact iteF ⟨acc', ts, _, rfl, sm, hl, hR, hdk, ao', by rw [est, e1], ert, hZ⟩
        | none =>
          have e1 : addR acc' r = acc' ++ [r] := by
            unfold addR
            rw [c]
            rfl
          refine iteT ⟨_, rfl, _, rfl, u, _, 0, _, rfl, rfl, SqT.of h1, atI_nat (j := 0) rfl, dk, _, rfl, DPut.t (k := ndk r.n) hdk h2 ?_, ?_⟩
          · unfold kT
            rw [List.length_map]
            show _ < 2 ^ 24
            omega
          rw [kT_put c]
          have t1 : Tk Hy (upd Hy dk (.dT (kT (acc' ++ [r])))) := Tk.upd hdk (by intro xs z; cases z)
          have hl1 : upd Hy dk (.dT (kT (acc' ++ [r]))) lr = some (.lst (ts.map V.ref)) := by
            rw [upd_ne rd]
            exact hl
          have sm1 : Same H (upd Hy dk (.dT (kT (acc' ++ [r])))) := fun b o hb => by
            rw [upd_ne (ne_of_none hb Hdk)]
            exact sm b o hb
          have hd1 : upd Hy dk (.dT (kT (acc' ++ [r]))) dk = some (.dT (kT (acc' ++ [r]))) := upd_same
          have hR1 := hR.tk t1
          have ra1 := ra.tk t1
          have hZ1 := hZ.tk t1
          have ert1 := t1 _ _ ert
          generalize upd Hy dk (.dT (kT (acc' ++ [r]))) = H5 at hl1 sm1 hd1 hR1 ra1 hZ1 ert1 ⊢
          refine ⟨_, rfl, .inl ⟨rfl, _, SqL.of hl1⟩, _, rfl, lr, _, _, rfl, rfl, hl1, by rw [List.length_map, hR1.ln]; exact small1000 (by omega), ?_⟩
          have t2 : Tk H5 (upd H5 lr (.lst (ts.map V.ref ++ [.ref u]))) := Tk.upd hl1 (by intro xs z; cases z)
          refine ⟨acc' ++ [r], ts ++ [u], _, rfl, fun b o hb => ?_, ?_, RowsAt.snoc (hR1.tk t2) (ra1.tk t2), ?_, by rw [← e1]; exact ao'.add rsh, by rw [est, e1], t2 _ _ ert1, hZ1.tk t2⟩
          · rw [upd_ne (ne_of_none hb Hlr)]
            exact sm1 b o hb
          · rw [upd_same, List.map_append]
            rfl
          · rw [upd_ne rd.symm]
            exact hd1
      · rintro σ Hy ⟨acc', ts, y4, rfl, sm, hl, hR, hdk, ao', ea, ert, hZ⟩
        rw [List.length_map, hZ.ln, List.take_length] at ea
        rw [← ea] at ed
        have ane : acc' ≠ [] := by
          rw [ea]
          exact fold_ne (.inl zne)
        obtain ⟨ui, u, q', z, eu, lk, ra⟩ := last_rows hR ane
        obtain ⟨la, ga, ls, gs, h1, -⟩ := ra.ex
        rw [lk] at ed
        refine ⟨_, rfl, 1, rfl, lr, _, _, .ref u, rfl, rfl, SqL.of hl, by rw [eu, List.map_append]; exact atI_last _ _, u, _, 1, .str z.k, rfl, rfl, SqT.of h1, atI_nat (j := 1) rfl, rfl, _, rfl, ?_⟩
        by_cases c : z.k = "gone"
        · rw [decide_eq_true (congrArg V.str c)]
          rw [if_neg (fun h => h c)] at ed
          exact iteF ⟨acc', ts, _, _, rfl, sm, hl, hR, hdk, ao', ed⟩
        · rw [decide_eq_false (show ¬ V.str z.k = V.str "gone" from fun z => c (V.str.inj z))]
          rw [if_pos c] at ed
          refine iteT ⟨_, rfl, _, rfl, lr, _, rfl, .inl ⟨SqL.of hl, fun rt2 nrt2 => ⟨(by show 3 ≤ sizeLine; decide), fun t nt => ?_⟩⟩⟩
          have q1 := same_upd nrt2 (o := .tup (ts.map V.ref))
          have q2 := same_upd nt (o := .tup [.str "descent", .int (0 + (i : Int)), .ref rt2])
          refine go t _ ((sm.trans q1).trans q2) ((sm.trans q1).free nt) ?_
          rw [ed]
          exact ⟨rt2, ts, by rw [upd_same, Int.zero_add], q2 _ _ upd_same, (hR.tk (Tk.of_same q1)).tk (Tk.of_same q2)⟩
    · rintro σ Hx ⟨acc, ts, y3, y4, rfl, sm, hl, hR, hdk, ao, ed⟩
      rw [Nat.sub_self] at ed
      refine ⟨_, rfl, lr, _, rfl, .inl ⟨SqL.of hl, fun rt2 nrt2 => ⟨(by show 3 ≤ sizeLine; decide), fun t nt => ?_⟩⟩⟩
      have q1 := same_upd nrt2 (o := .tup (ts.map V.ref))
      have q2 := same_upd nt (o := .tup [.str "descent", .int (-1), .ref rt2])
      refine go t _ ((sm.trans q1).trans q2) ((sm.trans q1).free nt) ?_
      rw [ed]
      exact ⟨rt2, ts, upd_same, q2 _ _ upd_same, (hR.tk (Tk.of_same q1)).tk (Tk.of_same q2)⟩
end
end ZF
namespace ZF
open PySem L2 PyProof.Rows PySem.Spec G
structure Gf where
  w : Str
  n : Int
  x : V
  t0 : Str
  ts : List Str
structure GfAt (K : PySem.W.Frag) (H : Hp) (g : Addr) (f : Gf) : Prop where
  ex : ∃ a, SqT K H g [.str f.w, .int f.n, f.x, .ref a] ∧ SqT K H a ((f.t0 :: f.ts).map V.str)
theorem GfAt.same {K : PySem.W.Frag} {H H' : Hp} {g : Addr} {f : Gf} (h : GfAt K H g f) (s : Same H H') : GfAt K H' g f := by
  obtain ⟨a, b, c⟩ := h.ex
  exact ⟨a, sqT_same' b s, sqT_same' c s⟩
/-- gifts stand at these addresses -/
structure Gfs (K : PySem.W.Frag) (H : Hp) (gs : List Addr) (fs : List Gf) : Prop where
  ln : gs.length = fs.length
  at' : ∀ (i : Nat) (g : Addr) (f : Gf), gs[i]? = some g → fs[i]? = some f → GfAt K H g f
theorem Gfs.same {K : PySem.W.Frag} {H H' : Hp} {gs : List Addr} {fs : List Gf} (h : Gfs K H gs fs) (s : Same H H') : Gfs K H' gs fs := ⟨h.ln, fun i g f a b => (h.at' i g f a b).same s⟩
/-- lines stand at these addresses -/
structure Lns (H : Hp) (ts : List Addr) (rs : List (Int × Str × List Rw)) : Prop where
  ln : ts.length = rs.length
  at' : ∀ (i : Nat) (t : Addr) (r : Int × Str × List Rw), ts[i]? = some t → rs[i]? = some r → GlAt H t r.1 r.2
theorem Lns.same {H H' : Hp} {ts : List Addr} {rs : List (Int × Str × List Rw)} (h : Lns H ts rs) (s : Same H H') : Lns H' ts rs := ⟨h.ln, fun i g f a b => (h.at' i g f a b).same s⟩
theorem Lns.nil (H : Hp) : Lns H [] [] := ⟨rfl, fun i t r h => by cases h⟩
theorem Lns.snoc {H : Hp} {ts : List Addr} {rs : List (Int × Str × List Rw)} (h : Lns H ts rs) {t : Addr} {r : Int × Str × List Rw} (z : GlAt H t r.1 r.2) : Lns H (ts ++ [t]) (rs ++ [r]) := by
  refine ⟨by rw [List.length_append, List.length_append, h.ln]; rfl, fun i u v h1 h2 => ?_⟩
  by_cases c : i < ts.length
  · rw [List.getElem?_append_left c] at h1
    rw [List.getElem?_append_left (by rw [← h.ln]; exact c)] at h2
    exact h.at' i u v h1 h2
  · have l1 := (List.getElem?_eq_some_iff.mp h1).1
    rw [List.length_append, List.length_singleton] at l1
    have ei : i = ts.length := by omega
    rw [List.getElem?_append_right (by omega), ei, Nat.sub_self] at h1
    rw [List.getElem?_append_right (by rw [← h.ln]; omega), ei, h.ln, Nat.sub_self] at h2
    cases h1
    cases h2
    exact z
theorem DlAt.same {H H' : Hp} {t : Addr} {r : Int × List Rw} (h : DlAt H t r) (s : Same H H') : DlAt H' t r := by
  obtain ⟨rt, us, a, b, c⟩ := h.ex
  exact ⟨rt, us, s _ _ a, s _ _ b, c.tk (Tk.of_same s)⟩
noncomputable def glL (F : Fm) (days : Int) (m dead : Str) (st : Bool) (f : Gf) : Int × Str × List Rw := (f.n, glR F days m dead st (f.t0 :: f.ts))
/-- a paper: its lines -/
structure PpAt (K : PySem.W.Frag) (H : Hp) (t : Addr) (rs : List (Int × Str × List Rw)) (dl : Int × List Rw) : Prop where
  ex : ∃ (ts : List Addr) (d : Addr), H t = some (.tup ((ts ++ [d]).map V.ref)) ∧ Lns H ts rs ∧ DlAt H d dl
section
variable {P : Program} {w : World} {K : PySem.W.Frag} {mg : Str → Option Value} {base : Heap} {C CB CC : Addr}
def spMp (K : PySem.W.Frag) (C CB CC : Addr) : Sp := fun vs H Q _ => ∃ (cs fam bk es gl : Addr) (F : Fm) (days : Int) (m dead : Str) (rows : Nat) (st : Bool) (gs : List Addr) (fs : List Gf), vs = [.ref cs] ∧ CaseAt C CB CC H cs fam bk es gl F days m dead (rows : Int) st ∧ rows ≤ 3 ∧ Wlk F days m dead ∧ dead ∈ bnames ∧
  H gl = some (.lst (gs.map V.ref)) ∧ Gfs K H gs fs ∧ fs.length ≤ 60 ∧ (∀ f ∈ fs, ((f.t0, 0) : Nd) ∈ univ) ∧
  ∀ t H', Same H H' → H t = none → PpAt K H' t (fs.map (glL F days m dead st)) (dlR (Zh F days m dead) (rows + 1) 0 []) → Q (.ref t) H'
abbrev nMp : List Str := ["case", "lines", "gift"]
theorem scMp : FnScope nMp ["case"] (defScope sMp) := ⟨rfl, rfl, rfl, by decide +kernel, rfl, by decide +kernel, by decide +kernel⟩
theorem ok_paper {f : Addr} {fd : FuncData} (F : Fun K "make_paper" "make_paper" sMp f fd) (DC : CT K CC) (HG : Has P w K mg base CX0 "_gift_line" ["case", "gift"] 7 (spGl K C CB CC)) (HD : Has P w K mg base CX0 "_descent_line" ["case"] 7 (spDl C CB CC)) : FnOk P w K mg base CX0 8 f fd ["case"] (spMp K C CB CC) := by
  obtain ⟨fGl, fdGl, mGl, kGl, bGl, GGl⟩ := HG.ok
  obtain ⟨fDl, fdDl, mDl, kDl, bDl, GDl⟩ := HD.ok
  refine F.ok scMp (fun vs H Q E h => ?_) (fun cdv A outer s H vs Q E hr h => ?_)
  · obtain ⟨cs, fam, bk, es, gl, F, days, m, dead, rows, st, gs, fs, rfl, _⟩ := h
    rfl
  · obtain ⟨cs, fam, bk, es, gl, F, days, m, dead, rows, st, gs, fs, rfl, hC, r3, wl, dU, hgl, hG, fl, fU, go⟩ := h
    refine ⟨_, (pss_cons (ps_setLc (i := 1) (own := [("gift", 2)]) (g := gName 2) (tt := tYes) rfl scMp.nd rfl rfl (sw_true rfl rfl rfl (by decide +kernel)) (pi_list (pe_fld (pv 0) rfl)) (blkOk_by (N := nMp) (sc := defScope sMp) (by decide +kernel)) (fun _ _ _ _ _ => (pg_name (i := 2) scMp.nd rfl (.inl rfl) (.inr rfl))) (fun _ _ _ _ _ => pts_nil) (fun _ _ _ _ _ => (pe_call GGl (hr.mono (by decide)) (by rfl) mGl kGl bGl .nil pass0 (pa_cons (pv 0) (pa_cons (pv 2) pa_nil)))))
      (pss_one (ps_ret (pe_tup (StX.pa_star (pv 1) (pa_cons (pe_call GDl (hr.mono (by decide)) (by rfl) mDl kDl bDl .nil pass0 (pa_cons (pv 0) pa_nil)) pa_nil)))))), ?_⟩
    obtain ⟨dx, hc⟩ := hC.ob
    refine ⟨_, rfl, cs, CC, dx, _, _, rfl, hc, DC.cl, DC.n5, lc5 _ _ _ _ _, gl, rfl, ⟨_, SqL.of hgl⟩, fun D1 nD1 => ?_⟩
    refine lc_it (walk_list (xs := gs.map V.ref)) (fun i Hz => Same H Hz ∧ ∃ ts : List Addr, Hz D1 = some (.lst (ts.map V.ref)) ∧ Lns Hz ts ((fs.take i).map (glL F days m dead st))) ⟨same_upd nD1, [], upd_same, Lns.nil _⟩ (fun i Hz _ h => SqL.of (h.1 _ _ hgl)) ?_ ?_
    · rintro i v Hz H' hi ⟨k1, ts, k2, k3⟩ ⟨rfl, ev⟩
      rw [List.getElem?_map] at ev
      obtain ⟨g, hg, rfl⟩ := Option.map_eq_some_iff.mp ev
      have il : i < fs.length := by
        rw [← hG.ln]
        exact (List.getElem?_eq_some_iff.mp hg).1
      have hf : fs[i]? = some fs[i] := List.getElem?_eq_getElem il
      have fu := fU _ (List.getElem_mem il)
      obtain ⟨a, g1, g2⟩ := ((hG.at' i g _ hg hf).same k1).ex
      generalize fs[i] = ff at hf fu g1 g2
      refine ⟨rfl, _, rfl, _, rfl, cs, fam, bk, es, gl, g, a, F, days, m, dead, ff.w, _, ff.n, ff.x, st, ff.t0, ff.ts, rfl, hC.same k1, g1, g2, wl, fu, fun t H3 s3 nt hgl3 => ?_⟩
      have k23 := s3 _ _ k2
      have lts := k3.ln
      rw [List.length_map, List.length_take] at lts
      have tk4 : Tk H3 (upd H3 D1 (.lst (ts.map V.ref ++ [.ref t]))) := Tk.upd k23 (by intro xs z; cases z)
      have glk : ∀ {u n r}, GlAt H3 u n r → GlAt (upd H3 D1 (.lst (ts.map V.ref ++ [.ref t]))) u n r := fun h => by
        obtain ⟨rt, us, a, b, c⟩ := h.ex
        exact ⟨rt, us, tk4 _ _ a, tk4 _ _ b, c.tk tk4⟩
      refine ⟨_, k23, by rw [List.length_map]; exact small1000 (by omega), fun b o hb => ?_, ts ++ [t], ?_, ?_⟩
      · rw [upd_ne (ne_of_none hb nD1)]
        exact s3 _ _ (k1 b o hb)
      · rw [upd_same, List.map_append]
        rfl
      · rw [List.take_add_one, hf, List.map_append]
        have k33 := k3.same s3
        exact Lns.snoc (r := glL F days m dead st ff) ⟨k33.ln, fun i u v a b => glk (k33.at' i u v a b)⟩ (glk hgl3)
    · rintro H2 ⟨k1, ts, k2, k3⟩
      rw [List.length_map, hG.ln, List.take_length] at k3
      refine ⟨_, rfl, D1, _, rfl, .inr (SqL.of k2), _, rfl, cs, fam, bk, es, gl, F, days, m, dead, rows, st, rfl, hC.same k1, r3, wl, dU, fun d H3 s3 nd hd => ?_⟩
      have lts := k3.ln
      rw [List.length_map] at lts
      refine ⟨?_, fun t nt => ?_⟩
      · rw [List.length_append, List.length_map]
        exact Nat.le_of_lt (small1000 (by show ts.length + 1 ≤ 1000; omega))
      · have q4 := same_upd nt (o := .tup (ts.map V.ref ++ [.ref d]))
        refine go t _ ((k1.trans s3).trans q4) ((k1.trans s3).free nt) ⟨ts, d, ?_, (k3.same s3).same q4, hd.same q4⟩
        rw [upd_same, List.map_append]
        rfl
end
end ZF
namespace ZK
open PySem L2 PyProof.Rows PySem.Spec G
def wxs (wl : List (Addr × Wl)) : List V := wl.map fun p => .ref p.1
def wos (wl : List (Addr × Wl)) : List (Option Wl) := wl.map fun p => some p.2
theorem wxs_len (wl : List (Addr × Wl)) : (wxs wl).length = wl.length := by unfold wxs; exact List.length_map _
theorem wos_len (wl : List (Addr × Wl)) : (wos wl).length = wl.length := by unfold wos; exact List.length_map _
theorem wos_some {wl : List (Addr × Wl)} {i : Nat} : ¬ (wos wl)[i]? = some none := by
  intro h
  unfold wos at h
  rw [List.getElem?_map] at h
  obtain ⟨p, _, e⟩ := Option.map_eq_some_iff.mp h
  cases e
theorem goods_eq {wl ps : List (Addr × Wl)} (l : ps.length = wl.length) (g : Goods ps (wxs wl) (wos wl)) : ps = wl := by
  refine List.ext_getElem? fun j => ?_
  cases e : ps[j]? with
  | none =>
    have := List.getElem?_eq_none_iff.mp e
    exact (List.getElem?_eq_none_iff.mpr (by omega)).symm
  | some p =>
    obtain ⟨h1, h2⟩ := g j p e
    unfold wxs at h1
    unfold wos at h2
    rw [List.getElem?_map] at h1 h2
    obtain ⟨q, hq, e1⟩ := Option.map_eq_some_iff.mp h1
    rw [hq] at h2
    have e2 := Option.some.inj (Option.some.inj h2)
    have e3 := V.ref.inj e1
    rw [hq]
    exact congrArg some (Prod.ext e3.symm e2.symm)
theorem Wls.its {K : PySem.W.Frag} {H : Hp} {ll : Addr} {wl : List (Addr × Wl)} (W : Wls K H ll wl) : ∀ (i : Nat) (x : V) (o : Option Wl), (wxs wl)[i]? = some x → (wos wl)[i]? = some o → WlIt K H x o := by
  intro i x o h1 h2
  unfold wxs at h1
  unfold wos at h2
  rw [List.getElem?_map] at h1 h2
  obtain ⟨p, hp, rfl⟩ := Option.map_eq_some_iff.mp h1
  rw [hp] at h2
  obtain rfl := Option.some.inj h2
  have m := W.at' p (List.mem_of_getElem? hp)
  exact ⟨p.1, rfl, m.1, m.2.ok⟩
theorem stn_fact (ps : List (Addr × Wl)) : ∀ p ∈ stn ps, p ∈ ps ∧ isG p.2 = true := by
  have key : ∀ (ps acc : List (Addr × Wl)), ∀ p ∈ ps.foldl stp acc, (p ∈ acc ∨ (p ∈ ps ∧ isG p.2 = true)) := by
    intro ps
    induction ps with
    | nil => exact fun acc p h => .inl h
    | cons x ps ih =>
      intro acc p h
      rcases ih (stp acc x) p h with m | ⟨m, g⟩
      · unfold stp at m
        rcases List.mem_append.mp m with m | m
        · exact .inl (List.mem_filter.mp m).1
        · by_cases c : isG x.2 = true
          · rw [if_pos c] at m
            rw [List.mem_singleton.mp m]
            exact .inr ⟨List.mem_cons_self, c⟩
          · rw [if_neg c] at m
            cases m
      · exact .inr ⟨List.mem_cons_of_mem _ m, g⟩
  intro p h
  rcases key ps [] p h with m | m
  · cases m
  · exact m
end ZK
namespace ZF
open PySem L2 PyProof.Rows PySem.Spec G
theorem passF {P : Program} {w : World} {X : Cx} : Passes (L2.CX P w) X (fun _ _ _ => False) := by
  intro pins σ H s e s' I h
  obtain ⟨_, _, _, _, _, _, _, _, _, _, _, _, z⟩ := h
  exact z.elim
theorem putn {f : Str} {v : V} {fs : List (Str × V)} {k : Nat} (h : fs.length ≤ k) : (putF f v fs).length ≤ k + 1 := Nat.le_trans (putF_len f v fs) (Nat.succ_le_succ h)
theorem tabL_butP {H H' : Hp} {e p C dx : Addr} {g : List (Str × V)} {n : Nat} {f : Str → List Str} (T : TabL H e n f) (hp : H p = some (.ins C dx g)) (b : ∀ c o, H c = some o → c ≠ p → H' c = some o) : TabL H' e n f := by
  obtain ⟨kvs, D, h⟩ := T.ex
  refine ⟨kvs, D.keep (b _ _ D.dk (ne_of D.dk hp (by intro z; cases z))), fun k => ?_⟩
  rcases h k with h | ⟨h1, l, h2, h3⟩
  · exact .inl h
  · exact .inr ⟨h1, l, h2, b _ _ h3 (ne_of h3 hp (by intro z; cases z))⟩
theorem tabV_butP {H H' : Hp} {e p C dx : Addr} {g : List (Str × V)} {n : Nat} {f : Str → Option V} (T : TabV H e n f) (hp : H p = some (.ins C dx g)) (b : ∀ c o, H c = some o → c ≠ p → H' c = some o) : TabV H' e n f := by
  obtain ⟨kvs, D, h⟩ := T.ex
  exact ⟨kvs, D.keep (b _ _ D.dk (ne_of D.dk hp (by intro z; cases z))), h⟩
theorem fam_butP {H H' : Hp} {C fam p CC dx : Addr} {g : List (Str × V)} {n : Nat} {F : Fm} (h : FamAt C H fam n F) (fp : fam ≠ p) (hp : H p = some (.ins CC dx g)) (b : ∀ c o, H c = some o → c ≠ p → H' c = some o) : FamAt C H' fam n F := by
  obtain ⟨dy, a1, a2, a3, a4, a5, a6, a7, h0, t1, t2, t3, t4, t5, t6, t7, nd⟩ := h.ex
  exact ⟨dy, a1, a2, a3, a4, a5, a6, a7, b _ _ h0 fp, tabL_butP t1 hp b, tabL_butP t2 hp b, tabL_butP t3 hp b, tabL_butP t4 hp b, tabV_butP t5 hp b, tabV_butP t6 hp b, tabV_butP t7 hp b, nd⟩
theorem putc (dead : Str) (fam bk es gl : Addr) : putF "gifts" (.ref gl) (putF "estate" (.ref es) (putF "rules" (.ref bk) (putF "family" (.ref fam) (putF "dead" (.str dead) [])))) = cfl dead fam bk es gl := by kernel_rfl
section
variable {P : Program} {w : World} {K : PySem.W.Frag} {mg : Str → Option Value} {base : Heap} {C CB CC CE CI CW : Addr}
def spCasI (K : PySem.W.Frag) (C CC : Addr) : Sp := fun vs H Q _ => ∃ (p dx fa bk es wl : Addr) (dead : Str) (fs : List Fct) (F : Fm) (dd : Int) (ps : List (Addr × ZK.Wl)), vs = [.ref p, .str dead, .ref fa, .ref bk, .ref es, .ref wl] ∧ H p = some (.ins CC dx []) ∧ FactsAt H fa fs ∧ Told fs F ∧ (∀ y, ¬ Dsc F.ch y y) ∧ fs.length ≤ 120 ∧ F.dy dead = some dd ∧ ZK.Wls K H wl ps ∧ ps.length ≤ 60 ∧
  ∀ (H' : Hp) (fam gl : Addr) (n : Nat), Kp p H H' → H' p = some (.ins CC dx (cfl dead fam bk es gl)) → FamAt C H' fam n F → H' gl = some (.lst ((ZK.stn ps).map fun p => .ref p.1)) → Q .non H'
abbrev nCasI : List Str := ["self", "dead", "facts", "rules", "estate", "will"]
theorem scCasI : FnScope nCasI ["self", "dead", "facts", "rules", "estate", "will"] (defScope sCasI) := ⟨rfl, rfl, rfl, by decide +kernel, rfl, by decide +kernel, by decide +kernel⟩
theorem ok_casI {f : Addr} {fd : FuncData} {dvs : List V} {kws : List (Str × V)} (F : FunD K "__init__" "Case.__init__" (defArgs sCasI) (defBody sCasI) (defScope sCasI) dvs kws f fd) (T : TC mg) (D : FT K C) (DC : CT K CC) (XB : XT P w K mg base "BadFact" "at" CE)
    {fI fS : Addr} {fdF fdS : FuncData} (mFam : mg "Family" = some (.ref C)) (MF : Mk K C fI) (bF : Binds K fdF ["self", "facts"] []) (GF : FnOk P w K mg base (L2.CX P w) 3 fI fdF ["self", "facts"] (spFamI C CE CI))
    (mSta : mg "standing" = some (.ref fS)) (kSta : PySem.W.keepIn K (.ref fS) = true) (bSta : Binds K fdS ["will"] []) (GSta : FnOk P w K mg base (L2.CX P w) 4 fS fdS ["will"] (ZK.spSta K CW)) (HD : HasM P w K mg base CX0 C "day" ["self", "name"] 1 (spVal C dayV)) :
    FnOk P w K mg base (L2.CX P w) 5 f fd ["self", "dead", "facts", "rules", "estate", "will"] (spCasI K C CC) := by
  obtain ⟨fDay, fdDay, meDay, bDay, GDay⟩ := HD.ok
  obtain ⟨fB, fdB, iB, tB, bB, GB⟩ := XB.i
  refine FunD.ok F scCasI (fun vs H Q E h => ?_) (fun cdv A outer s H vs Q E hr h => ?_)
  · obtain ⟨p, dx, fa, bk, es, wl, dead, fs, F, dd, ps, rfl, _⟩ := h
    rfl
  · obtain ⟨p, dx, fa, bk, es, wl, dead, fs, F, dd, ps, rfl, hp, ef, to, irr, ln, hdd, hW, pl, go⟩ := h
    refine ⟨_, (pss_cons (ps_fld (pv 0) (pv 1) rfl)
      (pss_cons (ps_fld (pv 0) (pe_make MF GF (hr.mono (by decide)) (by rfl) mFam bF .nil passF (pa_cons (pv 2) pa_nil)) rfl)
      (pss_cons (ps_fld (pv 0) (pv 3) rfl)
      (pss_cons (ps_fld (pv 0) (pv 4) rfl)
      (pss_cons (ps_fld (pv 0) (pe_call GSta (hr.mono (by decide)) (by rfl) mSta kSta bSta .nil passF (pa_cons (pv 5) pa_nil)) rfl)
      (pss_one (ps_if (pt_cmpR op_isN (pe_meth (pe_fld (pv 0) rfl) D.cl meDay GDay (hr.mono (by decide)) bDay .nil pass0 (pa_cons (pv 1) pa_nil)) pe_non (nomark _)) (pss_one (ps_raise rfl (takes_of rfl rfl rfl rfl) (pmk_oex XB.o iB tB GB (hr.mono (by decide)) bB .nil pass0 (by rfl) XB.g (pa_cons (pe_callB call_len_seq (by rfl) T.len PySem.boot_len (pa_cons (pv 2) pa_nil)) pa_nil)))) pss_nil))))))), ?_⟩
    have sz : ∀ fs : List (Str × V), fs.length ≤ 10 → fs.length < 1000 := fun fs h => Nat.lt_of_le_of_lt h (by decide)
    -- dead
    refine ⟨_, rfl, _, rfl, p, CC, dx, _, rfl, hp, DC.cl, DC.n1, by decide, ?_⟩
    have hp1 : upd H p (.ins CC dx (putF "dead" (.str dead) [])) p = some (.ins CC dx (putF "dead" (.str dead) [])) := upd_same
    have k1 : Kp p H (upd H p (.ins CC dx (putF "dead" (.str dead) []))) := fun b o hb ne => by rw [upd_ne ne]; exact hb
    generalize upd H p (.ins CC dx (putF "dead" (.str dead) [])) = H1 at hp1 k1 ⊢
    obtain ⟨qf, q1, q2, q3⟩ := id ef
    have q1' := k1 _ _ q1 (ne_of q1 hp (by intro z; cases z))
    have q3' : ∀ (i : Nat) (q : Addr) (fc : Fct), qf[i]? = some q → fs[i]? = some fc → H1 q = some (.tup fc.vs) := fun i q fc h1 h2 => k1 _ _ (q3 i q fc h1 h2) (ne_of (q3 i q fc h1 h2) hp (by intro z; cases z))
    -- family
    refine ⟨_, rfl, fun fam dxf nx ndx nex => ?_⟩
    have sF : Same H1 (upd (upd H1 dxf (.own fam)) fam (.ins C dxf [])) := ZK.made nx ndx nex
    refine ⟨fam, fa, dxf, qf.map V.ref, fs.map some, rfl, upd_same, sF _ _ q1', by rw [List.length_map, List.length_map, q2], ?_, fun c => ?_, fun i _ er => ?_, fun F' x _ er hx => ?_, fun F' n _ er _ H4 kp hF => ⟨rfl, ?_⟩⟩
    · intro i v o h1 h2
      rw [List.getElem?_map] at h1 h2
      obtain ⟨q, hq, rfl⟩ := Option.map_eq_some_iff.mp h1
      obtain ⟨fc, hf, rfl⟩ := Option.map_eq_some_iff.mp h2
      exact ⟨q, rfl, sF _ _ (q3' i q fc hq hf), to.good fc (List.mem_of_getElem? hf)⟩
    · rw [List.length_map, q2] at c
      omega
    · rw [to.run] at er
      cases er
    · rw [to.run] at er
      obtain rfl := Sum.inl.inj er
      exact absurd hx (irr x)
    rw [to.run] at er
    obtain rfl := Sum.inl.inj er
    have s4 : Same H1 H4 := fun b o hb => kp b o (sF _ _ hb) (ne_of_none hb nx)
    have fp : fam ≠ p := fun e => by
      rw [e, hp1] at nx
      cases nx
    clear sF kp ndx nex q1' q3'
    refine ⟨_, rfl, p, CC, dx, _, rfl, s4 _ _ hp1, DC.cl, DC.n2, sz _ (Nat.le_trans (putn (fs := []) (k := 0) (Nat.le_refl 0)) (by decide)), ?_⟩
    have put (H4 : Hp) (fs gs : List (Str × V)) (hp : H4 p = some (.ins CC dx fs)) : upd H4 p (.ins CC dx gs) p = some (.ins CC dx gs) ∧ ∀ b o, H4 b = some o → b ≠ p → upd H4 p (.ins CC dx gs) b = some o := ⟨upd_same, fun b o hb ne => by rw [upd_ne ne]; exact hb⟩
    have hp4 := s4 _ _ hp1
    have k4 : Kp p H H4 := fun b o hb ne => s4 _ _ (k1 b o hb ne)
    clear k1 hp1 s4
    obtain ⟨hp5, b5⟩ := put H4 _ (putF "family" (.ref fam) (putF "dead" (.str dead) [])) hp4
    generalize upd H4 p (.ins CC dx (putF "family" (.ref fam) (putF "dead" (.str dead) []))) = H5 at hp5 b5 ⊢
    have hF5 := fam_butP hF fp hp4 b5
    -- rules, estate
    refine ⟨_, rfl, _, rfl, p, CC, dx, _, rfl, hp5, DC.cl, DC.n3, sz _ (Nat.le_trans (putn (k := 1) (putn (fs := []) (k := 0) (Nat.le_refl 0))) (by decide)), ?_⟩
    obtain ⟨hp6, b6⟩ := put H5 _ (putF "rules" (.ref bk) (putF "family" (.ref fam) (putF "dead" (.str dead) []))) hp5
    generalize upd H5 p (.ins CC dx (putF "rules" (.ref bk) (putF "family" (.ref fam) (putF "dead" (.str dead) [])))) = H6 at hp6 b6 ⊢
    have hF6 := fam_butP hF5 fp hp5 b6
    refine ⟨_, rfl, _, rfl, p, CC, dx, _, rfl, hp6, DC.cl, DC.n4, sz _ (Nat.le_trans (putn (k := 2) (putn (k := 1) (putn (fs := []) (k := 0) (Nat.le_refl 0)))) (by decide)), ?_⟩
    obtain ⟨hp7, b7⟩ := put H6 _ (putF "estate" (.ref es) (putF "rules" (.ref bk) (putF "family" (.ref fam) (putF "dead" (.str dead) [])))) hp6
    generalize upd H6 p (.ins CC dx (putF "estate" (.ref es) (putF "rules" (.ref bk) (putF "family" (.ref fam) (putF "dead" (.str dead) []))))) = H7 at hp7 b7 ⊢
    have hF7 := fam_butP hF6 fp hp6 b7
    have k7 : Kp p H H7 := fun b o hb ne => b7 _ _ (b6 _ _ (b5 _ _ (k4 b o hb ne) ne) ne) ne
    clear hF5 hF6 hF k4 b5 b6 b7 hp4 hp5 hp6
    have wlp : ∀ {q : Addr} {xs : List V}, H q = some (.lst xs) → H7 q = some (.lst xs) := fun h => k7 _ _ h (ne_of h hp (by intro z; cases z))
    have sq7 : ∀ {q : Addr} {xs : List V}, SqT K H q xs → SqT K H7 q xs := fun h => by
      rcases h with (h | ⟨z, h⟩) | h
      · exact .inl (.inl (k7 _ _ h (ne_of h hp (by intro z; cases z))))
      · exact .inl (.inr ⟨z, k7 _ _ h (ne_of h hp (by intro z; cases z))⟩)
      · exact .inr h
    have W7 : ZK.Wls K H7 wl ps := ⟨wlp hW.el, fun q hq => ⟨ZK.wl_move (fun q xs h => sq7 h) (hW.at' q hq).1, (hW.at' q hq).2⟩⟩
    refine ⟨_, rfl, wl, ZK.wxs ps, ZK.wos ps, rfl, SqL.of W7.el, by rw [ZK.wxs_len]; omega, by rw [ZK.wos_len, ZK.wxs_len], W7.its, fun z => (by rw [ZK.wxs_len] at z; omega), fun i ps' _ z _ _ => absurd z ZK.wos_some, fun ps' _ l2 g2 gl H8 s8 ngl egl => ?_⟩
    obtain rfl := ZK.goods_eq (by rw [l2, ZK.wxs_len]) g2
    have hp8 := s8 _ _ hp7
    have hF8 := hF7.same s8
    have k8 : Kp p H H8 := fun b o hb ne => s8 _ _ (k7 b o hb ne)
    clear W7 hW sq7 wlp hF7 k7
    refine ⟨_, rfl, p, CC, dx, _, rfl, hp8, DC.cl, DC.n5, sz _ (Nat.le_trans (putn (k := 3) (putn (k := 2) (putn (k := 1) (putn (fs := []) (k := 0) (Nat.le_refl 0))))) (by decide)), ?_⟩
    rw [putc]
    obtain ⟨hp9, b9⟩ := put H8 _ (cfl dead fam bk es gl) hp8
    have glp : gl ≠ p := ne_of egl hp8 (by intro z; cases z)
    have egl9 := b9 _ _ egl glp
    generalize upd H8 p (.ins CC dx (cfl dead fam bk es gl)) = H9 at hp9 b9 egl9 ⊢
    have hF9 := fam_butP hF8 fp hp8 b9
    have k9 : Kp p H H9 := fun b o hb ne => b9 _ _ (k8 b o hb ne) ne
    obtain ⟨dxF, a1, a2, a3, a4, a5, a6, a7, hf, _⟩ := id hF9.ex
    refine ⟨_, rfl, p, CC, dx, _, _, rfl, hp9, DC.cl, DC.n2, lc2 _ _ _ _ _, fam, dxF, _, rfl, hf, no_md ⟨a1, a2, a3, a4, a5, a6, a7⟩, _, rfl, fam, dead, n, _, rfl, hF9, rfl, _, rfl, ?_⟩
    have ev : dayV F dead = V.int dd := by
      unfold dayV
      rw [hdd]
      rfl
    rw [ev, decide_eq_false (by intro z; cases z)]
    exact iteF (go H9 fam gl n k9 hp9 hF9 egl9)
end
end ZF
namespace ZF
open PySem L2 PyProof.Rows PySem.Spec G
abbrev sKin : Stmt := topS 76
abbrev sOnc : Stmt := topS 77
abbrev sLch : Stmt := topS 78
abbrev sLpa : Stmt := topS 79
abbrev sLda : Stmt := topS 80
structure TK (mg : Str → Option Value) : Prop where
  range : mg "range" = none
  len : mg "len" = none
  sorted : mg "sorted" = none
  int : mg "int" = none
  tuple : mg "tuple" = none
  list : mg "list" = none
def kin1 (c : Bool) (x : Str) (fc : Fct) : Option Str := if c = true then ch1 x fc else pa1 x fc
def kinL (c : Bool) (fs : List Fct) (x : Str) : List Str := fs.filterMap (kin1 c x)
theorem kin_ch (fs : List Fct) (x : Str) : kinL true fs x = chs fs x := by
  unfold kinL chs
  congr 1
theorem kin_pa (fs : List Fct) (x : Str) : kinL false fs x = pas fs x := by
  unfold kinL pas
  congr 1
def kinI (c : Bool) : Int := if c = true then 1 else 2
theorem uniq_subl : ∀ l : List Str, List.Sublist (uniq l) l
  | [] => .slnil
  | x :: r => (List.filter_sublist.trans (uniq_subl r)).cons₂ x
theorem uniq_srt (l : List Str) : uniq (srt l) = srt (uniq l) := by
  have h1 : uniq (srt l) = srt (uniq (srt l)) := (srt_one (List.Perm.refl _) ((srt_pw l).sublist (uniq_subl _)))
  rw [h1]
  refine srt_same uniq_nd uniq_nd fun x => ?_
  rw [uniq_mem, uniq_mem, srt_mem]
section
variable {P : Program} {w : World} {K : PySem.W.Frag} {mg : Str → Option Value} {base : Heap}
def spKin : Sp := fun vs H Q _ => ∃ (a : Addr) (c : Bool) (x : Str) (fs : List Fct), vs = [.ref a, .int (kinI c), .str x] ∧ FactsAt H a fs ∧ fs.length ≤ 120 ∧ ∀ l H', Same H H' → H l = none → H' l = some (.lst ((srt (kinL c fs x)).map V.str)) → Q (.ref l) H'
abbrev nKin : List Str := ["facts", "at", "name", "fact"]
theorem scKin : FnScope nKin ["facts", "at", "name"] (defScope sKin) := ⟨rfl, rfl, rfl, by decide +kernel, rfl, by decide +kernel, by decide +kernel⟩
theorem ok_kin {f : Addr} {fd : FuncData} (F : Fun K "_law_kin" "_law_kin" sKin f fd) (T : TK mg) : FnOk P w K mg base CX0 1 f fd ["facts", "at", "name"] spKin := by
  refine F.ok scKin (fun vs H Q E h => ?_) (fun cdv A outer s H vs Q E hr h => ?_)
  · obtain ⟨a, c, x, fs, rfl, _⟩ := h
    rfl
  · obtain ⟨a, c, x, fs, rfl, hA, hn, go⟩ := h
    refine ⟨_, (pss_one (ps_ret (pe_callB cr_sortTx (by rfl) T.sorted (by decide +kernel) (pa_cons (pe_lc (own := [("fact", 3)]) (g := gName 3) rfl scKin.nd (pi_list (pv 0)) (blkOk_by (N := nKin) (sc := defScope sKin) (by decide +kernel)) (fun _ _ _ _ _ => (pg_name (i := 3) scKin.nd rfl (.inl rfl) (.inr rfl))) (fun _ _ _ _ _ => pts_one (PW.pt (pw_and (pt_cmpR op_eq (pe_ix (show IxR _ (rIxT K) from ix_tup) (pv 3) pe_int (fun _ _ => rfl)) pe_str (nomark _)) (pw_and1 (pt_cmpR op_eq (pe_ix (show IxR _ (rIxT K) from ix_tup) (pv 3) (pe_op op_sub pe_int (pv 1)) (fun _ _ => rfl)) (pv 2) (nomark _)))))) (fun _ _ _ _ _ => (pe_ix (show IxR _ (rIxT K) from ix_tup) (pv 3) (pv 1) (fun _ _ => rfl)))) pa_nil)))), ?_⟩
    obtain ⟨qs, e1, e2, e3⟩ := id hA
    refine ⟨_, rfl, a, rfl, ⟨_, SqL.of e1⟩, fun D nD => ?_⟩
    refine lc_it (walk_list (xs := qs.map V.ref)) (fun i Hz => Same H Hz ∧ Hz D = some (.lst (((fs.take i).filterMap (kin1 c x)).map V.str))) ⟨same_upd nD, upd_same⟩ (fun i Hz _ h => SqL.of (h.1 _ _ e1)) ?_ ?_
    · rintro i v Hz H' hi ⟨k1, k2⟩ ⟨rfl, ev⟩
      rw [List.getElem?_map] at ev
      obtain ⟨q, hq, rfl⟩ := Option.map_eq_some_iff.mp ev
      have il : i < fs.length := by
        rw [← e2]
        exact (List.getElem?_eq_some_iff.mp hq).1
      have ef : fs[i]? = some fs[i] := List.getElem?_eq_getElem il
      have hT : SqT K H' q fs[i].vs := SqT.of (k1 _ _ (e3 i q _ hq ef))
      generalize fs[i] = fc at ef hT
      have st := fmap_step fs (kin1 c x) ef
      have ln := List.length_filterMap_le (kin1 c x) (fs.take i)
      rw [List.length_take] at ln
      have no : kin1 c x fc = none → Same H H' ∧ H' D = some (.lst (((fs.take (i + 1)).filterMap (kin1 c x)).map V.str)) := fun e => ⟨k1, by rw [st, e]; simpa using k2⟩
      have yes : ∀ y, kin1 c x fc = some y → ∃ xs, H' D = some (.lst xs) ∧ xs.length < sizeLine ∧ Same H (upd H' D (.lst (xs ++ [.str y]))) ∧ upd H' D (.lst (xs ++ [.str y])) D = some (.lst (((fs.take (i + 1)).filterMap (kin1 c x)).map V.str)) := fun y e => by
        refine ⟨_, k2, ?_, ?_, ?_⟩
        · rw [List.length_map]
          exact small1000 (by omega)
        · intro b o hb
          rw [upd_ne (ne_of_none hb nD)]
          exact k1 b o hb
        · rw [upd_same, st, e, List.map_append]
          rfl
      refine ⟨rfl, ?_⟩
      cases fc with
      | child ch pa =>
        refine ⟨_, rfl, q, _, 0, .str "child", rfl, rfl, hT, atI_nat (j := 0) rfl, rfl, _, rfl, ?_⟩
        rw [decide_eq_true (rfl : V.str ("child" : Str) = .str ("child" : Str))]
        cases c with
        | true =>
          refine iteT ⟨_, rfl, _, rfl, _, _, rfl, rfl, q, _, 2, .str pa, rfl, rfl, hT, atI_nat (j := 2) rfl, _, rfl, rfl, _, rfl, ?_⟩
          have ef : kin1 true x (.child ch pa) = if pa = x then some ch else none := rfl
          by_cases e : pa = x
          · rw [decide_eq_true (congrArg V.str e)]
            rw [if_pos e] at ef
            exact iteT ⟨_, rfl, _, rfl, q, _, 1, .str ch, rfl, rfl, hT, atI_nat (j := 1) rfl, yes _ ef⟩
          · rw [decide_eq_false (fun z => e (V.str.inj z))]
            rw [if_neg e] at ef
            exact iteF (no ef)
        | false =>
          refine iteT ⟨_, rfl, _, rfl, _, _, rfl, rfl, q, _, 1, .str ch, rfl, rfl, hT, atI_nat (j := 1) rfl, _, rfl, rfl, _, rfl, ?_⟩
          have ef : kin1 false x (.child ch pa) = if ch = x then some pa else none := rfl
          by_cases e : ch = x
          · rw [decide_eq_true (congrArg V.str e)]
            rw [if_pos e] at ef
            exact iteT ⟨_, rfl, _, rfl, q, _, 2, .str pa, rfl, rfl, hT, atI_nat (j := 2) rfl, yes _ ef⟩
          · rw [decide_eq_false (fun z => e (V.str.inj z))]
            rw [if_neg e] at ef
            exact iteF (no ef)
      | wed c1 p1 =>
        refine ⟨_, rfl, q, _, 0, .str "wed", rfl, rfl, hT, atI_nat (j := 0) rfl, rfl, _, rfl, ?_⟩
        rw [decide_eq_false (show ¬ V.str ("wed" : Str) = .str ("child" : Str) by decide +kernel)]
        exact iteF (no (by cases c <;> rfl))
      | parted c1 p1 =>
        refine ⟨_, rfl, q, _, 0, .str "parted", rfl, rfl, hT, atI_nat (j := 0) rfl, rfl, _, rfl, ?_⟩
        rw [decide_eq_false (show ¬ V.str ("parted" : Str) = .str ("child" : Str) by decide +kernel)]
        exact iteF (no (by cases c <;> rfl))
      | died c1 p1 =>
        refine ⟨_, rfl, q, _, 0, .str "died", rfl, rfl, hT, atI_nat (j := 0) rfl, rfl, _, rfl, ?_⟩
        rw [decide_eq_false (show ¬ V.str ("died" : Str) = .str ("child" : Str) by decide +kernel)]
        exact iteF (no (by cases c <;> rfl))
      | renounced c1 =>
        refine ⟨_, rfl, q, _, 0, .str "renounced", rfl, rfl, hT, atI_nat (j := 0) rfl, rfl, _, rfl, ?_⟩
        rw [decide_eq_false (show ¬ V.str ("renounced" : Str) = .str ("child" : Str) by decide +kernel)]
        exact iteF (no (by cases c <;> rfl))
      | advance c1 p1 =>
        refine ⟨_, rfl, q, _, 0, .str "advance", rfl, rfl, hT, atI_nat (j := 0) rfl, rfl, _, rfl, ?_⟩
        rw [decide_eq_false (show ¬ V.str ("advance" : Str) = .str ("child" : Str) by decide +kernel)]
        exact iteF (no (by cases c <;> rfl))
    rintro H1 ⟨k1, k2⟩
    rw [List.length_map, e2, List.take_length] at k2
    refine ⟨D, _, rfl, SqL.of k2, fun p np => ?_⟩
    exact go p _ (k1.trans (same_upd np)) (k1.free np) upd_same
def spOnf : Sp := fun vs H Q _ => ∃ (a : Addr) (zs : List Str), vs = [.ref a] ∧ H a = some (.lst (zs.map V.str)) ∧ zs.length ≤ 900 ∧ ∀ l H', Same H H' → H l = none → H' l = some (.lst ((uniq zs).map V.str)) → Q (.ref l) H'
abbrev nOnc : List Str := ["names", "found", "name"]
theorem scOnc : FnScope nOnc ["names"] (defScope sOnc) := ⟨rfl, rfl, rfl, by decide +kernel, rfl, by decide +kernel, by decide +kernel⟩
theorem ok_oncf {f : Addr} {fd : FuncData} (F : Fun K "_law_once" "_law_once" sOnc f fd) : FnOk P w K mg base CX0 1 f fd ["names"] spOnf := by
  refine F.ok scOnc (fun vs H Q E h => ?_) (fun cdv A outer s H vs Q E hr h => ?_)
  · obtain ⟨a, zs, rfl, _⟩ := h
    rfl
  · obtain ⟨a, zs, rfl, ha, hz, go⟩ := h
    refine ⟨_, (pss_cons (ps_set (i := 1) scOnc.nd rfl (.inl rfl) (pe_lst pa_nil))
      (pss_cons (ps_for PassesOwn.never rfl (pi_list (pv 0)) (pg_name (i := 2) scOnc.nd rfl (.inl rfl)) (pss_one (ps_if (pt_cmpR op_notIn_seq (pv 2) (pv 1) (by rfl)) (pss_one (ps_expr (pe_bm PySem.F.plainAttrs_list PySem.F.slot_list_append PySem.F.type_list_append mt_append (pv 1) (pa_cons (pv 2) pa_nil)))) pss_nil)))
      (pss_one (ps_ret (pv 1))))), ?_⟩
    refine ⟨Nat.zero_le _, fun l nl => ?_⟩
    have Hl : H l = none := nl
    refine ⟨_, rfl, a, rfl, ⟨_, SqL.of ((same_upd nl) _ _ ha)⟩, for_list (K := K) (a := a) (xs := zs.map V.str) (fun i σ Hy => ∃ y2, σ = [some (.ref a), some (.ref l), y2] ∧ Same H Hy ∧ Hy l = some (.lst ((uniq (zs.take i)).map V.str))) ⟨none, rfl, same_upd nl, upd_same⟩ (fun i σ Hy _ ⟨_, _, z, _⟩ => SqL.of (z _ _ ha)) ?_ ?_⟩
    · rintro i v σ Hy hi ⟨y2, rfl, sm, el⟩
      rw [List.getElem?_map] at hi
      obtain ⟨x, hx, rfl⟩ := Option.map_eq_some_iff.mp hi
      have st : uniq (zs.take (i + 1)) = uniq (zs.take i) ++ (if x ∈ zs.take i then [] else [x]) := by
        rw [List.take_add_one, hx]
        exact uniq_snoc _ _
      refine ⟨_, rfl, _, rfl, l, _, rfl, .inl (SqL.of el), rfl, flat_strs _, _, rfl, ?_⟩
      rw [show (if true = true then !inV (V.str x) ((uniq (zs.take i)).map V.str) else inV (V.str x) ((uniq (zs.take i)).map V.str)) = !inV (V.str x) ((uniq (zs.take i)).map V.str) from if_pos rfl, inV_str]
      by_cases m : x ∈ zs.take i
      · rw [if_pos m, List.append_nil] at st
        rw [decide_eq_true (uniq_mem.mpr m)]
        exact iteF ⟨_, rfl, sm, by rw [st]; exact el⟩
      · rw [if_neg m] at st
        rw [decide_eq_false (fun h => m (uniq_mem.mp h))]
        have ul := (uniq_subl (zs.take i)).length_le
        rw [List.length_take] at ul
        refine iteT ⟨_, rfl, .inl ⟨rfl, _, SqL.of el⟩, _, rfl, l, _, _, rfl, rfl, el, by rw [List.length_map]; exact small1000 (by omega), _, rfl, fun b o hb => ?_, ?_⟩
        · rw [upd_ne (ne_of_none hb Hl)]
          exact sm b o hb
        · rw [upd_same, st, List.map_append]
          rfl
    · rintro σ Hy ⟨y2, rfl, sm, el⟩
      rw [List.length_map, List.take_length] at el
      exact ⟨_, rfl, go l Hy sm Hl el⟩
def spLch : Sp := fun vs H Q _ => ∃ (a : Addr) (x : Str) (fs : List Fct), vs = [.ref a, .str x] ∧ FactsAt H a fs ∧ fs.length ≤ 120 ∧ ∀ l H', Same H H' → H l = none → H' l = some (.lst ((srt (uniq (kinL true fs x))).map V.str)) → Q (.ref l) H'
abbrev nLch : List Str := ["facts", "name"]
theorem scLch : FnScope nLch ["facts", "name"] (defScope sLch) := ⟨rfl, rfl, rfl, by decide +kernel, rfl, by decide +kernel, by decide +kernel⟩
theorem ok_lchildren {f : Addr} {fd : FuncData} (F : Fun K "_law_children" "_law_children" sLch f fd) (HK : Has P w K mg base CX0 "_law_kin" ["facts", "at", "name"] 1 spKin) (HO : Has P w K mg base CX0 "_law_once" ["names"] 1 spOnf) : FnOk P w K mg base CX0 2 f fd ["facts", "name"] spLch := by
  obtain ⟨fKin, fdKin, mKin, kKin, bKin, GKin⟩ := HK.ok
  obtain ⟨fOnc, fdOnc, mOnc, kOnc, bOnc, GOnc⟩ := HO.ok
  refine F.ok scLch (fun vs H Q E h => ?_) (fun cdv A outer s H vs Q E hr h => ?_)
  · obtain ⟨a, x, fs, rfl, _⟩ := h
    rfl
  · obtain ⟨a, x, fs, rfl, hA, hn, go⟩ := h
    refine ⟨_, (pss_one (ps_ret (pe_call GOnc (hr.mono (by decide)) (by rfl) mOnc kOnc bOnc .nil pass0 (pa_cons (pe_call GKin (hr.mono (by decide)) (by rfl) mKin kKin bKin .nil pass0 (pa_cons (pv 0) (pa_cons pe_int (pa_cons (pv 1) pa_nil)))) pa_nil)))), ?_⟩
    refine ⟨_, rfl, _, rfl, a, true, x, fs, rfl, hA, hn, fun l H1 s1 nl el => ?_⟩
    have ll : (srt (kinL true fs x)).length ≤ 900 := by
      rw [(srt_perm _).length_eq]
      exact Nat.le_trans (List.length_filterMap_le _ _) (by omega)
    refine ⟨l, _, rfl, el, ll, fun l2 H2 s2 nl2 el2 => ?_⟩
    rw [uniq_srt] at el2
    exact go l2 H2 (s1.trans s2) (s1.free nl2) el2
def spLpa : Sp := fun vs H Q _ => ∃ (a : Addr) (x : Str) (fs : List Fct), vs = [.ref a, .str x] ∧ FactsAt H a fs ∧ fs.length ≤ 120 ∧ ∀ l H', Same H H' → H l = none → H' l = some (.lst ((srt (uniq (kinL false fs x))).map V.str)) → Q (.ref l) H'
abbrev nLpa : List Str := ["facts", "name"]
theorem scLpa : FnScope nLpa ["facts", "name"] (defScope sLpa) := ⟨rfl, rfl, rfl, by decide +kernel, rfl, by decide +kernel, by decide +kernel⟩
theorem ok_lparents {f : Addr} {fd : FuncData} (F : Fun K "_law_parents" "_law_parents" sLpa f fd) (HK : Has P w K mg base CX0 "_law_kin" ["facts", "at", "name"] 1 spKin) (HO : Has P w K mg base CX0 "_law_once" ["names"] 1 spOnf) : FnOk P w K mg base CX0 2 f fd ["facts", "name"] spLpa := by
  obtain ⟨fKin, fdKin, mKin, kKin, bKin, GKin⟩ := HK.ok
  obtain ⟨fOnc, fdOnc, mOnc, kOnc, bOnc, GOnc⟩ := HO.ok
  refine F.ok scLpa (fun vs H Q E h => ?_) (fun cdv A outer s H vs Q E hr h => ?_)
  · obtain ⟨a, x, fs, rfl, _⟩ := h
    rfl
  · obtain ⟨a, x, fs, rfl, hA, hn, go⟩ := h
    refine ⟨_, (pss_one (ps_ret (pe_call GOnc (hr.mono (by decide)) (by rfl) mOnc kOnc bOnc .nil pass0 (pa_cons (pe_call GKin (hr.mono (by decide)) (by rfl) mKin kKin bKin .nil pass0 (pa_cons (pv 0) (pa_cons pe_int (pa_cons (pv 1) pa_nil)))) pa_nil)))), ?_⟩
    refine ⟨_, rfl, _, rfl, a, false, x, fs, rfl, hA, hn, fun l H1 s1 nl el => ?_⟩
    have ll : (srt (kinL false fs x)).length ≤ 900 := by
      rw [(srt_perm _).length_eq]
      exact Nat.le_trans (List.length_filterMap_le _ _) (by omega)
    refine ⟨l, _, rfl, el, ll, fun l2 H2 s2 nl2 el2 => ?_⟩
    rw [uniq_srt] at el2
    exact go l2 H2 (s1.trans s2) (s1.free nl2) el2
def spLda : Sp := fun vs H Q _ => ∃ (a : Addr) (x : Str) (fs : List Fct), vs = [.ref a, .str x] ∧ FactsAt H a fs ∧ fs.length ≤ 120 ∧ ∀ l H', Same H H' → H l = none → H' l = some (.lst ((dys fs x).map V.int)) → Q (.ref l) H'
abbrev nLda : List Str := ["facts", "name", "fact"]
theorem scLda : FnScope nLda ["facts", "name"] (defScope sLda) := ⟨rfl, rfl, rfl, by decide +kernel, rfl, by decide +kernel, by decide +kernel⟩
theorem ok_ldays {f : Addr} {fd : FuncData} (F : Fun K "_law_days" "_law_days" sLda f fd) : FnOk P w K mg base CX0 1 f fd ["facts", "name"] spLda := by
  refine F.ok scLda (fun vs H Q E h => ?_) (fun cdv A outer s H vs Q E hr h => ?_)
  · obtain ⟨a, x, fs, rfl, _⟩ := h
    rfl
  · obtain ⟨a, x, fs, rfl, hA, hn, go⟩ := h
    refine ⟨_, (pss_one (ps_ret (pe_lc (own := [("fact", 2)]) (g := gName 2) rfl scLda.nd (pi_list (pv 0)) (blkOk_by (N := nLda) (sc := defScope sLda) (by decide +kernel)) (fun _ _ _ _ _ => (pg_name (i := 2) scLda.nd rfl (.inl rfl) (.inr rfl))) (fun _ _ _ _ _ => pts_one (PW.pt (pw_and (pt_cmpR op_eq (pe_ix (show IxR _ (rIxT K) from ix_tup) (pv 2) pe_int (fun _ _ => rfl)) pe_str (nomark _)) (pw_and1 (pt_cmpR op_eq (pe_ix (show IxR _ (rIxT K) from ix_tup) (pv 2) pe_int (fun _ _ => rfl)) (pv 1) (nomark _)))))) (fun _ _ _ _ _ => (pe_ix (show IxR _ (rIxT K) from ix_tup) (pv 2) pe_int (fun _ _ => rfl)))))), ?_⟩
    obtain ⟨qs, e1, e2, e3⟩ := id hA
    refine ⟨_, rfl, a, rfl, ⟨_, SqL.of e1⟩, fun D nD => ?_⟩
    refine lc_it (walk_list (xs := qs.map V.ref)) (fun i Hz => Same H Hz ∧ Hz D = some (.lst (((fs.take i).filterMap (dy1 x)).map V.int))) ⟨same_upd nD, upd_same⟩ (fun i Hz _ h => SqL.of (h.1 _ _ e1)) ?_ ?_
    · rintro i v Hz H' hi ⟨k1, k2⟩ ⟨rfl, ev⟩
      rw [List.getElem?_map] at ev
      obtain ⟨q, hq, rfl⟩ := Option.map_eq_some_iff.mp ev
      have il : i < fs.length := by
        rw [← e2]
        exact (List.getElem?_eq_some_iff.mp hq).1
      have ef : fs[i]? = some fs[i] := List.getElem?_eq_getElem il
      have hT : SqT K H' q fs[i].vs := SqT.of (k1 _ _ (e3 i q _ hq ef))
      generalize fs[i] = fc at ef hT
      have st := fmap_step fs (dy1 x) ef
      have ln := List.length_filterMap_le (dy1 x) (fs.take i)
      rw [List.length_take] at ln
      have no : dy1 x fc = none → Same H H' ∧ H' D = some (.lst (((fs.take (i + 1)).filterMap (dy1 x)).map V.int)) := fun e => ⟨k1, by rw [st, e]; simpa using k2⟩
      have yes : ∀ y, dy1 x fc = some y → ∃ xs, H' D = some (.lst xs) ∧ xs.length < sizeLine ∧ Same H (upd H' D (.lst (xs ++ [.int y]))) ∧ upd H' D (.lst (xs ++ [.int y])) D = some (.lst (((fs.take (i + 1)).filterMap (dy1 x)).map V.int)) := fun y e => by
        refine ⟨_, k2, ?_, ?_, ?_⟩
        · rw [List.length_map]
          exact small1000 (by omega)
        · intro b o hb
          rw [upd_ne (ne_of_none hb nD)]
          exact k1 b o hb
        · rw [upd_same, st, e, List.map_append]
          rfl
      refine ⟨rfl, ?_⟩
      cases fc with
      | died c1 p1 =>
        refine ⟨_, rfl, q, _, 0, .str "died", rfl, rfl, hT, atI_nat (j := 0) rfl, rfl, _, rfl, ?_⟩
        rw [decide_eq_true (rfl : V.str ("died" : Str) = .str ("died" : Str))]
        refine iteT ⟨_, rfl, q, _, 1, .str c1, rfl, rfl, hT, atI_nat (j := 1) rfl, _, rfl, rfl, _, rfl, ?_⟩
        have ef : dy1 x (.died c1 p1) = if c1 = x then some p1 else none := rfl
        by_cases e : c1 = x
        · rw [decide_eq_true (congrArg V.str e)]
          rw [if_pos e] at ef
          exact iteT ⟨_, rfl, q, _, 2, .int p1, rfl, rfl, hT, atI_nat (j := 2) rfl, yes _ ef⟩
        · rw [decide_eq_false (fun z => e (V.str.inj z))]
          rw [if_neg e] at ef
          exact iteF (no ef)
      | child c1 p1 =>
        refine ⟨_, rfl, q, _, 0, .str "child", rfl, rfl, hT, atI_nat (j := 0) rfl, rfl, _, rfl, ?_⟩
        rw [decide_eq_false (show ¬ V.str ("child" : Str) = .str ("died" : Str) by decide +kernel)]
        exact iteF (no rfl)
      | wed c1 p1 =>
        refine ⟨_, rfl, q, _, 0, .str "wed", rfl, rfl, hT, atI_nat (j := 0) rfl, rfl, _, rfl, ?_⟩
        rw [decide_eq_false (show ¬ V.str ("wed" : Str) = .str ("died" : Str) by decide +kernel)]
        exact iteF (no rfl)
      | parted c1 p1 =>
        refine ⟨_, rfl, q, _, 0, .str "parted", rfl, rfl, hT, atI_nat (j := 0) rfl, rfl, _, rfl, ?_⟩
        rw [decide_eq_false (show ¬ V.str ("parted" : Str) = .str ("died" : Str) by decide +kernel)]
        exact iteF (no rfl)
      | renounced c1 =>
        refine ⟨_, rfl, q, _, 0, .str "renounced", rfl, rfl, hT, atI_nat (j := 0) rfl, rfl, _, rfl, ?_⟩
        rw [decide_eq_false (show ¬ V.str ("renounced" : Str) = .str ("died" : Str) by decide +kernel)]
        exact iteF (no rfl)
      | advance c1 p1 =>
        refine ⟨_, rfl, q, _, 0, .str "advance", rfl, rfl, hT, atI_nat (j := 0) rfl, rfl, _, rfl, ?_⟩
        rw [decide_eq_false (show ¬ V.str ("advance" : Str) = .str ("died" : Str) by decide +kernel)]
        exact iteF (no rfl)
    rintro H2 ⟨k1, k2⟩
    rw [List.length_map, e2, List.take_length] at k2
    exact go D H2 k1 nD k2
end
end ZF
namespace ZF
open PySem L2 PyProof.Rows PySem.Spec G
abbrev sLsu : Stmt := topS 81
abbrev sLib : Stmt := topS 82
abbrev wdK (dead : Str) (fa ru wl ea : Addr) : List (Key × V) := [(Sum.inr "dead", .str dead), (Sum.inr "facts", .ref fa), (Sum.inr "rules", .ref ru), (Sum.inr "will", .ref wl), (Sum.inr "estate", .ref ea)]
/-- the world of the law -/
structure WdK (H : Hp) (wd fa ru wl ea : Addr) (fs : List Fct) (F : Fm) (days : Int) (m : Str) (rows : Int) (st : Bool) (dead : Str) : Prop where
  dk : H wd = some (.dK (wdK dead fa ru wl ea))
  fa : FactsAt H fa fs
  ln : fs.length ≤ 120
  vw : View fs F
  gd : ∀ fc ∈ fs, factV fc.vs = true
  d0 : (dys fs dead).head? = some 50
  rk : ∀ c p, Fct.child c p ∈ fs → ZF.rk p < ZF.rk c ∧ ZF.rk c ≤ 12
  nm : ∀ fc ∈ fs, ∀ x, V.str x ∈ fc.vs.tail → x ∈ bnames
  ru : ∃ t, H ru = some (.lst [.int days, .str m, .ref t, .int rows, .bl st])
section
variable {H H' : Hp} {wd fa ru wl ea : Addr} {fs : List Fct} {F : Fm} {days : Int} {m : Str} {rows : Int} {st : Bool} {dead : Str}
theorem WdK.same (h : WdK H wd fa ru wl ea fs F days m rows st dead) (s : Same H H') : WdK H' wd fa ru wl ea fs F days m rows st dead := ⟨s _ _ h.dk, h.fa.same s, h.ln, h.vw, h.gd, h.d0, h.rk, h.nm, h.ru.imp fun _ z => s _ _ z⟩
theorem WdK.g1 (h : WdK H wd fa ru wl ea fs F days m rows st dead) : DGet H wd (.str "dead") (some (.str dead)) := .inl ⟨_, Sum.inr "dead", .inl h.dk, rfl, by kernel_rfl⟩
theorem WdK.g2 (h : WdK H wd fa ru wl ea fs F days m rows st dead) : DGet H wd (.str "facts") (some (.ref fa)) := .inl ⟨_, Sum.inr "facts", .inl h.dk, rfl, by kernel_rfl⟩
theorem WdK.g3 (h : WdK H wd fa ru wl ea fs F days m rows st dead) : DGet H wd (.str "rules") (some (.ref ru)) := .inl ⟨_, Sum.inr "rules", .inl h.dk, rfl, by kernel_rfl⟩
theorem WdK.g4 (h : WdK H wd fa ru wl ea fs F days m rows st dead) : DGet H wd (.str "will") (some (.ref wl)) := .inl ⟨_, Sum.inr "will", .inl h.dk, rfl, by kernel_rfl⟩
theorem WdK.g5 (h : WdK H wd fa ru wl ea fs F days m rows st dead) : DGet H wd (.str "estate") (some (.ref ea)) := .inl ⟨_, Sum.inr "estate", .inl h.dk, rfl, by kernel_rfl⟩
theorem WdK.sv (h : WdK H wd fa ru wl ea fs F days m rows st dead) (x : Str) : sv F days dead x = (!decide (x = dead) && (!decide (Fct.renounced x ∈ fs) && match (dys fs x).head? with
      | none => true
      | some e => decide (50 + days < e))) := by
  unfold ZF.sv
  rw [h.vw.rn, h.vw.dy, h.vw.dy, h.d0]
  rfl
theorem WdK.ch (h : WdK H wd fa ru wl ea fs F days m rows st dead) (x : Str) : srt (uniq (kinL true fs x)) = F.ch x := by
  rw [kin_ch]
  exact (asc_eq (h.vw.ch x).1 fun y => ((h.vw.ch x).2 y).trans chs_mem.symm).symm
theorem WdK.pa (h : WdK H wd fa ru wl ea fs F days m rows st dead) (x : Str) : srt (uniq (kinL false fs x)) = F.pa x := by
  rw [kin_pa]
  exact (asc_eq (h.vw.pa x).1 fun y => ((h.vw.pa x).2 y).trans pas_iff.symm).symm
theorem WdK.bn (h : WdK H wd fa ru wl ea fs F days m rows st dead) {x y : Str} (c : y ∈ F.ch x) : y ∈ bnames := h.nm _ (((h.vw.ch x).2 y).mp c) y (by simp [Fct.vs])
theorem WdK.cl (h : WdK H wd fa ru wl ea fs F days m rows st dead) (x : Str) : (F.ch x).length ≤ 16 ∧ (F.ch x).Nodup := by
  have nd : (F.ch x).Nodup := by
    rw [← h.ch]
    exact (srt_perm _).nodup_iff.mpr uniq_nd
  exact ⟨bn_le nd fun y hy => h.bn hy, nd⟩
end
section
variable {P : Program} {w : World} {K : PySem.W.Frag} {mg : Str → Option Value} {base : Heap}
def spLsu : Sp := fun vs H Q _ => ∃ (wd fa ru wl ea : Addr) (fs : List Fct) (F : Fm) (days : Int) (m : Str) (rows : Int) (st : Bool) (dead x : Str), vs = [.ref wd, .str x] ∧ WdK H wd fa ru wl ea fs F days m rows st dead ∧ isNm x = true ∧ ∀ H', Same H H' → Q (.bl (sv F days dead x)) H'
abbrev nLsu : List Str := ["world", "name", "facts", "days"]
theorem scLsu : FnScope nLsu ["world", "name"] (defScope sLsu) := ⟨rfl, rfl, rfl, by decide +kernel, rfl, by decide +kernel, by decide +kernel⟩
theorem ok_lsu {f : Addr} {fd : FuncData} (F : Fun K "_law_survives" "_law_survives" sLsu f fd) (T : TK mg) (HD : Has P w K mg base CX0 "_law_days" ["facts", "name"] 1 spLda) : FnOk P w K mg base CX0 2 f fd ["world", "name"] spLsu := by
  obtain ⟨fLda, fdLda, mLda, kLda, bLda, GLda⟩ := HD.ok
  refine F.ok scLsu (fun vs H Q E h => ?_) (fun cdv A outer s H vs Q E hr h => ?_)
  · obtain ⟨wd, fa, ru, wl, ea, fs, F, days, m, rows, st, dead, x, rfl, _⟩ := h
    rfl
  · obtain ⟨wd, fa, ru, wl, ea, fs, F, days, m, rows, st, dead, x, rfl, hW, hx, go⟩ := h
    have hu := hu_of hr
    have hu65 : (A.deeper (envOfC "_law_survives" (defScope sLsu) s.heap.objs.size f cdv)).units + 65 < cLine := by have := hr.un; omega
    refine ⟨_, (pss_cons (ps_set (i := 2) scLsu.nd rfl (.inl rfl) (pe_dget hu (pv 0) pe_str (fun _ _ => rfl)))
      (pss_cons (ps_if (PW.pt (pw_or (pt_cmpR op_eq (pv 1) (pe_dget hu (pv 0) pe_str (fun _ _ => rfl)) (nomark _)) (pw_or1 (pt_cmpR (op_inD hu65) (pe_tup (pa_cons pe_str (pa_cons (pv 1) pa_nil))) (pv 2) (by rfl))))) (pss_one (ps_ret pe_bl)) pss_nil)
      (pss_cons (ps_set (i := 3) scLsu.nd rfl (.inl rfl) (pe_call GLda (hr.mono (by decide)) (by rfl) mLda kLda bLda .nil pass0 (pa_cons (pv 2) (pa_cons (pv 1) pa_nil))))
      (pss_one (ps_ret (pe_or (pe_cmpR op_eq (pe_callB call_len_seq (by rfl) T.len PySem.boot_len (pa_cons (pv 3) pa_nil)) pe_int (nomark _)) (pe_one (pe_cmpR op_gt (pe_ix ix_list (pv 3) pe_int (fun _ _ => rfl)) (pe_op op_add (pe_ix ix_list (pe_call GLda (hr.mono (by decide)) (by rfl) mLda kLda bLda .nil pass0 (pa_cons (pv 2) (pa_cons (pe_dget hu (pv 0) pe_str (fun _ _ => rfl)) pa_nil))) pe_int (fun _ _ => rfl)) (pe_ix ix_list (pe_dget hu (pv 0) pe_str (fun _ _ => rfl)) pe_int (fun _ _ => rfl))) (nomark _))))))))), ?_⟩
    have hA := hW.fa
    have hok : ∀ fc ∈ fs, Fct.okN fc := fun fc h => okN_of (hW.gd fc h)
    have hsha := sha_all hok
    have okr : Fct.okN (.renounced x) := fun y hy => by
      simp only [Fct.vs, List.mem_cons, List.not_mem_nil, or_false, V.str.injEq] at hy
      rcases hy with rfl | rfl
      · decide +kernel
      · exact nm_ok hx
    rw [hW.sv] at go
    refine ⟨_, rfl, wd, _, rfl, hW.g2, ?_⟩
    refine ⟨_, rfl, _, rfl, wd, _, rfl, hW.g1, rfl, _, rfl, ?_⟩
    by_cases c1 : x = dead
    · rw [decide_eq_true (congrArg V.str c1)]
      rw [decide_eq_true c1] at go
      exact iteT (go _ (Same.refl H))
    rw [decide_eq_false (fun z => c1 (V.str.inj z))]
    rw [decide_eq_false c1] at go
    refine iteF ⟨_, rfl, (by show 2 ≤ sizeLine; decide), fun T1 n1 => ⟨_, rfl, .tuple (Fct.renounced x).ds, datas fs, dp_fct (fc := .renounced x) upd_same, dp_facts (hA.same (same_upd n1)), sha_fct okr, hsha, _, rfl, ?_⟩⟩
    rw [any_fct]
    have sm1 : Same H (upd H T1 (.tup [.str "renounced", .str x])) := same_upd n1
    generalize upd H T1 (.tup [.str "renounced", .str x]) = H1 at sm1 ⊢
    by_cases c2 : Fct.renounced x ∈ fs
    · rw [decide_eq_true c2]
      rw [decide_eq_true c2] at go
      exact iteT (go _ sm1)
    rw [decide_eq_false c2]
    rw [decide_eq_false c2] at go
    refine iteF ⟨_, rfl, _, rfl, fa, x, fs, rfl, hA.same sm1, hW.ln, fun D H2 s2 nD k3 => ?_⟩
    have sm2 := sm1.trans s2
    have hW2 := hW.same sm2
    have dl : ∀ e ∈ dys fs x, 0 ≤ e ∧ e ≤ 1000000000 := fun e he => fact_amt (.inl rfl) (hW.gd _ (dys_mem he))
    generalize dys fs x = ds at k3 go dl
    refine ⟨_, rfl, D, _, rfl, .inl (SqL.of k3), rfl, _, rfl, ?_⟩
    cases ds with
    | nil => exact iteT (go _ sm2)
    | cons e ds =>
      refine iteF ?_
      obtain ⟨tr, eru⟩ := hW2.ru
      obtain ⟨ds0, e0⟩ : ∃ ds0, dys fs dead = 50 :: ds0 := by
        have := hW.d0
        cases e9 : dys fs dead with
        | nil => rw [e9] at this; cases this
        | cons a b =>
          rw [e9] at this
          rw [Option.some.inj this]
          exact ⟨b, rfl⟩
      refine ⟨_, rfl, D, _, _, .int e, rfl, rfl, SqL.of k3, atI_nat (j := 0) rfl, _, rfl, _, rfl, wd, _, rfl, hW2.g1, fa, dead, fs, rfl, hW2.fa, hW2.ln, fun D2 H3 s3 nD2 el2 => ?_⟩
      rw [e0] at el2
      have hW3 := hW2.same s3
      refine ⟨D2, _, _, .int 50, rfl, rfl, SqL.of el2, atI_nat (j := 0) rfl, _, rfl, wd, _, rfl, hW3.g3, ru, _, _, .int days, rfl, rfl, SqL.of (s3 _ _ eru), atI_nat (j := 0) rfl, _, _, rfl, rfl, _, _, rfl, rfl, go _ (sm2.trans s3)⟩
def spLib : Sp := fun vs H Q _ => ∃ (fa : Addr) (one x : Str) (fs : List Fct) (F : Fm), vs = [.ref fa, .str one, .str x] ∧ FactsAt H fa fs ∧ fs.length ≤ 120 ∧ (∀ x, srt (uniq (kinL true fs x)) = F.ch x) ∧ (∀ x, (F.ch x).length ≤ 16 ∧ (F.ch x).Nodup ∧ ∀ y ∈ F.ch x, y ∈ bnames ∧ ZF.rk x < ZF.rk y ∧ ZF.rk y ≤ 12) ∧ ∀ b H', Same H H' → (b = true ↔ Dsc F.ch one x) → Q (.bl b) H'
abbrev nLib : List Str := ["facts", "one", "name", "names", "k", "more", "other"]
theorem scLib : FnScope nLib ["facts", "one", "name"] (defScope sLib) := ⟨rfl, rfl, rfl, by decide +kernel, rfl, by decide +kernel, by decide +kernel⟩
theorem ok_lib {f : Addr} {fd : FuncData} (F : Fun K "_law_is_below" "_law_is_below" sLib f fd) (T : TK mg) (HC : Has P w K mg base CX0 "_law_children" ["facts", "name"] 2 spLch) (HO : Has P w K mg base CX0 "_law_once" ["names"] 1 spOnf) : FnOk P w K mg base CX0 3 f fd ["facts", "one", "name"] spLib := by
  obtain ⟨fLch, fdLch, mLch, kLch, bLch, GLch⟩ := HC.ok
  obtain ⟨fOnc, fdOnc, mOnc, kOnc, bOnc, GOnc⟩ := HO.ok
  refine F.ok scLib (fun vs H Q E h => ?_) (fun cdv A outer s H vs Q E hr h => ?_)
  · obtain ⟨fa, one, x, fs, F, rfl, _⟩ := h
    rfl
  · obtain ⟨fa, one, x, fs, F, rfl, hA, ln, hch, hb, go⟩ := h
    refine ⟨_, (pss_cons (ps_set (i := 3) scLib.nd rfl (.inl rfl) (pe_call GLch (hr.mono (by decide)) (by rfl) mLch kLch bLch .nil pass0 (pa_cons (pv 0) (pa_cons (pv 1) pa_nil))))
      (pss_cons (ps_for PassesOwn.never rfl (pi_range1 rfl T.range (pa_cons pe_int pa_nil)) (pg_name (i := 4) scLib.nd rfl (.inl rfl)) (pss_cons (ps_set (i := 5) scLib.nd rfl (.inl rfl) (pe_callTy call_list_of (by rfl) T.list (by decide +kernel) (pa_cons (pv 3) pa_nil)))
      (pss_cons (ps_for PassesOwn.never rfl (pi_list (pv 3)) (pg_name (i := 6) scLib.nd rfl (.inl rfl)) (pss_one (ps_set (i := 5) scLib.nd rfl (.inl rfl) (pe_op op_cat (pv 5) (pe_call GLch (hr.mono (by decide)) (by rfl) mLch kLch bLch .nil pass0 (pa_cons (pv 0) (pa_cons (pv 6) pa_nil)))))))
      (pss_one (ps_set (i := 3) scLib.nd rfl (.inl rfl) (pe_call GOnc (hr.mono (by decide)) (by rfl) mOnc kOnc bOnc .nil pass0 (pa_cons (pv 5) pa_nil)))))))
      (pss_one (ps_ret (pe_cmpR op_in_seq (pv 2) (pv 3) (by rfl)))))), ?_⟩
    have dbn : ∀ y, Dsc F.ch one y → y ∈ bnames := fun y h => by
      cases h with
      | one h => exact ((hb _).2.2 y h).1
      | more _ h => exact ((hb _).2.2 y h).1
    refine ⟨_, rfl, _, rfl, fa, one, fs, rfl, hA, ln, fun l0 H0 s0 nl0 el0 => ?_⟩
    rw [hch] at el0
    refine ⟨(20 : Int), rfl, by omega, by omega, ?_⟩
    refine for_range (lo := 0) (n := 20) (fun i σ Hx => ∃ (g : List Str) (l : Addr) (y4 y5 y6 : Option V), σ = [some (.ref fa), some (.str one), some (.str x), some (.ref l), y4, y5, y6] ∧ Same H Hx ∧ Hx l = some (.lst (g.map V.str)) ∧ g.Nodup ∧ (∀ y ∈ g, Dsc F.ch one y) ∧ (∀ y ∈ F.ch one, y ∈ g) ∧ ∀ y, Dsc F.ch one y → ZF.rk y ≤ i + 1 → y ∈ g)
      ⟨F.ch one, l0, none, none, none, rfl, s0, el0, (hb one).2.1, fun y h => .one h, fun y h => h, fun y h r => by
        cases h with
        | one h => exact h
        | more h g =>
          exfalso
          have h1 := ((hb _).2.2 y g).2.1
          have h2 : ∀ {a b}, Dsc F.ch a b → ZF.rk a < ZF.rk b := fun h => by
            induction h with
            | one h => exact ((hb _).2.2 _ h).2.1
            | more _ g ih => exact Nat.lt_trans ih ((hb _).2.2 _ g).2.1
          have := h2 h
          omega⟩ ?_ ?_
    · rintro i σ Hx hi ⟨g, l, y4, y5, y6, rfl, sm, el, gn, gs, g1, gc⟩
      have gl := bn_le gn fun y hy => dbn y (gs y hy)
      refine ⟨_, rfl, l, _, rfl, .inl (SqL.of el), fun lm nlm => ?_⟩
      have q1 := same_upd nlm (o := .lst (g.map V.str))
      refine ⟨_, rfl, l, rfl, ⟨_, SqL.of (q1 _ _ el)⟩, for_list (K := K) (a := l) (xs := g.map V.str) (fun j σ Hy => ∃ (lm : Addr) (zs : List Str) (y6 : Option V), σ = [some (.ref fa), some (.str one), some (.str x), some (.ref l), some (.int (0 + (i : Int))), some (.ref lm), y6] ∧ Same Hx Hy ∧ Hy lm = some (.lst (zs.map V.str)) ∧ zs.length ≤ g.length + 16 * j ∧ ∀ y, y ∈ zs ↔ y ∈ g ∨ ∃ z ∈ g.take j, y ∈ F.ch z)
        ⟨lm, g, y6, rfl, q1, upd_same, Nat.le_refl _, fun y => ⟨.inl, fun h => h.elim id fun ⟨z, h, _⟩ => by cases h⟩⟩ (fun j σ Hy _ ⟨_, _, _, _, z, _⟩ => SqL.of (z _ _ el)) ?_ ?_⟩
      · rintro j v σ Hy hj ⟨lm, zs, y6, rfl, smy, elm, zl, zm⟩
        rw [List.getElem?_map] at hj
        obtain ⟨u, hu', rfl⟩ := Option.map_eq_some_iff.mp hj
        have jl : j < g.length := (List.getElem?_eq_some_iff.mp hu').1
        have sm2 := sm.trans smy
        refine ⟨_, rfl, _, rfl, _, rfl, fa, u, fs, rfl, hA.same sm2, ln, fun l1 H3 s3 nl1 el1 => ?_⟩
        rw [hch] at el1
        refine ⟨lm, l1, _, _, rfl, rfl, s3 _ _ elm, el1, ?_, fun p np => ?_⟩
        · have := (hb u).1
          rw [List.length_map, List.length_map]
          exact Nat.le_of_lt (small1000 (by omega))
        · have q4 := same_upd np (o := .lst (zs.map V.str ++ (F.ch u).map V.str))
          refine ⟨p, zs ++ F.ch u, _, rfl, (smy.trans s3).trans q4, by rw [upd_same, List.map_append], ?_, fun y => ?_⟩
          · have := (hb u).1
            rw [List.length_append]
            omega
          · rw [List.mem_append, zm, List.take_add_one, hu']
            constructor
            · rintro ((h | ⟨z, h1, h2⟩) | h)
              · exact .inl h
              · exact .inr ⟨z, List.mem_append_left _ h1, h2⟩
              · exact .inr ⟨u, List.mem_append_right _ (List.mem_singleton.mpr rfl), h⟩
            · rintro (h | ⟨z, h1, h2⟩)
              · exact .inl (.inl h)
              · rcases List.mem_append.mp h1 with h1 | h1
                · exact .inl (.inr ⟨z, h1, h2⟩)
                · rw [List.mem_singleton.mp h1] at h2
                  exact .inr h2
      · rintro σ Hy ⟨lm, zs, y6, rfl, smy, elm, zl, zm⟩
        rw [List.length_map] at zl zm
        rw [List.take_length] at zm
        refine ⟨_, rfl, lm, zs, rfl, elm, by omega, fun p H3 s3 np ep => ?_⟩
        refine ⟨uniq zs, p, _, _, _, rfl, (sm.trans smy).trans s3, ep, uniq_nd, fun y hy => ?_, fun y hy => uniq_mem.mpr ((zm y).mpr (.inl (g1 y hy))), fun y hd hr => ?_⟩
        · rcases (zm y).mp (uniq_mem.mp hy) with h | ⟨z, h1, h2⟩
          · exact gs y h
          · exact .more (gs z h1) h2
        · refine uniq_mem.mpr ((zm y).mpr ?_)
          cases hd with
          | one h => exact .inl (g1 y h)
          | more h g' =>
            have h1 := ((hb _).2.2 y g').2.1
            exact .inr ⟨_, gc _ h (by omega), g'⟩
    · rintro σ Hx ⟨g, l, y4, y5, y6, rfl, sm, el, gn, gs, g1, gc⟩
      refine ⟨_, rfl, _, rfl, l, _, rfl, .inl (SqL.of el), rfl, flat_strs _, ?_⟩
      rw [show (if false = true then !inV (V.str x) (g.map V.str) else inV (V.str x) (g.map V.str)) = inV (V.str x) (g.map V.str) from if_neg (by decide), inV_str]
      refine go _ Hx sm ?_
      rw [decide_eq_true_eq]
      refine ⟨gs x, fun h => gc x h ?_⟩
      have : ZF.rk x ≤ 12 := by
        cases h with
        | one h => exact ((hb _).2.2 x h).2.2
        | more _ h => exact ((hb _).2.2 x h).2.2
      omega
end
end ZF
namespace ZF
open PySem L2 PyProof.Rows PySem.Spec G
abbrev sLsp : Stmt := topS 83
theorem cut_os {G : Prop} {C N : Str → Hp → Prop} (main : (∀ o Hz, C o Hz → N o Hz) → G) (key : ∀ o Hz, C o Hz → N o Hz) : G := main key
def spD (fs : List Fct) (s : Str → Bool) (dead : Str) (i : Nat) (y : Str) : Prop := (Fct.wed dead y ∈ fs.take i ∨ Fct.wed y dead ∈ fs.take i) ∧ Fct.parted y dead ∉ fs ∧ Fct.parted dead y ∉ fs ∧ s y = true
section
variable {P : Program} {w : World} {K : PySem.W.Frag} {mg : Str → Option Value} {base : Heap}
def spLsp : Sp := fun vs H Q _ => ∃ (wd fa ru wl ea : Addr) (fs : List Fct) (F : Fm) (days : Int) (m : Str) (rows : Int) (st : Bool) (dead : Str), vs = [.ref wd] ∧ WdK H wd fa ru wl ea fs F days m rows st dead ∧ isNm dead = true ∧ ∀ l H', Same H H' → H l = none → H' l = some (.lst (((sp F dead).filter (sv F days dead)).map V.str)) → Q (.ref l) H'
abbrev nLsp : List Str := ["world", "facts", "found", "fact", "other", "gone"]
theorem scLsp : FnScope nLsp ["world"] (defScope sLsp) := ⟨rfl, rfl, rfl, by decide +kernel, rfl, by decide +kernel, by decide +kernel⟩
theorem ok_lsp {f : Addr} {fd : FuncData} (F : Fun K "_law_spouses" "_law_spouses" sLsp f fd) (T : TK mg) (HS : Has P w K mg base CX0 "_law_survives" ["world", "name"] 2 spLsu) : FnOk P w K mg base CX0 3 f fd ["world"] spLsp := by
  obtain ⟨fLsu, fdLsu, mLsu, kLsu, bLsu, GLsu⟩ := HS.ok
  refine F.ok scLsp (fun vs H Q E h => ?_) (fun cdv A outer s H vs Q E hr h => ?_)
  · obtain ⟨wd, fa, ru, wl, ea, fs, F, days, m, rows, st, dead, rfl, _⟩ := h
    rfl
  · obtain ⟨wd, fa, ru, wl, ea, fs, F, days, m, rows, st, dead, rfl, hW, hdn, go⟩ := h
    have hu := hu_of hr
    have hu65 : (A.deeper (envOfC "_law_spouses" (defScope sLsp) s.heap.objs.size f cdv)).units + 65 < cLine := by have := hr.un; omega
    refine ⟨_, (pss_cons (ps_set (i := 1) scLsp.nd rfl (.inl rfl) (pe_dget hu (pv 0) pe_str (fun _ _ => rfl)))
      (pss_cons (ps_set (i := 2) scLsp.nd rfl (.inl rfl) (pe_lst pa_nil))
      (pss_cons (ps_for PassesOwn.never rfl (pi_list (pv 1)) (pg_name (i := 3) scLsp.nd rfl (.inl rfl)) (pss_one (ps_if (PW.pt (pw_and (pt_cmpR op_eq (pe_ix ix_tup (pv 3) pe_int (fun _ _ => rfl)) pe_str (nomark _)) (pw_and1 (pt_cmpR op_in_seq (pe_dget hu (pv 0) pe_str (fun _ _ => rfl)) (pe_slice sl_tup (pv 3) (po_some pe_int) po_none) (by rfl))))) (pss_cons (ps_set (i := 4) scLsp.nd rfl (.inl rfl) (pe_ix ix_tup (pv 3) pe_int (fun _ _ => rfl)))
      (pss_cons (ps_if (pt_cmpR op_eq (pv 4) (pe_dget hu (pv 0) pe_str (fun _ _ => rfl)) (nomark _)) (pss_one (ps_set (i := 4) scLsp.nd rfl (.inl rfl) (pe_ix ix_tup (pv 3) pe_int (fun _ _ => rfl)))) pss_nil)
      (pss_cons (ps_set (i := 5) scLsp.nd rfl (.inl rfl) (pe_or (pe_cmpR (op_inD hu65) (pe_tup (pa_cons pe_str (pa_cons (pv 4) (pa_cons (pe_dget hu (pv 0) pe_str (fun _ _ => rfl)) pa_nil)))) (pv 1) (by rfl)) (pe_one (pe_cmpR (op_inD hu65) (pe_tup (pa_cons pe_str (pa_cons (pe_dget hu (pv 0) pe_str (fun _ _ => rfl)) (pa_cons (pv 4) pa_nil)))) (pv 1) (by rfl)))))
      (pss_one (ps_if (PW.pt (pw_and (pt_not (pt_val (pv 5))) (pw_and (pt_cmpR op_notIn_seq (pv 4) (pv 2) (by rfl)) (pw_and1 (pt_val (pe_call GLsu (hr.mono (by decide)) (by rfl) mLsu kLsu bLsu .nil pass0 (pa_cons (pv 0) (pa_cons (pv 4) pa_nil)))))))) (pss_one (ps_expr (pe_bm PySem.F.plainAttrs_list PySem.F.slot_list_append PySem.F.type_list_append mt_append (pv 2) (pa_cons (pv 4) pa_nil)))) pss_nil))))) pss_nil)))
      (pss_one (ps_ret (pe_callB cr_sortTx (by rfl) T.sorted (by decide +kernel) (pa_cons (pv 2) pa_nil))))))), ?_⟩
    have hA := hW.fa
    have hok : ∀ fc ∈ fs, Fct.okN fc := fun fc h => okN_of (hW.gd fc h)
    have hsha := sha_all hok
    obtain ⟨qs, e1, e2, e3⟩ := id hA
    have ln := hW.ln
    have wp : PyData.strOk ("parted" : Str) = true := by decide +kernel
    refine ⟨_, rfl, wd, _, rfl, hW.g2, Nat.zero_le _, fun l nl => ?_⟩
    have Hl : H l = none := nl
    refine ⟨_, rfl, fa, rfl, ⟨_, SqL.of ((same_upd nl) _ _ e1)⟩, for_list (K := K) (a := fa) (xs := qs.map V.ref) (fun i σ Hy => ∃ (zs : List Str) (y3 y4 y5 : Option V), σ = [some (.ref wd), some (.ref fa), some (.ref l), y3, y4, y5] ∧ Same H Hy ∧ Hy l = some (.lst (zs.map V.str)) ∧ zs.Nodup ∧ zs.length ≤ i ∧ ∀ y, y ∈ zs ↔ spD fs (sv F days dead) dead i y)
      ⟨[], none, none, none, rfl, same_upd nl, upd_same, List.nodup_nil, Nat.le_refl _, fun y => ⟨(fun h => by cases h), fun h => by rcases h.1 with h | h <;> cases h⟩⟩ (fun i σ Hy _ ⟨_, _, _, _, _, z, _⟩ => SqL.of (z _ _ e1)) ?_ ?_⟩
    · rintro i v σ Hz hi ⟨zs, y3, y4, y5, rfl, sm, el, zn, zl, zm⟩
      obtain ⟨q, eq, rfl⟩ : ∃ q, qs[i]? = some q ∧ v = .ref q := by
        rw [List.getElem?_map] at hi
        obtain ⟨k, h1, h2⟩ := Option.map_eq_some_iff.mp hi
        exact ⟨k, h1, h2.symm⟩
      have il : i < fs.length := by
        rw [← e2]
        exact (List.getElem?_eq_some_iff.mp eq).1
      have ef : fs[i]? = some fs[i] := List.getElem?_eq_getElem il
      have hT : SqT K Hz q fs[i].vs := SqT.of (sm _ _ (e3 i q _ eq ef))
      have gd := hW.gd _ (List.getElem_mem il)
      have ok' := hok _ (List.getElem_mem il)
      generalize fs[i] = fc at ef hT gd ok'
      have hWz := hW.same sm
      have step : ∀ y, spD fs (sv F days dead) dead (i + 1) y ↔ spD fs (sv F days dead) dead i y ∨ ((fc = .wed dead y ∨ fc = .wed y dead) ∧ Fct.parted y dead ∉ fs ∧ Fct.parted dead y ∉ fs ∧ sv F days dead y = true) := fun y => by
        unfold spD
        rw [List.take_add_one, ef, List.mem_append, List.mem_append]
        simp only [Option.toList_some, List.mem_singleton]
        constructor
        · rintro ⟨(h | h) | (h | h), g⟩
          · exact .inl ⟨.inl h, g⟩
          · exact .inr ⟨.inl h.symm, g⟩
          · exact .inl ⟨.inr h, g⟩
          · exact .inr ⟨.inr h.symm, g⟩
        · rintro (⟨h | h, g⟩ | ⟨h | h, g⟩)
          · exact ⟨.inl (.inl h), g⟩
          · exact ⟨.inr (.inl h), g⟩
          · exact ⟨.inl (.inr h.symm), g⟩
          · exact ⟨.inr (.inr h.symm), g⟩
      have pass : (∀ y, ¬ ((fc = .wed dead y ∨ fc = .wed y dead) ∧ Fct.parted y dead ∉ fs ∧ Fct.parted dead y ∉ fs ∧ sv F days dead y = true)) → ∀ y, y ∈ zs ↔ spD fs (sv F days dead) dead (i + 1) y := fun h y => by
        rw [zm, step]
        exact ⟨.inl, fun z => z.elim id fun z => absurd z (h y)⟩
      cases fc with
      | wed u v =>
        refine ⟨_, rfl, q, _, 0, .str "wed", rfl, rfl, hT, atI_nat (j := 0) rfl, rfl, _, rfl, ?_⟩
        rw [decide_eq_true (rfl : V.str ("wed" : Str) = .str ("wed" : Str))]
        refine iteT ⟨_, rfl, wd, _, rfl, hWz.g1, _, rfl, 1, rfl, q, _, rfl, hT, (by rintro ⟨z, _⟩; exact absurd (show (1 : Nat) = 0 from z) (by decide)), fun Tq nT => ?_⟩
        rw [show cutV (Fct.wed u v).vs (some 1) none = [.str u, .str v] from rfl]
        refine ⟨Tq, _, rfl, .inr (SqT.of upd_same), rfl, rfl, _, rfl, ?_⟩
        rw [show (if false = true then !inV (V.str dead) [.str u, .str v] else inV (V.str dead) [.str u, .str v]) = inV (V.str dead) [.str u, .str v] from if_neg (by decide), in2s]
        have smT : Same H (upd Hz Tq (.tup [.str u, .str v])) := sm.trans (same_upd nT)
        have elT := (same_upd nT (o := .tup [.str u, .str v])) _ _ el
        have hT2 : SqT K (upd Hz Tq (.tup [.str u, .str v])) q (Fct.wed u v).vs := sqT_same' hT (same_upd nT)
        generalize upd Hz Tq (.tup [.str u, .str v]) = Hb at smT elT hT2 ⊢
        have uv : u ≠ v := fun e => (fact_nm3 gd (.inr (.inl rfl))).2 (congrArg V.str e)
        have nv : isNm v = true := (fact_nm3 gd (.inr (.inl rfl))).1
        have nu : isNm u = true := fact_nm gd
        have hWb := hW.same smT
        by_cases m : dead = u ∨ dead = v
        · have em : (decide (V.str dead = V.str u) || decide (V.str dead = V.str v)) = true := by
            rcases m with rfl | rfl
            · rw [decide_eq_true rfl]; rfl
            · rw [decide_eq_true (rfl : V.str dead = V.str dead), Bool.or_true]
          rw [em]
          refine iteT ⟨_, rfl, q, _, 1, .str u, rfl, rfl, hT2, atI_nat (j := 1) rfl, ?_⟩
          apply cut_os (C := fun o Hc => Same H Hc ∧ Hc l = some (.lst (zs.map V.str)) ∧ isNm o = true ∧ ∀ y, (Fct.wed u v = .wed dead y ∨ Fct.wed u v = .wed y dead) ↔ y = o)
          · intro cut
            refine ⟨_, rfl, _, rfl, wd, _, rfl, hWb.g1, rfl, _, rfl, ?_⟩
            by_cases ux : ¬ u = dead
            · rw [decide_eq_false (fun z => ux (V.str.inj z))]
              have dv : dead = v := m.elim (fun z => absurd z.symm ux) id
              have hN : ∀ y, (Fct.wed u v = .wed dead y ∨ Fct.wed u v = .wed y dead) ↔ y = u := fun y => by
                constructor
                · rintro (h | h)
                  · exact absurd (Fct.wed.inj h).1 ux
                  · exact (Fct.wed.inj h).1.symm
                · intro ey
                  exact .inr (by rw [ey, dv])
              generalize eu : u = o
              generalize eh : Hb = Hc
              exact iteF (cut o Hc ⟨by rw [← eh]; exact smT, by rw [← eh]; exact elT, by rw [← eu]; exact nu, by rw [← eu]; exact hN⟩)
            · have ux : u = dead := Classical.not_not.mp ux
              rw [decide_eq_true (congrArg V.str ux)]
              refine iteT ⟨_, rfl, q, _, 2, .str v, rfl, rfl, hT2, atI_nat (j := 2) rfl, cut v Hb ⟨smT, elT, nv, fun y => ?_⟩⟩
              constructor
              · rintro (h | h)
                · exact (Fct.wed.inj h).2.symm
                · exact absurd ((Fct.wed.inj h).2.trans ux.symm).symm uv
              · intro ey
                exact .inl (by rw [ey, ux])
          · rintro o Hc ⟨smb, elb, no, iff⟩
            have hWc := hW.same smb
            have ds := nm_ok hdn
            have os := nm_ok no
            have okp : Fct.okN (.parted o dead) := fun y hy => by
              simp only [Fct.vs, List.mem_cons, List.not_mem_nil, or_false, V.str.injEq] at hy
              rcases hy with rfl | rfl | rfl
              · exact wp
              · exact os
              · exact ds
            have okq : Fct.okN (.parted dead o) := fun y hy => by
              simp only [Fct.vs, List.mem_cons, List.not_mem_nil, or_false, V.str.injEq] at hy
              rcases hy with rfl | rfl | rfl
              · exact wp
              · exact ds
              · exact os
            refine ⟨_, rfl, _, rfl, wd, _, rfl, hWc.g1, (by show 3 ≤ sizeLine; decide), fun T1 n1 => ⟨_, rfl, .tuple (Fct.parted o dead).ds, datas fs, dp_fct (fc := .parted o dead) upd_same, dp_facts (hA.same (smb.trans (same_upd n1))), sha_fct okp, hsha, ?_⟩⟩
            rw [any_fct]
            have smc : Same H (upd Hc T1 (.tup [.str "parted", .str o, .str dead])) := smb.trans (same_upd n1)
            have elc := (same_upd n1 (o := .tup [.str "parted", .str o, .str dead])) _ _ elb
            generalize upd Hc T1 (.tup [.str "parted", .str o, .str dead]) = Hd at smc elc ⊢
            have hWd := hW.same smc
            have nogo : (Fct.parted o dead ∈ fs ∨ Fct.parted dead o ∈ fs) → ∀ y, y ∈ zs ↔ spD fs (sv F days dead) dead (i + 1) y := fun h => pass fun y hy => by
              have := (iff y).mp hy.1
              rw [this] at hy
              exact h.elim hy.2.1 hy.2.2.1
            by_cases p1 : Fct.parted o dead ∈ fs
            · rw [decide_eq_true p1]
              exact ⟨_, rfl, iteT ⟨_, rfl, _, rfl, iteF ⟨zs, _, _, _, rfl, smc, elc, zn, Nat.le_succ_of_le zl, nogo (.inl p1)⟩⟩⟩
            rw [decide_eq_false p1]
            refine ⟨_, rfl, iteF ⟨_, rfl, wd, _, rfl, hWd.g1, _, rfl, (by show 3 ≤ sizeLine; decide), fun T2 n2 => ⟨_, rfl, .tuple (Fct.parted dead o).ds, datas fs, dp_fct (fc := .parted dead o) upd_same, dp_facts (hA.same (smc.trans (same_upd n2))), sha_fct okq, hsha, ?_⟩⟩⟩
            rw [any_fct]
            have smd : Same H (upd Hd T2 (.tup [.str "parted", .str dead, .str o])) := smc.trans (same_upd n2)
            have eld := (same_upd n2 (o := .tup [.str "parted", .str dead, .str o])) _ _ elc
            generalize upd Hd T2 (.tup [.str "parted", .str dead, .str o]) = He at smd eld ⊢
            by_cases p2 : Fct.parted dead o ∈ fs
            · rw [decide_eq_true p2]
              exact ⟨_, rfl, _, rfl, iteF ⟨zs, _, _, _, rfl, smd, eld, zn, Nat.le_succ_of_le zl, nogo (.inr p2)⟩⟩
            rw [decide_eq_false p2]
            refine ⟨_, rfl, _, rfl, iteT ⟨_, rfl, _, rfl, l, _, rfl, .inl (SqL.of eld), rfl, flat_strs _, _, rfl, ?_⟩⟩
            rw [show (if true = true then !inV (V.str o) (zs.map V.str) else inV (V.str o) (zs.map V.str)) = !inV (V.str o) (zs.map V.str) from if_pos rfl, inV_str]
            by_cases mo : o ∈ zs
            · rw [decide_eq_true mo]
              refine iteF ⟨zs, _, _, _, rfl, smd, eld, zn, Nat.le_succ_of_le zl, fun y => ?_⟩
              rw [step]
              constructor
              · exact fun h => .inl ((zm y).mp h)
              · rintro (h | h)
                · exact (zm y).mpr h
                · rw [(iff y).mp h.1]
                  exact mo
            rw [decide_eq_false mo]
            refine iteT ⟨_, rfl, _, rfl, wd, fa, ru, wl, ea, fs, F, days, _, rows, st, dead, o, rfl, hW.same smd, no, fun Hf sf => ⟨_, rfl, ?_⟩⟩
            have smf := smd.trans sf
            have elf := sf _ _ eld
            cases c : sv F days dead o with
            | false =>
              refine iteF ⟨zs, _, _, _, rfl, smf, elf, zn, Nat.le_succ_of_le zl, pass fun y hy => ?_⟩
              have := (iff y).mp hy.1
              rw [this, c] at hy
              exact absurd hy.2.2.2 Bool.false_ne_true
            | true =>
              refine iteT ⟨_, rfl, .inl ⟨rfl, _, SqL.of elf⟩, _, rfl, l, _, _, rfl, rfl, elf, by rw [List.length_map]; exact small1000 (by omega), zs ++ [o], _, _, _, rfl, fun b p hb => ?_, ?_, ?_, by rw [List.length_append]; exact Nat.succ_le_succ zl, fun y => ?_⟩
              · rw [upd_ne (ne_of_none hb Hl)]
                exact smf b p hb
              · rw [upd_same, List.map_append]
                rfl
              · exact List.nodup_append.mpr ⟨zn, List.pairwise_singleton _ _, fun a ha b hb e => mo (by rw [← List.mem_singleton.mp hb, ← e]; exact ha)⟩
              · rw [List.mem_append, List.mem_singleton, zm, step]
                refine or_congr Iff.rfl ⟨fun e => ?_, fun h => (iff y).mp h.1⟩
                rw [e]
                exact ⟨(iff o).mpr rfl, p1, p2, c⟩
        · have em : (decide (V.str dead = V.str u) || decide (V.str dead = V.str v)) = false := by
            rw [decide_eq_false (fun z => m (.inl (V.str.inj z))), decide_eq_false (fun z => m (.inr (V.str.inj z)))]
            rfl
          rw [em]
          refine iteF ⟨zs, _, y4, y5, rfl, smT, elT, zn, Nat.le_succ_of_le zl, pass fun y h => ?_⟩
          rcases h.1 with h | h
          · exact m (.inl (Fct.wed.inj h).1.symm)
          · exact m (.inr (Fct.wed.inj h).2.symm)
      | child c p =>
        refine ⟨_, rfl, q, _, 0, .str "child", rfl, rfl, hT, atI_nat (j := 0) rfl, rfl, _, rfl, ?_⟩
        rw [decide_eq_false (show ¬ V.str ("child" : Str) = .str ("wed" : Str) by decide +kernel)]
        exact iteF ⟨zs, _, y4, y5, rfl, sm, el, zn, Nat.le_succ_of_le zl, pass fun y h => by rcases h.1 with h | h <;> cases h⟩
      | parted c1 p1 =>
        refine ⟨_, rfl, q, _, 0, .str "parted", rfl, rfl, hT, atI_nat (j := 0) rfl, rfl, _, rfl, ?_⟩
        rw [decide_eq_false (show ¬ V.str ("parted" : Str) = .str ("wed" : Str) by decide +kernel)]
        exact iteF ⟨zs, _, y4, y5, rfl, sm, el, zn, Nat.le_succ_of_le zl, pass fun y h => by rcases h.1 with h | h <;> cases h⟩
      | died c1 p1 =>
        refine ⟨_, rfl, q, _, 0, .str "died", rfl, rfl, hT, atI_nat (j := 0) rfl, rfl, _, rfl, ?_⟩
        rw [decide_eq_false (show ¬ V.str ("died" : Str) = .str ("wed" : Str) by decide +kernel)]
        exact iteF ⟨zs, _, y4, y5, rfl, sm, el, zn, Nat.le_succ_of_le zl, pass fun y h => by rcases h.1 with h | h <;> cases h⟩
      | renounced c1 =>
        refine ⟨_, rfl, q, _, 0, .str "renounced", rfl, rfl, hT, atI_nat (j := 0) rfl, rfl, _, rfl, ?_⟩
        rw [decide_eq_false (show ¬ V.str ("renounced" : Str) = .str ("wed" : Str) by decide +kernel)]
        exact iteF ⟨zs, _, y4, y5, rfl, sm, el, zn, Nat.le_succ_of_le zl, pass fun y h => by rcases h.1 with h | h <;> cases h⟩
      | advance c1 p1 =>
        refine ⟨_, rfl, q, _, 0, .str "advance", rfl, rfl, hT, atI_nat (j := 0) rfl, rfl, _, rfl, ?_⟩
        rw [decide_eq_false (show ¬ V.str ("advance" : Str) = .str ("wed" : Str) by decide +kernel)]
        exact iteF ⟨zs, _, y4, y5, rfl, sm, el, zn, Nat.le_succ_of_le zl, pass fun y h => by rcases h.1 with h | h <;> cases h⟩
    · rintro σ Hz ⟨zs, y3, y4, y5, rfl, sm, el, zn, zl, zm⟩
      rw [List.length_map, e2] at zl zm
      refine ⟨_, rfl, l, _, rfl, SqL.of el, fun p np => ?_⟩
      have asc : Asc ((sp F dead).filter (sv F days dead)) := ⟨((hW.vw.we dead).1.1.sublist List.filter_sublist).sublist List.filter_sublist, ((hW.vw.we dead).1.2.filter _).filter _⟩
      have es : srt zs = (sp F dead).filter (sv F days dead) := by
        rw [asc_eq asc (ys := zs) fun y => ?_]
        · exact srt_same zn uniq_nd fun x => uniq_mem.symm
        · rw [zm]
          unfold spD sp
          rw [List.take_length, List.mem_filter, List.mem_filter, (hW.vw.we dead).2]
          constructor
          · rintro ⟨⟨h1, h2⟩, h3⟩
            have h2' : ¬ y ∈ F.pt dead := by simpa using h2
            rw [(hW.vw.pt dead).2] at h2'
            exact ⟨h1, fun z => h2' (.inr z), fun z => h2' (.inl z), h3⟩
          · rintro ⟨h1, h2, h3, h4⟩
            refine ⟨⟨h1, ?_⟩, h4⟩
            have : ¬ y ∈ F.pt dead := fun z => ((hW.vw.pt dead).2 y).mp z |>.elim h3 h2
            rw [decide_eq_false this]
            rfl
      rw [es]
      exact go p _ (sm.trans (same_upd np)) (sm.free np) upd_same
end
end ZF
namespace ZF
open PySem L2 PyProof.Rows PySem.Spec G
abbrev sLl : Stmt := topS 87
theorem inV_bl (l : List Bool) : inV (.bl true) (l.map V.bl) = l.any id := by
  induction l with
  | nil => rfl
  | cons b r ih =>
    show (_ || inV (.bl true) (r.map V.bl)) = _
    rw [ih]
    cases b <;> rfl
theorem flat_bls (l : List Bool) : (l.map V.bl).all flatV = true := by
  rw [List.all_map]
  exact List.all_eq_true.mpr fun _ _ => rfl
theorem find_any (s : Str → Bool) (ts : List Str) : (ts.find? s).isSome = (ts.map s).any id := by
  rw [List.any_map, Bool.eq_iff_iff, List.find?_isSome, List.any_eq_true]
  exact Iff.rfl
theorem WdK.below {H : Hp} {wd fa ru wl ea : Addr} {fs : List Fct} {F : Fm} {days : Int} {m : Str} {rows : Int} {st : Bool} {dead : Str} (h : WdK H wd fa ru wl ea fs F days m rows st dead) : ∀ x, (F.ch x).length ≤ 16 ∧ (F.ch x).Nodup ∧ ∀ y ∈ F.ch x, y ∈ bnames ∧ ZF.rk x < ZF.rk y ∧ ZF.rk y ≤ 12 := fun x =>
  ⟨(h.cl x).1, (h.cl x).2, fun y hy => ⟨h.bn hy, h.rk y x (((h.vw.ch x).2 y).mp hy)⟩⟩
section
variable {P : Program} {w : World} {K : PySem.W.Frag} {mg : Str → Option Value} {base : Heap} {C CB CC : Addr}
def spLl (K : PySem.W.Frag) (C CB CC : Addr) : Sp := fun vs H Q _ => ∃ (wd fa ru wl ea cs fam bk es gl g : Addr) (fs : List Fct) (F : Fm) (days : Int) (m : Str) (rows : Int) (st : Bool) (dead : Str) (gf : Gf), vs = [.ref wd, .ref cs, .ref g] ∧ WdK H wd fa ru wl ea fs F days m rows st dead ∧ CaseAt C CB CC H cs fam bk es gl F days m dead rows st ∧ GfAt K H g gf ∧ (∀ t ∈ gf.t0 :: gf.ts, isNm t = true) ∧ Wlk F days m dead ∧ ((gf.t0, 0) : Nd) ∈ univ ∧ gf.ts.length ≤ 60 ∧
  ∀ t H', Same H H' → H t = none → GlAt H' t gf.n (glR F days m dead st (gf.t0 :: gf.ts)) → Q (.ref t) H'
abbrev nLl : List Str := ["world", "case", "gift", "facts", "first", "near", "rows", "one", "name"]
theorem scLl : FnScope nLl ["world", "case", "gift"] (defScope sLl) := ⟨rfl, rfl, rfl, by decide +kernel, rfl, by decide +kernel, by decide +kernel⟩
theorem ok_ll {f : Addr} {fd : FuncData} (F : Fun K "_law_line" "_law_line" sLl f fd) (T : TK mg) (DC : CT K CC) (HS : Has P w K mg base CX0 "_law_survives" ["world", "name"] 2 spLsu) (HB : Has P w K mg base CX0 "_law_is_below" ["facts", "one", "name"] 3 spLib) (HP : Has P w K mg base CX0 "_law_parents" ["facts", "name"] 2 spLpa) (HR : Has P w K mg base CX0 "rows_of" ["family", "rules", "dead", "node"] 6 (spRow C CB)) : FnOk P w K mg base CX0 7 f fd ["world", "case", "gift"] (spLl K C CB CC) := by
  obtain ⟨fLsu, fdLsu, mLsu, kLsu, bLsu, GLsu⟩ := HS.ok
  obtain ⟨fLib, fdLib, mLib, kLib, bLib, GLib⟩ := HB.ok
  obtain ⟨fLpa, fdLpa, mLpa, kLpa, bLpa, GLpa⟩ := HP.ok
  obtain ⟨fRow, fdRow, mRow, kRow, bRow, GRow⟩ := HR.ok
  refine F.ok scLl (fun vs H Q E h => ?_) (fun cdv A outer s H vs Q E hr h => ?_)
  · obtain ⟨wd, fa, ru, wl, ea, cs, fam, bk, es, gl, g, fs, F, days, m, rows, st, dead, gf, rfl, _⟩ := h
    rfl
  · obtain ⟨wd, fa, ru, wl, ea, cs, fam, bk, es, gl, g, fs, F, days, m, rows, st, dead, gf, rfl, hW, hC, hG, hnm, wl', tU, tl, go⟩ := h
    have hu := hu_of hr
    refine ⟨_, (pss_cons (ps_if (pt_cmpR op_in_seq pe_bl (pe_lc (own := [("name", 8)]) (g := gName 8) (tt := tYes) rfl scLl.nd (pi_tup (pe_ix ix_tup (pv 2) pe_int (fun _ _ => rfl))) (blkOk_by (N := nLl) (sc := defScope sLl) (by decide +kernel)) (fun _ _ _ _ _ => (pg_name (i := 8) scLl.nd rfl (.inl rfl) (.inr rfl))) (fun _ _ _ _ _ => pts_nil) (fun _ _ _ _ _ => (pe_call GLsu (hr.mono (by decide)) (by rfl) mLsu kLsu bLsu .nil pass0 (pa_cons (pv 0) (pa_cons (pv 8) pa_nil))))) (by rfl)) (pss_one (ps_ret (pe_tup (pa_cons pe_str (pa_cons (pe_ix ix_tup (pv 2) pe_int (fun _ _ => rfl)) (pa_cons pe_str (pa_cons (pe_tup pa_nil) pa_nil))))))) pss_nil)
      (pss_cons (ps_set (i := 3) scLl.nd rfl (.inr rfl) (pe_dget hu (pv 0) pe_str (fun _ _ => rfl)))
      (pss_cons (ps_set (i := 4) scLl.nd rfl (.inr rfl) (pe_ix ix_tup (pe_ix ix_tup (pv 2) pe_int (fun _ _ => rfl)) pe_int (fun _ _ => rfl)))
      (pss_cons (ps_setLc (i := 5) (own := [("one", 7)]) (g := gName 7) (tt := tYes) rfl scLl.nd rfl rfl (sw_true rfl rfl rfl (by decide +kernel)) (pi_list (pe_op op_cat (pe_lst (pa_cons (pe_dget hu (pv 0) pe_str (fun _ _ => rfl)) pa_nil)) (pe_call GLpa (hr.mono (by decide)) (by rfl) mLpa kLpa bLpa .nil pass0 (pa_cons (pv 3) (pa_cons (pe_dget hu (pv 0) pe_str (fun _ _ => rfl)) pa_nil))))) (blkOk_by (N := nLl) (sc := defScope sLl) (by decide +kernel)) (fun _ _ _ _ _ => (pg_name (i := 7) scLl.nd rfl (.inl rfl) (.inr rfl))) (fun _ _ _ _ _ => pts_nil) (fun _ _ _ _ _ => (pe_call GLib (hr.mono (by decide)) (by rfl) mLib kLib bLib .nil pass0 (pa_cons (pv 3) (pa_cons (pv 7) (pa_cons (pv 4) pa_nil))))))
      (pss_cons (ps_if (PW.pt (pw_or (pt_not (pt_val (pe_ix ix_list (pe_dget hu (pv 0) pe_str (fun _ _ => rfl)) pe_int (fun _ _ => rfl)))) (pw_or1 (pt_cmpR op_notIn_seq pe_bl (pv 5) (by rfl))))) (pss_one (ps_ret (pe_tup (pa_cons pe_str (pa_cons (pe_ix ix_tup (pv 2) pe_int (fun _ _ => rfl)) (pa_cons pe_str (pa_cons (pe_tup pa_nil) pa_nil))))))) pss_nil)
      (pss_cons (ps_set (i := 6) scLl.nd rfl (.inl rfl) (pe_call GRow (hr.mono (by decide)) (by rfl) mRow kRow bRow .nil pass0 (pa_cons (pe_fld (pv 1) rfl) (pa_cons (pe_fld (pv 1) rfl) (pa_cons (pe_fld (pv 1) rfl) (pa_cons (pe_tup (pa_cons (pv 4) (pa_cons pe_int pa_nil))) pa_nil))))))
      (pss_one (ps_ret (pe_tup (pa_cons pe_str (pa_cons (pe_ix ix_tup (pv 2) pe_int (fun _ _ => rfl)) (pa_cons (pe_ix ix_list (pe_lst (pa_cons pe_str (pa_cons pe_str pa_nil))) (pe_callTy call_int1 (by rfl) T.int (by decide +kernel) (pa_cons (pe_cmpR op_eq (pe_ix ix_tup (pe_ix ix_tup (pv 6) (pe_op op_sub (pe_callB call_len_seq (by rfl) T.len PySem.boot_len (pa_cons (pv 6) pa_nil)) pe_int) (fun _ _ => rfl)) pe_int (fun _ _ => rfl)) pe_str (nomark _)) pa_nil)) (fun _ _ => rfl)) (pa_cons (pv 6) pa_nil))))))))))))), ?_⟩
    obtain ⟨a, g1, g2⟩ := id hG.ex
    generalize hts : gf.t0 :: gf.ts = ts at *
    have tln : ts.length ≤ 61 := by
      rw [← hts, List.length_cons]
      omega
    refine ⟨_, rfl, g, _, 3, _, rfl, rfl, g1, atI_nat (j := 3) rfl, a, rfl, ⟨_, g2⟩, fun D1 nD1 => ?_⟩
    refine lc_it (walk_tup (xs := ts.map V.str)) (fun i Hz => Same H Hz ∧ Hz D1 = some (.lst (((ts.take i).map (sv F days dead)).map V.bl))) ⟨same_upd nD1, upd_same⟩ (fun i Hz _ h => sqT_same' g2 h.1) ?_ ?_
    · rintro j v Hz H' hj ⟨k1, k2⟩ ⟨rfl, ev⟩
      rw [List.getElem?_map] at ev
      obtain ⟨x, hx, rfl⟩ := Option.map_eq_some_iff.mp ev
      refine ⟨rfl, _, rfl, _, rfl, wd, fa, ru, wl, ea, fs, F, days, m, rows, st, dead, x, rfl, hW.same k1, hnm x (List.mem_of_getElem? hx), fun H3 s3 => ⟨_, s3 _ _ k2, ?_, ?_, ?_⟩⟩
      · rw [List.length_map, List.length_map, List.length_take]
        exact small1000 (by omega)
      · intro b o hb
        rw [upd_ne (ne_of_none hb nD1)]
        exact s3 _ _ (k1 b o hb)
      · rw [upd_same, List.take_add_one, hx, List.map_append, List.map_append]
        rfl
    rintro H2 ⟨k1, k2⟩
    rw [List.length_map, List.take_length] at k2
    refine ⟨D1, _, rfl, .inl (SqL.of k2), rfl, flat_bls _, _, rfl, ?_⟩
    rw [show (if false = true then !inV (V.bl true) ((ts.map (sv F days dead)).map V.bl) else inV (V.bl true) ((ts.map (sv F days dead)).map V.bl)) = inV (V.bl true) ((ts.map (sv F days dead)).map V.bl) from if_neg (by decide), inV_bl, ← find_any]
    have g12 := sqT_same' g1 k1
    have g22 := sqT_same' g2 k1
    have hW2 := hW.same k1
    have hC2 := hC.same k1
    have fin (k : Str) (Hx : Hp) (sx : Same H Hx) (ek : glR F days m dead st ts = (k, [])) (e t : Addr) (ne : Hx e = none) (nt : upd Hx e (.tup []) t = none) : Q (.ref t) (upd (upd Hx e (.tup [])) t (.tup [.str "gift", .int gf.n, .str k, .ref e])) := by
      have q1 := same_upd ne (o := .tup [])
      have q2 := same_upd nt (o := .tup [.str "gift", .int gf.n, .str k, .ref e])
      refine go t _ ((sx.trans q1).trans q2) ((sx.trans q1).free nt) ?_
      rw [ek]
      exact ⟨e, [], upd_same, q2 _ _ upd_same, RowsAt.nil _⟩
    cases ef : (ts.find? (sv F days dead)).isSome with
    | true =>
      have er : glR F days m dead st ts = (("person" : Str), []) := by
        unfold glR
        exact if_pos ef
      exact iteT ⟨_, rfl, g, _, 1, _, rfl, rfl, g12, atI_nat (j := 1) rfl, Nat.zero_le _, fun e0 ne0 => ⟨(by show 4 ≤ sizeLine; decide), fun t nt => fin "person" H2 k1 er e0 t ne0 nt⟩⟩
    | false =>
    refine iteF ⟨_, rfl, wd, _, rfl, hW2.g2, ?_⟩
    have h0 : (ts.map V.str)[0]? = some (.str gf.t0) := by rw [← hts]; rfl
    refine ⟨_, rfl, g, _, 3, _, rfl, rfl, g12, atI_nat (j := 3) rfl, a, _, 0, _, rfl, rfl, g22, atI_nat h0, ?_⟩
    refine ⟨_, rfl, wd, _, rfl, hW2.g1, (by show 1 ≤ sizeLine; decide), fun L nL => ?_⟩
    have q1 := same_upd nL (o := .lst [.str dead])
    have hW3 := hW2.same q1
    refine ⟨_, rfl, _, rfl, wd, _, rfl, hW3.g1, fa, dead, fs, rfl, hW3.fa, hW3.ln, fun l1 H4 s4 nl4 el4 => ?_⟩
    rw [hW.pa] at el4
    obtain ⟨n0, hF0⟩ := hC.ca.f
    refine ⟨L, l1, _, _, rfl, rfl, s4 _ _ upd_same, el4, ?_, fun A1 nA1 => ?_⟩
    · have := (hC.ca.l dead).2
      rw [List.length_map]
      exact Nat.le_of_lt (small1000 (by show 1 + (F.pa dead).length ≤ 1000; omega))
    have q5 := (q1.trans s4).trans (same_upd nA1 (o := .lst ([.str dead] ++ (F.pa dead).map V.str)))
    have hA : upd H4 A1 (.lst ([.str dead] ++ (F.pa dead).map V.str)) A1 = some (.lst ((dead :: F.pa dead).map V.str)) := upd_same
    generalize upd H4 A1 (.lst ([.str dead] ++ (F.pa dead).map V.str)) = H5 at q5 hA ⊢
    have k15 := k1.trans q5
    have al : (dead :: F.pa dead).length ≤ 401 := by
      have := (hC.ca.l dead).2
      rw [List.length_cons]
      omega
    generalize hal : dead :: F.pa dead = as at hA al
    refine ⟨A1, rfl, ⟨_, SqL.of hA⟩, fun D2 nD2 => ?_⟩
    refine lc_it (walk_list (xs := as.map V.str)) (fun i Hz => Same H5 Hz ∧ ∃ bs : List Bool, Hz D2 = some (.lst (bs.map V.bl)) ∧ bs.length = i ∧ (bs.any id = true ↔ ∃ o ∈ as.take i, Dsc F.ch o gf.t0)) ⟨same_upd nD2, [], upd_same, rfl, ⟨fun h => (by cases h), fun ⟨a, h, _⟩ => (by cases h)⟩⟩ (fun i Hz _ h => SqL.of (h.1 _ _ hA)) ?_ ?_
    · rintro i v Hz H' hi ⟨k3, bs, k4, k5, k6⟩ ⟨rfl, ev⟩
      rw [List.getElem?_map] at ev
      obtain ⟨o, ho, rfl⟩ := Option.map_eq_some_iff.mp ev
      have hWz := hW.same (k15.trans k3)
      refine ⟨rfl, _, rfl, _, rfl, _, rfl, fa, o, gf.t0, fs, F, rfl, hWz.fa, hWz.ln, hWz.ch, hWz.below, fun b H6 s6 hb => ⟨_, s6 _ _ k4, ?_, ?_, bs ++ [b], ?_, ?_, ?_⟩⟩
      · rw [List.length_map]
        have : i < as.length := (List.getElem?_eq_some_iff.mp ho).1
        exact small1000 (by omega)
      · intro b o hb
        rw [upd_ne (ne_of_none hb nD2)]
        exact s6 _ _ (k3 b o hb)
      · rw [upd_same, List.map_append]
        rfl
      · rw [List.length_append, k5]
        rfl
      · rw [List.any_append, Bool.or_eq_true, k6, List.take_add_one, ho]
        show _ ∨ (b || false) = true ↔ _
        rw [Bool.or_false, hb]
        constructor
        · rintro (⟨u, h1, h2⟩ | h)
          · exact ⟨u, List.mem_append_left _ h1, h2⟩
          · exact ⟨o, List.mem_append_right _ (List.mem_singleton.mpr rfl), h⟩
        · rintro ⟨u, h1, h2⟩
          rcases List.mem_append.mp h1 with h1 | h1
          · exact .inl ⟨u, h1, h2⟩
          · rw [List.mem_singleton.mp h1] at h2
            exact .inr h2
    rintro H6 ⟨k3, bs, k4, k5, k6⟩
    rw [List.length_map, List.take_length] at k6
    have near : bs.any id = true ↔ Near F dead gf.t0 := by
      rw [k6, ← hal]
      exact Iff.rfl
    have k16 := k15.trans k3
    have hW6 := hW.same k16
    have hC6 := hC.same k16
    obtain ⟨tr, eru⟩ := hW6.ru
    refine ⟨_, rfl, wd, _, rfl, hW6.g3, ru, _, 4, _, rfl, rfl, SqL.of eru, atI_nat (j := 4) rfl, _, rfl, ?_⟩
    have lapse (e : ¬ (st = true ∧ Near F dead gf.t0)) : glR F days m dead st ts = (("lapse" : Str), []) := by
      unfold glR
      rw [if_neg (by rw [ef]; exact Bool.false_ne_true), if_neg]
      rw [← hts]
      exact e
    have g16 := sqT_same' g1 k16
    cases st with
    | false => exact iteT ⟨_, rfl, g, _, 1, _, rfl, rfl, g16, atI_nat (j := 1) rfl, Nat.zero_le _, fun e0 ne0 => ⟨(by show 4 ≤ sizeLine; decide), fun t nt => fin "lapse" H6 k16 (lapse fun h => Bool.false_ne_true h.1) e0 t ne0 nt⟩⟩
    | true =>
    refine iteF ⟨_, rfl, D2, _, rfl, .inl (SqL.of k4), rfl, flat_bls _, _, rfl, ?_⟩
    rw [show (if true = true then !inV (V.bl true) (bs.map V.bl) else inV (V.bl true) (bs.map V.bl)) = !inV (V.bl true) (bs.map V.bl) from if_pos rfl, inV_bl]
    cases eb : bs.any id with
    | false => exact iteT ⟨_, rfl, g, _, 1, _, rfl, rfl, g16, atI_nat (j := 1) rfl, Nat.zero_le _, fun e0 ne0 => ⟨(by show 4 ≤ sizeLine; decide), fun t nt => fin "lapse" H6 k16 (lapse fun h => by rw [near.mpr h.2] at eb; cases eb) e0 t ne0 nt⟩⟩
    | true =>
    have zf := zf_wk (m := m) (days := days) (dead := dead) wl'.r9 wl'.ui tU wl'.pl
    have er : glR F days m dead true ts = ((if lastK (wk (pts hd F days m dead) (tkN F days dead) 36 (gf.t0, 0) []) = "gone" then ("lapse" : Str) else "stock"), wk (pts hd F days m dead) (tkN F days dead) 36 (gf.t0, 0) []) := by
      unfold glR
      rw [if_neg (by rw [ef]; exact Bool.false_ne_true), ← hts, if_pos ⟨rfl, near.mp eb⟩]
      rfl
    rw [er] at go
    generalize wk (pts hd F days m dead) (tkN F days dead) 36 (gf.t0, 0) [] = Z at zf go
    obtain ⟨nn, run⟩ := zf.run
    have zl := zf.len
    obtain ⟨dx, hc6⟩ := hC6.ob
    refine iteF ⟨_, rfl, cs, CC, dx, _, _, rfl, hc6, DC.cl, DC.n2, lc2 _ _ _ _ _, _, rfl, cs, CC, dx, _, _, rfl, hc6, DC.cl, DC.n3, lc3 _ _ _ _ _, _, rfl, cs, CC, dx, _, _, rfl, hc6, DC.cl, DC.n1, lc1 _ _ _ _ _, _, rfl, (by show 2 ≤ sizeLine; decide), fun q nq => ?_⟩
    have s7 := same_upd nq (o := .tup [.str gf.t0, .int 0])
    refine ⟨fam, bk, q, F, days, m, dead, (gf.t0, 0), Z, nn, rfl, hC6.ca.same s7, upd_same, run, by omega, fun rt H8 us s8 nrt ert hR => ?_⟩
    have k18 := (k16.trans s7).trans s8
    have zne : Z ≠ [] := fun e => by
      have := zf.mem
      rw [e] at this
      cases this
    obtain ⟨ui, u, q', z, eu, lk, ra⟩ := last_rows hR zne
    obtain ⟨la, ga, ls, gs, h1, -⟩ := ra.ex
    rw [lk] at go
    have g18 := sqT_same' g1 k18
    refine ⟨_, rfl, g, _, 1, _, rfl, rfl, g18, atI_nat (j := 1) rfl, (by show 2 ≤ sizeLine; decide), fun ld nld => ?_⟩
    have s9 := same_upd nld (o := .lst [.str "stock", .str "lapse"])
    have lu : ((us.map V.ref).length : Int) - 1 = ((ui.map V.ref).length : Int) := by
      rw [eu, List.map_append, List.length_append]
      show ((_ + 1 : Nat) : Int) - 1 = _
      omega
    have eix : atI (us.map V.ref) (((us.map V.ref).length : Int) - 1) = some (.ref u) := by
      rw [lu, eu, List.map_append]
      exact atI_nat (by rw [List.getElem?_append_right (Nat.le_refl _), Nat.sub_self]; rfl)
    refine ⟨_, rfl, _, rfl, rt, _, rfl, .inr (SqT.of (s9 _ _ ert)), _, _, rfl, rfl, rt, _, _, .ref u, rfl, rfl, SqT.of (s9 _ _ ert), eix, u, _, 1, .str z.k, rfl, rfl, SqT.of (s9 _ _ h1), atI_nat (j := 1) rfl, rfl, .inr ⟨_, rfl, ?_⟩⟩
    have fin2 (k : Str) (ek : k = if z.k = "gone" then ("lapse" : Str) else "stock") (t : Addr) (nt : upd H8 ld (.lst [.str "stock", .str "lapse"]) t = none) : Q (.ref t) (upd (upd H8 ld (.lst [.str "stock", .str "lapse"])) t (.tup [.str "gift", .int gf.n, .str k, .ref rt])) := by
      have st4 := same_upd nt (o := .tup [.str "gift", .int gf.n, .str k, .ref rt])
      refine go t _ ((k18.trans s9).trans st4) ((k18.trans s9).free nt) ⟨rt, us, ?_, st4 _ _ (s9 _ _ ert), (hR.tk (Tk.of_same s9)).tk (Tk.of_same st4)⟩
      rw [upd_same, ek]
    by_cases c : z.k = "gone"
    · rw [show (if decide (V.str z.k = V.str "gone") = true then (1 : Int) else 0) = 1 from if_pos (decide_eq_true (congrArg V.str c))]
      exact ⟨ld, _, 1, .str "lapse", rfl, rfl, SqL.of upd_same, atI_nat (j := 1) rfl, _, rfl, (by show 4 ≤ sizeLine; decide), fun t nt => fin2 "lapse" (by rw [if_pos c]) t nt⟩
    · rw [show (if decide (V.str z.k = V.str "gone") = true then (1 : Int) else 0) = 0 from if_neg (fun h => c (V.str.inj (of_decide_eq_true h)))]
      exact ⟨ld, _, 0, .str "stock", rfl, rfl, SqL.of upd_same, atI_nat (j := 0) rfl, _, rfl, (by show 4 ≤ sizeLine; decide), fun t nt => fin2 "stock" (by rw [if_neg c]) t nt⟩
end
end ZF
namespace ZF
open PySem L2 PyProof.Rows PySem.Spec G
abbrev sLdl : Stmt := topS 88
theorem wk_last {pf : Nd → List Nd} {tk : Nd → Bool} (f : Nat) (x : Nd) : ∃ Zi r, wk pf tk (f + 1) x [] = Zi ++ [r] ∧ r.n = x := by
  unfold wk
  rw [if_neg (by exact Bool.false_ne_true)]
  split
  · exact ⟨[], _, rfl, rowOf_n _ _ _ _⟩
  · exact ⟨_, _, rfl, rowOf_n _ _ _ _⟩
theorem addR_mem {acc : List Rw} {r q : Rw} (h : q ∈ addR acc r) : q ∈ acc ∨ q = r := by
  unfold addR at h
  split at h
  · exact .inl h
  · rcases List.mem_append.mp h with m | m
    · exact .inl m
    · exact .inr (List.mem_singleton.mp m)
theorem fold_mem : ∀ {Z : List Rw} {acc : List Rw} {q : Rw}, q ∈ Z.foldl addR acc → q ∈ acc ∨ q ∈ Z
  | [], _, _, h => .inl h
  | r :: Z, acc, q, h => by
    rcases fold_mem (Z := Z) (acc := addR acc r) h with m | m
    · rcases addR_mem m with m | m
      · exact .inl m
      · exact .inr (by rw [m]; exact List.mem_cons_self)
    · exact .inr (List.mem_cons_of_mem _ m)
/-- rows that are new, all at once -/
theorem fold_filter : ∀ {Z : List Rw} {acc : List Rw}, (Z.map (·.n)).Nodup → Z.foldl addR acc = acc ++ Z.filter fun r => (kd acc r.n).isNone
  | [], acc, _ => by simp
  | r :: Z, acc, nd => by
    have nd2 := List.nodup_cons.mp nd
    rw [List.foldl_cons, fold_filter (Z := Z) (acc := addR acc r) nd2.2, List.filter_cons]
    unfold addR
    cases c : kd acc r.n with
    | some k =>
      show acc ++ _ = acc ++ _
      rfl
    | none =>
      show (acc ++ [r]) ++ List.filter (fun q => (kd (acc ++ [r]) q.n).isNone) Z = acc ++ (r :: List.filter (fun q => (kd acc q.n).isNone) Z)
      rw [List.append_assoc]
      congr 1
      show r :: _ = r :: _
      congr 1
      refine List.filter_congr fun q hq => ?_
      rw [kd_app, kd_one, if_neg (fun e => nd2.1 (List.mem_map.mpr ⟨q, hq, e.symm⟩))]
      cases kd acc q.n <;> rfl
theorem last_rows2 {H : Hp} {us : List Addr} {A0 : List Rw} {z : Rw} (hR : RowsAt H us (A0 ++ [z])) : ∃ ui u q, us = ui ++ [u] ∧ RowAt H u q z := by
  have eus := hR.ln
  obtain ⟨ui, u, rfl⟩ : ∃ ui u, us = ui ++ [u] := by
    rcases List.eq_nil_or_concat us with e | ⟨x, y, e⟩
    · rw [e] at eus
      simp at eus
    · exact ⟨x, y, by rw [e, List.concat_eq_append]⟩
  rw [List.length_append, List.length_append, List.length_singleton, List.length_singleton] at eus
  obtain ⟨q', ra⟩ := hR.at' A0.length u z (by rw [List.getElem?_append_right (by omega), show A0.length - ui.length = 0 by omega]; rfl) (by rw [List.getElem?_append_right (Nat.le_refl _), Nat.sub_self]; rfl)
  exact ⟨ui, u, q', rfl, ra⟩
theorem rows_app {H : Hp} {ts vs : List Addr} {R S : List Rw} (h : RowsAt H ts R) (g : RowsAt H vs S) : RowsAt H (ts ++ vs) (R ++ S) := by
  refine ⟨by rw [List.length_append, List.length_append, h.ln, g.ln], fun i t r h1 h2 => ?_⟩
  by_cases c : i < ts.length
  · rw [List.getElem?_append_left c] at h1
    rw [List.getElem?_append_left (by rw [← h.ln]; exact c)] at h2
    exact h.at' i t r h1 h2
  · rw [List.getElem?_append_right (by omega)] at h1
    rw [List.getElem?_append_right (by rw [← h.ln]; omega), ← h.ln] at h2
    exact g.at' _ t r h1 h2
theorem any_nc (l : List Nd) (x : Nd) : ((l.map ncD).any fun z => PyData.eqv z (ncD x)) = decide (x ∈ l) := by
  rw [List.any_map, Bool.eq_iff_iff, List.any_eq_true, decide_eq_true_eq]
  constructor
  · rintro ⟨y, hy, e⟩
    have e' : PyData.eqv (ncD y) (ncD x) = true := e
    rw [eqv_nc] at e'
    rw [← of_decide_eq_true e']
    exact hy
  · intro h
    refine ⟨x, h, ?_⟩
    show PyData.eqv (ncD x) (ncD x) = true
    rw [eqv_nc]
    exact decide_eq_true rfl
theorem sha_ncl {l : List Nd} (h : ∀ y ∈ l, y ∈ univ) : SeqAt.shaped (.list (l.map ncD)) = true := by
  have fp := fitA (ds := l.map ncD) (k := 1) (w := 84) fun dd hd => by
    obtain ⟨y, hy, rfl⟩ := List.mem_map.mp hd
    exact fit_nc (h y hy)
  unfold SeqAt.shaped
  rw [fp.lst.cl, decide_eq_true (Nat.le_trans fp.lst.dp (by decide))]
  rfl
theorem kd_no {acc : List Rw} {x : Nd} : (kd acc x).isNone = !decide (x ∈ acc.map (·.n)) := by
  cases c : kd acc x with
  | none =>
    rw [decide_eq_false fun m => by
      have := kd_mem.mpr m
      rw [c] at this
      cases this]
    rfl
  | some k =>
    rw [decide_eq_true (kd_mem.mp (by rw [c]; rfl))]
    rfl
section
variable {P : Program} {w : World} {K : PySem.W.Frag} {mg : Str → Option Value} {base : Heap} {C CB CC : Addr}
def spLdl (C CB CC : Addr) : Sp := fun vs H Q _ => ∃ (wd fa ru wl ea cs fam bk es gl : Addr) (fs : List Fct) (F : Fm) (days : Int) (m : Str) (rows : Nat) (st : Bool) (dead : Str), vs = [.ref wd, .ref cs] ∧ WdK H wd fa ru wl ea fs F days m (rows : Int) st dead ∧ CaseAt C CB CC H cs fam bk es gl F days m dead (rows : Int) st ∧ rows ≤ 3 ∧ Wlk F days m dead ∧ dead ∈ bnames ∧
  ∀ t H', Same H H' → H t = none → DlAt H' t (dlR (Zh F days m dead) (rows + 1) 0 []) → Q (.ref t) H'
abbrev nLdl : List Str := ["world", "case", "found", "row", "rows", "one", "other"]
theorem scLdl : FnScope nLdl ["world", "case"] (defScope sLdl) := ⟨rfl, rfl, rfl, by decide +kernel, rfl, by decide +kernel, by decide +kernel⟩
theorem ok_ldl {f : Addr} {fd : FuncData} (F : Fun K "_law_descent_line" "_law_descent_line" sLdl f fd) (T : TK mg) (DC : CT K CC) (HR : Has P w K mg base CX0 "rows_of" ["family", "rules", "dead", "node"] 6 (spRow C CB)) : FnOk P w K mg base CX0 7 f fd ["world", "case"] (spLdl C CB CC) := by
  obtain ⟨fRow, fdRow, mRow, kRow, bRow, GRow⟩ := HR.ok
  refine F.ok scLdl (fun vs H Q E h => ?_) (fun cdv A outer s H vs Q E hr h => ?_)
  · obtain ⟨wd, fa, ru, wl, ea, cs, fam, bk, es, gl, fs, F, days, m, rows, st, dead, rfl, _⟩ := h
    rfl
  · obtain ⟨wd, fa, ru, wl, ea, cs, fam, bk, es, gl, fs, F, days, m, rows, st, dead, rfl, hW, hC, r3, wl', dU, go⟩ := h
    have hu := hu_of hr
    have hu65 : (A.deeper (envOfC "_law_descent_line" (defScope sLdl) s.heap.objs.size f cdv)).units + 65 < cLine := by have := hr.un; omega
    have hu64 : (A.deeper (envOfC "_law_descent_line" (defScope sLdl) s.heap.objs.size f cdv)).units + 64 < cLine := by have := hr.un; omega
    refine ⟨_, (pss_cons (ps_set (i := 2) scLdl.nd rfl (.inr rfl) (pe_lst pa_nil))
      (pss_cons (ps_for PassesOwn.never rfl (pi_range1 rfl T.range (pa_cons (pe_op op_add (pe_ix ix_list (pe_dget hu (pv 0) pe_str (fun _ _ => rfl)) pe_int (fun _ _ => rfl)) pe_int) pa_nil)) (pg_name (i := 3) scLdl.nd rfl (.inl rfl)) (pss_cons (ps_set (i := 4) scLdl.nd rfl (.inl rfl) (pe_call GRow (hr.mono (by decide)) (by rfl) mRow kRow bRow .nil pass0 (pa_cons (pe_fld (pv 1) rfl) (pa_cons (pe_fld (pv 1) rfl) (pa_cons (pe_fld (pv 1) rfl) (pa_cons (pe_tup (pa_cons (pe_fld (pv 1) rfl) (pa_cons (pv 3) pa_nil))) pa_nil))))))
      (pss_cons (ps_set (i := 2) scLdl.nd rfl (.inr rfl) (pe_op op_cat (pv 2) (pe_lc (own := [("one", 5)]) (g := gName 5) rfl scLdl.nd (pi_tup (pv 4)) (blkOk_by (N := nLdl) (sc := defScope sLdl) (by decide +kernel)) (fun _ _ _ _ _ => (pg_name (i := 5) scLdl.nd rfl (.inl rfl) (.inr rfl))) (fun _ _ _ _ _ => pts_one (pt_cmpR (show OpR _ _ (rNotInD K) from op_notInD hu65) (pe_ix (show IxR _ (rIxT K) from ix_tup) (pv 5) pe_int (fun _ _ => rfl)) (show PE _ _ (tLc (iList K (tVar 2)) (gName 6) tYes (tOp (rIxT K) (tVar 6) (tC (.int 0))) [6]) from (pe_lc (own := [("other", 6)]) (g := gName 6) (tt := tYes) rfl scLdl.nd (pi_list (pv 2)) (by refine blkOk_by (N := nLdl) (sc := { kind := ScopeKind.function, names := [(".0", NameKind.local), ("one", NameKind.local), ("found", NameKind.cell)], isGenerator := false, isCoroutine := false }) ?_; decide +kernel) (fun _ _ _ _ _ => (pg_name (i := 6) scLdl.nd rfl (.inl rfl) (.inr rfl))) (fun _ _ _ _ _ => pts_nil) (fun _ _ _ _ _ => (pe_ix (show IxR _ (rIxT K) from ix_tup) (pv 6) pe_int (fun _ _ => rfl))))) (by rfl))) (fun _ _ _ _ _ => (pv 5)))))
      (pss_one (ps_if (PW.pt (pw_and (pt_cmpR op_ne (pe_ix ix_tup (pe_ix ix_list (pv 2) (pe_op op_sub (pe_callB call_len_seq (by rfl) T.len PySem.boot_len (pa_cons (pv 2) pa_nil)) pe_int) (fun _ _ => rfl)) pe_int (fun _ _ => rfl)) pe_str (nomark _)) (pw_and1 (pt_cmpR (op_eqD hu64) (pe_ix ix_tup (pe_ix ix_list (pv 2) (pe_op op_sub (pe_callB call_len_seq (by rfl) T.len PySem.boot_len (pa_cons (pv 2) pa_nil)) pe_int) (fun _ _ => rfl)) pe_int (fun _ _ => rfl)) (pe_tup (pa_cons (pe_fld (pv 1) rfl) (pa_cons (pv 3) pa_nil))) (nomark _))))) (pss_one (ps_ret (pe_tup (pa_cons pe_str (pa_cons (pv 3) (pa_cons (pe_callTy call_tuple_of (by rfl) T.tuple (by decide +kernel) (pa_cons (pv 2) pa_nil)) pa_nil)))))) pss_nil)))))
      (pss_one (ps_ret (pe_tup (pa_cons pe_str (pa_cons (pe_op op_sub pe_int pe_int) (pa_cons (pe_callTy call_tuple_of (by rfl) T.tuple (by decide +kernel) (pa_cons (pv 2) pa_nil)) pa_nil)))))))), ?_⟩
    have hlow : ∀ i : Nat, htN (dead, (i : Int)) < htN (dead, ((i + 1 : Nat) : Int)) := fun i => by
      unfold htN
      rw [if_pos (show (0 : Int) < ((dead, ((i + 1 : Nat) : Int)) : Nd).2 by show (0 : Int) < ((i + 1 : Nat) : Int); omega)]
      show (if (0 : Int) < (i : Int) then 31 + ((i : Int)).toNat else 30 - ZF.rk dead) < 31 + (((i + 1 : Nat) : Int)).toNat
      split <;> omega
    refine ⟨Nat.zero_le _, fun l0 nl0 => ?_⟩
    have q0 := same_upd nl0 (o := .lst [])
    have hl0 : upd H l0 (.lst []) l0 = some (.lst (([] : List Addr).map V.ref)) := upd_same
    obtain ⟨tr, eru⟩ := hW.ru
    have hW1 := hW.same q0
    refine ⟨_, rfl, wd, _, rfl, hW1.g3, ru, _, 3, _, rfl, rfl, SqL.of (q0 _ _ eru), atI_nat (j := 3) rfl, _, _, rfl, rfl, _, rfl, by omega, by omega, ?_⟩
    rw [show ((rows : Int) + 1).toNat = rows + 1 by omega]
    refine for_range (lo := 0) (n := rows + 1) (fun i σ Hx => ∃ (acc : List Rw) (l : Addr) (ts : List Addr) (y3 y4 y5 y6 : Option V), σ = [some (.ref wd), some (.ref cs), some (.ref l), y3, y4, y5, y6] ∧ Same H Hx ∧ Hx l = some (.lst (ts.map V.ref)) ∧ RowsAt Hx ts acc ∧ AOk acc ∧ (∀ r ∈ acc, htN r.n < htN (dead, (i : Int))) ∧ dlR (Zh F days m dead) (rows + 1) 0 [] = dlR (Zh F days m dead) (rows + 1 - i) i acc)
      ⟨[], l0, [], none, none, none, none, rfl, q0, hl0, RowsAt.nil _, AOk.nil, fun r h => (by cases h), rfl⟩ ?_ ?_
    · rintro i σ Hx hi ⟨acc, l, ts, y3, y4, y5, y6, rfl, sm, hl, hR, ao, low, ed⟩
      have xU : ((dead, (i : Int)) : Nd) ∈ univ := univ_mem.mpr ⟨.inl dU, by show (-1 : Int) ≤ i; omega, by show (i : Int) ≤ 4; omega⟩
      have zf := zf_wk (m := m) (days := days) (dead := dead) wl'.r9 wl'.ui xU wl'.pl
      have hC1 := hC.same sm
      obtain ⟨dx1, hc1⟩ := hC1.ob
      have eds : dlR (Zh F days m dead) (rows + 1 - i) i acc = if ¬ lastK ((Zh F days m dead i).foldl addR acc) = "gone" then ((i : Int), (Zh F days m dead i).foldl addR acc) else dlR (Zh F days m dead) (rows + 1 - (i + 1)) (i + 1) ((Zh F days m dead i).foldl addR acc) := by
        rw [show rows + 1 - i = (rows + 1 - (i + 1)) + 1 by omega]
        rfl
      rw [eds] at ed
      have ez : Zh F days m dead i = wk (pts hd F days m dead) (tkN F days dead) 36 (dead, (i : Int)) [] := rfl
      obtain ⟨Zi, zr, ezl, ezn⟩ := wk_last (pf := pts hd F days m dead) (tk := tkN F days dead) 35 (dead, (i : Int))
      have hpp : ∀ z, tkN F days dead z = false → ∀ y ∈ pts hd F days m dead z, htN y < htN z := fun z _ y hy => ht_pts wl'.r9 hy
      have zlow : ∀ r ∈ Zh F days m dead i, htN r.n ≤ htN (dead, (i : Int)) := fun r hr => by
        rw [ez] at hr
        rcases wk_below hpp 36 (dead, (i : Int)) [] r.n (kd_mem.mpr (List.mem_map.mpr ⟨r, hr, rfl⟩)) with h | h
        · cases h
        · exact h
      rw [← ez] at zf ezl
      generalize Zh F days m dead i = Z at zf ed ezl zlow
      clear ez eds
      obtain ⟨nn, run⟩ := zf.run
      have zl := zf.len
      have znd : (Z.map (·.n)).Nodup := by
        have := zf.ok.nd
        rw [List.map_reverse] at this
        exact (List.reverse_perm _).nodup_iff.mp this
      refine ⟨_, rfl, cs, CC, dx1, _, _, rfl, hc1, DC.cl, DC.n2, lc2 _ _ _ _ _, _, rfl, cs, CC, dx1, _, _, rfl, hc1, DC.cl, DC.n3, lc3 _ _ _ _ _, _, rfl, cs, CC, dx1, _, _, rfl, hc1, DC.cl, DC.n1, lc1 _ _ _ _ _, _, rfl, cs, CC, dx1, _, _, rfl, hc1, DC.cl, DC.n1, lc1 _ _ _ _ _, _, rfl, (by show 2 ≤ sizeLine; decide), fun q nq => ?_⟩
      have s2 := same_upd nq (o := .tup [.str dead, .int (0 + (i : Int))])
      have hqq : upd Hx q (.tup [.str dead, .int (0 + (i : Int))]) q = some (.tup (nc (dead, (i : Int)))) := by
        rw [upd_same, Int.zero_add]
        rfl
      refine ⟨fam, bk, q, F, days, m, dead, (dead, (i : Int)), Z, nn, rfl, hC1.ca.same s2, hqq, run, by omega, fun rt H3 us s3 nrt ert hR3 => ?_⟩
      have s23 := s2.trans s3
      have hl3 := s23 _ _ hl
      have hR3' := hR.tk (Tk.of_same s23)
      have sm3 := sm.trans s23
      have accl := ao.len
      clear s23 s2 s3 nrt hR hl sm
      have tsl := hR3'.ln
      refine ⟨_, rfl, _, rfl, rt, rfl, ⟨_, SqT.of ert⟩, fun D1 nD1 => ?_⟩
      refine lc_it (walk_tup (xs := us.map V.ref)) (fun j Hz => Same H3 Hz ∧ ∃ vs : List Addr, Hz D1 = some (.lst (vs.map V.ref)) ∧ RowsAt Hz vs ((Z.take j).filter fun r => (kd acc r.n).isNone)) ⟨same_upd nD1, [], upd_same, RowsAt.nil _⟩ (fun j Hz _ h => SqT.of (h.1 _ _ ert)) ?_ ?_
      · rintro j v Hz H' hj ⟨k1, vs, k2, k3⟩ ⟨rfl, ev⟩
        rw [List.getElem?_map] at ev
        obtain ⟨u, hu', rfl⟩ := Option.map_eq_some_iff.mp ev
        have jl : j < Z.length := by
          rw [← hR3.ln]
          exact (List.getElem?_eq_some_iff.mp hu').1
        have hr0 : Z[j]? = some Z[j] := List.getElem?_eq_getElem jl
        obtain ⟨q', ra0⟩ := hR3.at' j u _ hu' hr0
        have rsh := zf.sh _ (List.getElem_mem jl)
        generalize Z[j] = r at hr0 ra0 rsh
        have ra := ra0.same k1
        obtain ⟨la, ga, ls, gs, h1, h2, h3, h4, h5, h6⟩ := id ra.ex
        have hlz := k1 _ _ hl3
        have hRz := hR3'.tk (Tk.of_same k1)
        have kfl := List.length_filter_le (fun r => (kd acc r.n).isNone) (Z.take j)
        rw [List.length_take] at kfl
        have k3l := k3.ln
        refine ⟨rfl, _, rfl, u, _, 0, _, rfl, rfl, SqT.of h1, atI_nat (j := 0) rfl, _, rfl, l, rfl, ⟨_, SqL.of hlz⟩, fun D2 nD2 => ?_⟩
        refine lc_it (walk_list (xs := ts.map V.ref)) (fun p Hy => Same H' Hy ∧ ∃ qs : List Addr, Hy D2 = some (.lst (qs.map V.ref)) ∧ ZK.TupsAt Hy qs (((acc.map (·.n)).take p).map nc)) ⟨same_upd nD2, [], upd_same, .nil⟩ (fun p Hy _ h => SqL.of (h.1 _ _ hlz)) ?_ ?_
        · rintro p v Hy Hw hp ⟨g1, qs, g2, g3⟩ ⟨rfl, ev⟩
          rw [List.getElem?_map] at ev
          obtain ⟨t', ht', rfl⟩ := Option.map_eq_some_iff.mp ev
          have pl : p < acc.length := by
            rw [← tsl]
            exact (List.getElem?_eq_some_iff.mp ht').1
          have ha0 : acc[p]? = some acc[p] := List.getElem?_eq_getElem pl
          obtain ⟨qa, rb0⟩ := hRz.at' p t' _ ht' ha0
          have rb := rb0.same g1
          obtain ⟨_, _, _, _, b1, b2, -⟩ := rb.ex
          have g3l := tups_len g3
          rw [List.length_take] at g3l
          refine ⟨rfl, _, rfl, t', _, 0, _, rfl, rfl, SqT.of b1, atI_nat (j := 0) rfl, _, g2, ?_, fun b o hb => ?_, qs ++ [qa], ?_, ?_⟩
          · rw [List.length_map]
            exact small1000 (by omega)
          · rw [upd_ne (ne_of_none hb nD2)]
            exact g1 b o hb
          · rw [upd_same, List.map_append]
            rfl
          · rw [List.take_add_one, List.getElem?_map, ha0, List.map_append]
            refine ZK.TupsAt.snoc ⟨g3.1, fun j q c h1 h2 => ?_⟩ (by rw [upd_ne (ne_of b2 g2 (by intro z; cases z))]; exact b2)
            rw [upd_ne (ne_of (g3.2 j q c h1 h2) g2 (by intro z; cases z))]
            exact g3.2 j q c h1 h2
        rintro Hw ⟨g1, qs, g2, g3⟩
        rw [List.length_map, tsl, List.take_of_length_le (by rw [List.length_map]; exact Nat.le_refl _)] at g3
        refine ⟨ncD r.n, _, dp_nc (g1 _ _ h2), .lst (SqL.of g2) (dp_tups g3), sha_nc (univ_nm rsh.n), sha_ncl (fun y hy => by
          obtain ⟨r, hr, rfl⟩ := List.mem_map.mp hy
          exact (ao.un r hr).n), _, rfl, ?_⟩
        rw [any_nc]
        have k1w := k1.trans g1
        have k2w := g1 _ _ k2
        have k3w := k3.tk (Tk.of_same g1)
        have raw := ra.same g1
        have st : (Z.take (j + 1)).filter (fun r => (kd acc r.n).isNone) = (Z.take j).filter (fun r => (kd acc r.n).isNone) ++ if (kd acc r.n).isNone = true then [r] else [] := by
          rw [List.take_add_one, hr0, List.filter_append]
          congr 1
          show List.filter _ [r] = _
          rw [List.filter_cons]
          rfl
        rw [kd_no] at st
        cases c : !decide (r.n ∈ acc.map (·.n)) with
        | false =>
          rw [c, if_neg Bool.false_ne_true, List.append_nil] at st
          exact iteF ⟨k1w, vs, k2w, by rw [st]; exact k3w⟩
        | true =>
          rw [c, if_pos rfl] at st
          have t9 : Tk Hw (upd Hw D1 (.lst (vs.map V.ref ++ [.ref u]))) := Tk.upd k2w (by intro xs z; cases z)
          refine iteT ⟨_, rfl, _, k2w, by rw [List.length_map]; exact small1000 (by omega), fun b o hb => ?_, vs ++ [u], ?_, ?_⟩
          · rw [upd_ne (ne_of_none hb nD1)]
            exact k1w b o hb
          · rw [upd_same, List.map_append]
            rfl
          · rw [st]
            exact RowsAt.snoc (k3w.tk t9) (raw.tk t9)
      · rintro H4 ⟨k1, vs, k2, k3⟩
        rw [List.length_map, hR3.ln, List.take_length] at k3
        have k3l := k3.ln
        have kfl := List.length_filter_le (fun r => (kd acc r.n).isNone) Z
        refine ⟨l, D1, _, _, rfl, rfl, k1 _ _ hl3, k2, by rw [List.length_map, List.length_map]; exact Nat.le_of_lt (small1000 (by omega)), fun p np => ?_⟩
        have q5 := same_upd np (o := .lst (ts.map V.ref ++ vs.map V.ref))
        have sm5 := (sm3.trans k1).trans q5
        have hp5 : upd H4 p (.lst (ts.map V.ref ++ vs.map V.ref)) p = some (.lst ((ts ++ vs).map V.ref)) := by rw [upd_same, List.map_append]
        have hR5 := rows_app ((hR3'.tk (Tk.of_same k1)).tk (Tk.of_same q5)) (k3.tk (Tk.of_same q5))
        rw [← fold_filter znd] at hR5
        generalize upd H4 p (.lst (ts.map V.ref ++ vs.map V.ref)) = H5 at sm5 hp5 hR5 ⊢
        have ao5 : AOk (Z.foldl addR acc) := ao.fold zf.sh
        have low5 : ∀ r ∈ Z.foldl addR acc, htN r.n < htN (dead, ((i + 1 : Nat) : Int)) := fun r hr => by
          have h1 := hlow i
          rcases fold_mem hr with h | h
          · exact Nat.lt_trans (low r h) h1
          · exact Nat.lt_of_le_of_lt (zlow r h) h1
        obtain ⟨A0, eA⟩ : ∃ A0, Z.foldl addR acc = A0 ++ [zr] := by
          refine ⟨acc ++ Zi.filter fun r => (kd acc r.n).isNone, ?_⟩
          have kno : (kd acc zr.n).isNone = true := by
            rw [kd_no, decide_eq_false]
            · rfl
            · intro hm
              obtain ⟨r, hr, er⟩ := List.mem_map.mp hm
              have := low r hr
              rw [er, ezn] at this
              omega
          rw [fold_filter znd, ezl, List.filter_append, List.append_assoc]
          congr 2
          show List.filter _ [zr] = _
          rw [List.filter_cons, if_pos kno]
          rfl
        have lk : lastK (Z.foldl addR acc) = zr.k := by
          rw [eA]
          unfold lastK
          rw [List.getLast?_append]
          rfl
        rw [lk] at ed
        have hR5' := hR5
        rw [eA] at hR5'
        obtain ⟨ui, u, q', eu, ra⟩ := last_rows2 hR5'
        obtain ⟨la, ga, ls, gs, h1, h2, -⟩ := ra.ex
        have lu : (((ts ++ vs).map V.ref).length : Int) - 1 = ((ui.map V.ref).length : Int) := by
          rw [eu, List.map_append, List.length_append]
          show ((_ + 1 : Nat) : Int) - 1 = _
          omega
        have eix : atI ((ts ++ vs).map V.ref) ((((ts ++ vs).map V.ref).length : Int) - 1) = some (.ref u) := by
          rw [lu, eu, List.map_append]
          exact atI_nat (by rw [List.getElem?_append_right (Nat.le_refl _), Nat.sub_self]; rfl)
        refine ⟨_, rfl, _, rfl, p, _, rfl, .inl (SqL.of hp5), _, _, rfl, rfl, p, _, _, .ref u, rfl, rfl, SqL.of hp5, eix, u, _, 1, .str zr.k, rfl, rfl, SqT.of h1, atI_nat (j := 1) rfl, rfl, _, rfl, ?_⟩
        by_cases c : zr.k = "gone"
        · rw [decide_eq_true (congrArg V.str c)]
          rw [if_neg (fun h => h c)] at ed
          exact iteF ⟨_, p, ts ++ vs, _, _, _, _, rfl, sm5, hp5, hR5, ao5, low5, ed⟩
        rw [decide_eq_false (show ¬ V.str zr.k = V.str "gone" from fun z => c (V.str.inj z))]
        rw [if_pos c] at ed
        have hC5 := hC.same sm5
        obtain ⟨dx5, hc5⟩ := hC5.ob
        refine iteT ⟨_, rfl, _, rfl, p, _, rfl, .inl (SqL.of hp5), _, _, rfl, rfl, p, _, _, .ref u, rfl, rfl, SqL.of hp5, eix, u, _, 0, _, rfl, rfl, SqT.of h1, atI_nat (j := 0) rfl, _, rfl, cs, CC, dx5, _, _, rfl, hc5, DC.cl, DC.n1, lc1 _ _ _ _ _, _, rfl, (by show 2 ≤ sizeLine; decide), fun q2 nq2 => ?_⟩
        have q6 := same_upd nq2 (o := .tup [.str dead, .int (0 + (i : Int))])
        have hq2 : upd H5 q2 (.tup [.str dead, .int (0 + (i : Int))]) q2 = some (.tup (nc (dead, (i : Int)))) := by
          rw [upd_same, Int.zero_add]
          rfl
        have h2' := q6 _ _ h2
        rw [ezn] at h2'
        refine ⟨ncD (dead, (i : Int)), ncD (dead, (i : Int)), dp_nc h2', dp_nc hq2, sha_nc (univ_nm xU), sha_nc (univ_nm xU), _, rfl, ?_⟩
        rw [eqv_nc, decide_eq_true rfl]
        refine iteT ⟨_, rfl, _, rfl, p, _, rfl, .inl ⟨SqL.of (q6 _ _ hp5), fun rt2 nrt2 => ⟨(by show 3 ≤ sizeLine; decide), fun t nt => ?_⟩⟩⟩
        have q7 := same_upd nrt2 (o := .tup ((ts ++ vs).map V.ref))
        have q8 := same_upd nt (o := .tup [.str "descent", .int (0 + (i : Int)), .ref rt2])
        refine go t _ (((sm5.trans q6).trans q7).trans q8) (((sm5.trans q6).trans q7).free nt) ?_
        rw [ed]
        exact ⟨rt2, ts ++ vs, by rw [upd_same, Int.zero_add], q8 _ _ upd_same, ((hR5.tk (Tk.of_same q6)).tk (Tk.of_same q7)).tk (Tk.of_same q8)⟩
    · rintro σ Hx ⟨acc, l, ts, y3, y4, y5, y6, rfl, sm, hl, hR, ao, low, ed⟩
      rw [Nat.sub_self] at ed
      refine ⟨_, _, rfl, rfl, _, rfl, l, _, rfl, .inl ⟨SqL.of hl, fun rt2 nrt2 => ⟨(by show 3 ≤ sizeLine; decide), fun t nt => ?_⟩⟩⟩
      have q1 := same_upd nrt2 (o := .tup (ts.map V.ref))
      have q2 := same_upd nt (o := .tup [.str "descent", .int (-1), .ref rt2])
      refine go t _ ((sm.trans q1).trans q2) ((sm.trans q1).free nt) ?_
      rw [ed]
      exact ⟨rt2, ts, upd_same, q2 _ _ upd_same, (hR.tk (Tk.of_same q1)).tk (Tk.of_same q2)⟩
end
end ZF
namespace ZF
open PySem L2 PyProof.Rows PySem.Spec G
abbrev sLwo : Stmt := topS 85
theorem FS.rk12 {n : Nat} {fs : List Fct} (h : FS n fs) : ∀ c p, Fct.child c p ∈ fs → ZF.rk p < ZF.rk c ∧ ZF.rk c ≤ 12 := fun c p m => by
  obtain ⟨i, j, ji, hi, rfl, rfl⟩ := h.ch c p m
  rw [rk_pn hi, rk_pn (Nat.lt_trans ji hi)]
  omega
theorem nms_bn : ∀ x ∈ bnames, x ∈ ZK.NMs := by decide +kernel
/-- the estate of the law -/
structure EsK (H : Hp) (ea : Addr) (coins : Int) (ws : List (Str × Int)) (ds : List ZK.Db) : Prop where
  ex : ∃ (t u : Addr) (qs us : List Addr), H ea = some (.lst [.int coins, .ref t, .ref u]) ∧ H t = some (.tup (qs.map V.ref)) ∧ ZK.TupsAt H qs (ws.map ZK.tc) ∧ H u = some (.tup (us.map V.ref)) ∧ ZK.TupsAt H us (ds.map ZK.dc)
  d : ZK.EstD coins ws ds
structure RuK (H : Hp) (ru : Addr) (days : Int) (m : Str) (ps : List (Int × Int)) (rows : Int) (st : Bool) : Prop where
  ex : ∃ (t : Addr) (qs : List Addr), H ru = some (.lst [.int days, .str m, .ref t, .int rows, .bl st]) ∧ H t = some (.tup (qs.map V.ref)) ∧ ZK.TupsAt H qs (ps.map ZK.pc)
  d : ZK.RulD days m ps rows
section
variable {P : Program} {w : World} {K : PySem.W.Frag} {mg : Str → Option Value} {base : Heap}
def spLwo (K : PySem.W.Frag) : Sp := fun vs H Q _ => ∃ (a : Addr) (ns : List Int), vs = [.ref a] ∧ SqL K H a (ns.map V.int) ∧
  ∀ (wd fa ru wl ea : Addr) (H' : Hp) (fs : List Fct) (F : Fm) (days : Int) (m : Str) (qs : List (Int × Int)) (rows : Int) (st : Bool) (k : Nat) (ps : List (Addr × ZK.Wl)) (coins : Int) (ws : List (Str × Int)) (ds : List ZK.Db), Same H H' → WdK H' wd fa ru wl ea fs F days m rows st (pn k) → k < 13 → FS 80 fs → Told fs F → RuK H' ru days m qs rows st → ZK.Wls K H' wl ps → ps.length ≤ 6 → EsK H' ea coins ws ds → Q (.ref wd) H'
abbrev nLwo : List Str := ["script", "dead", "names", "facts", "feed", "rules", "will"]
theorem scLwo : FnScope nLwo ["script"] (defScope sLwo) := ⟨rfl, rfl, rfl, by decide +kernel, rfl, by decide +kernel, by decide +kernel⟩
theorem ok_lwo {f : Addr} {fd : FuncData} (F : Fun K "_law_world" "_law_world" sLwo f fd) (HC : Has P w K mg base CX0 "_law_cell" ["script", "k"] 1 (spCel K)) (HF : Has P w K mg base CX0 "_law_facts" ["cell"] 3 spFts) (HE : Has P w K mg base CX0 "_law_feed" ["cell", "many"] 2 spFee) (HR : ZK.Has P w K mg base CX0 "_law_rules" ["feed"] 2 ZK.spLru) (HW : ZK.Has P w K mg base CX0 "_law_will" ["feed", "names"] 2 (ZK.spLwi K)) (HS : ZK.Has P w K mg base CX0 "_law_estate" ["feed"] 2 ZK.spLes) : FnOk P w K mg base CX0 4 f fd ["script"] (spLwo K) := by
  obtain ⟨fCel, fdCel, mCel, kCel, bCel, GCel⟩ := HC.ok
  obtain ⟨fFts, fdFts, mFts, kFts, bFts, GFts⟩ := HF.ok
  obtain ⟨fFee, fdFee, mFee, kFee, bFee, GFee⟩ := HE.ok
  obtain ⟨fLru, fdLru, mLru, kLru, bLru, GLru⟩ := HR.ok
  obtain ⟨fLwi, fdLwi, mLwi, kLwi, bLwi, GLwi⟩ := HW.ok
  obtain ⟨fLes, fdLes, mLes, kLes, bLes, GLes⟩ := HS.ok
  refine F.ok scLwo (fun vs H Q E h => ?_) (fun cdv A outer s H vs Q E hr h => ?_)
  · obtain ⟨a, ns, rfl, _⟩ := h
    rfl
  · obtain ⟨a, ns, rfl, hS0, go⟩ := h
    refine ⟨_, (pss_cons (ps_asg (pe_call GFts (hr.mono (by decide)) (by rfl) mFts kFts bFts .nil pass0 (pa_cons (pe_call GCel (hr.mono (by decide)) (by rfl) mCel kCel bCel .nil pass0 (pa_cons (pv 0) (pa_cons pe_int pa_nil))) pa_nil)) (pg_unl (n := 3) rfl (pgs_cons (pg_name (i := 1) scLwo.nd rfl (.inl rfl)) (pgs_cons (pg_name (i := 2) scLwo.nd rfl (.inl rfl)) (pgs_cons (pg_name (i := 3) scLwo.nd rfl (.inl rfl)) pgs_nil)))))
      (pss_cons (ps_set (i := 4) scLwo.nd rfl (.inl rfl) (pe_call GFee (hr.mono (by decide)) (by rfl) mFee kFee bFee .nil pass0 (pa_cons (pe_call GCel (hr.mono (by decide)) (by rfl) mCel kCel bCel .nil pass0 (pa_cons (pv 0) (pa_cons pe_int pa_nil))) (pa_cons pe_int pa_nil))))
      (pss_cons (ps_set (i := 5) scLwo.nd rfl (.inl rfl) (pe_call GLru (hr.mono (by decide)) (by rfl) mLru kLru bLru .nil pass0 (pa_cons (pv 4) pa_nil)))
      (pss_cons (ps_set (i := 6) scLwo.nd rfl (.inl rfl) (pe_call GLwi (hr.mono (by decide)) (by rfl) mLwi kLwi bLwi .nil pass0 (pa_cons (pv 4) (pa_cons (pv 2) pa_nil))))
      (pss_one (ps_ret (pe_disp (pps_cons pe_str (pv 1) (pps_cons pe_str (pv 3) (pps_cons pe_str (pv 5) (pps_cons pe_str (pv 6) (pps_cons pe_str (pe_call GLes (hr.mono (by decide)) (by rfl) mLes kLes bLes .nil pass0 (pa_cons (pv 4) pa_nil)) pps_nil))))) rfl rfl (by simp) (by decide)))))))), ?_⟩
    refine ⟨_, rfl, a, ns, 0, rfl, hS0, by decide, _, rfl, fun p na fa cnt k fs H1 s1 np e1 c3 c13 hk en ef S hd50 => ?_⟩
    refine ⟨p, _, rfl, SqL.of e1, rfl, _, _, rfl, _, _, rfl, _, _, rfl, rfl, ?_⟩
    obtain ⟨Fm0, to⟩ := S.to
    refine ⟨_, rfl, a, ns, 1, rfl, s1.seq hS0, by decide, _, 60, rfl, by decide, by decide, fun d l H2 xs s2 nd nl fe => ?_⟩
    have fK : ZK.Feed H2 d l 0 xs := ⟨fe.hd, fe.hl, fe.ne, fe.sm, fe.nu⟩
    refine ⟨_, rfl, d, l, 0, xs, rfl, fK, by decide, fun pr t H3 days md ps rows st a2 qs f3 z3 npr nt epr et Tp RD => ?_⟩
    have nmB : ∀ x ∈ names cnt, ZK.nmK x := fun x hx => by
      obtain ⟨i, hi, rfl⟩ := List.mem_map.mp hx
      have := List.mem_range.mp hi
      have hb := pn_base (show i < 13 by omega)
      exact ⟨bn_nm _ hb, nms_bn _ hb⟩
    have lnm : (names cnt).length = cnt := by
      unfold names
      rw [List.length_map, List.length_range]
    have en3 := fK.keepL f3.b (s2 _ _ en)
    refine ⟨_, rfl, _, rfl, d, l, na, a2, xs, names cnt, rfl, f3.f, by omega, en3, by omega, nmB, fun ll H4 wl a4 f4 z4 nll W zw => ?_⟩
    intro wd nwd
    have wdd : wd ≠ d := (ne_of_none f4.f.hd nwd).symm
    have f4' : ZK.Feed (upd H4 wd (.dK [])) d l a4 xs := ⟨(same_upd nwd) _ _ f4.f.hd, (same_upd nwd) _ _ f4.f.hl, f4.f.ne, f4.f.sm, f4.f.nu⟩
    refine ⟨_, rfl, _, rfl, _, rfl, _, rfl, _, rfl, d, l, a4, xs, rfl, f4', by omega, fun ea t2 u H5 coins ws ds qs2 us a5 f5 z5 nea nt2 nu ee et2 T2 eu U ED => ?_⟩
    have hwd5 : H5 wd = some (.dK []) := f5.b _ _ upd_same wdd
    refine ⟨hwd5, wdK (pn k) fa pr ll ea, rfl, (by simp [wdK]), ?_⟩
    have em : mergeK [] (wdK (pn k) fa pr ll ea) = wdK (pn k) fa pr ll ea := by kernel_rfl
    rw [em]
    have bf : ZK.But d H4 (upd H5 wd (.dK (wdK (pn k) fa pr ll ea))) := fun b o hb nb => by
      rw [upd_ne (ne_of_none hb nwd)]
      exact f5.b _ _ ((same_upd nwd) _ _ hb) nb
    have b3 : ZK.But d H3 (upd H5 wd (.dK (wdK (pn k) fa pr ll ea))) := fun b o hb nb => bf _ _ (f4.b _ _ hb nb) nb
    have s1f : Same H1 (upd H5 wd (.dK (wdK (pn k) fa pr ll ea))) := fun b o hb => b3 _ _ (f3.b _ _ (s2 _ _ hb) (ne_of_none hb nd)) (ne_of_none hb nd)
    have k5 : ∀ {b : Addr} {o : HO}, H5 b = some o → (∀ z, o ≠ .dK z) → upd H5 wd (.dK (wdK (pn k) fa pr ll ea)) b = some o := fun hb no => by
      rw [upd_ne (ne_of hb hwd5 (no _))]
      exact hb
    have hwd : upd H5 wd (.dK (wdK (pn k) fa pr ll ea)) wd = some (.dK (wdK (pn k) fa pr ll ea)) := upd_same
    have S80 := S.ln
    refine go wd fa pr ll ea _ fs Fm0 days md ps rows st k wl coins ws ds (s1.trans s1f) ⟨hwd, ef.same s1f, by omega, to.view, to.good, hd50, FS.rk12 S, S.nm, ⟨t, f3.f.keepL b3 epr⟩⟩ (by omega) S to ⟨⟨t, qs, f3.f.keepL b3 epr, f3.f.keep b3 et, f3.f.tups b3 Tp⟩, RD⟩ (W.but f4.f bf) zw ⟨⟨t2, u, qs2, us, k5 ee (by intro z h; cases h), k5 et2 (by intro z h; cases h), ⟨T2.1, fun i q c h1 h2 => k5 (T2.2 i q c h1 h2) (by intro z h; cases h)⟩, k5 eu (by intro z h; cases h), ⟨U.1, fun i q c h1 h2 => k5 (U.2 i q c h1 h2) (by intro z h; cases h)⟩⟩, ED⟩
end
end ZF
namespace ZK
open PySem L2 PyProof.Rows PySem.Spec G
theorem thRun_app : ∀ (ws acc : List (Str × Int)) (r : List (Option (Str × Int))), ((acc ++ ws).map (·.1)).Nodup → thRun acc (ws.map some ++ r) = thRun (acc ++ ws) r
  | [], acc, r, _ => by rw [List.append_nil]; rfl
  | p :: ws, acc, r, h => by
    have hp : ¬ p.1 ∈ acc.map (·.1) := fun m => by
      rw [List.map_append, List.map_cons] at h
      exact (List.nodup_append.mp h).2.2 _ m _ List.mem_cons_self rfl
    show (if p.1 ∈ acc.map (·.1) then .inl "twice" else thRun (acc ++ [p]) (ws.map some ++ r)) = _
    rw [if_neg hp, thRun_app ws (acc ++ [p]) r (by rw [List.append_assoc]; exact h), List.append_assoc]
    rfl
theorem EstD.nd {coins : Int} {ws : List (Str × Int)} {ds : List Db} (E : EstD coins ws ds) : (ws.map (·.1)).Nodup := E.n.nodup (by decide +kernel)
theorem EstD.run {coins : Int} {ws : List (Str × Int)} {ds : List Db} (E : EstD coins ws ds) (r : List (Option (Str × Int))) : thRun [] (ws.map some ++ r) = thRun ws r := thRun_app ws [] r E.nd
theorem EstD.cv {coins : Int} {ws : List (Str × Int)} {ds : List Db} (E : EstD coins ws ds) : amtV (.int coins) = true := amt_ok ⟨E.c0, E.c1⟩
theorem three_ok : ∀ n ∈ three, tnV (.str n) = true ∧ n ≠ "zz" ∧ PyData.strOk n = true ∧ n.length ≤ 1000 := by decide +kernel
theorem cn_ok : ∀ n ∈ cnames, nameV (.str n) = true ∧ PyData.strOk n = true ∧ n.length ≤ 1000 := by decide +kernel
theorem cr_ok : ∀ r ∈ cranks, amtV (.int r) = true := by decide +kernel
theorem EstD.mem {coins : Int} {ws : List (Str × Int)} {ds : List Db} (E : EstD coins ws ds) {p : Str × Int} (h : p ∈ ws) : p.1 ∈ three := E.n.subset (List.mem_map.mpr ⟨p, h, rfl⟩)
theorem ths_it {K : PySem.W.Frag} {H : Hp} {coins : Int} {ws : List (Str × Int)} {ds : List Db} {qs : List Addr} (E : EstD coins ws ds) (hT : TupsAt H qs (ws.map tc)) : (ws.map some).length = (qs.map V.ref).length ∧ ∀ (i : Nat) (x : V) (o : Option (Str × Int)), (qs.map V.ref)[i]? = some x → (ws.map some)[i]? = some o → ItB K thingV H x (o.map tc) := by
  refine ⟨by have := hT.1; rw [List.length_map] at this; rw [List.length_map, List.length_map, this], fun i x o h1 h2 => ?_⟩
  rw [List.getElem?_map] at h1 h2
  obtain ⟨q, hq, rfl⟩ := Option.map_eq_some_iff.mp h1
  obtain ⟨p, hp, rfl⟩ := Option.map_eq_some_iff.mp h2
  have hm := List.mem_of_getElem? hp
  have t := three_ok _ (E.mem hm)
  have a := E.w p hm
  refine ⟨q, rfl, SqT.of (hT.2 i q (tc p) hq (by rw [List.getElem?_map, hp]; rfl)), fun y hy => ?_, ?_⟩
  · simp only [tc, List.mem_cons, List.not_mem_nil, or_false] at hy
    rcases hy with rfl | rfl
    · exact okw t.2.2.2
    · exact oki _
  · show (tnV (.str p.1) && amtV (.int p.2)) = true
    rw [t.1, amt_ok a]
    rfl
theorem dbs_it {K : PySem.W.Frag} {H : Hp} {coins : Int} {ws : List (Str × Int)} {ds : List Db} {us : List Addr} (E : EstD coins ws ds) (hT : TupsAt H us (ds.map dc)) : (ds.map some).length = (us.map V.ref).length ∧ ∀ (i : Nat) (x : V) (o : Option Db), (us.map V.ref)[i]? = some x → (ds.map some)[i]? = some o → ItB K debtV H x (o.map dc) := by
  refine ⟨by have := hT.1; rw [List.length_map] at this; rw [List.length_map, List.length_map, this], fun i x o h1 h2 => ?_⟩
  rw [List.getElem?_map] at h1 h2
  obtain ⟨q, hq, rfl⟩ := Option.map_eq_some_iff.mp h1
  obtain ⟨p, hp, rfl⟩ := Option.map_eq_some_iff.mp h2
  have hm := List.mem_of_getElem? hp
  have t := cn_ok _ (E.dn p hm)
  have r := cr_ok _ (E.dr p hm)
  have a := E.da p hm
  refine ⟨q, rfl, SqT.of (hT.2 i q (dc p) hq (by rw [List.getElem?_map, hp]; rfl)), fun y hy => ?_, ?_⟩
  · simp only [dc, List.mem_cons, List.not_mem_nil, or_false] at hy
    rcases hy with rfl | rfl | rfl
    · exact okw t.2.2
    · exact oki _
    · exact oki _
  · show (nameV (.str p.1) && (amtV (.int p.2.1) && amtV (.int p.2.2))) = true
    rw [t.1, r, amt_ok a]
    rfl
theorem dep_all {α : Type} {f : α → PyData} {n : Nat} {xs : List α} (h : ∀ x ∈ xs, (f x).depth ≤ n) : PyData.depthAll (xs.map f) ≤ n := by
  induction xs with
  | nil => exact Nat.zero_le _
  | cons x r ih =>
    show max (f x).depth (PyData.depthAll (r.map f)) ≤ n
    exact Nat.max_le.mpr ⟨h x List.mem_cons_self, ih fun y hy => h y (List.mem_cons_of_mem _ hy)⟩
theorem nm_okS {x : Str} (h : isNm x = true) : PyData.strOk x = true := by
  unfold isNm at h
  rw [Bool.and_eq_true, Bool.and_eq_true] at h
  have h2 := h.2
  rw [List.all_eq_true] at h2
  show x.cps.all (· < 0x110000) = true
  rw [← Array.all_toList, List.all_eq_true]
  intro c hc
  have m := of_decide_eq_true (h2 c hc)
  have all : ∀ c ∈ signs.cps.toList, c < 0x110000 := by decide +kernel
  exact decide_eq_true (all c m)
theorem log_12 {i : Int} (h : i.natAbs < 10 ^ 12) : i.natAbs.log2 < 41 := by
  by_cases e : i.natAbs = 0
  · rw [e]; decide
  · exact (Nat.log2_lt e (k := 41)).mpr (Nat.lt_trans h (by decide))
theorem int_show {i : Int} (h : i.natAbs < 10 ^ 12) : (PyData.int i).showable = true := decide_eq_true (Nat.lt_trans (log_12 h) (by decide))
theorem int_short {i : Int} (h : i.natAbs < 10 ^ 12) : (PyData.int i).leavesShort 13 = true := decide_eq_true (PyData.shown_int_le h)
theorem int_weight {i : Int} (h : i.natAbs < 10 ^ 12) : (PyData.int i).weight ≤ 41 := by
  have := log_12 h
  show (if (i == 0) = true then 0 else i.natAbs.log2 + 1) ≤ 41
  split <;> omega
theorem str_short {z : Str} (h : PyData.strOk z = true) : (PyData.str z).leavesShort 13 = true := by
  show (z.cps.toList.all fun c => decide (c < 16 ^ 8)) = true
  rw [List.all_eq_true]
  intro c hc
  have h1 : z.cps.all (· < 0x110000) = true := h
  rw [← Array.all_toList, List.all_eq_true] at h1
  have h2 : c < 0x110000 := of_decide_eq_true (h1 c hc)
  exact decide_eq_true (Nat.lt_of_lt_of_le h2 (by decide))
theorem show_all {α : Type} {f : α → PyData} {xs : List α} (h : ∀ x ∈ xs, (f x).showable = true) : PyData.showableAll (xs.map f) = true := by
  induction xs with
  | nil => rfl
  | cons x r ih =>
    show ((f x).showable && PyData.showableAll (r.map f)) = true
    rw [h x List.mem_cons_self, ih fun y hy => h y (List.mem_cons_of_mem _ hy)]
    rfl
theorem dict_all {α : Type} {f : α → PyData} {xs : List α} (h : ∀ x ∈ xs, (f x).hasDict = false) : PyData.hasDictAll (xs.map f) = false := by
  induction xs with
  | nil => rfl
  | cons x r ih =>
    show ((f x).hasDict || PyData.hasDictAll (r.map f)) = false
    rw [h x List.mem_cons_self, ih fun y hy => h y (List.mem_cons_of_mem _ hy)]
    rfl
theorem short_all {α : Type} {f : α → PyData} {xs : List α} (h : ∀ x ∈ xs, (f x).leavesShort 13 = true) : PyData.leavesShortAll 13 (xs.map f) = true := by
  induction xs with
  | nil => rfl
  | cons x r ih =>
    show ((f x).leavesShort 13 && PyData.leavesShortAll 13 (r.map f)) = true
    rw [h x List.mem_cons_self, ih fun y hy => h y (List.mem_cons_of_mem _ hy)]
    rfl
theorem weight_all {α : Type} {f : α → PyData} {m : Nat} : ∀ {xs : List α}, (∀ x ∈ xs, (f x).weight ≤ m) → PyData.weightAll (xs.map f) ≤ xs.length * (m + 1)
  | [], _ => Nat.zero_le _
  | z :: r, h => by
    show (f z).weight + 1 + PyData.weightAll (r.map f) ≤ (r.length + 1) * (m + 1)
    have h1 := h z List.mem_cons_self
    have h2 := weight_all (m := m) (xs := r) fun y hy => h y (List.mem_cons_of_mem _ hy)
    rw [Nat.succ_mul]
    omega
def seven : List Str := ["thing", "sum", "rest", "ring", "house", "cow", "ship"]
theorem strs_ok : ∀ z ∈ seven, PyData.strOk z = true ∧ z.length ≤ 5 := by decide +kernel
theorem four_seven : ∀ z ∈ fourT, z ∈ seven := by decide +kernel
theorem seven_in : ("thing" : Str) ∈ seven ∧ ("sum" : Str) ∈ seven ∧ ("rest" : Str) ∈ seven := by decide +kernel
structure Shn (da : PyData) (n m : Nat) : Prop where
  s : da.showable = true
  d : da.hasDict = false
  p : da.depth ≤ n
  l : da.leavesShort 13 = true
  w : da.weight ≤ m
theorem shn_int {i : Int} (h : i.natAbs < 10 ^ 12) : Shn (.int i) 0 41 := ⟨int_show h, rfl, Nat.le_refl _, int_short h, int_weight h⟩
theorem shn_str {z : Str} (h : PyData.strOk z = true) (l : z.length ≤ 41) : Shn (.str z) 0 41 := ⟨rfl, rfl, Nat.le_refl _, str_short h, l⟩
theorem shn_tup {α : Type} {f : α → PyData} {n m : Nat} {xs : List α} (h : ∀ x ∈ xs, Shn (f x) n m) : Shn (.tuple (xs.map f)) (n + 1) (xs.length * (m + 1)) := ⟨show_all fun x hx => (h x hx).s, dict_all fun x hx => (h x hx).d, Nat.succ_le_succ (dep_all fun x hx => (h x hx).p), short_all fun x hx => (h x hx).l, weight_all fun x hx => (h x hx).w⟩
theorem shn_lst {α : Type} {f : α → PyData} {n m : Nat} {xs : List α} (h : ∀ x ∈ xs, Shn (f x) n m) : Shn (.list (xs.map f)) (n + 1) (xs.length * (m + 1)) := ⟨show_all fun x hx => (h x hx).s, dict_all fun x hx => (h x hx).d, Nat.succ_le_succ (dep_all fun x hx => (h x hx).p), short_all fun x hx => (h x hx).l, weight_all fun x hx => (h x hx).w⟩
theorem Shn.up {d : PyData} {n m n' m' : Nat} (h : Shn d n m) (a : n ≤ n') (b : m ≤ m') : Shn d n' m' := ⟨h.s, h.d, Nat.le_trans h.p a, h.l, Nat.le_trans h.w b⟩
theorem shn_gift {w : Wl} (g : isG w = true) (d : WlD w) : Shn (wdat w) 2 2000 := by
  cases w with
  | gift w n x ts =>
    obtain ⟨hn, ht, hx⟩ := d
    have T : Shn (.tuple (ts.map PyData.str)) 1 210 := (shn_tup (f := PyData.str) (n := 0) (m := 41) (xs := ts) fun z hz => shn_str (nm_okS (ht.2.2 z hz).1) (Nat.le_trans (nm_len (ht.2.2 z hz).1) (by decide))).up (Nat.le_refl _) (by have := ht.2.1; omega)
    have X : Shn (.str w) 0 41 ∧ Shn (xD x) 0 41 := by
      have ok := strs_ok
      rcases hx with ⟨rfl, z, hz, rfl⟩ | ⟨rfl, i, rfl, i0, i1⟩ | ⟨rfl, i, rfl, i0, i1⟩
      · have hz' := four_seven z hz
        exact ⟨shn_str (ok _ seven_in.1).1 (Nat.le_trans (ok _ seven_in.1).2 (by decide)), shn_str (ok _ hz').1 (Nat.le_trans (ok _ hz').2 (by decide))⟩
      · exact ⟨shn_str (ok _ seven_in.2.1).1 (Nat.le_trans (ok _ seven_in.2.1).2 (by decide)), shn_int (by omega)⟩
      · exact ⟨shn_str (ok _ seven_in.2.2).1 (Nat.le_trans (ok _ seven_in.2.2).2 (by decide)), shn_int (by omega)⟩
    have N : Shn (.int n) 0 41 := shn_int (by omega)
    refine ⟨?_, ?_, ?_, ?_, ?_⟩
    · show ((PyData.str w).showable && ((PyData.int n).showable && ((xD x).showable && ((PyData.tuple (ts.map PyData.str)).showable && true)))) = true
      rw [X.1.s, N.s, X.2.s, T.s]
      rfl
    · show ((PyData.str w).hasDict || ((PyData.int n).hasDict || ((xD x).hasDict || ((PyData.tuple (ts.map PyData.str)).hasDict || false)))) = false
      rw [X.1.d, N.d, X.2.d, T.d]
      rfl
    · show max (PyData.str w).depth (max (PyData.int n).depth (max (xD x).depth (max (PyData.tuple (ts.map PyData.str)).depth 0))) + 1 ≤ 2
      have a := X.1.p
      have b := N.p
      have c := X.2.p
      have e := T.p
      omega
    · show ((PyData.str w).leavesShort 13 && ((PyData.int n).leavesShort 13 && ((xD x).leavesShort 13 && ((PyData.tuple (ts.map PyData.str)).leavesShort 13 && true)))) = true
      rw [X.1.l, N.l, X.2.l, T.l]
      rfl
    · show (PyData.str w).weight + 1 + ((PyData.int n).weight + 1 + ((xD x).weight + 1 + ((PyData.tuple (ts.map PyData.str)).weight + 1 + 0))) ≤ 2000
      have a := X.1.w
      have b := N.w
      have c := X.2.w
      have e := T.w
      omega
  | rev n => cases g
  | all => cases g
theorem dp_stn {K : PySem.W.Frag} {H : Hp} {l : Addr} {gs : List (Addr × Wl)} (hl : H l = some (.lst (gs.map fun p => V.ref p.1))) (h : ∀ p ∈ gs, LnAt K H p.1 p.2.ln ∧ isG p.2 = true ∧ WlD p.2) : Dp K H (.ref l) (.list (gs.map fun p => wdat p.2)) := by
  refine .lst (SqL.of hl) ?_
  clear hl
  induction gs with
  | nil => exact .nil
  | cons p r ih => exact .cons (dp_wl (h p List.mem_cons_self).1 (h p List.mem_cons_self).2.2) (ih fun q hq => h q (List.mem_cons_of_mem _ hq))
theorem stn_shows {gs : List (Addr × Wl)} (z : gs.length ≤ 6) (h : ∀ p ∈ gs, isG p.2 = true ∧ WlD p.2) : (PyData.list (gs.map fun p => wdat p.2)).showable = true ∧ (PyData.list (gs.map fun p => wdat p.2)).hasDict = false ∧ (PyData.list (gs.map fun p => wdat p.2)).depth ≤ 64 ∧ (PyData.list (gs.map fun p => wdat p.2)).shown.length ≤ sizeLine := by
  have S := shn_lst (f := fun p : Addr × Wl => wdat p.2) (n := 2) (m := 2000) (xs := gs) fun p hp => shn_gift (h p hp).1 (h p hp).2
  have e20 : (2 : Nat) ^ 20 = 1048576 := by decide
  have wt := S.w
  exact ⟨S.s, S.d, Nat.le_trans S.p (by decide), PyData.shown_fits (B := 13) (by decide) (by decide) S.l (by omega)⟩
theorem estOut_ok {coins : Int} {ws : List (Str × Int)} {ds : List Db} (E : EstD coins ws ds) : estOut (.int coins) (ws.map some) (ds.map some) = .inr ws := by
  have e := E.run []
  rw [List.append_nil] at e
  have a : (ds.map some).all (·.isSome) = true := by
    rw [List.all_map]
    exact List.all_eq_true.mpr fun _ _ => rfl
  unfold estOut
  rw [if_neg (by rw [E.cv]; decide), e]
  show (if (ds.map some).all (·.isSome) = true then (Sum.inr ws : Str ⊕ List (Str × Int)) else .inl "debts") = _
  rw [if_pos a]
end ZK
namespace ZF
open PySem L2 PyProof.Rows PySem.Spec G
abbrev sLca : Stmt := topS 86
section
variable {P : Program} {w : World} {K : PySem.W.Frag} {mg : Str → Option Value} {base : Heap} {C CB CC CS CR CF : Addr}
def spLca (K : PySem.W.Frag) (C CB CC : Addr) : Sp := fun vs H Q _ => ∃ (wd fa ru wl ea : Addr) (fs : List Fct) (F : Fm) (days : Int) (m : Str) (qs : List (Int × Int)) (rows : Int) (st : Bool) (k : Nat) (ps : List (Addr × ZK.Wl)) (coins : Int) (ws : List (Str × Int)) (ds : List ZK.Db), vs = [.ref wd, .ref fa] ∧ WdK H wd fa ru wl ea fs F days m rows st (pn k) ∧ FS 80 fs ∧ Told fs F ∧ RuK H ru days m qs rows st ∧ ZK.Wls K H wl ps ∧ ps.length ≤ 6 ∧ EsK H ea coins ws ds ∧
  ∀ (cs fam bk es gl : Addr) (H' : Hp), Same H H' → CaseAt C CB CC H' cs fam bk es gl F days m (pn k) rows st → H' gl = some (.lst ((ZK.stn ps).map fun p => .ref p.1)) → Q (.ref cs) H'
abbrev nLca : List Str := ["world", "facts", "days", "mode", "spouse", "rows", "steps", "book", "coins", "things", "debts", "estate"]
theorem scLca : FnScope nLca ["world", "facts"] (defScope sLca) := ⟨rfl, rfl, rfl, by decide +kernel, rfl, by decide +kernel, by decide +kernel⟩
theorem ok_lca {f : Addr} {fd : FuncData} (F : Fun K "_law_case" "_law_case" sLca f fd)
  {fR fE fC : Addr} {fdR fdE fdC : FuncData} {gR gE gC : List Value → List Value → List Value} (mRu : mg "Rules" = some (.ref CB)) (MR : Mk K CB fR) (GRi : FnOk P w K mg base (L2.CX P w) 5 fR fdR ["self", "days", "mode", "spouse", "rows", "steps_in"] (ZK.spBokI K CB CR)) (bR5 : KBn K fdR ["self", "days", "mode", "spouse", "rows", "steps_in"] 1 ["days", "mode", "spouse", "rows", "steps_in"] gR (fun vs zs => vs ++ zs))
  (mEs : mg "Estate" = some (.ref CS)) (ME : Mk K CS fE) (GEi : FnOk P w K mg base (L2.CX P w) 4 fE fdE ["self", "coins", "things", "debts"] (ZK.spEstI K CS CF)) (bE2 : KBn K fdE ["self", "coins", "things", "debts"] 2 ["things", "debts"] gE (fun vs zs => vs ++ zs))
  (mCa : mg "Case" = some (.ref CC)) (MC : Mk K CC fC) (GCi : FnOk P w K mg base (L2.CX P w) 5 fC fdC ["self", "dead", "facts", "rules", "estate", "will"] (spCasI K C CC)) (bC3 : KBn K fdC ["self", "dead", "facts", "rules", "estate", "will"] 3 ["rules", "estate", "will"] gC (fun vs zs => vs ++ zs)) : FnOk P w K mg base CX0 7 f fd ["world", "facts"] (spLca K C CB CC) := by
  refine F.ok scLca (fun vs H Q E h => ?_) (fun cdv A outer s H vs Q E hr h => ?_)
  · obtain ⟨wd, fa, ru, wl, ea, fs, F, days, m, qs, rows, st, k, ps, coins, ws, ds, rfl, _⟩ := h
    rfl
  · obtain ⟨wd, fa, ru, wl, ea, fs, F, days, m, qs, rows, st, k, ps, coins, ws, ds, rfl, hW, S, to, hR, hWl, pl, hE, go⟩ := h
    have hu := hu_of hr
    have hr6 : Room 6 (A.deeper (envOfC "_law_case" (defScope sLca) s.heap.objs.size f cdv)) := hr.mono (by decide)
    have hr5 : Room 5 (A.deeper (envOfC "_law_case" (defScope sLca) s.heap.objs.size f cdv)) := hr.mono (by decide)
    refine ⟨_, (pss_cons (ps_asg (pe_dget hu (pv 0) pe_str (fun _ _ => rfl)) (pg_unl (n := 5) rfl (pgs_cons (pg_name (i := 2) scLca.nd rfl (.inl rfl)) (pgs_cons (pg_name (i := 3) scLca.nd rfl (.inl rfl)) (pgs_cons (pg_name (i := 4) scLca.nd rfl (.inl rfl)) (pgs_cons (pg_name (i := 5) scLca.nd rfl (.inl rfl)) (pgs_cons (pg_name (i := 6) scLca.nd rfl (.inl rfl)) pgs_nil)))))))
      (pss_cons (ps_set (i := 7) scLca.nd rfl (.inl rfl) (pe_makeK0 MR GRi hr6 (by rfl) mRu bR5 passF (pk_cons (pv 2) (pk_cons (pv 3) (pk_cons (pv 4) (pk_cons (pv 5) (pk_cons (pv 6) pk_nil)))))))
      (pss_cons (ps_asg (pe_dget hu (pv 0) pe_str (fun _ _ => rfl)) (pg_unl (n := 3) rfl (pgs_cons (pg_name (i := 8) scLca.nd rfl (.inl rfl)) (pgs_cons (pg_name (i := 9) scLca.nd rfl (.inl rfl)) (pgs_cons (pg_name (i := 10) scLca.nd rfl (.inl rfl)) pgs_nil)))))
      (pss_cons (ps_set (i := 11) scLca.nd rfl (.inl rfl) (pe_makeK ME GEi hr5 (by rfl) mEs bE2 passF (pa_cons (pv 8) pa_nil) (pk_cons (pv 9) (pk_cons (pv 10) pk_nil))))
      (pss_one (ps_ret (pe_makeK MC GCi hr6 (by rfl) mCa bC3 passF (pa_cons (pe_dget hu (pv 0) pe_str (fun _ _ => rfl)) (pa_cons (pv 1) pa_nil)) (pk_cons (pv 7) (pk_cons (pv 11) (pk_cons (pe_dget hu (pv 0) pe_str (fun _ _ => rfl)) pk_nil)))))))))), ?_⟩
    obtain ⟨⟨t, qa, er, et, T0⟩, RD⟩ := id hR
    refine ⟨_, rfl, wd, _, rfl, hW.g3, ru, _, rfl, SqL.of er, rfl, _, _, rfl, _, _, rfl, _, _, rfl, _, _, rfl, _, _, rfl, rfl, ?_⟩
    obtain ⟨RU1, RU2, RU3⟩ := RD.u
    have PI := ZK.parts_it (K := K) T0 RD.p
    have lps : ((ZK.posO qs).length : Int) = rows + 1 := by
      unfold ZK.posO
      rw [List.length_map]
      exact RD.r
    have mdo : PyData.strOk m = true ∧ m.length ≤ 1000 := by
      rcases RD.m with e | e
      · rw [e]
        decide +kernel
      · rw [e]
        decide +kernel
    refine ⟨_, rfl, _, rfl, _, rfl, _, rfl, _, rfl, rfl, rfl, fun bk dxb nb ndxb nexb => ?_⟩
    have sM := ZK.made (C := CB) nb ndxb nexb
    refine ⟨bk, dxb, .int days, .str m, .ref t, .int rows, .bl st, some (ZK.posO qs), rfl, rfl, ZK.okw mdo.2, rfl, ZK.LsIt.same (o := some (ZK.posO qs)) ⟨t, qa.map V.ref, rfl, SqT.of et, PI.1, by rw [← PI.1]; have := RD.r1; omega, PI.2⟩ sM, upd_same, fun why er => ?_, fun i z r e1 e2 e3 _ H5 kp hb => ⟨rfl, ?_⟩⟩
    · rw [ZK.rulOut_ok RU1 RU2 RU3 (show ZK.partsB (some (ZK.posO qs)) (rows + 1) = true by
        show (decide (((ZK.posO qs).length : Int) = rows + 1) && (ZK.posO qs).all (·.isSome)) = true
        rw [lps, ZK.pos_some, decide_eq_true rfl]
        rfl)] at er
      cases er
    obtain rfl := V.int.inj e1
    obtain rfl := V.str.inj e2
    obtain rfl := V.int.inj e3
    have s5 := ZK.madeK nb ndxb nexb kp
    have hW5 := hW.same s5
    have hE0 := hE.d
    obtain ⟨⟨t2, u, q2, us, ee, et2, T2, eu, U2⟩, ED⟩ := id hE
    have ee5 := s5 _ _ ee
    have et25 := s5 _ _ et2
    have eu5 := s5 _ _ eu
    have T25 := T2.same s5
    have U25 := U2.same s5
    clear kp sM PI lps mdo ndxb nexb nb
    refine ⟨_, rfl, wd, _, rfl, hW5.g5, ea, _, rfl, SqL.of ee5, rfl, _, _, rfl, _, _, rfl, _, _, rfl, rfl, ?_⟩
    have TI := ZK.ths_it (K := K) ED T25
    have DI := ZK.dbs_it (K := K) ED U25
    have wl3 : ws.length ≤ 3 := by
      have := ED.n.length_le
      rw [List.length_map] at this
      exact this
    have lq2 : q2.length = ws.length := by have := T25.1; rw [List.length_map] at this; exact this
    have lus : us.length = ds.length := by have := U25.1; rw [List.length_map] at this; exact this
    have dl3 := ED.l
    refine ⟨_, rfl, _, rfl, _, rfl, rfl, rfl, fun es ex nes nex' nee => ?_⟩
    have sE := ZK.made (C := CS) nes nex' nee
    refine ⟨es, t2, u, ex, .int coins, q2.map V.ref, us.map V.ref, ws.map some, ds.map some, rfl, rfl, upd_same, SqT.of (sE _ _ et25), SqT.of (sE _ _ eu5), TI.1, DI.1, by rw [List.length_map]; omega, by rw [List.length_map]; omega, fun i x o h1 h2 => (TI.2 i x o h1 h2).same sE, fun i x o h1 h2 => (DI.2 i x o h1 h2).same sE, fun why er => ?_, fun i ws' e1 er H7 kp hES => ⟨rfl, ?_⟩⟩
    · rw [ZK.estOut_ok ED] at er
      cases er
    have s7 := ZK.madeK nes nex' nee kp
    have s57 := s5.trans s7
    have hW7 := hW.same s57
    have hb7 := s7 _ _ hb
    clear kp sE TI DI nes nex' nee er
    have dd : F.dy (pn k) = some 50 := (to.view.dy (pn k)).trans hW.d0
    have irr : ∀ y, ¬ Dsc F.ch y y := fun y hy => by
      have h2 : ∀ {a b}, Dsc (chs fs) a b → ZF.rk a < ZF.rk b := fun h => by
        induction h with
        | one h => exact (S.rank _ _ (chs_mem.mp h)).1
        | more _ g ih => exact Nat.lt_trans ih (S.rank _ _ (chs_mem.mp g)).1
      exact Nat.lt_irrefl _ (h2 (to.dsc.mp hy))
    refine ⟨_, rfl, wd, _, rfl, hW7.g1, _, rfl, _, rfl, _, rfl, _, rfl, wd, _, rfl, hW7.g4, rfl, rfl, fun cs dxc ncs ndc nec => ?_⟩
    have sC := ZK.made (C := CC) ncs ndc nec
    refine ⟨cs, dxc, fa, bk, es, wl, pn k, fs, F, 50, ps, rfl, upd_same, (hW7.fa).same sC, to, irr, hW.ln, dd, (hWl.same s57).same sC, by omega, fun H9 fam gl n kp hp hF egl => ⟨rfl, ?_⟩⟩
    have s9 := ZK.madeK ncs ndc nec kp
    have rk : Rk F ZF.rk := ⟨fun x y c => by
      have := hW.rk y x (((hW.vw.ch x).2 y).mp c)
      omega⟩
    have hb9 := s9 _ _ hb7
    refine go cs fam bk es gl H9 (s57.trans s9) ⟨⟨dxc, hp⟩, ⟨⟨n, hF⟩, ⟨dxb, rows, .bl st, .ref t, hb9⟩, ⟨50, dd⟩, ⟨ZF.rk, rk⟩, ⟨kids (fs.map some), ?_, fun x y c => kids_mem (List.mem_map.mpr ⟨_, ((to.view.ch x).2 y).mp c, rfl⟩)⟩, fun x => ⟨?_, ?_⟩⟩, dxb, .ref t, hb9⟩ egl
    · have kl := kids_len (fs.map some)
      rw [List.length_map] at kl
      have := hW.ln
      omega
    · have := (hW.cl x).1
      omega
    · rw [← hW.pa]
      have h1 := srt_uniq_len (kinL false fs x)
      have h2 : (kinL false fs x).length ≤ fs.length := List.length_filterMap_le _ _
      have := hW.ln
      omega
end
end ZF
namespace ZF
open PySem L2 PyProof.Rows PySem.Spec G
/-- a line that gives, as a gift -/
def gfOf : ZK.Wl → Gf
  | .gift w n x ts => ⟨w, n, x, ts.headD "", ts.tail⟩
  | _ => ⟨"", 0, .non, "", []⟩
theorem nms_univ : ∀ t ∈ ZK.NMs, ((t, 0) : Nd) ∈ univ := fun t ht => by
  have all : ∀ t ∈ ZK.NMs, t ∈ bnames ∨ t = "zz" := by decide +kernel
  exact univ_mem.mpr ⟨all t ht, (show (-1 : Int) ≤ 0 by decide), (show (0 : Int) ≤ 4 by decide)⟩
structure GfOk (f : Gf) : Prop where
  nm : ∀ t ∈ f.t0 :: f.ts, isNm t = true
  un : ((f.t0, 0) : Nd) ∈ univ
  ln : f.ts.length ≤ 60
  n0 : 0 ≤ f.n ∧ f.n < 6
theorem stn_gfs {K : PySem.W.Frag} {H : Hp} {wl : Addr} {ps : List (Addr × ZK.Wl)} (h : ZK.Wls K H wl ps) : Gfs K H ((ZK.stn ps).map (·.1)) ((ZK.stn ps).map fun p => gfOf p.2) ∧ ∀ f ∈ (ZK.stn ps).map (fun p => gfOf p.2), GfOk f := by
  have key : ∀ p ∈ ZK.stn ps, GfAt K H p.1 (gfOf p.2) ∧ GfOk (gfOf p.2) := fun p hp => by
    obtain ⟨m, g⟩ := ZK.stn_mem hp
    obtain ⟨la, wd⟩ := h.at' p m
    obtain ⟨q, w⟩ := p
    cases w with
    | gift w n x ts =>
      obtain ⟨hn, ⟨tn, tl, tm⟩, hx⟩ := wd
      obtain ⟨t, h1, h2, h3, h4, h5⟩ := la
      obtain ⟨a, e, h6, -⟩ := h5
      subst e
      obtain ⟨t0, ts', rfl⟩ : ∃ t0 ts', ts = t0 :: ts' := by
        cases ts with
        | nil => exact absurd rfl tn
        | cons a b => exact ⟨a, b, rfl⟩
      refine ⟨⟨a, h1, h6⟩, ⟨fun t ht => (tm t ht).1, nms_univ t0 (tm t0 List.mem_cons_self).2, ?_, hn⟩⟩
      rw [List.length_cons] at tl
      show ts'.length ≤ 60
      omega
    | rev n => cases g
    | all => cases g
  refine ⟨⟨by rw [List.length_map, List.length_map], fun i a f h1 h2 => ?_⟩, fun f hf => ?_⟩
  · rw [List.getElem?_map] at h1 h2
    obtain ⟨p, hp, rfl⟩ := Option.map_eq_some_iff.mp h1
    rw [hp] at h2
    rw [← Option.some.inj h2]
    exact (key p (List.mem_of_getElem? hp)).1
  · obtain ⟨p, hp, rfl⟩ := List.mem_map.mp hf
    exact (key p hp).2
end ZF
namespace ZF
open PySem L2 PyProof.Rows PySem.Spec G
structure FitB (ds : List PyData) (k W : Nat) : Prop where
  sh : PyData.showableAll ds = true
  hd : PyData.hasDictAll ds = false
  cl : PyData.canLayAll0 ds = true
  dp : PyData.depthAll ds ≤ k
  lv : PyData.leavesShortAll 13 ds = true
  wt : PyData.weightAll ds ≤ W
  eq : PyData.eqvAll ds ds = true
theorem FitB.nil (k : Nat) : FitB [] k 0 := ⟨rfl, rfl, rfl, Nat.zero_le _, rfl, Nat.zero_le _, rfl⟩
theorem FitB.cons {d : PyData} {r : List PyData} {k w W : Nat} (a : Fit d k w) (b : FitB r k W) : FitB (d :: r) k (w + 1 + W) := by
  refine ⟨?_, ?_, ?_, ?_, ?_, ?_, ?_⟩
  · show (d.showable && PyData.showableAll r) = true
    rw [a.sh, b.sh]; rfl
  · show (d.hasDict || PyData.hasDictAll r) = false
    rw [a.hd, b.hd]; rfl
  · show (d.canLay0 && PyData.canLayAll0 r) = true
    rw [a.cl, b.cl]; rfl
  · show max d.depth (PyData.depthAll r) ≤ k
    have := a.dp
    have := b.dp
    omega
  · show (d.leavesShort 13 && PyData.leavesShortAll 13 r) = true
    rw [a.lv, b.lv]; rfl
  · show d.weight + 1 + PyData.weightAll r ≤ w + 1 + W
    have := a.wt
    have := b.wt
    omega
  · show (PyData.eqv d d && PyData.eqvAll r r) = true
    rw [a.eq, b.eq]; rfl
theorem FitB.tup {ds : List PyData} {k W : Nat} (h : FitB ds k W) : Fit (.tuple ds) (k + 1) W := ⟨h.sh, h.hd, h.cl, Nat.succ_le_succ h.dp, h.lv, h.wt, h.eq⟩
theorem fit_str3 {x : Str} (h : PyData.strOk x = true) (l : x.length ≤ 3) : Fit (.str x) 0 3 := by
  have f := fit_str h (Nat.le_trans l (by decide))
  exact ⟨f.sh, f.hd, f.cl, f.dp, f.lv, l, f.eq⟩
theorem fit_int3 {i : Int} (h1 : -1 ≤ i) (h2 : i ≤ 4) : Fit (.int i) 0 3 := by
  have f := fit_int (i := i) (by omega)
  refine ⟨f.sh, f.hd, f.cl, f.dp, f.lv, ?_, f.eq⟩
  have : i = -1 ∨ i = 0 ∨ i = 1 ∨ i = 2 ∨ i = 3 ∨ i = 4 := by omega
  rcases this with rfl | rfl | rfl | rfl | rfl | rfl <;> decide
theorem un_len {x : Nd} (h : x ∈ univ) : x.1.length ≤ 3 := by
  have all : ∀ t ∈ bnames, t.length ≤ 3 := by decide +kernel
  rcases (univ_mem.mp h).1 with h | h
  · exact all _ h
  · rw [h]
    decide +kernel
theorem fit_nc8 {x : Nd} (h : x ∈ univ) : Fit (ncD x) 1 8 := by
  obtain ⟨-, h1, h2⟩ := univ_mem.mp h
  exact (FitB.cons (fit_str3 (nm_ok (univ_nm h)) (un_len h)) (FitB.cons (fit_int3 h1 h2) (FitB.nil 0))).tup
theorem fit_ncs8 {l : List Nd} (h : ∀ y ∈ l, y ∈ univ) (n : l.length ≤ 16) : Fit (ncsD l) 2 144 := by
  have := fitA (ds := l.map ncD) (k := 1) (w := 8) fun d hd => by
    obtain ⟨y, hy, rfl⟩ := List.mem_map.mp hd
    exact fit_nc8 (h y hy)
  refine this.tup.mono (Nat.le_refl _) ?_
  rw [List.length_map]
  exact Nat.mul_le_mul_right 9 n
theorem fit_row8 {r : Rw} (h : RowSh r) : Fit (rowD r) 3 312 := by
  have ks : ∀ k ∈ (["takes", "divides", "gone"] : List Str), PyData.strOk k = true ∧ k.length ≤ 12 := by decide +kernel
  exact (FitB.cons ((fit_nc8 h.n).mono (by decide) (Nat.le_refl _)) (FitB.cons ((fit_str (ks _ h.k).1 (ks _ h.k).2).mono (by decide) (Nat.le_refl _)) (FitB.cons (fit_ncs8 (fun y hy => (h.li.2 y hy).1) h.li.1) (FitB.cons (fit_ncs8 h.go.2 h.go.1) (FitB.nil 2))))).tup
theorem fit_rows8 {R : List Rw} (h : ∀ r ∈ R, RowSh r) (n : R.length ≤ 100) : Fit (rowsD R) 4 31300 := by
  have := fitA (ds := R.map rowD) (k := 3) (w := 312) fun d hd => by
    obtain ⟨y, hy, rfl⟩ := List.mem_map.mp hd
    exact fit_row8 (h y hy)
  refine this.tup.mono (Nat.le_refl _) ?_
  rw [List.length_map]
  exact Nat.mul_le_mul_right 313 n
def glD (r : Int × Str × List Rw) : PyData := .tuple [.str "gift", .int r.1, .str r.2.1, rowsD r.2.2]
def dlD (r : Int × List Rw) : PyData := .tuple [.str "descent", .int r.1, rowsD r.2]
theorem dp_gl {K : PySem.W.Frag} {H : Hp} {t : Addr} {n : Int} {r : Str × List Rw} (h : GlAt H t n r) : Dp K H (.ref t) (glD (n, r)) := by
  obtain ⟨rt, us, a, b, c⟩ := h.ex
  exact .tup (SqT.of a) (.cons (.str _) (.cons (.int _) (.cons (.str _) (.cons (dp_rows c b) .nil))))
theorem dp_dl {K : PySem.W.Frag} {H : Hp} {t : Addr} {r : Int × List Rw} (h : DlAt H t r) : Dp K H (.ref t) (dlD r) := by
  obtain ⟨rt, us, a, b, c⟩ := h.ex
  exact .tup (SqT.of a) (.cons (.str _) (.cons (.int _) (.cons (dp_rows c b) .nil)))
end ZF
namespace ZF
open PySem L2 PyProof.Rows PySem.Spec G
section
variable {H H' : Hp} {wd fa ru wl ea : Addr} {fs : List Fct} {F : Fm} {days : Int} {m : Str} {rows : Int} {st : Bool} {dead : Str}
theorem WdK.pnd (h : WdK H wd fa ru wl ea fs F days m rows st dead) (x : Str) : (F.pa x).Nodup := by
  rw [← h.pa]
  exact (srt_perm _).nodup_iff.mpr uniq_nd
theorem WdK.r9 (h : WdK H wd fa ru wl ea fs F days m rows st dead) : R9 F := ⟨fun x y c => by
  have := h.rk y x (((h.vw.ch x).2 y).mp c)
  exact ⟨this.1, by omega⟩⟩
theorem WdK.pts16 (h : WdK H wd fa ru wl ea fs F days m rows st dead) (x : Nd) : (pts hd F days m dead x).length ≤ 16 := by
  have hc : ∀ x y, y ∈ F.ch x → y ∈ bnames := fun x y c => h.bn c
  have hpa : ∀ x y, y ∈ F.pa x → y ∈ bnames := fun x y c => h.nm _ (((h.vw.pa x).2 y).mp c) y (by simp [Fct.vs])
  unfold pts
  split
  · rw [List.length_map]
    exact bn_le (h.pnd _) (hpa x.1)
  · split
    · rw [List.length_map]
      refine bn_le (hd_nd (h.cl x.1).2) fun y hy => ?_
      obtain ⟨-, u, hu⟩ := hd_in h.r9 hy
      exact hc u y hu
    · rw [List.length_map]
      exact bn_le (h.cl x.1).2 fun y hy => hc _ y hy
theorem WdK.wlk (h : WdK H wd fa ru wl ea fs F days m rows st dead) : Wlk F days m dead := by
  have hc : ∀ x y, y ∈ F.ch x → y ∈ bnames := fun x y c => h.bn c
  have hpa : ∀ x y, y ∈ F.pa x → y ∈ bnames := fun x y c => h.nm _ (((h.vw.pa x).2 y).mp c) y (by simp [Fct.vs])
  refine ⟨h.r9, ⟨fun x hx y hy => ?_, fun x _ => h.pts16 x, univ_len⟩, fun x => Nat.le_trans (h.pts16 x) (by decide)⟩
  obtain ⟨-, b, c⟩ := univ_mem.mp hx
  unfold pts at hy
  split at hy
  · obtain ⟨z, hz, rfl⟩ := List.mem_map.mp hy
    exact univ_mem.mpr ⟨.inl (hpa _ z hz), by show -1 ≤ x.2 - 1; omega, by show x.2 - 1 ≤ 4; omega⟩
  · split at hy
    · obtain ⟨z, hz, rfl⟩ := List.mem_map.mp hy
      obtain ⟨-, u, hu⟩ := hd_in h.r9 hz
      exact univ_mem.mpr ⟨.inl (hc u z hu), (show (-1 : Int) ≤ -1 by decide), (show (-1 : Int) ≤ 4 by decide)⟩
    · obtain ⟨z, hz, rfl⟩ := List.mem_map.mp hy
      exact univ_mem.mpr ⟨.inl (hc _ z hz), (show (-1 : Int) ≤ -1 by decide), (show (-1 : Int) ≤ 4 by decide)⟩
end
/-! the rows of a gift and of the descent are in shape -/
structure Gsh (r : Int × Str × List Rw) : Prop where
  n : 0 ≤ r.1 ∧ r.1 < 6
  k : r.2.1 ∈ (["person", "stock", "lapse"] : List Str)
  s : ∀ q ∈ r.2.2, RowSh q
  l : r.2.2.length ≤ 100
theorem gl_sh {F : Fm} {days : Int} {m dead : Str} {st : Bool} {f : Gf} (wl : Wlk F days m dead) (ok : GfOk f) : Gsh (glL F days m dead st f) := by
  have zf := zf_wk (m := m) (days := days) (dead := dead) wl.r9 wl.ui ok.un wl.pl
  have h1 : (glR F days m dead st (f.t0 :: f.ts)).1 ∈ (["person", "stock", "lapse"] : List Str) ∧ ((glR F days m dead st (f.t0 :: f.ts)).2 = [] ∨ (glR F days m dead st (f.t0 :: f.ts)).2 = wk (pts hd F days m dead) (tkN F days dead) 36 (f.t0, 0) []) := by
    unfold glR
    split
    · exact ⟨by simp, .inl rfl⟩
    · split
      · refine ⟨?_, .inr rfl⟩
        show (if _ then ("lapse" : Str) else "stock") ∈ _
        split <;> simp
      · exact ⟨by simp, .inl rfl⟩
  refine ⟨ok.n0, h1.1, ?_, ?_⟩
  · rcases h1.2 with e | e
    · show ∀ q ∈ (glR F days m dead st (f.t0 :: f.ts)).2, RowSh q
      rw [e]
      intro q h
      cases h
    · show ∀ q ∈ (glR F days m dead st (f.t0 :: f.ts)).2, RowSh q
      rw [e]
      exact zf.sh
  · rcases h1.2 with e | e
    · show (glR F days m dead st (f.t0 :: f.ts)).2.length ≤ 100
      rw [e]
      exact Nat.zero_le _
    · show (glR F days m dead st (f.t0 :: f.ts)).2.length ≤ 100
      rw [e]
      exact zf.len
theorem dl_sh {F : Fm} {days : Int} {m dead : Str} (wl : Wlk F days m dead) (db : dead ∈ bnames) : ∀ (k h : Nat) (acc : List Rw), h + k ≤ 4 → AOk acc → (-1 ≤ (dlR (Zh F days m dead) k h acc).1 ∧ (dlR (Zh F days m dead) k h acc).1 ≤ 4) ∧ AOk (dlR (Zh F days m dead) k h acc).2
  | 0, h, acc, _, a => ⟨⟨(show (-1 : Int) ≤ -1 by decide), (show (-1 : Int) ≤ 4 by decide)⟩, a⟩
  | k + 1, h, acc, l, a => by
    have xU : ((dead, (h : Int)) : Nd) ∈ univ := univ_mem.mpr ⟨.inl db, by show (-1 : Int) ≤ h; omega, by show (h : Int) ≤ 4; omega⟩
    have zf := zf_wk (m := m) (days := days) (dead := dead) wl.r9 wl.ui xU wl.pl
    have a2 : AOk ((Zh F days m dead h).foldl addR acc) := a.fold zf.sh
    unfold dlR
    split
    · exact ⟨⟨by show (-1 : Int) ≤ h; omega, by show (h : Int) ≤ 4; omega⟩, a2⟩
    · exact dl_sh wl db k (h + 1) _ (by omega) a2
theorem fit_gl {r : Int × Str × List Rw} (h : Gsh r) : Fit (glD r) 5 40000 := by
  have ks : ∀ k ∈ (["person", "stock", "lapse"] : List Str), PyData.strOk k = true ∧ k.length ≤ 12 := by decide +kernel
  have g : PyData.strOk "gift" = true ∧ ("gift" : Str).length ≤ 12 := by decide +kernel
  have n0 := h.n
  exact (FitB.cons ((fit_str g.1 g.2).mono (by decide) (Nat.le_refl _)) (FitB.cons ((fit_int (i := r.1) (by omega)).mono (by decide) (Nat.le_refl _)) (FitB.cons ((fit_str (ks _ h.k).1 (ks _ h.k).2).mono (by decide) (Nat.le_refl _)) (FitB.cons ((fit_rows8 h.s h.l).mono (by decide) (Nat.le_refl _)) (FitB.nil 4))))).tup.mono (by decide) (by decide)
theorem fit_dl {r : Int × List Rw} (h : -1 ≤ r.1 ∧ r.1 ≤ 4) (a : AOk r.2) : Fit (dlD r) 5 40000 := by
  have g : PyData.strOk "descent" = true ∧ ("descent" : Str).length ≤ 12 := by decide +kernel
  exact (FitB.cons ((fit_str g.1 g.2).mono (by decide) (Nat.le_refl _)) (FitB.cons ((fit_int (i := r.1) (by omega)).mono (by decide) (Nat.le_refl _)) (FitB.cons ((fit_rows8 a.un a.len).mono (by decide) (Nat.le_refl _)) (FitB.nil 4)))).tup.mono (by decide) (by decide)
/-- a paper as data -/
def ppD (rs : List (Int × Str × List Rw)) (d : Int × List Rw) : PyData := .tuple (rs.map glD ++ [dlD d])
theorem fit_pp {rs : List (Int × Str × List Rw)} {d : Int × List Rw} (hr : ∀ r ∈ rs, Gsh r) (n : rs.length ≤ 6) (h : -1 ≤ d.1 ∧ d.1 ≤ 4) (a : AOk d.2) : Fit (ppD rs d) 6 300000 := by
  have := fitA (ds := rs.map glD ++ [dlD d]) (k := 5) (w := 40000) fun y hy => by
    rcases List.mem_append.mp hy with m | m
    · obtain ⟨r, hr', rfl⟩ := List.mem_map.mp m
      exact fit_gl (hr r hr')
    · rw [List.mem_singleton.mp m]
      exact fit_dl h a
  refine this.tup.mono (Nat.le_refl _) ?_
  rw [List.length_append, List.length_map, List.length_singleton]
  have : (rs.length + 1) * (40000 + 1) ≤ 7 * (40000 + 1) := Nat.mul_le_mul_right _ (by omega)
  omega
theorem dp_lns {K : PySem.W.Frag} {H : Hp} {d : Addr} {dl : Int × List Rw} (hd : DlAt H d dl) : ∀ {ts : List Addr} {rs : List (Int × Str × List Rw)}, Lns H ts rs → DpAll K H ((ts ++ [d]).map V.ref) (rs.map glD ++ [dlD dl])
  | [], [], _ => .cons (dp_dl hd) .nil
  | [], r :: R, h => by have := h.ln; simp at this
  | t :: ts, [], h => by have := h.ln; simp at this
  | t :: ts, r :: R, h => .cons (dp_gl (n := r.1) (r := r.2) (h.at' 0 t r rfl rfl)) (dp_lns hd ⟨Nat.succ.inj h.ln, fun i t' r' h1 h2 => h.at' (i + 1) t' r' h1 h2⟩)
structure PpS (K : PySem.W.Frag) (H : Hp) (t : Addr) (rs : List (Int × Str × List Rw)) (dl : Int × List Rw) : Prop where
  ex : ∃ (ts : List Addr) (d : Addr), SqT K H t ((ts ++ [d]).map V.ref) ∧ Lns H ts rs ∧ DlAt H d dl
theorem PpAt.s {K : PySem.W.Frag} {H : Hp} {t : Addr} {rs : List (Int × Str × List Rw)} {dl : Int × List Rw} (h : PpAt K H t rs dl) : PpS K H t rs dl := by
  obtain ⟨ts, d, a, b, c⟩ := h.ex
  exact ⟨ts, d, SqT.of a, b, c⟩
theorem PpS.same {K : PySem.W.Frag} {H H' : Hp} {t : Addr} {rs : List (Int × Str × List Rw)} {dl : Int × List Rw} (h : PpS K H t rs dl) (s : Same H H') : PpS K H' t rs dl := by
  obtain ⟨ts, d, a, b, c⟩ := h.ex
  exact ⟨ts, d, sqT_same' a s, b.same s, c.same s⟩
theorem dp_pp {K : PySem.W.Frag} {H : Hp} {t : Addr} {rs : List (Int × Str × List Rw)} {dl : Int × List Rw} (h : PpS K H t rs dl) : Dp K H (.ref t) (ppD rs dl) := by
  obtain ⟨ts, d, a, b, c⟩ := h.ex
  exact .tup a (dp_lns c b)
end ZF
namespace ZF
open PySem L2 PyProof.Rows PySem.Spec G
def rCatU (K : PySem.W.Frag) : R2 := fun x y H Q => ∃ (a b : Addr) (xs ys : List V), x = .ref a ∧ y = .ref b ∧ SqT K H a xs ∧ SqT K H b ys ∧ xs.length + ys.length ≤ sizeLine ∧ ∀ p H', Same H H' → SqT K H' p (xs ++ ys) → Q (.ref p) H'
theorem op_catU {X : Cx} : OpR X (binaryOp .Add) (rCatU X.K) := by
  intro pins s σ H x y v u Q I rx ry h
  obtain ⟨a, b, xs, ys, ex, ey, ha, hb, hz, go⟩ := h
  refine op_catA pins s σ H x y v u Q I rx ry ⟨a, b, xs, ys, ex, ey, ha, hb, hz, fun e => ?_, fun _ e => ?_, fun _ _ p np => go p _ (same_upd np) (SqT.of upd_same)⟩
  · refine go b H (Same.refl H) ?_
    rw [e]
    exact hb
  · refine go a H (Same.refl H) ?_
    rw [e, List.append_nil]
    exact ha
theorem first_ft (F : Fm) (days : Int) (dead : Str) (ts : List Str) : ((ts.filter (sv F days dead)).map V.str ++ [V.non])[0]? = some (ftV F days dead ts) := by
  unfold ftV
  rw [← List.head?_filter]
  cases ts.filter (sv F days dead) with
  | nil => rfl
  | cons a r => rfl
theorem ft_scal (F : Fm) (days : Int) (dead : Str) (ts : List Str) : scal (ftV F days dead ts) (ftV F days dead ts) = true := by
  unfold ftV
  cases ts.find? (sv F days dead) with
  | none => rfl
  | some a => rfl
end ZF
set_option maxHeartbeats 0
namespace ZF
open PySem L2 PyProof.Rows PySem.Spec G
abbrev sLaw : Stmt := topS 89
structure LwT (mg : Str → Option Value) : Prop where
  repr : mg "repr" = none
  tuple : mg "tuple" = none
section
variable {P : Program} {w : World} {K : PySem.W.Frag} {mg : Str → Option Value} {base : Heap} {C CB CC : Addr}
abbrev nLaw : List Str := ["script", "world", "case", "gifts", "gift", "name", "takers", "facts", "near", "due", "one"]
theorem scLaw : FnScope nLaw ["script"] (defScope sLaw) := ⟨rfl, rfl, rfl, by decide +kernel, rfl, by decide +kernel, by decide +kernel⟩
def spLaw (K : PySem.W.Frag) : Sp := fun vs H Q _ => ∃ (a : Addr) (ns : List Int), vs = [.ref a] ∧ SqL K H a (ns.map V.int) ∧ ns.length ≤ 63 ∧ (∀ z ∈ ns, Builtin.Int.intBits z ≤ 1048576) ∧ ∀ H', Q (.bl true) H'
theorem law_terms {f : Addr} {fd : FuncData} (F : Fun K "law" "law" sLaw f fd) (T : LwT mg) (D : FT K C) (DC : CT K CC)
  (HLwo : Has P w K mg base CX0 "_law_world" ["script"] 4 (spLwo K)) (HLca : Has P w K mg base CX0 "_law_case" ["world", "facts"] 7 (spLca K C CB CC)) (HLsp : Has P w K mg base CX0 "_law_spouses" ["world"] 3 spLsp) (HLsu : Has P w K mg base CX0 "_law_survives" ["world", "name"] 2 spLsu) (HLib : Has P w K mg base CX0 "_law_is_below" ["facts", "one", "name"] 3 spLib) (HLpa : Has P w K mg base CX0 "_law_parents" ["facts", "name"] 2 spLpa) (HLl : Has P w K mg base CX0 "_law_line" ["world", "case", "gift"] 7 (spLl K C CB CC)) (HLdl : Has P w K mg base CX0 "_law_descent_line" ["world", "case"] 7 (spLdl C CB CC)) (HMp : Has P w K mg base CX0 "make_paper" ["case"] 8 (spMp K C CB CC)) (HCsp : HasM P w K mg base CX0 CC "spouses" ["self"] 4 (spCsp C CB CC)) (HFst : HasM P w K mg base CX0 CC "first_taker" ["self", "names"] 4 (spFst K C CB CC)) (HNea : HasM P w K mg base CX0 CC "is_near" ["self", "name"] 3 (spNea C CB CC)) (HCsv : HasM P w K mg base CX0 CC "survives" ["self", "name"] 3 (spCsv C CB CC)) (HLst : ZK.Has P w K mg base CX0 "_law_standing" ["will"] 1 (ZK.spLst K)) : FnG P w K mg base CX0 9 f fd ["script"] (spLaw K) := by
  obtain ⟨fLwo, fdLwo, mLwo, kLwo, bLwo, GLwo⟩ := HLwo.ok
  obtain ⟨fLca, fdLca, mLca, kLca, bLca, GLca⟩ := HLca.ok
  obtain ⟨fLsp, fdLsp, mLsp, kLsp, bLsp, GLsp⟩ := HLsp.ok
  obtain ⟨fLsu, fdLsu, mLsu, kLsu, bLsu, GLsu⟩ := HLsu.ok
  obtain ⟨fLib, fdLib, mLib, kLib, bLib, GLib⟩ := HLib.ok
  obtain ⟨fLpa, fdLpa, mLpa, kLpa, bLpa, GLpa⟩ := HLpa.ok
  obtain ⟨fLl, fdLl, mLl, kLl, bLl, GLl⟩ := HLl.ok
  obtain ⟨fLdl, fdLdl, mLdl, kLdl, bLdl, GLdl⟩ := HLdl.ok
  obtain ⟨fMp, fdMp, mMp, kMp, bMp, GMp⟩ := HMp.ok
  obtain ⟨fLst, fdLst, mLst, kLst, bLst, GLst⟩ := HLst.ok
  obtain ⟨fCsp, fdCsp, meCsp, bCsp, GCsp⟩ := HCsp.ok
  obtain ⟨fFst, fdFst, meFst, bFst, GFst⟩ := HFst.ok
  obtain ⟨fNea, fdNea, meNea, bNea, GNea⟩ := HNea.ok
  obtain ⟨fCsv, fdCsv, meCsv, bCsv, GCsv⟩ := HCsv.ok
  refine okG F scLaw (fun vs H Q E h => ?_) (fun cdv A outer s H vs Q E hr hg h => ?_)
  · obtain ⟨a, ns, rfl, _⟩ := h
    rfl
  · obtain ⟨a, ns, rfl, hS0, hn, hbits, go⟩ := h
    have hu64 : (A.deeper (envOfC "law" (defScope sLaw) s.heap.objs.size f cdv)).units + 64 < cLine := by have := hr.un; omega
    have hu := hu_of hr
    have hu65 : (A.deeper (envOfC "law" (defScope sLaw) s.heap.objs.size f cdv)).units + 65 < cLine := by have := hr.un; omega
    refine ⟨_, (pss_cons (ps_set (i := 1) scLaw.nd rfl (.inr rfl) (pe_call GLwo (hr.mono (by decide)) (by rfl) mLwo kLwo bLwo .nil pass0 (pa_cons (pv 0) pa_nil)))
      (pss_cons (ps_set (i := 2) scLaw.nd rfl (.inr rfl) (pe_call GLca (hr.mono (by decide)) (by rfl) mLca kLca bLca .nil pass0 (pa_cons (pv 1) (pa_cons (pe_dget hu (pv 1) pe_str (fun _ _ => rfl)) pa_nil))))
      (pss_cons (ps_set (i := 3) scLaw.nd rfl (.inl rfl) (pe_call GLst (hr.mono (by decide)) (by rfl) mLst kLst bLst .nil pass0 (pa_cons (pe_dget hu (pv 1) pe_str (fun _ _ => rfl)) pa_nil)))
      (pss_cons (ps_if (PW.pt (pw_or (pt_cmpR op_ne (pe_fld (pv 2) rfl) (pe_dget hu (pv 1) pe_str (fun _ _ => rfl)) (nomark _)) (pw_or (pt_cmpR op_ne (pe_callB (cr_repr hg hu65) (by rfl) T.repr (by decide +kernel) (pa_cons (pe_fld (pv 2) rfl) pa_nil)) (pe_callB (cr_repr hg hu65) (by rfl) T.repr (by decide +kernel) (pa_cons (pv 3) pa_nil)) (nomark _)) (pw_or1 (pt_cmpR (op_neD hu64) (pe_meth0 (pv 2) DC.cl meCsp GCsp (hr.mono (by decide)) bCsp .nil pass0) (pe_call GLsp (hr.mono (by decide)) (by rfl) mLsp kLsp bLsp .nil pass0 (pa_cons (pv 1) pa_nil)) (nomark _)))))) (pss_one (ps_ret pe_bl)) pss_nil)
      (pss_cons (ps_for PassesOwn.never rfl (pi_list (pv 3)) (pg_name (i := 4) scLaw.nd rfl (.inl rfl)) (pss_cons (ps_setLc (i := 6) (own := [("name", 5)]) (g := gName 5) rfl scLaw.nd rfl rfl (sw_true rfl rfl rfl (by decide +kernel)) (pi_tup (pe_ix ix_tup (pv 4) pe_int (fun _ _ => rfl))) (blkOk_by (N := nLaw) (sc := defScope sLaw) (by decide +kernel)) (fun _ _ _ _ _ => (pg_name (i := 5) scLaw.nd rfl (.inl rfl) (.inr rfl))) (fun _ _ _ _ _ => pts_one (pt_val (pe_call GLsu (hr.mono (by decide)) (by rfl) mLsu kLsu bLsu .nil pass0 (pa_cons (pv 1) (pa_cons (pv 5) pa_nil))))) (fun _ _ _ _ _ => (pv 5)))
      (pss_cons (ps_if (pt_cmpR op_ne (pe_meth (pv 2) DC.cl meFst GFst (hr.mono (by decide)) bFst .nil pass0 (pa_cons (pe_ix ix_tup (pv 4) pe_int (fun _ _ => rfl)) pa_nil)) (pe_ix ix_list (pe_op op_cat (pv 6) (pe_lst (pa_cons pe_non pa_nil))) pe_int (fun _ _ => rfl)) (nomark _)) (pss_one (ps_ret pe_bl)) pss_nil)
      (pss_one (ps_for PassesOwn.never rfl (pi_tup (pe_ix ix_tup (pv 4) pe_int (fun _ _ => rfl))) (pg_name (i := 5) scLaw.nd rfl (.inr rfl)) (pss_cons (ps_set (i := 7) scLaw.nd rfl (.inr rfl) (pe_dget hu (pv 1) pe_str (fun _ _ => rfl)))
      (pss_cons (ps_setLc (i := 8) (own := [("one", 10)]) (g := gName 10) (tt := tYes) rfl scLaw.nd rfl rfl (sw_true rfl rfl rfl (by decide +kernel)) (pi_list (pe_op op_cat (pe_lst (pa_cons (pe_dget hu (pv 1) pe_str (fun _ _ => rfl)) pa_nil)) (pe_call GLpa (hr.mono (by decide)) (by rfl) mLpa kLpa bLpa .nil pass0 (pa_cons (pv 7) (pa_cons (pe_dget hu (pv 1) pe_str (fun _ _ => rfl)) pa_nil))))) (blkOk_by (N := nLaw) (sc := defScope sLaw) (by decide +kernel)) (fun _ _ _ _ _ => (pg_name (i := 10) scLaw.nd rfl (.inl rfl) (.inr rfl))) (fun _ _ _ _ _ => pts_nil) (fun _ _ _ _ _ => (pe_call GLib (hr.mono (by decide)) (by rfl) mLib kLib bLib .nil pass0 (pa_cons (pv 7) (pa_cons (pv 10) (pa_cons (pv 5) pa_nil))))))
      (pss_one (ps_if (PW.pt (pw_or (pt_cmpR op_ne (pe_meth (pv 2) DC.cl meNea GNea (hr.mono (by decide)) bNea .nil pass0 (pa_cons (pv 5) pa_nil)) (pe_cmpR op_in_seq pe_bl (pv 8) (by rfl)) (nomark _)) (pw_or1 (pt_cmpR op_ne (pe_meth (pv 2) DC.cl meCsv GCsv (hr.mono (by decide)) bCsv .nil pass0 (pa_cons (pv 5) pa_nil)) (pe_call GLsu (hr.mono (by decide)) (by rfl) mLsu kLsu bLsu .nil pass0 (pa_cons (pv 1) (pa_cons (pv 5) pa_nil))) (nomark _))))) (pss_one (ps_ret pe_bl)) pss_nil)))))))))
      (pss_cons (ps_set (i := 9) scLaw.nd rfl (.inl rfl) (pe_op op_catU (pe_callTy call_tuple_of (by rfl) T.tuple (by decide +kernel) (pa_cons (pe_lc (own := [("gift", 4)]) (g := gName 4) (tt := tYes) rfl scLaw.nd (pi_list (pv 3)) (blkOk_by (N := nLaw) (sc := defScope sLaw) (by decide +kernel)) (fun _ _ _ _ _ => (pg_name (i := 4) scLaw.nd rfl (.inl rfl) (.inr rfl))) (fun _ _ _ _ _ => pts_nil) (fun _ _ _ _ _ => (pe_call GLl (hr.mono (by decide)) (by rfl) mLl kLl bLl .nil pass0 (pa_cons (pv 1) (pa_cons (pv 2) (pa_cons (pv 4) pa_nil)))))) pa_nil)) (pe_tup (pa_cons (pe_call GLdl (hr.mono (by decide)) (by rfl) mLdl kLdl bLdl .nil pass0 (pa_cons (pv 1) (pa_cons (pv 2) pa_nil))) pa_nil))))
      (pss_one (ps_ret (pe_cmpR op_eq (pe_callB (cr_repr hg hu65) (by rfl) T.repr (by decide +kernel) (pa_cons (pe_call GMp (hr.mono (by decide)) (by rfl) mMp kMp bMp .nil pass0 (pa_cons (pv 2) pa_nil)) pa_nil)) (pe_callB (cr_repr hg hu65) (by rfl) T.repr (by decide +kernel) (pa_cons (pv 9) pa_nil)) (nomark _)))))))))), ?_⟩
    refine ⟨_, rfl, a, ns, rfl, hS0, fun wd fa ru wl ea H1 fs Fm days m qs rows st k ps coins ws ds s1 hW hk S to hR hWl pl hE => ?_⟩
    refine ⟨_, rfl, _, rfl, wd, _, rfl, hW.g2, wd, fa, ru, wl, ea, fs, Fm, days, m, qs, rows, st, k, ps, coins, ws, ds, rfl, hW, S, to, hR, hWl, pl, hE, fun cs fam bk es gl H2 s2 hC egl => ?_⟩
    have hW2 := hW.same s2
    have hWl2 := hWl.same s2
    refine ⟨_, rfl, wd, _, rfl, hW2.g4, wl, ps, rfl, hWl2, by omega, fun gg H3 s3 ngg egg => ?_⟩
    have hW3 := hW2.same s3
    have hC3 := hC.same s3
    have hWl3 := hWl2.same s3
    have egl3 := s3 _ _ egl
    have s13 := s2.trans s3
    have rN : 0 ≤ rows ∧ rows ≤ 3 := ⟨hR.d.r0, hR.d.r1⟩
    clear hW hWl hC hE hR hW2 hWl2 egl ngg
    obtain ⟨dx, hc⟩ := hC3.ob
    have kbn : pn k ∈ bnames := pn_base hk
    have knm := bn_nm _ kbn
    have shn := ZK.stn_shows (gs := ZK.stn ps) (Nat.le_trans (ZK.stn_len ps) pl) fun g hg => ⟨(ZK.stn_mem hg).2, (hWl3.at' g (ZK.stn_mem hg).1).2⟩
    refine ⟨_, rfl, cs, CC, dx, _, _, rfl, hc, DC.cl, DC.n1, lc1 _ _ _ _ _, _, rfl, wd, _, rfl, hW3.g1, rfl, _, rfl, ?_⟩
    rw [decide_eq_true rfl]
    refine iteF ⟨_, rfl, cs, CC, dx, _, _, rfl, hc, DC.cl, DC.n5, lc5 _ _ _ _ _, gl, _, rfl, ZK.dp_stn egl3 (fun g hg => ⟨(hWl3.at' g (ZK.stn_mem hg).1).1, (ZK.stn_mem hg).2, (hWl3.at' g (ZK.stn_mem hg).1).2⟩), shn.1, shn.2.1, shn.2.2.1, shn.2.2.2, ?_⟩
    refine ⟨_, rfl, gg, _, rfl, ZK.dp_stn egg (fun g hg => ⟨(hWl3.at' g (ZK.stn_mem hg).1).1, (ZK.stn_mem hg).2, (hWl3.at' g (ZK.stn_mem hg).1).2⟩), shn.1, shn.2.1, shn.2.2.1, shn.2.2.2, rfl, _, rfl, ?_⟩
    rw [decide_eq_true rfl]
    refine iteF ?_
    clear shn
    have wel : (Fm.we (pn k)).length ≤ 900 := by
      have nd := (hW3.vw.we (pn k)).1.2
      have := bn_le nd fun y hy => by
        rcases ((hW3.vw.we (pn k)).2 y).mp hy with h | h
        · exact hW3.nm _ h y (by simp [Fct.vs])
        · exact hW3.nm _ h y (by simp [Fct.vs])
      omega
    have spb : ∀ y ∈ (sp Fm (pn k)).filter (sv Fm days (pn k)), isNm y = true := fun y hy => by
      have hy' := (List.mem_filter.mp (List.mem_filter.mp hy).1).1
      rcases ((hW3.vw.we (pn k)).2 y).mp hy' with h | h
      · exact bn_nm _ (hW3.nm _ h y (by simp [Fct.vs]))
      · exact bn_nm _ (hW3.nm _ h y (by simp [Fct.vs]))
    have fsp := fitA (ds := ((sp Fm (pn k)).filter (sv Fm days (pn k))).map PyData.str) (k := 0) (w := 12) fun d hd => by
      obtain ⟨y, hy, rfl⟩ := List.mem_map.mp hd
      exact fit_str (nm_ok (spb y hy)) (nm_len (spb y hy))
    have ssp : SeqAt.shaped (strD ((sp Fm (pn k)).filter (sv Fm days (pn k)))) = true := by
      unfold SeqAt.shaped strD
      rw [fsp.lst.cl, decide_eq_true (Nat.le_trans fsp.lst.dp (by decide))]
      rfl
    refine ⟨_, rfl, cs, dx, _, rfl, hc, nc2 _ _ _ _ _, cs, fam, bk, es, gl, Fm, days, m, pn k, rows, st, rfl, hC3, wel, fun l1 H4 s4 nl1 el1 => ?_⟩
    refine ⟨_, rfl, wd, fa, ru, wl, ea, fs, Fm, days, m, rows, st, pn k, rfl, hW3.same s4, knm, fun l2 H5 s5 nl2 el2 => ?_⟩
    refine ⟨_, _, dp_strD (s5 _ _ el1), dp_strD el2, ssp, ssp, _, rfl, ?_⟩
    rw [show PyData.eqv (strD ((sp Fm (pn k)).filter (sv Fm days (pn k)))) (strD ((sp Fm (pn k)).filter (sv Fm days (pn k)))) = true from fsp.lst.eq]
    refine iteF ?_
    have s35 := s4.trans s5
    have hW5 := hW3.same s35
    have hC5 := hC3.same s35
    have hWl5 := hWl3.same s35
    have egl5 := s35 _ _ egl3
    have egg5 := s35 _ _ egg
    have hm : ∃ rn : Nat, rows = (rn : Int) ∧ rn ≤ 3 := ⟨rows.toNat, by have := rN.1; omega, by have := rN.2; omega⟩
    clear hW3 hC3 hWl3 egl3 egg fsp ssp spb wel el1 el2 s4 s5 hc
    obtain ⟨rn, er, r3⟩ := hm
    subst er
    have wlk := hW5.wlk
    obtain ⟨hG5, okG⟩ := stn_gfs hWl5
    have g6 : ((ZK.stn ps).map fun p => gfOf p.2).length ≤ 6 := by
      rw [List.length_map]
      exact Nat.le_trans (ZK.stn_len ps) pl
    have emap : ((ZK.stn ps).map fun p => V.ref p.1) = ((ZK.stn ps).map (·.1)).map V.ref := by rw [List.map_map]; rfl
    rw [emap] at egl5 egg5
    generalize ((ZK.stn ps).map fun p => gfOf p.2) = gfs at hG5 okG g6
    generalize (ZK.stn ps).map (·.1) = gad at hG5 egl5 egg5
    clear emap hWl5 s35
    refine ⟨_, rfl, gg, rfl, ⟨_, SqL.of egg5⟩, ?_⟩
    refine for_list (K := K) (a := gg) (xs := gad.map V.ref) (fun i σ Hy => ∃ y4 y5 y6 y7 y8 : Option V, σ = [some (.ref a), some (.ref wd), some (.ref cs), some (.ref gg), y4, y5, y6, y7, y8, none, none] ∧ Same H5 Hy)
      ⟨none, none, none, none, none, rfl, Same.refl _⟩ (fun i σ Hy _ ⟨_, _, _, _, _, _, z⟩ => SqL.of (z _ _ egg5)) ?_ ?_
    · rintro i v σ Hy hi ⟨y4, y5, y6, y7, y8, rfl, sm⟩
      rw [List.getElem?_map] at hi
      obtain ⟨g, hg, rfl⟩ := Option.map_eq_some_iff.mp hi
      have il : i < gfs.length := by
        rw [← hG5.ln]
        exact (List.getElem?_eq_some_iff.mp hg).1
      have hf : gfs[i]? = some gfs[i] := List.getElem?_eq_getElem il
      have gok := okG _ (List.getElem_mem il)
      have hGa := (hG5.at' i g _ hg hf).same sm
      generalize gfs[i] = gf at hf gok hGa
      obtain ⟨ta, g1, g2⟩ := hGa.ex
      have hW := hW5.same sm
      have hC := hC5.same sm
      have hnm := gok.nm
      have tln : (gf.t0 :: gf.ts).length ≤ 61 := by
        have := gok.ln
        rw [List.length_cons]
        omega
      generalize gf.t0 :: gf.ts = ts at g2 hnm tln
      clear hg hf il gok hGa
      refine ⟨_, rfl, g, _, 3, _, rfl, rfl, g1, atI_nat (j := 3) rfl, ta, rfl, ⟨_, g2⟩, fun D1 nD1 => ?_⟩
      refine lc_it (walk_tup (xs := ts.map V.str)) (fun i Hz => Same Hy Hz ∧ Hz D1 = some (.lst (((ts.take i).filter (sv Fm days (pn k))).map V.str))) ⟨same_upd nD1, upd_same⟩ (fun i Hz _ h => sqT_same' g2 h.1) ?_ ?_
      · rintro j v Hz H' hj ⟨k1, k2⟩ ⟨rfl, ev⟩
        rw [List.getElem?_map] at ev
        obtain ⟨x, hx, rfl⟩ := Option.map_eq_some_iff.mp ev
        have stp : (ts.take (j + 1)).filter (sv Fm days (pn k)) = (ts.take j).filter (sv Fm days (pn k)) ++ if sv Fm days (pn k) x = true then [x] else [] := by
          rw [List.take_add_one, hx, List.filter_append]
          congr 1
          show List.filter _ [x] = _
          rw [List.filter_cons]
          rfl
        refine ⟨rfl, _, rfl, _, rfl, wd, fa, ru, wl, ea, fs, Fm, days, m, _, st, pn k, x, rfl, hW.same k1, hnm x (List.mem_of_getElem? hx), fun H6 s6 => ?_⟩
        cases c : sv Fm days (pn k) x with
        | true =>
          rw [c, if_pos rfl] at stp
          refine ⟨_, rfl, iteT ⟨_, rfl, _, s6 _ _ k2, ?_, ?_, ?_⟩⟩
          · rw [List.length_map]
            have := List.length_filter_le (sv Fm days (pn k)) (ts.take j)
            rw [List.length_take] at this
            exact small1000 (by omega)
          · intro b o hb
            rw [upd_ne (ne_of_none hb nD1)]
            exact s6 _ _ (k1 b o hb)
          · rw [upd_same, stp, List.map_append]
            rfl
        | false =>
          rw [c, if_neg Bool.false_ne_true, List.append_nil] at stp
          exact ⟨_, rfl, iteF ⟨k1.trans s6, by rw [stp]; exact s6 _ _ k2⟩⟩
      rintro H6 ⟨k1, k2⟩
      rw [List.length_map, List.take_length] at k2
      have hW6 := hW.same k1
      have hC6 := hC.same k1
      have g16 := sqT_same' g1 k1
      have g26 := sqT_same' g2 k1
      have sm6 := sm.trans k1
      clear hW hC g1 g2 k1 sm nD1
      obtain ⟨dx6, hc6⟩ := hC6.ob
      refine ⟨_, rfl, cs, dx6, _, rfl, hc6, nc4 _ _ _ _ _, _, rfl, g, _, 3, _, rfl, rfl, g16, atI_nat (j := 3) rfl, cs, fam, bk, es, gl, ta, Fm, days, m, pn k, _, st, ts, rfl, hC6, g26, ?_⟩
      refine ⟨_, rfl, (by show 1 ≤ sizeLine; decide), fun L nL => ?_⟩
      have q1 := same_upd nL (o := .lst [.non])
      have hL : upd H6 L (.lst [.non]) L = some (.lst [.non]) := upd_same
      generalize upd H6 L (.lst [.non]) = H7 at q1 hL ⊢
      have fil := List.length_filter_le (sv Fm days (pn k)) ts
      refine ⟨D1, L, _, _, rfl, rfl, q1 _ _ k2, hL, by rw [List.length_map]; exact Nat.le_of_lt (small1000 (by show (ts.filter (sv Fm days (pn k))).length + 1 ≤ 1000; omega)), fun A1 nA1 => ?_⟩
      have q2 := q1.trans (same_upd nA1 (o := .lst ((ts.filter (sv Fm days (pn k))).map V.str ++ [.non])))
      have hA : upd H7 A1 (.lst ((ts.filter (sv Fm days (pn k))).map V.str ++ [.non])) A1 = some (.lst ((ts.filter (sv Fm days (pn k))).map V.str ++ [.non])) := upd_same
      generalize upd H7 A1 (.lst ((ts.filter (sv Fm days (pn k))).map V.str ++ [.non])) = H8 at q2 hA ⊢
      refine ⟨A1, _, 0, ftV Fm days (pn k) ts, rfl, rfl, SqL.of hA, atI_nat (j := 0) (first_ft Fm days (pn k) ts), ft_scal Fm days (pn k) ts, _, rfl, ?_⟩
      rw [decide_eq_true rfl]
      refine iteF ?_
      have hW8 := hW6.same q2
      have hC8 := hC6.same q2
      have g18 := sqT_same' g16 q2
      have g28 := sqT_same' g26 q2
      have sm8 := sm6.trans q2
      clear hW6 hC6 g16 g26 q1 q2 sm6 hA hL nA1 nL k2 hc6 fil
      refine ⟨_, rfl, g, _, 3, _, rfl, rfl, g18, atI_nat (j := 3) rfl, ta, rfl, ⟨_, g28⟩, ?_⟩
      refine for_tup (K := K) (a := ta) (xs := ts.map V.str) (fun j σ Hx => ∃ y5 y7 y8 : Option V, σ = [some (.ref a), some (.ref wd), some (.ref cs), some (.ref gg), some (.ref g), y5, some (.ref D1), y7, y8, none, none] ∧ Same H8 Hx)
        ⟨_, _, _, rfl, Same.refl _⟩ (fun j σ Hx _ ⟨_, _, _, _, z⟩ => sqT_same' g28 z) ?_ ?_
      · rintro j v σ Hx hj ⟨y5', y7', y8', rfl, sx⟩
        rw [List.getElem?_map] at hj
        obtain ⟨x, hx, rfl⟩ := Option.map_eq_some_iff.mp hj
        have hx' := hnm x (List.mem_of_getElem? hx)
        have hW2 := hW8.same sx
        have hC2 := hC8.same sx
        refine ⟨_, rfl, wd, _, rfl, hW2.g2, ?_⟩
        refine ⟨_, rfl, wd, _, rfl, hW2.g1, (by show 1 ≤ sizeLine; decide), fun L nL => ?_⟩
        have q1 := same_upd nL (o := .lst [.str (pn k)])
        have hW3 := hW2.same q1
        refine ⟨_, rfl, _, rfl, wd, _, rfl, hW3.g1, fa, pn k, fs, rfl, hW3.fa, hW3.ln, fun l1 H4 s4 nl4 el4 => ?_⟩
        rw [hW5.pa] at el4
        refine ⟨L, l1, _, _, rfl, rfl, s4 _ _ upd_same, el4, ?_, fun A1 nA1 => ?_⟩
        · have := (hC5.ca.l (pn k)).2
          rw [List.length_map]
          exact Nat.le_of_lt (small1000 (by show 1 + (Fm.pa (pn k)).length ≤ 1000; omega))
        have q5 := (q1.trans s4).trans (same_upd nA1 (o := .lst ([.str (pn k)] ++ (Fm.pa (pn k)).map V.str)))
        have hA : upd H4 A1 (.lst ([.str (pn k)] ++ (Fm.pa (pn k)).map V.str)) A1 = some (.lst ((pn k :: Fm.pa (pn k)).map V.str)) := upd_same
        generalize upd H4 A1 (.lst ([.str (pn k)] ++ (Fm.pa (pn k)).map V.str)) = Ha at q5 hA ⊢
        have al : (pn k :: Fm.pa (pn k)).length ≤ 401 := by
          have := (hC5.ca.l (pn k)).2
          rw [List.length_cons]
          omega
        generalize hal : pn k :: Fm.pa (pn k) = as at hA al
        clear q1 hW3 s4 el4 nl4
        refine ⟨A1, rfl, ⟨_, SqL.of hA⟩, fun D2 nD2 => ?_⟩
        refine lc_it (walk_list (xs := as.map V.str)) (fun i Hz => Same Ha Hz ∧ ∃ bs : List Bool, Hz D2 = some (.lst (bs.map V.bl)) ∧ bs.length = i ∧ (bs.any id = true ↔ ∃ o ∈ as.take i, Dsc Fm.ch o x)) ⟨same_upd nD2, [], upd_same, rfl, ⟨fun h => (by cases h), fun ⟨a, h, _⟩ => (by cases h)⟩⟩ (fun i Hz _ h => SqL.of (h.1 _ _ hA)) ?_ ?_
        · rintro i v Hz H' hi ⟨k3, bs, k4, k5, k6⟩ ⟨rfl, ev⟩
          rw [List.getElem?_map] at ev
          obtain ⟨o, ho, rfl⟩ := Option.map_eq_some_iff.mp ev
          have hWz := hW2.same (q5.trans k3)
          refine ⟨rfl, _, rfl, _, rfl, _, rfl, fa, o, x, fs, Fm, rfl, hWz.fa, hWz.ln, hWz.ch, hWz.below, fun b Hb sb hb => ⟨_, sb _ _ k4, ?_, ?_, bs ++ [b], ?_, ?_, ?_⟩⟩
          · rw [List.length_map]
            have : i < as.length := (List.getElem?_eq_some_iff.mp ho).1
            exact small1000 (by omega)
          · intro b o hb
            rw [upd_ne (ne_of_none hb nD2)]
            exact sb _ _ (k3 b o hb)
          · rw [upd_same, List.map_append]
            rfl
          · rw [List.length_append, k5]
            rfl
          · rw [List.any_append, Bool.or_eq_true, k6, List.take_add_one, ho]
            show _ ∨ (b || false) = true ↔ _
            rw [Bool.or_false, hb]
            constructor
            · rintro (⟨u, h1, h2⟩ | h)
              · exact ⟨u, List.mem_append_left _ h1, h2⟩
              · exact ⟨o, List.mem_append_right _ (List.mem_singleton.mpr rfl), h⟩
            · rintro ⟨u, h1, h2⟩
              rcases List.mem_append.mp h1 with h1 | h1
              · exact .inl ⟨u, h1, h2⟩
              · rw [List.mem_singleton.mp h1] at h2
                exact .inr h2
        rintro Hn ⟨k3, bs, k4, k5, k6⟩
        rw [List.length_map, List.take_length] at k6
        have near : bs.any id = true ↔ Near Fm (pn k) x := by
          rw [k6, ← hal]
          exact Iff.rfl
        have k16 := q5.trans k3
        have hWn := hW2.same k16
        have hCn := hC2.same k16
        have sxn := sx.trans k16
        obtain ⟨dxn, hcn⟩ := hCn.ob
        clear hW2 hC2 q5 k3 hA al hal k6 k5 k16 nD2 sx
        refine ⟨_, rfl, cs, dxn, _, rfl, hcn, nc3 _ _ _ _ _, _, rfl, cs, fam, bk, es, gl, Fm, days, m, pn k, x, _, st, rfl, hCn, fun b Hb sb hb => ?_⟩
        refine ⟨_, rfl, D2, _, rfl, .inl (SqL.of (sb _ _ k4)), rfl, flat_bls _, rfl, _, rfl, ?_⟩
        rw [show (if false = true then !inV (V.bl true) (bs.map V.bl) else inV (V.bl true) (bs.map V.bl)) = bs.any id from (if_neg (by decide)).trans (inV_bl bs), show bs.any id = b from by rw [Bool.eq_iff_iff, near, hb], decide_eq_true rfl]
        refine iteF ?_
        have hWb := hWn.same sb
        have hCb := hCn.same sb
        obtain ⟨dxb, hcb⟩ := hCb.ob
        refine ⟨_, rfl, cs, dxb, _, rfl, hcb, nc1 _ _ _ _ _, _, rfl, cs, fam, bk, es, gl, Fm, days, m, pn k, x, _, st, rfl, hCb, ?_⟩
        refine ⟨_, rfl, _, rfl, wd, fa, ru, wl, ea, fs, Fm, days, m, _, st, pn k, x, rfl, hWb, hx', fun Hc sc => ⟨rfl, _, rfl, ?_⟩⟩
        rw [decide_eq_true rfl]
        exact iteF ⟨_, _, _, rfl, (sxn.trans sb).trans sc⟩
      · rintro σ Hx ⟨y5', y7', y8', rfl, sx⟩
        exact ⟨_, _, _, _, _, rfl, sm8.trans sx⟩
    rintro σ Hy ⟨y4, y5, y6, y7, y8, rfl, sm⟩
    have hW6 := hW5.same sm
    have hC6 := hC5.same sm
    have hG6 := hG5.same sm
    have egg6 := sm _ _ egg5
    have egl6 := sm _ _ egl5
    clear hW5 hC5 hG5 egg5 egl5 sm
    refine ⟨_, rfl, gg, rfl, ⟨_, SqL.of egg6⟩, fun D1 nD1 => ?_⟩
    refine lc_it (walk_list (xs := gad.map V.ref)) (fun i Hz => Same Hy Hz ∧ ∃ ts : List Addr, Hz D1 = some (.lst (ts.map V.ref)) ∧ Lns Hz ts ((gfs.take i).map (glL Fm days m (pn k) st))) ⟨same_upd nD1, [], upd_same, Lns.nil _⟩ (fun i Hz _ h => SqL.of (h.1 _ _ egg6)) ?_ ?_
    · rintro i v Hz H' hi ⟨k1, ts, k2, k3⟩ ⟨rfl, ev⟩
      rw [List.getElem?_map] at ev
      obtain ⟨g, hg, rfl⟩ := Option.map_eq_some_iff.mp ev
      have il : i < gfs.length := by
        rw [← hG6.ln]
        exact (List.getElem?_eq_some_iff.mp hg).1
      have hf : gfs[i]? = some gfs[i] := List.getElem?_eq_getElem il
      have gok := okG _ (List.getElem_mem il)
      have hGa := (hG6.at' i g _ hg hf).same k1
      generalize gfs[i] = gf at hf gok hGa
      refine ⟨rfl, _, rfl, _, rfl, _, rfl, wd, fa, ru, wl, ea, cs, fam, bk, es, gl, g, fs, Fm, days, m, _, st, pn k, gf, rfl, hW6.same k1, hC6.same k1, hGa, gok.nm, wlk, gok.un, gok.ln, fun t H3 s3 nt hgl3 => ?_⟩
      have k23 := s3 _ _ k2
      have lts := k3.ln
      rw [List.length_map, List.length_take] at lts
      have tk4 : Tk H3 (upd H3 D1 (.lst (ts.map V.ref ++ [.ref t]))) := Tk.upd k23 (by intro xs z; cases z)
      have glk : ∀ {u n r}, GlAt H3 u n r → GlAt (upd H3 D1 (.lst (ts.map V.ref ++ [.ref t]))) u n r := fun h => by
        obtain ⟨rt, us, a, b, c⟩ := h.ex
        exact ⟨rt, us, tk4 _ _ a, tk4 _ _ b, c.tk tk4⟩
      refine ⟨_, k23, by rw [List.length_map]; exact small1000 (by omega), fun b o hb => ?_, ts ++ [t], ?_, ?_⟩
      · rw [upd_ne (ne_of_none hb nD1)]
        exact s3 _ _ (k1 b o hb)
      · rw [upd_same, List.map_append]
        rfl
      · rw [List.take_add_one, hf, List.map_append]
        have k33 := k3.same s3
        exact Lns.snoc (r := glL Fm days m (pn k) st gf) ⟨k33.ln, fun i u v a b => glk (k33.at' i u v a b)⟩ (glk hgl3)
    rintro H7 ⟨k1, ts, k2, k3⟩
    rw [List.length_map, hG6.ln, List.take_length] at k3
    have lts := k3.ln
    rw [List.length_map] at lts
    refine ⟨D1, _, rfl, .inl ⟨SqL.of k2, fun td ntd => ?_⟩⟩
    have q1 := k1.trans (same_upd ntd (o := .tup (ts.map V.ref)))
    have htd : upd H7 td (.tup (ts.map V.ref)) td = some (.tup (ts.map V.ref)) := upd_same
    have k37 := k3.same (same_upd ntd (o := .tup (ts.map V.ref)))
    generalize upd H7 td (.tup (ts.map V.ref)) = H8 at q1 htd k37 ⊢
    clear k1 k2 k3 ntd nD1
    refine ⟨_, rfl, _, rfl, wd, fa, ru, wl, ea, cs, fam, bk, es, gl, fs, Fm, days, m, rn, st, pn k, rfl, hW6.same q1, hC6.same q1, r3, wlk, kbn, fun d H9 s9 nd hd9 => ?_⟩
    refine ⟨(by show 1 ≤ sizeLine; decide), fun te nte => ?_⟩
    have q2 := s9.trans (same_upd nte (o := .tup [.ref d]))
    have hte : upd H9 te (.tup [.ref d]) te = some (.tup [.ref d]) := upd_same
    have hd10 := hd9.same (same_upd nte (o := .tup [.ref d]))
    generalize upd H9 te (.tup [.ref d]) = H10 at q2 hte hd10 ⊢
    refine ⟨td, te, _, _, rfl, rfl, SqT.of (q2 _ _ htd), SqT.of hte, by rw [List.length_map]; exact Nat.le_of_lt (small1000 (by show ts.length + 1 ≤ 1000; omega)), fun due H11 s11 hdue => ?_⟩
    have q3 := (q1.trans q2).trans s11
    have hPd : PpS K H11 due (gfs.map (glL Fm days m (pn k) st)) (dlR (Zh Fm days m (pn k)) (rn + 1) 0 []) := ⟨ts, d, by rw [List.map_append]; exact hdue, (k37.same q2).same s11, hd10.same s11⟩
    have dsh := dl_sh wlk kbn (rn + 1) 0 [] (by omega) AOk.nil
    have gsh : ∀ r ∈ gfs.map (glL Fm days m (pn k) st), Gsh r := fun r hr => by
      obtain ⟨f, hf, rfl⟩ := List.mem_map.mp hr
      exact gl_sh wlk (okG f hf)
    have fit := (fit_pp gsh (by rw [List.length_map]; exact g6) dsh.1 dsh.2).shown (by decide) (by decide)
    refine ⟨_, rfl, cs, fam, bk, es, gl, Fm, days, m, pn k, rn, st, gad, gfs, rfl, hC6.same q3, r3, wlk, kbn, q3 _ _ egl6, hG6.same q3, by omega, fun f hf => (okG f hf).un, fun t H12 s12 nt hp => ?_⟩
    refine ⟨t, _, rfl, dp_pp hp.s, fit.1, fit.2.1, fit.2.2.1, fit.2.2.2, ?_⟩
    refine ⟨_, rfl, due, _, rfl, dp_pp (hPd.same s12), fit.1, fit.2.1, fit.2.2.1, fit.2.2.2, rfl, ?_⟩
    rw [decide_eq_true rfl]
    exact go _
end
end ZF
namespace ZF
open PySem L2 PyProof.Rows PySem.Spec G
section
variable {K : PySem.W.Frag} {f : Addr} {fd : FuncData}
theorem kbE {t1 t2 : Addr} (F : FunD K "__init__" "Estate.__init__" (defArgs ZK.sEstI) (defBody ZK.sEstI) (defScope ZK.sEstI) [] [("things", .ref t1), ("debts", .ref t2)] f fd) : ∃ mv : List Value, KBn K fd ["self", "coins", "things", "debts"] 2 ["things", "debts"] (fun us ws => us ++ ws) (fun vs zs => vs ++ zs) :=
  F.kbinds0 2 ["things", "debts"] [] (fun us mv ws => us ++ ws) (by intro h; cases h) (fun q h => by cases h) (fun r1 _ r3 => r1.append r3) (fun D doc pm an cdv ct us mv ws h1 h2 h3 =>
    match us, mv, ws, h1, h2, h3 with
    | [u, c], [], [a, b], _, _, _ => rfl)
theorem kbC {t1 : Addr} (F : FunD K "__init__" "Case.__init__" (defArgs sCasI) (defBody sCasI) (defScope sCasI) [] [("will", .ref t1)] f fd) : ∃ mv : List Value, KBn K fd ["self", "dead", "facts", "rules", "estate", "will"] 3 ["rules", "estate", "will"] (fun us ws => us ++ ws) (fun vs zs => vs ++ zs) :=
  F.kbinds0 3 ["rules", "estate", "will"] [] (fun us mv ws => us ++ ws) (by intro h; cases h) (fun q h => by cases h) (fun r1 _ r3 => r1.append r3) (fun D doc pm an cdv ct us mv ws h1 h2 h3 =>
    match us, mv, ws, h1, h2, h3 with
    | [u, c, e], [], [a, b, d], _, _, _ => rfl)
end
end ZF
namespace G
open PySem L2 PyProof.Rows PySem.W
section
variable {P : Program} {w : World} {K : PySem.W.Frag} {mg mb : Str → Option Value}
theorem law_callG {CX : CXT} {k : Nat} {fa a : Addr} {fd : FuncData} {x : Str} {sp : Sp} {s₁ : Shared} {vs : List Value} {ns : List Int}
    (KX : K.In s₁.heap) (hns : s₁.heap.Ns mainGlobals mg) (hb : s₁.heap.Ns builtinsNs mb) (hbb : ∀ (x : Str), x ≠ Str.ofString "__name__" → mb x = bootBuiltins x) (hlim : s₁.heap.NoLimit) (hg : s₁.gens = #[])
    (ha : s₁.heap.get? a = some { cls := Value.type "list", data := Data.seq vs.toArray }) (hi : IntsAre vs ns) (hl : ns.length ≤ sizeLine) (hr : Room k callerA)
    (F : ∀ (base : Heap), K.In base → base.Ns mainGlobals mg → FnG P w K mg base CX k fa fd [x] sp) (hbind : ∀ (s : Shared) (u : Value), BindsTo s fd { pos := [u] } [(x, u)])
    (hsp : ∀ (H : Hp), Only H → SqL K H a (List.map V.int ns) → sp [V.ref a] H (fun v _ => v = V.bl true) fun _ _ _ => False)
    (hCX : ∀ (H : Hp) (e : Value) (s' : Shared), CX [] H s₁ (fun _ _ _ => False) e s' → False) :
    codeAny (model P w) callerA (Code.call (Value.ref fa) { pos := [Value.ref a] }) (fun r s' => r = Except.ok (Flow.ret (Value.bool true)) ∧ OldK s₁.heap s'.heap ∧ s'.os = s₁.os ∧ AllBare s'.gens) s₁ := by
  have rv := vals_ints hi
  have lenV := IntsAre.length hi
  have core : ∀ H : Hp, Only H → SqL K H a (ns.map V.int) → HOk P w H s₁.heap → (∀ b, H b ≠ none → b = a) → (H a ≠ none → List.lookup a K = none) →
      codeAny (model P w) callerA (Code.call (Value.ref fa) { pos := [Value.ref a] }) (fun r s' => r = Except.ok (Flow.ret (Value.bool true)) ∧ OldK s₁.heap s'.heap ∧ s'.os = s₁.os ∧ AllBare s'.gens) s₁ := by
    intro H hO hS hok hA hK
    have noA : ∀ {b : Addr} {o : Obj} {es : Array DictEntry} {ep : Nat}, s₁.heap.get? b = some o → o.data = .dict es ep → H b = none := by
      intro b o es ep e d
      cases q : H b with
      | none => rfl
      | some u =>
        have e' := hA b (by rw [q]; exact fun z => by cases z)
        subst e'
        rw [ha] at e
        rw [← Option.some.inj e] at d
        cases d
    have nsK : ∀ {b : Addr} {m : Str → Option Value}, s₁.heap.Ns b m → (hidT s₁.heap H).Ns b m := fun ⟨o, es, ep, e, d, r⟩ => ⟨o, es, ep, hidT_get e (noA e d), d, r⟩
    have hKb : K.In (hidT s₁.heap H) := fun b o e => hidT_get (KX b o e) (by
      cases q : H b with
      | none => rfl
      | some u =>
        have e' := hA b (by rw [q]; exact fun z => by cases z)
        subst e'
        rw [hK (by rw [q]; exact fun z => by cases z)] at e
        cases e)
    have hM : L2.Mod K mg (hidT s₁.heap H) := ⟨hKb, nsK hns, ⟨mb, nsK hb, hbb⟩, match hlim with
      | ⟨mc, h1, h2⟩ => ⟨mc, nsK h1, h2⟩⟩
    have e0 : Env0 P w K mg (hidT s₁.heap H) callerA [] s₁ H := { frames := rfl, mod := hM, bs := fun b o e => of_hidT e, bsz := Nat.le_of_eq (hidT_size s₁.heap H), funs := trivial, frf := (fun b hb => by cases hb), hok := hok, bare := AllBare.of_eq hg }
    refine codeAny_mono ((F (hidT s₁.heap H) hKb (nsK hns)).run callerA [] s₁ H { pos := [Value.ref a] } [Value.ref a] [V.ref a] (fun v x => v = V.bl true) (fun x x_1 x_2 => False) hr rfl e0 (hbind s₁ (Value.ref a)) (Paired.cons rfl Paired.nil) (hsp H hO hS)) fun r s' h => ?_
    cases r with
    | error e => exact (hCX H e s' h).elim
    | ok fl =>
      cases fl with
      | next => exact h.elim
      | brk => exact h.elim
      | cont => exact h.elim
      | ret u =>
        obtain ⟨v, H', os, bare, un, hok', r', q⟩ := h
        subst q
        obtain rfl : u = Value.bool true := r'
        refine ⟨rfl, OldK.of_keep fun b o e => ?_, os, bare⟩
        cases q : H b with
        | none => exact un.keep b o e q (by simp [frs]) (by simp)
        | some u =>
          rcases hO b with z | ⟨ob, xs, z⟩
          · rw [q] at z
            cases z
          · have z2 := un.frzs b ob (HO.lst xs) z
            have e1 := (hok b _ z).1
            have e2 := (hok' b _ z2).1
            rw [e] at e1
            rw [Option.some.inj e1]
            exact e2
  cases hk : List.lookup a K with
  | none =>
    refine core (fun b => if b = a then some (HO.frz { cls := Value.type "list", data := Data.seq vs.toArray } (HO.lst (List.map V.int ns))) else none) (fun b => ?_) (.inl (.inr ⟨_, if_pos rfl⟩)) (fun b u z => ?_) (fun b z => ?_) fun _ => hk
    · by_cases hb : b = a
      · exact .inr ⟨_, _, if_pos hb⟩
      · exact .inl (if_neg hb)
    · by_cases hb : b = a
      · have z' := (if_pos hb).symm.trans z
        obtain rfl := Option.some.inj z'
        subst hb
        exact ⟨ha, by rw [List.length_map]; exact hl, vs, 0, rv, ha⟩
      · have z' := (if_neg hb).symm.trans z
        cases z'
    · by_cases hb : b = a
      · exact hb
      · exact absurd (if_neg hb) z
  | some o =>
    have e := KX a o hk
    rw [ha] at e
    obtain rfl := Option.some.inj e
    refine core (fun x => none) (fun x => .inl rfl) (.inr ⟨_, vs.toArray, 0, hk, rfl, rfl, rfl, ?_, ?_⟩) (fun b u z => by cases z) (fun b z => absurd rfl z) fun z => absurd rfl z
    · rw [List.size_toArray, lenV]
      exact hl
    · exact rv
end
theorem walk_ofBG {l : PySem.W.OpenLaw} {n k : Nat} {q : Program} {loose : List Str} {XP : (Str → Option Value) → Heap → Prop} {YP : World → Heap → Prop} {d : DefRec} {K : Params → PySem.W.Frag} {CX : World → CXT} {sp : World → Sp} {x : Str}
    (hn : l.most = some n) (hn2 : n ≤ sizeLine) (hdf : d.params.defaults = []) (hr : Room k callerA) (hY : ∀ (w : World) (h : Heap), YP w h → (K w.params).In h)
    (F : ∀ (w : World) (mg : Str → Option Value) (fa : Addr) (h : Heap), (K w.params).In h → h.Ns mainGlobals mg → mg d.name = some (Value.ref fa) → ∃ fd : FuncData, (∀ (s : Shared) (u : Value), BindsTo s fd { pos := [u] } [(x, u)]) ∧ ∀ (base : Heap), (K w.params).In base → base.Ns mainGlobals mg → FnG l.prog w (K w.params) mg base (CX w) k fa fd [x] (sp w))
    (hsp : ∀ (w : World) (H : Hp) (a : Addr) (ns : List Int), ns.length ≤ n → (∀ (z : Int), z ∈ ns → Builtin.Int.intBits z ≤ 1048576) → Only H → SqL (K w.params) H a (List.map V.int ns) → sp w [V.ref a] H (fun v _ => v = V.bl true) fun _ _ _ => False)
    (hCX : ∀ (w : World) (H : Hp) (s : Shared) (e : Value) (s' : Shared), CX w [] H s (fun _ _ _ => False) e s' → False) :
    W.WalkO q loose XP YP l.row.toRowW d [] fun f vs => PySem.call f vs :=
  Att.attach_callB hn hdf fun w s₀ s₁ mg mb fa o pm cd doc a vs ns Gr Y ho hd hcd hmg hobj hints hlen hbits hg => by
    have KX := hY w s₁.heap Y
    obtain ⟨fd, hb, hF⟩ := F w mg fa s₁.heap KX Gr.T.g hmg
    exact law_callG KX Gr.T.g Gr.T.b Gr.T.builtins Gr.T.nolimit hg hobj hints (Nat.le_trans hlen hn2) hr hF hb (fun H hO hS => hsp w H a ns hlen hbits hO hS) fun H e s' => hCX w H s₁ e s'
end G
namespace ZF
open PySem L2 PyProof.Rows PySem.Spec G
theorem tup_of {K : PySem.W.Frag} {a : Addr} {o : Obj} {its : List Value} {n : Nat} {xs : List V} (h : K.lookup a = some o) (c : o.cls = .type "tuple") (d : o.data = .seq its.toArray n) (z : its.length ≤ 1000) (v : Vals xs its) : ∀ H, SqT K H a xs := fun H => .inr ⟨o, its.toArray, n, h, c, d, by rw [List.size_toArray, sizeLine_eq]; omega, v⟩
/-! what the top has written -/
theorem all_mk {l : PySem.W.OpenLaw} {w : World} {K : PySem.W.Frag} {h : Heap} {mg : Str → Option Value} {fa C CB CS CC CE CI CR CW CX CRE CRI CRR CRW CRX DKB DKS DKC aS aM aT1 aT2 aT3 fNam fAmt fFac fJoi fUpt fIPa fPas fSv fHds fPto fTks fDiv fRow fNn fGl fDl fMp fThn fThi fDeb fAtk fGiv fLin fTaw fSta fCel fNum fFee fTak fFts fLru fLwi fLes fKin fOnc fLch fLpa fLda fLsu fLib fLsp fLst fLwo fLca fLl fLdl fLaw fFamI fCon fLea fChi fPar fSpo fDay fRen fAdv fRea fCsv fCsp fNea fFst fBokI fEstI fCasI fBadI fCirI fRulI fWilI fEsxI : Addr} (X : K.In h) (G : h.Ns mainGlobals mg) (hfa : mg "law" = some (.ref fa))
    {odNam anNam odAmt anAmt odFac anFac odJoi anJoi odUpt anUpt odIPa anIPa odPas anPas odSv anSv odHds anHds odPto anPto odTks anTks odDiv anDiv odRow anRow odNn anNn odGl anGl odDl anDl odMp anMp odThn anThn odThi anThi odDeb anDeb odAtk anAtk odGiv anGiv odLin anLin odTaw anTaw odSta anSta odCel anCel odNum anNum odFee anFee odTak anTak odFts anFts odLru anLru odLwi anLwi odLes anLes odKin anKin odOnc anOnc odLch anLch odLpa anLpa odLda anLda odLsu anLsu odLib anLib odLsp anLsp odLst anLst odLwo anLwo odLca anLca odLl anLl odLdl anLdl odLaw anLaw odFamI anFamI odCon anCon odLea anLea odChi anChi odPar anPar odSpo anSpo odDay anDay odRen anRen odAdv anAdv odRea anRea odCsv anCsv odCsp anCsp odNea anNea odFst anFst odBokI anBokI odEstI anEstI odCasI anCasI odBadI anBadI odCirI anCirI odRulI anRulI odWilI anWilI odEsxI anEsxI : Option Addr} {slNam slAmt slFac slJoi slUpt slIPa slPas slSv slHds slPto slTks slDiv slRow slNn slGl slDl slMp slThn slThi slDeb slAtk slGiv slLin slTaw slSta slCel slNum slFee slTak slFts slLru slLwi slLes slKin slOnc slLch slLpa slLda slLsu slLib slLsp slLst slLwo slLca slLl slLdl slLaw slFamI slCon slLea slChi slPar slSpo slDay slRen slAdv slRea slCsv slCsp slNea slFst slBokI slEstI slCasI slBadI slCirI slRulI slWilI slEsxI : Array (Option Value)} {ocNam kVNam dcNam pmNam cdNam ctNam ocAmt kVAmt dcAmt pmAmt cdAmt ctAmt ocFac kVFac dcFac pmFac cdFac ctFac ocJoi kVJoi dcJoi pmJoi cdJoi ctJoi ocUpt kVUpt dcUpt pmUpt cdUpt ctUpt ocIPa kVIPa dcIPa pmIPa cdIPa ctIPa ocPas kVPas dcPas pmPas cdPas ctPas ocSv kVSv dcSv pmSv cdSv ctSv ocHds kVHds dcHds pmHds cdHds ctHds ocPto kVPto dcPto pmPto cdPto ctPto ocTks kVTks dcTks pmTks cdTks ctTks ocDiv kVDiv dcDiv pmDiv cdDiv ctDiv ocRow kVRow dcRow pmRow cdRow ctRow ocNn kVNn dcNn pmNn cdNn ctNn ocGl kVGl dcGl pmGl cdGl ctGl ocDl kVDl dcDl pmDl cdDl ctDl ocMp kVMp dcMp pmMp cdMp ctMp ocThn kVThn dcThn pmThn cdThn ctThn ocThi kVThi dcThi pmThi cdThi ctThi ocDeb kVDeb dcDeb pmDeb cdDeb ctDeb ocAtk kVAtk dcAtk pmAtk cdAtk ctAtk ocGiv kVGiv dcGiv pmGiv cdGiv ctGiv ocLin kVLin dcLin pmLin cdLin ctLin ocTaw kVTaw dcTaw pmTaw cdTaw ctTaw ocSta kVSta dcSta pmSta cdSta ctSta ocCel kVCel dcCel pmCel cdCel ctCel ocNum kVNum dcNum pmNum cdNum ctNum ocFee kVFee dcFee pmFee cdFee ctFee ocTak kVTak dcTak pmTak cdTak ctTak ocFts kVFts dcFts pmFts cdFts ctFts ocLru kVLru dcLru pmLru cdLru ctLru ocLwi kVLwi dcLwi pmLwi cdLwi ctLwi ocLes kVLes dcLes pmLes cdLes ctLes ocKin kVKin dcKin pmKin cdKin ctKin ocOnc kVOnc dcOnc pmOnc cdOnc ctOnc ocLch kVLch dcLch pmLch cdLch ctLch ocLpa kVLpa dcLpa pmLpa cdLpa ctLpa ocLda kVLda dcLda pmLda cdLda ctLda ocLsu kVLsu dcLsu pmLsu cdLsu ctLsu ocLib kVLib dcLib pmLib cdLib ctLib ocLsp kVLsp dcLsp pmLsp cdLsp ctLsp ocLst kVLst dcLst pmLst cdLst ctLst ocLwo kVLwo dcLwo pmLwo cdLwo ctLwo ocLca kVLca dcLca pmLca cdLca ctLca ocLl kVLl dcLl pmLl cdLl ctLl ocLdl kVLdl dcLdl pmLdl cdLdl ctLdl ocLaw kVLaw dcLaw pmLaw cdLaw ctLaw ocFamI kVFamI dcFamI pmFamI cdFamI ctFamI ocCon kVCon dcCon pmCon cdCon ctCon ocLea kVLea dcLea pmLea cdLea ctLea ocChi kVChi dcChi pmChi cdChi ctChi ocPar kVPar dcPar pmPar cdPar ctPar ocSpo kVSpo dcSpo pmSpo cdSpo ctSpo ocDay kVDay dcDay pmDay cdDay ctDay ocRen kVRen dcRen pmRen cdRen ctRen ocAdv kVAdv dcAdv pmAdv cdAdv ctAdv ocRea kVRea dcRea pmRea cdRea ctRea ocCsv kVCsv dcCsv pmCsv cdCsv ctCsv ocCsp kVCsp dcCsp pmCsp cdCsp ctCsp ocNea kVNea dcNea pmNea cdNea ctNea ocFst kVFst dcFst pmFst cdFst ctFst ocBokI dcBokI pmBokI cdBokI ctBokI ocEstI dcEstI pmEstI cdEstI ctEstI ocCasI dcCasI pmCasI cdCasI ctCasI ocBadI kVBadI dcBadI pmBadI cdBadI ctBadI ocCirI kVCirI dcCirI pmCirI cdCirI ctCirI ocRulI kVRulI dcRulI pmRulI cdRulI ctRulI ocWilI kVWilI dcWilI pmWilI cdWilI ctWilI ocEsxI kVEsxI dcEsxI pmEsxI cdEsxI ctEsxI : Value} {tSg tLn tCr tGr tMo tTw tTs tLt tLi tTk tMd tMr tGp tTa tDi tGo tGi tDe tPe tSt tLa tNr u0 u1 u2 u3 u4 : Tok} {ot0 : Option Addr} {ls0 : Array (Option Value)} {nn0 : Nat}
    (aNam : PySem.W.nsIn K mainGlobals "is_name" = some (some (.ref fNam)))
    (lNam : K.lookup fNam = some ⟨ocNam, odNam, .func (PySem.W.fnOf "is_name" "is_name" (defArgs sNam) (defBody sNam) (defScope sNam) .none kVNam dcNam pmNam anNam cdNam ctNam), slNam⟩)
    (cNam : PySem.W.codeIn K cdNam "is_name" = true)
    (kNam : PySem.W.keepIn K (.ref fNam) = true)
    (aAmt : PySem.W.nsIn K mainGlobals "is_amount" = some (some (.ref fAmt)))
    (lAmt : K.lookup fAmt = some ⟨ocAmt, odAmt, .func (PySem.W.fnOf "is_amount" "is_amount" (defArgs sAmt) (defBody sAmt) (defScope sAmt) .none kVAmt dcAmt pmAmt anAmt cdAmt ctAmt), slAmt⟩)
    (cAmt : PySem.W.codeIn K cdAmt "is_amount" = true)
    (kAmt : PySem.W.keepIn K (.ref fAmt) = true)
    (aFac : PySem.W.nsIn K mainGlobals "is_fact" = some (some (.ref fFac)))
    (lFac : K.lookup fFac = some ⟨ocFac, odFac, .func (PySem.W.fnOf "is_fact" "is_fact" (defArgs sFac) (defBody sFac) (defScope sFac) .none kVFac dcFac pmFac anFac cdFac ctFac), slFac⟩)
    (cFac : PySem.W.codeIn K cdFac "is_fact" = true)
    (kFac : PySem.W.keepIn K (.ref fFac) = true)
    (aJoi : PySem.W.nsIn K mainGlobals "_joined" = some (some (.ref fJoi)))
    (lJoi : K.lookup fJoi = some ⟨ocJoi, odJoi, .func (PySem.W.fnOf "_joined" "_joined" (defArgs sJoi) (defBody sJoi) (defScope sJoi) .none kVJoi dcJoi pmJoi anJoi cdJoi ctJoi), slJoi⟩)
    (cJoi : PySem.W.codeIn K cdJoi "_joined" = true)
    (kJoi : PySem.W.keepIn K (.ref fJoi) = true)
    (aUpt : PySem.W.nsIn K mainGlobals "_is_up_to" = some (some (.ref fUpt)))
    (lUpt : K.lookup fUpt = some ⟨ocUpt, odUpt, .func (PySem.W.fnOf "_is_up_to" "_is_up_to" (defArgs ZK.sUpt) (defBody ZK.sUpt) (defScope ZK.sUpt) .none kVUpt dcUpt pmUpt anUpt cdUpt ctUpt), slUpt⟩)
    (cUpt : PySem.W.codeIn K cdUpt "_is_up_to" = true)
    (kUpt : PySem.W.keepIn K (.ref fUpt) = true)
    (aIPa : PySem.W.nsIn K mainGlobals "_is_part" = some (some (.ref fIPa)))
    (lIPa : K.lookup fIPa = some ⟨ocIPa, odIPa, .func (PySem.W.fnOf "_is_part" "_is_part" (defArgs ZK.sPar) (defBody ZK.sPar) (defScope ZK.sPar) .none kVIPa dcIPa pmIPa anIPa cdIPa ctIPa), slIPa⟩)
    (cIPa : PySem.W.codeIn K cdIPa "_is_part" = true)
    (kIPa : PySem.W.keepIn K (.ref fIPa) = true)
    (aPas : PySem.W.nsIn K mainGlobals "_are_parts" = some (some (.ref fPas)))
    (lPas : K.lookup fPas = some ⟨ocPas, odPas, .func (PySem.W.fnOf "_are_parts" "_are_parts" (defArgs ZK.sPas) (defBody ZK.sPas) (defScope ZK.sPas) .none kVPas dcPas pmPas anPas cdPas ctPas), slPas⟩)
    (cPas : PySem.W.codeIn K cdPas "_are_parts" = true)
    (kPas : PySem.W.keepIn K (.ref fPas) = true)
    (aSv : PySem.W.nsIn K mainGlobals "survives_rules" = some (some (.ref fSv)))
    (lSv : K.lookup fSv = some ⟨ocSv, odSv, .func (PySem.W.fnOf "survives" "survives" (defArgs sSv) (defBody sSv) (defScope sSv) .none kVSv dcSv pmSv anSv cdSv ctSv), slSv⟩)
    (cSv : PySem.W.codeIn K cdSv "survives" = true)
    (kSv : PySem.W.keepIn K (.ref fSv) = true)
    (aHds : PySem.W.nsIn K mainGlobals "_heads" = some (some (.ref fHds)))
    (lHds : K.lookup fHds = some ⟨ocHds, odHds, .func (PySem.W.fnOf "_heads" "_heads" (defArgs sHds) (defBody sHds) (defScope sHds) .none kVHds dcHds pmHds anHds cdHds ctHds), slHds⟩)
    (cHds : PySem.W.codeIn K cdHds "_heads" = true)
    (kHds : PySem.W.keepIn K (.ref fHds) = true)
    (aPto : PySem.W.nsIn K mainGlobals "parts_of" = some (some (.ref fPto)))
    (lPto : K.lookup fPto = some ⟨ocPto, odPto, .func (PySem.W.fnOf "parts_of" "parts_of" (defArgs sPto) (defBody sPto) (defScope sPto) .none kVPto dcPto pmPto anPto cdPto ctPto), slPto⟩)
    (cPto : PySem.W.codeIn K cdPto "parts_of" = true)
    (kPto : PySem.W.keepIn K (.ref fPto) = true)
    (aTks : PySem.W.nsIn K mainGlobals "takes" = some (some (.ref fTks)))
    (lTks : K.lookup fTks = some ⟨ocTks, odTks, .func (PySem.W.fnOf "takes" "takes" (defArgs sTks) (defBody sTks) (defScope sTks) .none kVTks dcTks pmTks anTks cdTks ctTks), slTks⟩)
    (cTks : PySem.W.codeIn K cdTks "takes" = true)
    (kTks : PySem.W.keepIn K (.ref fTks) = true)
    (aDiv : PySem.W.nsIn K mainGlobals "_divided_row" = some (some (.ref fDiv)))
    (lDiv : K.lookup fDiv = some ⟨ocDiv, odDiv, .func (PySem.W.fnOf "_divided_row" "_divided_row" (defArgs sDiv) (defBody sDiv) (defScope sDiv) .none kVDiv dcDiv pmDiv anDiv cdDiv ctDiv), slDiv⟩)
    (cDiv : PySem.W.codeIn K cdDiv "_divided_row" = true)
    (kDiv : PySem.W.keepIn K (.ref fDiv) = true)
    (aRow : PySem.W.nsIn K mainGlobals "rows_of" = some (some (.ref fRow)))
    (lRow : K.lookup fRow = some ⟨ocRow, odRow, .func (PySem.W.fnOf "rows_of" "rows_of" (defArgs sRow) (defBody sRow) (defScope sRow) .none kVRow dcRow pmRow anRow cdRow ctRow), slRow⟩)
    (cRow : PySem.W.codeIn K cdRow "rows_of" = true)
    (kRow : PySem.W.keepIn K (.ref fRow) = true)
    (aNn : PySem.W.nsIn K mainGlobals "needs_node" = some (some (.ref fNn)))
    (lNn : K.lookup fNn = some ⟨ocNn, odNn, .func (PySem.W.fnOf "needs_node" "needs_node" (defArgs sNn) (defBody sNn) (defScope sNn) .none kVNn dcNn pmNn anNn cdNn ctNn), slNn⟩)
    (cNn : PySem.W.codeIn K cdNn "needs_node" = true)
    (kNn : PySem.W.keepIn K (.ref fNn) = true)
    (aGl : PySem.W.nsIn K mainGlobals "_gift_line" = some (some (.ref fGl)))
    (lGl : K.lookup fGl = some ⟨ocGl, odGl, .func (PySem.W.fnOf "_gift_line" "_gift_line" (defArgs sGl) (defBody sGl) (defScope sGl) .none kVGl dcGl pmGl anGl cdGl ctGl), slGl⟩)
    (cGl : PySem.W.codeIn K cdGl "_gift_line" = true)
    (kGl : PySem.W.keepIn K (.ref fGl) = true)
    (aDl : PySem.W.nsIn K mainGlobals "_descent_line" = some (some (.ref fDl)))
    (lDl : K.lookup fDl = some ⟨ocDl, odDl, .func (PySem.W.fnOf "_descent_line" "_descent_line" (defArgs sDl) (defBody sDl) (defScope sDl) .none kVDl dcDl pmDl anDl cdDl ctDl), slDl⟩)
    (cDl : PySem.W.codeIn K cdDl "_descent_line" = true)
    (kDl : PySem.W.keepIn K (.ref fDl) = true)
    (aMp : PySem.W.nsIn K mainGlobals "make_paper" = some (some (.ref fMp)))
    (lMp : K.lookup fMp = some ⟨ocMp, odMp, .func (PySem.W.fnOf "make_paper" "make_paper" (defArgs sMp) (defBody sMp) (defScope sMp) .none kVMp dcMp pmMp anMp cdMp ctMp), slMp⟩)
    (cMp : PySem.W.codeIn K cdMp "make_paper" = true)
    (kMp : PySem.W.keepIn K (.ref fMp) = true)
    (aThn : PySem.W.nsIn K mainGlobals "_is_thing_name" = some (some (.ref fThn)))
    (lThn : K.lookup fThn = some ⟨ocThn, odThn, .func (PySem.W.fnOf "_is_thing_name" "_is_thing_name" (defArgs ZK.sThn) (defBody ZK.sThn) (defScope ZK.sThn) .none kVThn dcThn pmThn anThn cdThn ctThn), slThn⟩)
    (cThn : PySem.W.codeIn K cdThn "_is_thing_name" = true)
    (kThn : PySem.W.keepIn K (.ref fThn) = true)
    (aThi : PySem.W.nsIn K mainGlobals "_is_thing" = some (some (.ref fThi)))
    (lThi : K.lookup fThi = some ⟨ocThi, odThi, .func (PySem.W.fnOf "_is_thing" "_is_thing" (defArgs ZK.sThi) (defBody ZK.sThi) (defScope ZK.sThi) .none kVThi dcThi pmThi anThi cdThi ctThi), slThi⟩)
    (cThi : PySem.W.codeIn K cdThi "_is_thing" = true)
    (kThi : PySem.W.keepIn K (.ref fThi) = true)
    (aDeb : PySem.W.nsIn K mainGlobals "_is_debt" = some (some (.ref fDeb)))
    (lDeb : K.lookup fDeb = some ⟨ocDeb, odDeb, .func (PySem.W.fnOf "_is_debt" "_is_debt" (defArgs ZK.sDeb) (defBody ZK.sDeb) (defScope ZK.sDeb) .none kVDeb dcDeb pmDeb anDeb cdDeb ctDeb), slDeb⟩)
    (cDeb : PySem.W.codeIn K cdDeb "_is_debt" = true)
    (kDeb : PySem.W.keepIn K (.ref fDeb) = true)
    (aAtk : PySem.W.nsIn K mainGlobals "_are_takers" = some (some (.ref fAtk)))
    (lAtk : K.lookup fAtk = some ⟨ocAtk, odAtk, .func (PySem.W.fnOf "_are_takers" "_are_takers" (defArgs ZK.sTks) (defBody ZK.sTks) (defScope ZK.sTks) .none kVAtk dcAtk pmAtk anAtk cdAtk ctAtk), slAtk⟩)
    (cAtk : PySem.W.codeIn K cdAtk "_are_takers" = true)
    (kAtk : PySem.W.keepIn K (.ref fAtk) = true)
    (aGiv : PySem.W.nsIn K mainGlobals "_is_given" = some (some (.ref fGiv)))
    (lGiv : K.lookup fGiv = some ⟨ocGiv, odGiv, .func (PySem.W.fnOf "_is_given" "_is_given" (defArgs ZK.sGiv) (defBody ZK.sGiv) (defScope ZK.sGiv) .none kVGiv dcGiv pmGiv anGiv cdGiv ctGiv), slGiv⟩)
    (cGiv : PySem.W.codeIn K cdGiv "_is_given" = true)
    (kGiv : PySem.W.keepIn K (.ref fGiv) = true)
    (aLin : PySem.W.nsIn K mainGlobals "_is_line" = some (some (.ref fLin)))
    (lLin : K.lookup fLin = some ⟨ocLin, odLin, .func (PySem.W.fnOf "_is_line" "_is_line" (defArgs ZK.sLin) (defBody ZK.sLin) (defScope ZK.sLin) .none kVLin dcLin pmLin anLin cdLin ctLin), slLin⟩)
    (cLin : PySem.W.codeIn K cdLin "_is_line" = true)
    (kLin : PySem.W.keepIn K (.ref fLin) = true)
    (aTaw : PySem.W.nsIn K mainGlobals "_takes_away" = some (some (.ref fTaw)))
    (lTaw : K.lookup fTaw = some ⟨ocTaw, odTaw, .func (PySem.W.fnOf "_takes_away" "_takes_away" (defArgs ZK.sTaw) (defBody ZK.sTaw) (defScope ZK.sTaw) .none kVTaw dcTaw pmTaw anTaw cdTaw ctTaw), slTaw⟩)
    (cTaw : PySem.W.codeIn K cdTaw "_takes_away" = true)
    (kTaw : PySem.W.keepIn K (.ref fTaw) = true)
    (aSta : PySem.W.nsIn K mainGlobals "standing" = some (some (.ref fSta)))
    (lSta : K.lookup fSta = some ⟨ocSta, odSta, .func (PySem.W.fnOf "standing" "standing" (defArgs ZK.sSta) (defBody ZK.sSta) (defScope ZK.sSta) .none kVSta dcSta pmSta anSta cdSta ctSta), slSta⟩)
    (cSta : PySem.W.codeIn K cdSta "standing" = true)
    (kSta : PySem.W.keepIn K (.ref fSta) = true)
    (aCel : PySem.W.nsIn K mainGlobals "_law_cell" = some (some (.ref fCel)))
    (lCel : K.lookup fCel = some ⟨ocCel, odCel, .func (PySem.W.fnOf "_law_cell" "_law_cell" (defArgs sCel) (defBody sCel) (defScope sCel) .none kVCel dcCel pmCel anCel cdCel ctCel), slCel⟩)
    (cCel : PySem.W.codeIn K cdCel "_law_cell" = true)
    (kCel : PySem.W.keepIn K (.ref fCel) = true)
    (aNum : PySem.W.nsIn K mainGlobals "_law_numbers" = some (some (.ref fNum)))
    (lNum : K.lookup fNum = some ⟨ocNum, odNum, .func (PySem.W.fnOf "_law_numbers" "_law_numbers" (defArgs sNum) (defBody sNum) (defScope sNum) .none kVNum dcNum pmNum anNum cdNum ctNum), slNum⟩)
    (cNum : PySem.W.codeIn K cdNum "_law_numbers" = true)
    (kNum : PySem.W.keepIn K (.ref fNum) = true)
    (aFee : PySem.W.nsIn K mainGlobals "_law_feed" = some (some (.ref fFee)))
    (lFee : K.lookup fFee = some ⟨ocFee, odFee, .func (PySem.W.fnOf "_law_feed" "_law_feed" (defArgs sFee) (defBody sFee) (defScope sFee) .none kVFee dcFee pmFee anFee cdFee ctFee), slFee⟩)
    (cFee : PySem.W.codeIn K cdFee "_law_feed" = true)
    (kFee : PySem.W.keepIn K (.ref fFee) = true)
    (aTak : PySem.W.nsIn K mainGlobals "_law_take" = some (some (.ref fTak)))
    (lTak : K.lookup fTak = some ⟨ocTak, odTak, .func (PySem.W.fnOf "_law_take" "_law_take" (defArgs sTak) (defBody sTak) (defScope sTak) .none kVTak dcTak pmTak anTak cdTak ctTak), slTak⟩)
    (cTak : PySem.W.codeIn K cdTak "_law_take" = true)
    (kTak : PySem.W.keepIn K (.ref fTak) = true)
    (aFts : PySem.W.nsIn K mainGlobals "_law_facts" = some (some (.ref fFts)))
    (lFts : K.lookup fFts = some ⟨ocFts, odFts, .func (PySem.W.fnOf "_law_facts" "_law_facts" (defArgs sFts) (defBody sFts) (defScope sFts) .none kVFts dcFts pmFts anFts cdFts ctFts), slFts⟩)
    (cFts : PySem.W.codeIn K cdFts "_law_facts" = true)
    (kFts : PySem.W.keepIn K (.ref fFts) = true)
    (aLru : PySem.W.nsIn K mainGlobals "_law_rules" = some (some (.ref fLru)))
    (lLru : K.lookup fLru = some ⟨ocLru, odLru, .func (PySem.W.fnOf "_law_rules" "_law_rules" (defArgs ZK.sLru) (defBody ZK.sLru) (defScope ZK.sLru) .none kVLru dcLru pmLru anLru cdLru ctLru), slLru⟩)
    (cLru : PySem.W.codeIn K cdLru "_law_rules" = true)
    (kLru : PySem.W.keepIn K (.ref fLru) = true)
    (aLwi : PySem.W.nsIn K mainGlobals "_law_will" = some (some (.ref fLwi)))
    (lLwi : K.lookup fLwi = some ⟨ocLwi, odLwi, .func (PySem.W.fnOf "_law_will" "_law_will" (defArgs ZK.sLwi) (defBody ZK.sLwi) (defScope ZK.sLwi) .none kVLwi dcLwi pmLwi anLwi cdLwi ctLwi), slLwi⟩)
    (cLwi : PySem.W.codeIn K cdLwi "_law_will" = true)
    (kLwi : PySem.W.keepIn K (.ref fLwi) = true)
    (aLes : PySem.W.nsIn K mainGlobals "_law_estate" = some (some (.ref fLes)))
    (lLes : K.lookup fLes = some ⟨ocLes, odLes, .func (PySem.W.fnOf "_law_estate" "_law_estate" (defArgs ZK.sLes) (defBody ZK.sLes) (defScope ZK.sLes) .none kVLes dcLes pmLes anLes cdLes ctLes), slLes⟩)
    (cLes : PySem.W.codeIn K cdLes "_law_estate" = true)
    (kLes : PySem.W.keepIn K (.ref fLes) = true)
    (aKin : PySem.W.nsIn K mainGlobals "_law_kin" = some (some (.ref fKin)))
    (lKin : K.lookup fKin = some ⟨ocKin, odKin, .func (PySem.W.fnOf "_law_kin" "_law_kin" (defArgs sKin) (defBody sKin) (defScope sKin) .none kVKin dcKin pmKin anKin cdKin ctKin), slKin⟩)
    (cKin : PySem.W.codeIn K cdKin "_law_kin" = true)
    (kKin : PySem.W.keepIn K (.ref fKin) = true)
    (aOnc : PySem.W.nsIn K mainGlobals "_law_once" = some (some (.ref fOnc)))
    (lOnc : K.lookup fOnc = some ⟨ocOnc, odOnc, .func (PySem.W.fnOf "_law_once" "_law_once" (defArgs sOnc) (defBody sOnc) (defScope sOnc) .none kVOnc dcOnc pmOnc anOnc cdOnc ctOnc), slOnc⟩)
    (cOnc : PySem.W.codeIn K cdOnc "_law_once" = true)
    (kOnc : PySem.W.keepIn K (.ref fOnc) = true)
    (aLch : PySem.W.nsIn K mainGlobals "_law_children" = some (some (.ref fLch)))
    (lLch : K.lookup fLch = some ⟨ocLch, odLch, .func (PySem.W.fnOf "_law_children" "_law_children" (defArgs sLch) (defBody sLch) (defScope sLch) .none kVLch dcLch pmLch anLch cdLch ctLch), slLch⟩)
    (cLch : PySem.W.codeIn K cdLch "_law_children" = true)
    (kLch : PySem.W.keepIn K (.ref fLch) = true)
    (aLpa : PySem.W.nsIn K mainGlobals "_law_parents" = some (some (.ref fLpa)))
    (lLpa : K.lookup fLpa = some ⟨ocLpa, odLpa, .func (PySem.W.fnOf "_law_parents" "_law_parents" (defArgs sLpa) (defBody sLpa) (defScope sLpa) .none kVLpa dcLpa pmLpa anLpa cdLpa ctLpa), slLpa⟩)
    (cLpa : PySem.W.codeIn K cdLpa "_law_parents" = true)
    (kLpa : PySem.W.keepIn K (.ref fLpa) = true)
    (aLda : PySem.W.nsIn K mainGlobals "_law_days" = some (some (.ref fLda)))
    (lLda : K.lookup fLda = some ⟨ocLda, odLda, .func (PySem.W.fnOf "_law_days" "_law_days" (defArgs sLda) (defBody sLda) (defScope sLda) .none kVLda dcLda pmLda anLda cdLda ctLda), slLda⟩)
    (cLda : PySem.W.codeIn K cdLda "_law_days" = true)
    (kLda : PySem.W.keepIn K (.ref fLda) = true)
    (aLsu : PySem.W.nsIn K mainGlobals "_law_survives" = some (some (.ref fLsu)))
    (lLsu : K.lookup fLsu = some ⟨ocLsu, odLsu, .func (PySem.W.fnOf "_law_survives" "_law_survives" (defArgs sLsu) (defBody sLsu) (defScope sLsu) .none kVLsu dcLsu pmLsu anLsu cdLsu ctLsu), slLsu⟩)
    (cLsu : PySem.W.codeIn K cdLsu "_law_survives" = true)
    (kLsu : PySem.W.keepIn K (.ref fLsu) = true)
    (aLib : PySem.W.nsIn K mainGlobals "_law_is_below" = some (some (.ref fLib)))
    (lLib : K.lookup fLib = some ⟨ocLib, odLib, .func (PySem.W.fnOf "_law_is_below" "_law_is_below" (defArgs sLib) (defBody sLib) (defScope sLib) .none kVLib dcLib pmLib anLib cdLib ctLib), slLib⟩)
    (cLib : PySem.W.codeIn K cdLib "_law_is_below" = true)
    (kLib : PySem.W.keepIn K (.ref fLib) = true)
    (aLsp : PySem.W.nsIn K mainGlobals "_law_spouses" = some (some (.ref fLsp)))
    (lLsp : K.lookup fLsp = some ⟨ocLsp, odLsp, .func (PySem.W.fnOf "_law_spouses" "_law_spouses" (defArgs sLsp) (defBody sLsp) (defScope sLsp) .none kVLsp dcLsp pmLsp anLsp cdLsp ctLsp), slLsp⟩)
    (cLsp : PySem.W.codeIn K cdLsp "_law_spouses" = true)
    (kLsp : PySem.W.keepIn K (.ref fLsp) = true)
    (aLst : PySem.W.nsIn K mainGlobals "_law_standing" = some (some (.ref fLst)))
    (lLst : K.lookup fLst = some ⟨ocLst, odLst, .func (PySem.W.fnOf "_law_standing" "_law_standing" (defArgs ZK.sLst) (defBody ZK.sLst) (defScope ZK.sLst) .none kVLst dcLst pmLst anLst cdLst ctLst), slLst⟩)
    (cLst : PySem.W.codeIn K cdLst "_law_standing" = true)
    (kLst : PySem.W.keepIn K (.ref fLst) = true)
    (aLwo : PySem.W.nsIn K mainGlobals "_law_world" = some (some (.ref fLwo)))
    (lLwo : K.lookup fLwo = some ⟨ocLwo, odLwo, .func (PySem.W.fnOf "_law_world" "_law_world" (defArgs sLwo) (defBody sLwo) (defScope sLwo) .none kVLwo dcLwo pmLwo anLwo cdLwo ctLwo), slLwo⟩)
    (cLwo : PySem.W.codeIn K cdLwo "_law_world" = true)
    (kLwo : PySem.W.keepIn K (.ref fLwo) = true)
    (aLca : PySem.W.nsIn K mainGlobals "_law_case" = some (some (.ref fLca)))
    (lLca : K.lookup fLca = some ⟨ocLca, odLca, .func (PySem.W.fnOf "_law_case" "_law_case" (defArgs sLca) (defBody sLca) (defScope sLca) .none kVLca dcLca pmLca anLca cdLca ctLca), slLca⟩)
    (cLca : PySem.W.codeIn K cdLca "_law_case" = true)
    (kLca : PySem.W.keepIn K (.ref fLca) = true)
    (aLl : PySem.W.nsIn K mainGlobals "_law_line" = some (some (.ref fLl)))
    (lLl : K.lookup fLl = some ⟨ocLl, odLl, .func (PySem.W.fnOf "_law_line" "_law_line" (defArgs sLl) (defBody sLl) (defScope sLl) .none kVLl dcLl pmLl anLl cdLl ctLl), slLl⟩)
    (cLl : PySem.W.codeIn K cdLl "_law_line" = true)
    (kLl : PySem.W.keepIn K (.ref fLl) = true)
    (aLdl : PySem.W.nsIn K mainGlobals "_law_descent_line" = some (some (.ref fLdl)))
    (lLdl : K.lookup fLdl = some ⟨ocLdl, odLdl, .func (PySem.W.fnOf "_law_descent_line" "_law_descent_line" (defArgs sLdl) (defBody sLdl) (defScope sLdl) .none kVLdl dcLdl pmLdl anLdl cdLdl ctLdl), slLdl⟩)
    (cLdl : PySem.W.codeIn K cdLdl "_law_descent_line" = true)
    (kLdl : PySem.W.keepIn K (.ref fLdl) = true)
    (aLaw : PySem.W.nsIn K mainGlobals "law" = some (some (.ref fLaw)))
    (lLaw : K.lookup fLaw = some ⟨ocLaw, odLaw, .func (PySem.W.fnOf "law" "law" (defArgs sLaw) (defBody sLaw) (defScope sLaw) .none kVLaw dcLaw pmLaw anLaw cdLaw ctLaw), slLaw⟩)
    (cLaw : PySem.W.codeIn K cdLaw "law" = true)
    (kLaw : PySem.W.keepIn K (.ref fLaw) = true)
    (aC : PySem.W.nsIn K mainGlobals "Family" = some (some (.ref C)))
    (aFamI : PySem.W.findIn K (.ref C) "__init__" = some (some (.ref fFamI)))
    (iFamI : PySem.W.isFn K (.ref fFamI) = true)
    (lFamI : K.lookup fFamI = some ⟨ocFamI, odFamI, .func (PySem.W.fnOf "__init__" "Family.__init__" (defArgs sFamI) (defBody sFamI) (defScope sFamI) .none kVFamI dcFamI pmFamI anFamI cdFamI ctFamI), slFamI⟩)
    (cFamI : PySem.W.codeIn K cdFamI "Family.__init__" = true)
    (kFamI : PySem.W.keepIn K (.ref fFamI) = true)
    (aCon : PySem.W.findIn K (.ref C) "_contradicts" = some (some (.ref fCon)))
    (iCon : PySem.W.isFn K (.ref fCon) = true)
    (lCon : K.lookup fCon = some ⟨ocCon, odCon, .func (PySem.W.fnOf "_contradicts" "Family._contradicts" (defArgs sCon) (defBody sCon) (defScope sCon) .none kVCon dcCon pmCon anCon cdCon ctCon), slCon⟩)
    (cCon : PySem.W.codeIn K cdCon "Family._contradicts" = true)
    (kCon : PySem.W.keepIn K (.ref fCon) = true)
    (aLea : PySem.W.findIn K (.ref C) "_learn" = some (some (.ref fLea)))
    (iLea : PySem.W.isFn K (.ref fLea) = true)
    (lLea : K.lookup fLea = some ⟨ocLea, odLea, .func (PySem.W.fnOf "_learn" "Family._learn" (defArgs sLea) (defBody sLea) (defScope sLea) .none kVLea dcLea pmLea anLea cdLea ctLea), slLea⟩)
    (cLea : PySem.W.codeIn K cdLea "Family._learn" = true)
    (kLea : PySem.W.keepIn K (.ref fLea) = true)
    (aChi : PySem.W.findIn K (.ref C) "children" = some (some (.ref fChi)))
    (iChi : PySem.W.isFn K (.ref fChi) = true)
    (lChi : K.lookup fChi = some ⟨ocChi, odChi, .func (PySem.W.fnOf "children" "Family.children" (defArgs sChi) (defBody sChi) (defScope sChi) .none kVChi dcChi pmChi anChi cdChi ctChi), slChi⟩)
    (cChi : PySem.W.codeIn K cdChi "Family.children" = true)
    (kChi : PySem.W.keepIn K (.ref fChi) = true)
    (aPar : PySem.W.findIn K (.ref C) "parents" = some (some (.ref fPar)))
    (iPar : PySem.W.isFn K (.ref fPar) = true)
    (lPar : K.lookup fPar = some ⟨ocPar, odPar, .func (PySem.W.fnOf "parents" "Family.parents" (defArgs sPar) (defBody sPar) (defScope sPar) .none kVPar dcPar pmPar anPar cdPar ctPar), slPar⟩)
    (cPar : PySem.W.codeIn K cdPar "Family.parents" = true)
    (kPar : PySem.W.keepIn K (.ref fPar) = true)
    (aSpo : PySem.W.findIn K (.ref C) "spouses" = some (some (.ref fSpo)))
    (iSpo : PySem.W.isFn K (.ref fSpo) = true)
    (lSpo : K.lookup fSpo = some ⟨ocSpo, odSpo, .func (PySem.W.fnOf "spouses" "Family.spouses" (defArgs sSpo) (defBody sSpo) (defScope sSpo) .none kVSpo dcSpo pmSpo anSpo cdSpo ctSpo), slSpo⟩)
    (cSpo : PySem.W.codeIn K cdSpo "Family.spouses" = true)
    (kSpo : PySem.W.keepIn K (.ref fSpo) = true)
    (aDay : PySem.W.findIn K (.ref C) "day" = some (some (.ref fDay)))
    (iDay : PySem.W.isFn K (.ref fDay) = true)
    (lDay : K.lookup fDay = some ⟨ocDay, odDay, .func (PySem.W.fnOf "day" "Family.day" (defArgs sDay) (defBody sDay) (defScope sDay) .none kVDay dcDay pmDay anDay cdDay ctDay), slDay⟩)
    (cDay : PySem.W.codeIn K cdDay "Family.day" = true)
    (kDay : PySem.W.keepIn K (.ref fDay) = true)
    (aRen : PySem.W.findIn K (.ref C) "has_renounced" = some (some (.ref fRen)))
    (iRen : PySem.W.isFn K (.ref fRen) = true)
    (lRen : K.lookup fRen = some ⟨ocRen, odRen, .func (PySem.W.fnOf "has_renounced" "Family.has_renounced" (defArgs sRen) (defBody sRen) (defScope sRen) .none kVRen dcRen pmRen anRen cdRen ctRen), slRen⟩)
    (cRen : PySem.W.codeIn K cdRen "Family.has_renounced" = true)
    (kRen : PySem.W.keepIn K (.ref fRen) = true)
    (aAdv : PySem.W.findIn K (.ref C) "advance" = some (some (.ref fAdv)))
    (iAdv : PySem.W.isFn K (.ref fAdv) = true)
    (lAdv : K.lookup fAdv = some ⟨ocAdv, odAdv, .func (PySem.W.fnOf "advance" "Family.advance" (defArgs sAdv) (defBody sAdv) (defScope sAdv) .none kVAdv dcAdv pmAdv anAdv cdAdv ctAdv), slAdv⟩)
    (cAdv : PySem.W.codeIn K cdAdv "Family.advance" = true)
    (kAdv : PySem.W.keepIn K (.ref fAdv) = true)
    (aRea : PySem.W.findIn K (.ref C) "reaches" = some (some (.ref fRea)))
    (iRea : PySem.W.isFn K (.ref fRea) = true)
    (lRea : K.lookup fRea = some ⟨ocRea, odRea, .func (PySem.W.fnOf "reaches" "Family.reaches" (defArgs sRea) (defBody sRea) (defScope sRea) .none kVRea dcRea pmRea anRea cdRea ctRea), slRea⟩)
    (cRea : PySem.W.codeIn K cdRea "Family.reaches" = true)
    (kRea : PySem.W.keepIn K (.ref fRea) = true)
    (pgC : PySem.W.plainGet K C Str.empty = true)
    (hdC : PySem.W.hasDictIn K C = true)
    (poC : PySem.W.plainOver K C = true)
    (saC : PySem.W.findIn K (.ref C) "__setattr__" = some (some (.builtin "object.__setattr__")))
    (mkC : PySem.W.makesIn K C = true)
    (kcC : PySem.W.keepIn K (.ref C) = true)
    (nC1 : PySem.W.findIn K (.ref C) "_children" = some none)
    (nC2 : PySem.W.findIn K (.ref C) "_parents" = some none)
    (nC3 : PySem.W.findIn K (.ref C) "_wed" = some none)
    (nC4 : PySem.W.findIn K (.ref C) "_parted" = some none)
    (nC5 : PySem.W.findIn K (.ref C) "_days" = some none)
    (nC6 : PySem.W.findIn K (.ref C) "_renounced" = some none)
    (nC7 : PySem.W.findIn K (.ref C) "_advances" = some none)
    (aCB : PySem.W.nsIn K mainGlobals "Rules" = some (some (.ref CB)))
    (aBokI : PySem.W.findIn K (.ref CB) "__init__" = some (some (.ref fBokI)))
    (iBokI : PySem.W.isFn K (.ref fBokI) = true)
    (lBokI : K.lookup fBokI = some ⟨ocBokI, odBokI, .func (PySem.W.fnOf "__init__" "Rules.__init__" (defArgs ZK.sBokI) (defBody ZK.sBokI) (defScope ZK.sBokI) .none (.ref DKB) dcBokI pmBokI anBokI cdBokI ctBokI), slBokI⟩)
    (cBokI : PySem.W.codeIn K cdBokI "Rules.__init__" = true)
    (kBokI : PySem.W.keepIn K (.ref fBokI) = true)
    (wDKBdays : PySem.W.nsIn K DKB "days" = some (some (.int 0 u0)))
    (wDKBmode : PySem.W.nsIn K DKB "mode" = some (some (.str "stocks" u1)))
    (wDKBspouse : PySem.W.nsIn K DKB "spouse" = some (some (.ref aS)))
    (wDKBrows : PySem.W.nsIn K DKB "rows" = some (some (.int 3 u2)))
    (wDKBsteps_in : PySem.W.nsIn K DKB "steps_in" = some (some (.bool true)))
    (pgCB : PySem.W.plainGet K CB Str.empty = true)
    (hdCB : PySem.W.hasDictIn K CB = true)
    (poCB : PySem.W.plainOver K CB = true)
    (saCB : PySem.W.findIn K (.ref CB) "__setattr__" = some (some (.builtin "object.__setattr__")))
    (mkCB : PySem.W.makesIn K CB = true)
    (kcCB : PySem.W.keepIn K (.ref CB) = true)
    (nCB1 : PySem.W.findIn K (.ref CB) "days" = some none)
    (nCB2 : PySem.W.findIn K (.ref CB) "mode" = some none)
    (nCB3 : PySem.W.findIn K (.ref CB) "rows" = some none)
    (nCB4 : PySem.W.findIn K (.ref CB) "steps_in" = some none)
    (nCB5 : PySem.W.findIn K (.ref CB) "_spouse" = some none)
    (aCS : PySem.W.nsIn K mainGlobals "Estate" = some (some (.ref CS)))
    (aEstI : PySem.W.findIn K (.ref CS) "__init__" = some (some (.ref fEstI)))
    (iEstI : PySem.W.isFn K (.ref fEstI) = true)
    (lEstI : K.lookup fEstI = some ⟨ocEstI, odEstI, .func (PySem.W.fnOf "__init__" "Estate.__init__" (defArgs ZK.sEstI) (defBody ZK.sEstI) (defScope ZK.sEstI) .none (.ref DKS) dcEstI pmEstI anEstI cdEstI ctEstI), slEstI⟩)
    (cEstI : PySem.W.codeIn K cdEstI "Estate.__init__" = true)
    (kEstI : PySem.W.keepIn K (.ref fEstI) = true)
    (wDKSthings : PySem.W.nsIn K DKS "things" = some (some (.ref aT1)))
    (wDKSdebts : PySem.W.nsIn K DKS "debts" = some (some (.ref aT2)))
    (pgCS : PySem.W.plainGet K CS Str.empty = true)
    (hdCS : PySem.W.hasDictIn K CS = true)
    (poCS : PySem.W.plainOver K CS = true)
    (saCS : PySem.W.findIn K (.ref CS) "__setattr__" = some (some (.builtin "object.__setattr__")))
    (mkCS : PySem.W.makesIn K CS = true)
    (kcCS : PySem.W.keepIn K (.ref CS) = true)
    (nCS1 : PySem.W.findIn K (.ref CS) "coins" = some none)
    (nCS2 : PySem.W.findIn K (.ref CS) "_worths" = some none)
    (nCS3 : PySem.W.findIn K (.ref CS) "_debts" = some none)
    (aCC : PySem.W.nsIn K mainGlobals "Case" = some (some (.ref CC)))
    (aCasI : PySem.W.findIn K (.ref CC) "__init__" = some (some (.ref fCasI)))
    (iCasI : PySem.W.isFn K (.ref fCasI) = true)
    (lCasI : K.lookup fCasI = some ⟨ocCasI, odCasI, .func (PySem.W.fnOf "__init__" "Case.__init__" (defArgs sCasI) (defBody sCasI) (defScope sCasI) .none (.ref DKC) dcCasI pmCasI anCasI cdCasI ctCasI), slCasI⟩)
    (cCasI : PySem.W.codeIn K cdCasI "Case.__init__" = true)
    (kCasI : PySem.W.keepIn K (.ref fCasI) = true)
    (wDKCwill : PySem.W.nsIn K DKC "will" = some (some (.ref aT3)))
    (aCsv : PySem.W.findIn K (.ref CC) "survives" = some (some (.ref fCsv)))
    (iCsv : PySem.W.isFn K (.ref fCsv) = true)
    (lCsv : K.lookup fCsv = some ⟨ocCsv, odCsv, .func (PySem.W.fnOf "survives" "Case.survives" (defArgs sCsv) (defBody sCsv) (defScope sCsv) .none kVCsv dcCsv pmCsv anCsv cdCsv ctCsv), slCsv⟩)
    (cCsv : PySem.W.codeIn K cdCsv "Case.survives" = true)
    (kCsv : PySem.W.keepIn K (.ref fCsv) = true)
    (aCsp : PySem.W.findIn K (.ref CC) "spouses" = some (some (.ref fCsp)))
    (iCsp : PySem.W.isFn K (.ref fCsp) = true)
    (lCsp : K.lookup fCsp = some ⟨ocCsp, odCsp, .func (PySem.W.fnOf "spouses" "Case.spouses" (defArgs sCsp) (defBody sCsp) (defScope sCsp) .none kVCsp dcCsp pmCsp anCsp cdCsp ctCsp), slCsp⟩)
    (cCsp : PySem.W.codeIn K cdCsp "Case.spouses" = true)
    (kCsp : PySem.W.keepIn K (.ref fCsp) = true)
    (aNea : PySem.W.findIn K (.ref CC) "is_near" = some (some (.ref fNea)))
    (iNea : PySem.W.isFn K (.ref fNea) = true)
    (lNea : K.lookup fNea = some ⟨ocNea, odNea, .func (PySem.W.fnOf "is_near" "Case.is_near" (defArgs sNea) (defBody sNea) (defScope sNea) .none kVNea dcNea pmNea anNea cdNea ctNea), slNea⟩)
    (cNea : PySem.W.codeIn K cdNea "Case.is_near" = true)
    (kNea : PySem.W.keepIn K (.ref fNea) = true)
    (aFst : PySem.W.findIn K (.ref CC) "first_taker" = some (some (.ref fFst)))
    (iFst : PySem.W.isFn K (.ref fFst) = true)
    (lFst : K.lookup fFst = some ⟨ocFst, odFst, .func (PySem.W.fnOf "first_taker" "Case.first_taker" (defArgs sFst) (defBody sFst) (defScope sFst) .none kVFst dcFst pmFst anFst cdFst ctFst), slFst⟩)
    (cFst : PySem.W.codeIn K cdFst "Case.first_taker" = true)
    (kFst : PySem.W.keepIn K (.ref fFst) = true)
    (pgCC : PySem.W.plainGet K CC Str.empty = true)
    (hdCC : PySem.W.hasDictIn K CC = true)
    (poCC : PySem.W.plainOver K CC = true)
    (saCC : PySem.W.findIn K (.ref CC) "__setattr__" = some (some (.builtin "object.__setattr__")))
    (mkCC : PySem.W.makesIn K CC = true)
    (kcCC : PySem.W.keepIn K (.ref CC) = true)
    (nCC1 : PySem.W.findIn K (.ref CC) "dead" = some none)
    (nCC2 : PySem.W.findIn K (.ref CC) "family" = some none)
    (nCC3 : PySem.W.findIn K (.ref CC) "rules" = some none)
    (nCC4 : PySem.W.findIn K (.ref CC) "estate" = some none)
    (nCC5 : PySem.W.findIn K (.ref CC) "gifts" = some none)
    (aMo : PySem.W.nsIn K mainGlobals "MODES" = some (some (.ref aM)))
    (lMo : K.lookup aM = some ⟨.type "tuple", ot0, .seq #[.str "stocks" u3, .str "heads" u4] nn0, ls0⟩)
    {nmE qE : _} {NE bsE snE subE abE colE ddE m0E m1E m2E m3E m5E : _}
    (aEx : PySem.W.nsIn K mainGlobals "BadFact" = some (some (.ref CE)))
    (xE : K.lookup CE = some (excClassObj nmE qE CE NE bsE [.ref CRE, .type "ValueError", .type "Exception", .type "BaseException", .type "object"] true snE subE abE colE ddE m0E m1E m2E m3E m5E "ValueError.__new__"))
    (saEx : PySem.W.findIn K (.ref CE) "__setattr__" = some (some (.builtin "object.__setattr__")))
    (exE : PySem.W.subIn K (.ref CE) (.type "BaseException") = some true)
    (tyE : PySem.W.typeIn K (.ref CE) = some (.type "type"))
    (kcEx : PySem.W.keepIn K (.ref CE) = true)
    (noE : PySem.W.findIn K (.ref CE) "at" = some none)
    (inE : PySem.W.findIn K (.ref CE) "__init__" = some (some (.ref fBadI)))
    (tiE : PySem.W.typeIn K (.ref fBadI) = some (.type "function"))
    (lBadI : K.lookup fBadI = some ⟨ocBadI, odBadI, .func (PySem.W.fnOf "__init__" "BadFact.__init__" (defArgs sBadI) (defBody sBadI) (defScope sBadI) .none kVBadI dcBadI pmBadI anBadI cdBadI ctBadI), slBadI⟩)
    (cBadI : PySem.W.codeIn K cdBadI "BadFact.__init__" = true)
    (kBadI : PySem.W.keepIn K (.ref fBadI) = true)
    {nmI qI : _} {NI bsI snI subI abI colI ddI m0I m1I m2I m3I m5I : _}
    (aIx : PySem.W.nsIn K mainGlobals "Circular" = some (some (.ref CI)))
    (xI : K.lookup CI = some (excClassObj nmI qI CI NI bsI [.ref CRI, .type "ValueError", .type "Exception", .type "BaseException", .type "object"] true snI subI abI colI ddI m0I m1I m2I m3I m5I "ValueError.__new__"))
    (saIx : PySem.W.findIn K (.ref CI) "__setattr__" = some (some (.builtin "object.__setattr__")))
    (exI : PySem.W.subIn K (.ref CI) (.type "BaseException") = some true)
    (tyI : PySem.W.typeIn K (.ref CI) = some (.type "type"))
    (kcIx : PySem.W.keepIn K (.ref CI) = true)
    (noI : PySem.W.findIn K (.ref CI) "name" = some none)
    (inI : PySem.W.findIn K (.ref CI) "__init__" = some (some (.ref fCirI)))
    (tiI : PySem.W.typeIn K (.ref fCirI) = some (.type "function"))
    (lCirI : K.lookup fCirI = some ⟨ocCirI, odCirI, .func (PySem.W.fnOf "__init__" "Circular.__init__" (defArgs sCirI) (defBody sCirI) (defScope sCirI) .none kVCirI dcCirI pmCirI anCirI cdCirI ctCirI), slCirI⟩)
    (cCirI : PySem.W.codeIn K cdCirI "Circular.__init__" = true)
    (kCirI : PySem.W.keepIn K (.ref fCirI) = true)
    {nmR qR : _} {NR bsR snR subR abR colR ddR m0R m1R m2R m3R m5R : _}
    (aRx : PySem.W.nsIn K mainGlobals "BadRules" = some (some (.ref CR)))
    (xR : K.lookup CR = some (excClassObj nmR qR CR NR bsR [.ref CRR, .type "ValueError", .type "Exception", .type "BaseException", .type "object"] true snR subR abR colR ddR m0R m1R m2R m3R m5R "ValueError.__new__"))
    (saRx : PySem.W.findIn K (.ref CR) "__setattr__" = some (some (.builtin "object.__setattr__")))
    (exR : PySem.W.subIn K (.ref CR) (.type "BaseException") = some true)
    (tyR : PySem.W.typeIn K (.ref CR) = some (.type "type"))
    (kcRx : PySem.W.keepIn K (.ref CR) = true)
    (noR : PySem.W.findIn K (.ref CR) "why" = some none)
    (inR : PySem.W.findIn K (.ref CR) "__init__" = some (some (.ref fRulI)))
    (tiR : PySem.W.typeIn K (.ref fRulI) = some (.type "function"))
    (lRulI : K.lookup fRulI = some ⟨ocRulI, odRulI, .func (PySem.W.fnOf "__init__" "BadRules.__init__" (defArgs ZK.sRulI) (defBody ZK.sRulI) (defScope ZK.sRulI) .none kVRulI dcRulI pmRulI anRulI cdRulI ctRulI), slRulI⟩)
    (cRulI : PySem.W.codeIn K cdRulI "BadRules.__init__" = true)
    (kRulI : PySem.W.keepIn K (.ref fRulI) = true)
    {nmW qW : _} {NW bsW snW subW abW colW ddW m0W m1W m2W m3W m5W : _}
    (aWx : PySem.W.nsIn K mainGlobals "BadWill" = some (some (.ref CW)))
    (xW : K.lookup CW = some (excClassObj nmW qW CW NW bsW [.ref CRW, .type "ValueError", .type "Exception", .type "BaseException", .type "object"] true snW subW abW colW ddW m0W m1W m2W m3W m5W "ValueError.__new__"))
    (saWx : PySem.W.findIn K (.ref CW) "__setattr__" = some (some (.builtin "object.__setattr__")))
    (exW : PySem.W.subIn K (.ref CW) (.type "BaseException") = some true)
    (tyW : PySem.W.typeIn K (.ref CW) = some (.type "type"))
    (kcWx : PySem.W.keepIn K (.ref CW) = true)
    (noW : PySem.W.findIn K (.ref CW) "at" = some none)
    (inW : PySem.W.findIn K (.ref CW) "__init__" = some (some (.ref fWilI)))
    (tiW : PySem.W.typeIn K (.ref fWilI) = some (.type "function"))
    (lWilI : K.lookup fWilI = some ⟨ocWilI, odWilI, .func (PySem.W.fnOf "__init__" "BadWill.__init__" (defArgs ZK.sWilI) (defBody ZK.sWilI) (defScope ZK.sWilI) .none kVWilI dcWilI pmWilI anWilI cdWilI ctWilI), slWilI⟩)
    (cWilI : PySem.W.codeIn K cdWilI "BadWill.__init__" = true)
    (kWilI : PySem.W.keepIn K (.ref fWilI) = true)
    {nmX qX : _} {NX bsX snX subX abX colX ddX m0X m1X m2X m3X m5X : _}
    (aXx : PySem.W.nsIn K mainGlobals "BadEstate" = some (some (.ref CX)))
    (xX : K.lookup CX = some (excClassObj nmX qX CX NX bsX [.ref CRX, .type "ValueError", .type "Exception", .type "BaseException", .type "object"] true snX subX abX colX ddX m0X m1X m2X m3X m5X "ValueError.__new__"))
    (saXx : PySem.W.findIn K (.ref CX) "__setattr__" = some (some (.builtin "object.__setattr__")))
    (exX : PySem.W.subIn K (.ref CX) (.type "BaseException") = some true)
    (tyX : PySem.W.typeIn K (.ref CX) = some (.type "type"))
    (kcXx : PySem.W.keepIn K (.ref CX) = true)
    (noX : PySem.W.findIn K (.ref CX) "why" = some none)
    (inX : PySem.W.findIn K (.ref CX) "__init__" = some (some (.ref fEsxI)))
    (tiX : PySem.W.typeIn K (.ref fEsxI) = some (.type "function"))
    (lEsxI : K.lookup fEsxI = some ⟨ocEsxI, odEsxI, .func (PySem.W.fnOf "__init__" "BadEstate.__init__" (defArgs ZK.sEsxI) (defBody ZK.sEsxI) (defScope ZK.sEsxI) .none kVEsxI dcEsxI pmEsxI anEsxI cdEsxI ctEsxI), slEsxI⟩)
    (cEsxI : PySem.W.codeIn K cdEsxI "BadEstate.__init__" = true)
    (kEsxI : PySem.W.keepIn K (.ref fEsxI) = true)
    (vSg : PySem.W.nsIn K mainGlobals "NAME_SIGNS" = some (some (.str signs tSg)))
    (vLn : PySem.W.nsIn K mainGlobals "LONGEST_NAME" = some (some (.int 12 tLn)))
    (vCr : PySem.W.nsIn K mainGlobals "CROWN" = some (some (.str "crown" tCr)))
    (vGr : PySem.W.nsIn K mainGlobals "GREATEST_AMOUNT" = some (some (.int 1000000000 tGr)))
    (vMo : PySem.W.nsIn K mainGlobals "MOST_FACTS" = some (some (.int 120 tMo)))
    (vTw : PySem.W.nsIn K mainGlobals "MOST_PARENTS" = some (some (.int 2 tTw)))
    (vTs : PySem.W.nsIn K mainGlobals "THING_SIGNS" = some (some (.str ZK.tsigns tTs)))
    (vLt : PySem.W.nsIn K mainGlobals "LONGEST_THING" = some (some (.int 12 tLt)))
    (vLi : PySem.W.nsIn K mainGlobals "MOST_LINES" = some (some (.int 60 tLi)))
    (vTk : PySem.W.nsIn K mainGlobals "MOST_TAKERS" = some (some (.int 5 tTk)))
    (vMd : PySem.W.nsIn K mainGlobals "MOST_DAYS" = some (some (.int 1000 tMd)))
    (vMr : PySem.W.nsIn K mainGlobals "MOST_ROWS" = some (some (.int 3 tMr)))
    (vGp : PySem.W.nsIn K mainGlobals "GREATEST_PART" = some (some (.int 1000 tGp)))
    (vTa : PySem.W.nsIn K mainGlobals "TAKES" = some (some (.str "takes" tTa)))
    (vDi : PySem.W.nsIn K mainGlobals "DIVIDES" = some (some (.str "divides" tDi)))
    (vGo : PySem.W.nsIn K mainGlobals "GONE" = some (some (.str "gone" tGo)))
    (vGi : PySem.W.nsIn K mainGlobals "GIFT" = some (some (.str "gift" tGi)))
    (vDe : PySem.W.nsIn K mainGlobals "DESCENT" = some (some (.str "descent" tDe)))
    (vPe : PySem.W.nsIn K mainGlobals "PERSON" = some (some (.str "person" tPe)))
    (vSt : PySem.W.nsIn K mainGlobals "STOCK" = some (some (.str "stock" tSt)))
    (vLa : PySem.W.nsIn K mainGlobals "LAPSE" = some (some (.str "lapse" tLa)))
    (vNr : PySem.W.nsIn K mainGlobals "NO_ROW" = some (some (.int (-1) tNr)))
    (zisinstance : PySem.W.nsIn K mainGlobals "isinstance" = some none)
    (zstr : PySem.W.nsIn K mainGlobals "str" = some none)
    (zint : PySem.W.nsIn K mainGlobals "int" = some none)
    (zbool : PySem.W.nsIn K mainGlobals "bool" = some none)
    (ztuple : PySem.W.nsIn K mainGlobals "tuple" = some none)
    (zlen : PySem.W.nsIn K mainGlobals "len" = some none)
    (zall : PySem.W.nsIn K mainGlobals "all" = some none)
    (zany : PySem.W.nsIn K mainGlobals "any" = some none)
    (zsorted : PySem.W.nsIn K mainGlobals "sorted" = some none)
    (zlist : PySem.W.nsIn K mainGlobals "list" = some none)
    (zenumerate : PySem.W.nsIn K mainGlobals "enumerate" = some none)
    (zabs : PySem.W.nsIn K mainGlobals "abs" = some none)
    (zrange : PySem.W.nsIn K mainGlobals "range" = some none)
    (zmax : PySem.W.nsIn K mainGlobals "max" = some none)
    (zrepr : PySem.W.nsIn K mainGlobals "repr" = some none) :
    ∃ fd : FuncData, (∀ (s : Shared) (v : Value), BindsTo s fd ⟨[v], []⟩ [("script", v)]) ∧ ∀ base : Heap, K.In base → base.Ns mainGlobals mg → FnG l.prog w K mg base CX0 9 fa fd ["script"] (spLaw K) := by
  cases hfa.symm.trans (PySem.W.mg_of X G aLaw)
  have FNam := fun_mk (st := sNam) lNam cNam kNam
  have FAmt := fun_mk (st := sAmt) lAmt cAmt kAmt
  have FFac := fun_mk (st := sFac) lFac cFac kFac
  have FJoi := fun_mk (st := sJoi) lJoi cJoi kJoi
  have FUpt := fun_mk (st := ZK.sUpt) lUpt cUpt kUpt
  have FIPa := fun_mk (st := ZK.sPar) lIPa cIPa kIPa
  have FPas := fun_mk (st := ZK.sPas) lPas cPas kPas
  have FSv := fun_mk (st := sSv) lSv cSv kSv
  have FHds := fun_mk (st := sHds) lHds cHds kHds
  have FPto := fun_mk (st := sPto) lPto cPto kPto
  have FTks := fun_mk (st := sTks) lTks cTks kTks
  have FDiv := fun_mk (st := sDiv) lDiv cDiv kDiv
  have FRow := fun_mk (st := sRow) lRow cRow kRow
  have FNn := fun_mk (st := sNn) lNn cNn kNn
  have FGl := fun_mk (st := sGl) lGl cGl kGl
  have FDl := fun_mk (st := sDl) lDl cDl kDl
  have FMp := fun_mk (st := sMp) lMp cMp kMp
  have FThn := fun_mk (st := ZK.sThn) lThn cThn kThn
  have FThi := fun_mk (st := ZK.sThi) lThi cThi kThi
  have FDeb := fun_mk (st := ZK.sDeb) lDeb cDeb kDeb
  have FAtk := fun_mk (st := ZK.sTks) lAtk cAtk kAtk
  have FGiv := fun_mk (st := ZK.sGiv) lGiv cGiv kGiv
  have FLin := fun_mk (st := ZK.sLin) lLin cLin kLin
  have FTaw := fun_mk (st := ZK.sTaw) lTaw cTaw kTaw
  have FSta := fun_mk (st := ZK.sSta) lSta cSta kSta
  have FCel := fun_mk (st := sCel) lCel cCel kCel
  have FNum := fun_mk (st := sNum) lNum cNum kNum
  have FFee := fun_mk (st := sFee) lFee cFee kFee
  have FTak := fun_mk (st := sTak) lTak cTak kTak
  have FFts := fun_mk (st := sFts) lFts cFts kFts
  have FLru := fun_mk (st := ZK.sLru) lLru cLru kLru
  have FLwi := fun_mk (st := ZK.sLwi) lLwi cLwi kLwi
  have FLes := fun_mk (st := ZK.sLes) lLes cLes kLes
  have FKin := fun_mk (st := sKin) lKin cKin kKin
  have FOnc := fun_mk (st := sOnc) lOnc cOnc kOnc
  have FLch := fun_mk (st := sLch) lLch cLch kLch
  have FLpa := fun_mk (st := sLpa) lLpa cLpa kLpa
  have FLda := fun_mk (st := sLda) lLda cLda kLda
  have FLsu := fun_mk (st := sLsu) lLsu cLsu kLsu
  have FLib := fun_mk (st := sLib) lLib cLib kLib
  have FLsp := fun_mk (st := sLsp) lLsp cLsp kLsp
  have FLst := fun_mk (st := ZK.sLst) lLst cLst kLst
  have FLwo := fun_mk (st := sLwo) lLwo cLwo kLwo
  have FLca := fun_mk (st := sLca) lLca cLca kLca
  have FLl := fun_mk (st := sLl) lLl cLl kLl
  have FLdl := fun_mk (st := sLdl) lLdl cLdl kLdl
  have FLaw := fun_mk (st := sLaw) lLaw cLaw kLaw
  have FFamI := fun_mk (st := sFamI) lFamI cFamI kFamI
  have FCon := fun_mk (st := sCon) lCon cCon kCon
  have FLea := fun_mk (st := sLea) lLea cLea kLea
  have FChi := fun_mk (st := sChi) lChi cChi kChi
  have FPar := fun_mk (st := sPar) lPar cPar kPar
  have FSpo := fun_mk (st := sSpo) lSpo cSpo kSpo
  have FDay := fun_mk (st := sDay) lDay cDay kDay
  have FRen := fun_mk (st := sRen) lRen cRen kRen
  have FAdv := fun_mk (st := sAdv) lAdv cAdv kAdv
  have FRea := fun_mk (st := sRea) lRea cRea kRea
  have FCsv := fun_mk (st := sCsv) lCsv cCsv kCsv
  have FCsp := fun_mk (st := sCsp) lCsp cCsp kCsp
  have FNea := fun_mk (st := sNea) lNea cNea kNea
  have FFst := fun_mk (st := sFst) lFst cFst kFst
  have FBadI := fun_mk (st := sBadI) lBadI cBadI kBadI
  have FCirI := fun_mk (st := sCirI) lCirI cCirI kCirI
  have FRulI := fun_mk (st := ZK.sRulI) lRulI cRulI kRulI
  have FWilI := fun_mk (st := ZK.sWilI) lWilI cWilI kWilI
  have FEsxI := fun_mk (st := ZK.sEsxI) lEsxI cEsxI kEsxI
  have GNam : Fun K "is_name" "is_name" ZK.sNam fNam _ := FNam
  have GAmt : Fun K "is_amount" "is_amount" ZK.sAmt fAmt _ := FAmt
  have GTak : Fun K "_law_take" "_law_take" ZK.sTak fTak _ := FTak
  have bNam := FNam.binds (ps := ["value"]) fun _ _ _ _ _ _ us hl => match us, hl with | [_], _ => rfl
  have bAmt := FAmt.binds (ps := ["value"]) fun _ _ _ _ _ _ us hl => match us, hl with | [_], _ => rfl
  have bFac := FFac.binds (ps := ["fact"]) fun _ _ _ _ _ _ us hl => match us, hl with | [_], _ => rfl
  have bJoi := FJoi.binds (ps := ["names", "name"]) fun _ _ _ _ _ _ us hl => match us, hl with | [_, _], _ => rfl
  have bUpt := FUpt.binds (ps := ["value", "most"]) fun _ _ _ _ _ _ us hl => match us, hl with | [_, _], _ => rfl
  have bIPa := FIPa.binds (ps := ["value"]) fun _ _ _ _ _ _ us hl => match us, hl with | [_], _ => rfl
  have bPas := FPas.binds (ps := ["value", "many"]) fun _ _ _ _ _ _ us hl => match us, hl with | [_, _], _ => rfl
  have bSv := FSv.binds (ps := ["family", "rules", "dead", "name"]) fun _ _ _ _ _ _ us hl => match us, hl with | [_, _, _, _], _ => rfl
  have bHds := FHds.binds (ps := ["family", "rules", "dead", "name"]) fun _ _ _ _ _ _ us hl => match us, hl with | [_, _, _, _], _ => rfl
  have bPto := FPto.binds (ps := ["family", "rules", "dead", "node"]) fun _ _ _ _ _ _ us hl => match us, hl with | [_, _, _, _], _ => rfl
  have bTks := FTks.binds (ps := ["family", "rules", "dead", "node"]) fun _ _ _ _ _ _ us hl => match us, hl with | [_, _, _, _], _ => rfl
  have bDiv := FDiv.binds (ps := ["node", "parts", "kinds"]) fun _ _ _ _ _ _ us hl => match us, hl with | [_, _, _], _ => rfl
  have bRow := FRow.binds (ps := ["family", "rules", "dead", "node"]) fun _ _ _ _ _ _ us hl => match us, hl with | [_, _, _, _], _ => rfl
  have bNn := FNn.binds (ps := ["case", "takers"]) fun _ _ _ _ _ _ us hl => match us, hl with | [_, _], _ => rfl
  have bGl := FGl.binds (ps := ["case", "gift"]) fun _ _ _ _ _ _ us hl => match us, hl with | [_, _], _ => rfl
  have bDl := FDl.binds (ps := ["case"]) fun _ _ _ _ _ _ us hl => match us, hl with | [_], _ => rfl
  have bMp := FMp.binds (ps := ["case"]) fun _ _ _ _ _ _ us hl => match us, hl with | [_], _ => rfl
  have bThn := FThn.binds (ps := ["value"]) fun _ _ _ _ _ _ us hl => match us, hl with | [_], _ => rfl
  have bThi := FThi.binds (ps := ["value"]) fun _ _ _ _ _ _ us hl => match us, hl with | [_], _ => rfl
  have bDeb := FDeb.binds (ps := ["value"]) fun _ _ _ _ _ _ us hl => match us, hl with | [_], _ => rfl
  have bAtk := FAtk.binds (ps := ["value"]) fun _ _ _ _ _ _ us hl => match us, hl with | [_], _ => rfl
  have bGiv := FGiv.binds (ps := ["word", "value"]) fun _ _ _ _ _ _ us hl => match us, hl with | [_, _], _ => rfl
  have bLin := FLin.binds (ps := ["value"]) fun _ _ _ _ _ _ us hl => match us, hl with | [_], _ => rfl
  have bTaw := FTaw.binds (ps := ["line", "gift"]) fun _ _ _ _ _ _ us hl => match us, hl with | [_, _], _ => rfl
  have bSta := FSta.binds (ps := ["will"]) fun _ _ _ _ _ _ us hl => match us, hl with | [_], _ => rfl
  have bCel := FCel.binds (ps := ["script", "k"]) fun _ _ _ _ _ _ us hl => match us, hl with | [_, _], _ => rfl
  have bNum := FNum.binds (ps := ["cell", "many"]) fun _ _ _ _ _ _ us hl => match us, hl with | [_, _], _ => rfl
  have bFee := FFee.binds (ps := ["cell", "many"]) fun _ _ _ _ _ _ us hl => match us, hl with | [_, _], _ => rfl
  have bTak := FTak.binds (ps := ["feed", "limit"]) fun _ _ _ _ _ _ us hl => match us, hl with | [_, _], _ => rfl
  have bFts := FFts.binds (ps := ["cell"]) fun _ _ _ _ _ _ us hl => match us, hl with | [_], _ => rfl
  have bLru := FLru.binds (ps := ["feed"]) fun _ _ _ _ _ _ us hl => match us, hl with | [_], _ => rfl
  have bLwi := FLwi.binds (ps := ["feed", "names"]) fun _ _ _ _ _ _ us hl => match us, hl with | [_, _], _ => rfl
  have bLes := FLes.binds (ps := ["feed"]) fun _ _ _ _ _ _ us hl => match us, hl with | [_], _ => rfl
  have bKin := FKin.binds (ps := ["facts", "at", "name"]) fun _ _ _ _ _ _ us hl => match us, hl with | [_, _, _], _ => rfl
  have bOnc := FOnc.binds (ps := ["names"]) fun _ _ _ _ _ _ us hl => match us, hl with | [_], _ => rfl
  have bLch := FLch.binds (ps := ["facts", "name"]) fun _ _ _ _ _ _ us hl => match us, hl with | [_, _], _ => rfl
  have bLpa := FLpa.binds (ps := ["facts", "name"]) fun _ _ _ _ _ _ us hl => match us, hl with | [_, _], _ => rfl
  have bLda := FLda.binds (ps := ["facts", "name"]) fun _ _ _ _ _ _ us hl => match us, hl with | [_, _], _ => rfl
  have bLsu := FLsu.binds (ps := ["world", "name"]) fun _ _ _ _ _ _ us hl => match us, hl with | [_, _], _ => rfl
  have bLib := FLib.binds (ps := ["facts", "one", "name"]) fun _ _ _ _ _ _ us hl => match us, hl with | [_, _, _], _ => rfl
  have bLsp := FLsp.binds (ps := ["world"]) fun _ _ _ _ _ _ us hl => match us, hl with | [_], _ => rfl
  have bLst := FLst.binds (ps := ["will"]) fun _ _ _ _ _ _ us hl => match us, hl with | [_], _ => rfl
  have bLwo := FLwo.binds (ps := ["script"]) fun _ _ _ _ _ _ us hl => match us, hl with | [_], _ => rfl
  have bLca := FLca.binds (ps := ["world", "facts"]) fun _ _ _ _ _ _ us hl => match us, hl with | [_, _], _ => rfl
  have bLl := FLl.binds (ps := ["world", "case", "gift"]) fun _ _ _ _ _ _ us hl => match us, hl with | [_, _, _], _ => rfl
  have bLdl := FLdl.binds (ps := ["world", "case"]) fun _ _ _ _ _ _ us hl => match us, hl with | [_, _], _ => rfl
  have bFamI := FFamI.binds (ps := ["self", "facts"]) fun _ _ _ _ _ _ us hl => match us, hl with | [_, _], _ => rfl
  have bCon := FCon.binds (ps := ["self", "fact"]) fun _ _ _ _ _ _ us hl => match us, hl with | [_, _], _ => rfl
  have bLea := FLea.binds (ps := ["self", "fact"]) fun _ _ _ _ _ _ us hl => match us, hl with | [_, _], _ => rfl
  have bChi := FChi.binds (ps := ["self", "name"]) fun _ _ _ _ _ _ us hl => match us, hl with | [_, _], _ => rfl
  have bPar := FPar.binds (ps := ["self", "name"]) fun _ _ _ _ _ _ us hl => match us, hl with | [_, _], _ => rfl
  have bSpo := FSpo.binds (ps := ["self", "name"]) fun _ _ _ _ _ _ us hl => match us, hl with | [_, _], _ => rfl
  have bDay := FDay.binds (ps := ["self", "name"]) fun _ _ _ _ _ _ us hl => match us, hl with | [_, _], _ => rfl
  have bRen := FRen.binds (ps := ["self", "name"]) fun _ _ _ _ _ _ us hl => match us, hl with | [_, _], _ => rfl
  have bAdv := FAdv.binds (ps := ["self", "name"]) fun _ _ _ _ _ _ us hl => match us, hl with | [_, _], _ => rfl
  have bRea := FRea.binds (ps := ["self", "name", "wanted"]) fun _ _ _ _ _ _ us hl => match us, hl with | [_, _, _], _ => rfl
  have bCsv := FCsv.binds (ps := ["self", "name"]) fun _ _ _ _ _ _ us hl => match us, hl with | [_, _], _ => rfl
  have bCsp := FCsp.binds (ps := ["self"]) fun _ _ _ _ _ _ us hl => match us, hl with | [_], _ => rfl
  have bNea := FNea.binds (ps := ["self", "name"]) fun _ _ _ _ _ _ us hl => match us, hl with | [_, _], _ => rfl
  have bFst := FFst.binds (ps := ["self", "names"]) fun _ _ _ _ _ _ us hl => match us, hl with | [_, _], _ => rfl
  have bBadI := FBadI.binds (ps := ["self", "at"]) fun _ _ _ _ _ _ us hl => match us, hl with | [_, _], _ => rfl
  have bCirI := FCirI.binds (ps := ["self", "name"]) fun _ _ _ _ _ _ us hl => match us, hl with | [_, _], _ => rfl
  have bRulI := FRulI.binds (ps := ["self", "why"]) fun _ _ _ _ _ _ us hl => match us, hl with | [_, _], _ => rfl
  have bWilI := FWilI.binds (ps := ["self", "at"]) fun _ _ _ _ _ _ us hl => match us, hl with | [_, _], _ => rfl
  have bEsxI := FEsxI.binds (ps := ["self", "why"]) fun _ _ _ _ _ _ us hl => match us, hl with | [_, _], _ => rfl
  have misinstance := PySem.W.mg_none_of X G zisinstance
  have mstr := PySem.W.mg_none_of X G zstr
  have mint := PySem.W.mg_none_of X G zint
  have mbool := PySem.W.mg_none_of X G zbool
  have mtuple := PySem.W.mg_none_of X G ztuple
  have mlen := PySem.W.mg_none_of X G zlen
  have mall := PySem.W.mg_none_of X G zall
  have many := PySem.W.mg_none_of X G zany
  have msorted := PySem.W.mg_none_of X G zsorted
  have mlist := PySem.W.mg_none_of X G zlist
  have menumerate := PySem.W.mg_none_of X G zenumerate
  have mabs := PySem.W.mg_none_of X G zabs
  have mrange := PySem.W.mg_none_of X G zrange
  have mmax := PySem.W.mg_none_of X G zmax
  have mrepr := PySem.W.mg_none_of X G zrepr
  have FBokI : FunD K "__init__" "Rules.__init__" (defArgs ZK.sBokI) (defBody ZK.sBokI) (defScope ZK.sBokI) [] (ZK.kwR aS) fBokI _ := ⟨⟨_, _, _, _, _, _, _, _, _, _, rfl, lBokI, cBokI, .inl ⟨rfl, rfl⟩, .inr ⟨DKB, rfl, fun z hz => by
    simp only [List.mem_cons, List.not_mem_nil, or_false] at hz
    rcases hz with rfl | rfl | rfl | rfl | rfl
    · exact ⟨_, wDKBdays, ⟨_, rfl⟩⟩
    · exact ⟨_, wDKBmode, ⟨_, rfl⟩⟩
    · exact ⟨_, wDKBspouse, rfl⟩
    · exact ⟨_, wDKBrows, ⟨_, rfl⟩⟩
    · exact ⟨_, wDKBsteps_in, rfl⟩⟩⟩, kBokI⟩
  have FEstI : FunD K "__init__" "Estate.__init__" (defArgs ZK.sEstI) (defBody ZK.sEstI) (defScope ZK.sEstI) [] [("things", .ref aT1), ("debts", .ref aT2)] fEstI _ := ⟨⟨_, _, _, _, _, _, _, _, _, _, rfl, lEstI, cEstI, .inl ⟨rfl, rfl⟩, .inr ⟨DKS, rfl, fun z hz => by
    simp only [List.mem_cons, List.not_mem_nil, or_false] at hz
    rcases hz with rfl | rfl
    · exact ⟨_, wDKSthings, rfl⟩
    · exact ⟨_, wDKSdebts, rfl⟩⟩⟩, kEstI⟩
  have FCasI : FunD K "__init__" "Case.__init__" (defArgs sCasI) (defBody sCasI) (defScope sCasI) [] [("will", .ref aT3)] fCasI _ := ⟨⟨_, _, _, _, _, _, _, _, _, _, rfl, lCasI, cCasI, .inl ⟨rfl, rfl⟩, .inr ⟨DKC, rfl, fun z hz => by
    simp only [List.mem_cons, List.not_mem_nil, or_false] at hz
    rcases hz with rfl
    exact ⟨_, wDKCwill, rfl⟩⟩⟩, kCasI⟩
  have hM : ∀ H, SqT K H aM [.str "stocks", .str "heads"] := tup_of (its := [_, _]) lMo rfl rfl (by show (2 : Nat) ≤ 1000; decide) (.cons ⟨_, rfl⟩ (.cons ⟨_, rfl⟩ .nil))
  obtain ⟨_, kR5⟩ := ZK.kb5 FBokI
  obtain ⟨_, kE2⟩ := kbE FEstI
  obtain ⟨_, kC3⟩ := kbC FCasI
  refine ⟨PySem.W.fnOf "law" "law" (defArgs sLaw) (defBody sLaw) (defScope sLaw) .none kVLaw dcLaw pmLaw anLaw cdLaw ctLaw, fun s v => .of_eq rfl, fun base _ _ => ?_⟩
  have T : Txt mg := ⟨⟨tSg, PySem.W.mg_of X G vSg⟩, ⟨tLn, PySem.W.mg_of X G vLn⟩, ⟨tCr, PySem.W.mg_of X G vCr⟩, ⟨tGr, PySem.W.mg_of X G vGr⟩, ⟨tMo, PySem.W.mg_of X G vMo⟩, ⟨tTw, PySem.W.mg_of X G vTw⟩, misinstance, mstr, mint, mbool, mtuple, mlen, mall, msorted, mlist, menumerate⟩
  have T3 : ZK.Txt mg := ⟨⟨tSg, PySem.W.mg_of X G vSg⟩, ⟨tLn, PySem.W.mg_of X G vLn⟩, ⟨tCr, PySem.W.mg_of X G vCr⟩, ⟨tGr, PySem.W.mg_of X G vGr⟩, ⟨tTs, PySem.W.mg_of X G vTs⟩, ⟨tLt, PySem.W.mg_of X G vLt⟩, ⟨tLi, PySem.W.mg_of X G vLi⟩, ⟨tTk, PySem.W.mg_of X G vTk⟩, ⟨tMd, PySem.W.mg_of X G vMd⟩, ⟨tMr, PySem.W.mg_of X G vMr⟩, ⟨tGp, PySem.W.mg_of X G vGp⟩, misinstance, mstr, mint, mbool, mtuple, mlen, mall, msorted, mlist, menumerate⟩
  have D : FT K C := ⟨⟨pgC, hdC, poC, saC⟩, nC1, nC2, nC3, nC4, nC5, nC6, nC7⟩
  have DB : ZK.BT K CB := ⟨⟨pgCB, hdCB, poCB, saCB⟩, nCB1, nCB2, nCB3, nCB4, nCB5⟩
  have DS : ZK.ET K CS := ⟨⟨pgCS, hdCS, poCS, saCS⟩, nCS1, nCS2, nCS3⟩
  have DC : CT K CC := ⟨⟨pgCC, hdCC, poCC, saCC⟩, nCC1, nCC2, nCC3, nCC4, nCC5⟩
  have hNam : Has l.prog w K mg base (CX0) "is_name" ["value"] 1 (spNam) := ⟨_, _, PySem.W.mg_of X G aNam, kNam, bNam, ok_name FNam T⟩
  have hAmt : Has l.prog w K mg base (CX0) "is_amount" ["value"] 1 (spAmt) := ⟨_, _, PySem.W.mg_of X G aAmt, kAmt, bAmt, ok_amount FAmt T⟩
  have hFac : Has l.prog w K mg base (CX0) "is_fact" ["fact"] 2 (spFac) := ⟨_, _, PySem.W.mg_of X G aFac, kFac, bFac, ok_fact FFac T hNam hAmt⟩
  have hJoi : Has l.prog w K mg base (CX0) "_joined" ["names", "name"] 1 (spJoi K) := ⟨_, _, PySem.W.mg_of X G aJoi, kJoi, bJoi, ok_joined FJoi T⟩
  have hChi : HasM l.prog w K mg base CX0 C "children" ["self", "name"] 1 (spLs C fun F k => F.ch k) := ⟨_, _, ⟨aChi, iChi, kChi⟩, bChi, ok_children FChi T D⟩
  have hPar : HasM l.prog w K mg base CX0 C "parents" ["self", "name"] 1 (spLs C fun F k => F.pa k) := ⟨_, _, ⟨aPar, iPar, kPar⟩, bPar, ok_parents FPar T D⟩
  have hDay : HasM l.prog w K mg base CX0 C "day" ["self", "name"] 1 (spVal C dayV) := ⟨_, _, ⟨aDay, iDay, kDay⟩, bDay, ok_day FDay D⟩
  have hRen : HasM l.prog w K mg base CX0 C "has_renounced" ["self", "name"] 1 (spVal C fun F k => .bl (F.rn k)) := ⟨_, _, ⟨aRen, iRen, kRen⟩, bRen, ok_renounced FRen D⟩
  have hAdv : HasM l.prog w K mg base CX0 C "advance" ["self", "name"] 1 (spVal C fun F k => .int ((F.ad k).getD 0)) := ⟨_, _, ⟨aAdv, iAdv, kAdv⟩, bAdv, ok_advance FAdv D⟩
  have hSpo : HasM l.prog w K mg base CX0 C "spouses" ["self", "name"] 1 (spSpo C) := ⟨_, _, ⟨aSpo, iSpo, kSpo⟩, bSpo, ok_spouses FSpo D⟩
  have hRea : HasM l.prog w K mg base CX0 C "reaches" ["self", "name", "wanted"] 2 (spRea C) := ⟨_, _, ⟨aRea, iRea, kRea⟩, bRea, ok_reaches FRea D hChi⟩
  have hCon : HasM l.prog w K mg base CX0 C "_contradicts" ["self", "fact"] 2 (spCon C) := ⟨_, _, ⟨aCon, iCon, kCon⟩, bCon, ok_contra FCon T D hPar⟩
  have hLea : HasM l.prog w K mg base CX0 C "_learn" ["self", "fact"] 2 (spLea C) := ⟨_, _, ⟨aLea, iLea, kLea⟩, bLea, ok_learn FLea D hJoi hPar hChi hAdv⟩
  have xEt : XT l.prog w K mg base "BadFact" "at" CE := ⟨⟨⟨nmE, qE, NE, bsE, _, snE, subE, abE, colE, ddE, m0E, m1E, m2E, m3E, m5E, xE, rfl⟩, saEx, exE, tyE, kcEx⟩, PySem.W.mg_of X G aEx, noE, ⟨_, _, inE, tiE, bBadI, ok_badI FBadI⟩⟩
  have xIt : XT l.prog w K mg base "Circular" "name" CI := ⟨⟨⟨nmI, qI, NI, bsI, _, snI, subI, abI, colI, ddI, m0I, m1I, m2I, m3I, m5I, xI, rfl⟩, saIx, exI, tyI, kcIx⟩, PySem.W.mg_of X G aIx, noI, ⟨_, _, inI, tiI, bCirI, ok_cirI FCirI⟩⟩
  have xRt : ZK.XT l.prog w K mg base "BadRules" "why" CR := ⟨⟨⟨nmR, qR, NR, bsR, _, snR, subR, abR, colR, ddR, m0R, m1R, m2R, m3R, m5R, xR, rfl⟩, saRx, exR, tyR, kcRx⟩, PySem.W.mg_of X G aRx, noR, ⟨_, _, inR, tiR, bRulI, ZK.ok_RulI FRulI⟩⟩
  have xWt : ZK.XT l.prog w K mg base "BadWill" "at" CW := ⟨⟨⟨nmW, qW, NW, bsW, _, snW, subW, abW, colW, ddW, m0W, m1W, m2W, m3W, m5W, xW, rfl⟩, saWx, exW, tyW, kcWx⟩, PySem.W.mg_of X G aWx, noW, ⟨_, _, inW, tiW, bWilI, ZK.ok_WilI FWilI⟩⟩
  have xXt : ZK.XT l.prog w K mg base "BadEstate" "why" CX := ⟨⟨⟨nmX, qX, NX, bsX, _, snX, subX, abX, colX, ddX, m0X, m1X, m2X, m3X, m5X, xX, rfl⟩, saXx, exX, tyX, kcXx⟩, PySem.W.mg_of X G aXx, noX, ⟨_, _, inX, tiX, bEsxI, ZK.ok_EsxI FEsxI⟩⟩
  have GF := ok_famI (P := l.prog) (w := w) (base := base) FFamI T D xEt xIt hFac hCon hLea hRea
  have hNam3 : ZK.Has l.prog w K mg base (CX0) "is_name" ["value"] 1 (ZK.spNam) := ⟨_, _, PySem.W.mg_of X G aNam, kNam, bNam, ZK.ok_name GNam T3⟩
  have hAmt3 : ZK.Has l.prog w K mg base (CX0) "is_amount" ["value"] 1 (ZK.spAmt) := ⟨_, _, PySem.W.mg_of X G aAmt, kAmt, bAmt, ZK.ok_amount GAmt T3⟩
  have hUpt : ZK.Has l.prog w K mg base (CX0) "_is_up_to" ["value", "most"] 2 (ZK.spUpt) := ⟨_, _, PySem.W.mg_of X G aUpt, kUpt, bUpt, ZK.ok_upto FUpt hAmt3⟩
  have hIPa : ZK.Has l.prog w K mg base (CX0) "_is_part" ["value"] 3 (ZK.spIt K ZK.partV) := ⟨_, _, PySem.W.mg_of X G aIPa, kIPa, bIPa, ZK.ok_part FIPa T3 hUpt⟩
  have hPas : ZK.Has l.prog w K mg base (CX0) "_are_parts" ["value", "many"] 4 (ZK.spPas K) := ⟨_, _, PySem.W.mg_of X G aPas, kPas, bPas, ZK.ok_parts FPas T3 hIPa⟩
  have hThn : ZK.Has l.prog w K mg base (CX0) "_is_thing_name" ["value"] 1 (ZK.spTn) := ⟨_, _, PySem.W.mg_of X G aThn, kThn, bThn, ZK.ok_tname FThn T3⟩
  have hThi : ZK.Has l.prog w K mg base (CX0) "_is_thing" ["value"] 2 (ZK.spIt K ZK.thingV) := ⟨_, _, PySem.W.mg_of X G aThi, kThi, bThi, ZK.ok_thing FThi T3 hThn hAmt3⟩
  have hDeb : ZK.Has l.prog w K mg base (CX0) "_is_debt" ["value"] 2 (ZK.spIt K ZK.debtV) := ⟨_, _, PySem.W.mg_of X G aDeb, kDeb, bDeb, ZK.ok_debt FDeb T3 hNam3 hAmt3⟩
  have hAtk : ZK.Has l.prog w K mg base (CX0) "_are_takers" ["value"] 2 (ZK.spTks K) := ⟨_, _, PySem.W.mg_of X G aAtk, kAtk, bAtk, ZK.ok_takers FAtk T3 hNam3⟩
  have hGiv : ZK.Has l.prog w K mg base (CX0) "_is_given" ["word", "value"] 2 (ZK.spGiv) := ⟨_, _, PySem.W.mg_of X G aGiv, kGiv, bGiv, ZK.ok_given FGiv T3 hThn hAmt3⟩
  have hLin : ZK.Has l.prog w K mg base (CX0) "_is_line" ["value"] 3 (ZK.spLin K) := ⟨_, _, PySem.W.mg_of X G aLin, kLin, bLin, ZK.ok_line FLin T3 hAmt3 hGiv hAtk⟩
  have hTaw : ZK.Has l.prog w K mg base (CX0) "_takes_away" ["line", "gift"] 1 (ZK.spTaw K) := ⟨_, _, PySem.W.mg_of X G aTaw, kTaw, bTaw, ZK.ok_away FTaw T3⟩
  have GSta := ZK.ok_standing (P := l.prog) (w := w) (base := base) FSta T3 xWt hLin hTaw
  have GEi := ZK.ok_estI (P := l.prog) (w := w) (base := base) FEstI T3 DS xXt hAmt3 hThi hDeb
  have GRi := ZK.ok_rulI (P := l.prog) (w := w) (base := base) FBokI T3 DB xRt (PySem.W.mg_of X G aMo) hM hUpt hPas
  have TCt : TC mg := ⟨many, mlen⟩
  have GCi := ok_casI (P := l.prog) (w := w) (base := base) (CI := CI) (CW := CW) FCasI TCt D DC xEt (PySem.W.mg_of X G aC) ⟨mkC, aFamI, iFamI, kcC⟩ bFamI GF (PySem.W.mg_of X G aSta) kSta bSta GSta hDay
  have hSv : Has l.prog w K mg base (CX0) "survives_rules" ["family", "rules", "dead", "name"] 2 (spSv C CB) := ⟨_, _, PySem.W.mg_of X G aSv, kSv, bSv, ok_survives FSv D DB hRen hDay⟩
  have hHds : Has l.prog w K mg base (CX0) "_heads" ["family", "rules", "dead", "name"] 4 (spHds C CB hd) := ⟨_, _, PySem.W.mg_of X G aHds, kHds, bHds, (ok_heads FHds ⟨many, msorted⟩ D hSv hChi).mono (by decide)⟩
  have hPto : Has l.prog w K mg base (CX0) "parts_of" ["family", "rules", "dead", "node"] 5 (spPto K C CB hd) := ⟨_, _, PySem.W.mg_of X G aPto, kPto, bPto, ok_parts_of FPto D DB hHds hPar hChi⟩
  have hTks : Has l.prog w K mg base (CX0) "takes" ["family", "rules", "dead", "node"] 5 (spTks K C CB) := ⟨_, _, PySem.W.mg_of X G aTks, kTks, bTks, (ok_takes FTks hSv).mono (by decide)⟩
  have TSt : TS mg := ⟨⟨tGo, PySem.W.mg_of X G vGo⟩, ⟨tDi, PySem.W.mg_of X G vDi⟩, ⟨tTa, PySem.W.mg_of X G vTa⟩, mtuple⟩
  have hDiv : Has l.prog w K mg base (CX0) "_divided_row" ["node", "parts", "kinds"] 5 (spDiv) := ⟨_, _, PySem.W.mg_of X G aDiv, kDiv, bDiv, (ok_div FDiv TSt).mono (by decide)⟩
  have hRow : Has l.prog w K mg base (CX0) "rows_of" ["family", "rules", "dead", "node"] 6 (spRow C CB) := ⟨_, _, PySem.W.mg_of X G aRow, kRow, bRow, ok_rows FRow TSt hTks hPto hDiv⟩
  have hCsv : HasM l.prog w K mg base CX0 CC "survives" ["self", "name"] 3 (spCsv C CB CC) := ⟨_, _, ⟨aCsv, iCsv, kCsv⟩, bCsv, ok_csv FCsv DC hSv⟩
  have hCsp : HasM l.prog w K mg base CX0 CC "spouses" ["self"] 4 (spCsp C CB CC) := ⟨_, _, ⟨aCsp, iCsp, kCsp⟩, bCsp, ok_csp FCsp D DC hSpo hCsv⟩
  have hNea : HasM l.prog w K mg base CX0 CC "is_near" ["self", "name"] 3 (spNea C CB CC) := ⟨_, _, ⟨aNea, iNea, kNea⟩, bNea, ok_near FNea TCt D DC hPar hRea⟩
  have hFst : HasM l.prog w K mg base CX0 CC "first_taker" ["self", "names"] 4 (spFst K C CB CC) := ⟨_, _, ⟨aFst, iFst, kFst⟩, bFst, ok_first FFst DC hCsv⟩
  have TPt : TP mg := ⟨⟨tGi, PySem.W.mg_of X G vGi⟩, ⟨tDe, PySem.W.mg_of X G vDe⟩, ⟨tPe, PySem.W.mg_of X G vPe⟩, ⟨tSt, PySem.W.mg_of X G vSt⟩, ⟨tLa, PySem.W.mg_of X G vLa⟩, ⟨tGo, PySem.W.mg_of X G vGo⟩, ⟨tNr, PySem.W.mg_of X G vNr⟩, mtuple, mrange⟩
  have hNn : Has l.prog w K mg base (CX0) "needs_node" ["case", "takers"] 6 (spNn K C CB CC) := ⟨_, _, PySem.W.mg_of X G aNn, kNn, bNn, (ok_needs FNn DB DC hFst hNea).mono (by decide)⟩
  have hGl : Has l.prog w K mg base (CX0) "_gift_line" ["case", "gift"] 7 (spGl K C CB CC) := ⟨_, _, PySem.W.mg_of X G aGl, kGl, bGl, ok_gl FGl TPt DC hNn hRow hFst⟩
  have hDl : Has l.prog w K mg base (CX0) "_descent_line" ["case"] 7 (spDl C CB CC) := ⟨_, _, PySem.W.mg_of X G aDl, kDl, bDl, ok_dl FDl TPt DB DC hRow⟩
  have hMp : Has l.prog w K mg base (CX0) "make_paper" ["case"] 8 (spMp K C CB CC) := ⟨_, _, PySem.W.mg_of X G aMp, kMp, bMp, ok_paper FMp DC hGl hDl⟩
  have hCel : Has l.prog w K mg base (CX0) "_law_cell" ["script", "k"] 1 (spCel K) := ⟨_, _, PySem.W.mg_of X G aCel, kCel, bCel, ok_cell FCel mlen mint⟩
  have hTak : Has l.prog w K mg base (CX0) "_law_take" ["feed", "limit"] 1 (spTak) := ⟨_, _, PySem.W.mg_of X G aTak, kTak, bTak, ok_take FTak mint mlen⟩
  have hFee : Has l.prog w K mg base (CX0) "_law_feed" ["cell", "many"] 2 (spFee) := ⟨_, _, PySem.W.mg_of X G aFee, kFee, bFee, ok_feed FFee (ok_numbers FNum mabs mint mrange) (PySem.W.mg_of X G aNum) kNum bNum⟩
  have hFts : Has l.prog w K mg base (CX0) "_law_facts" ["cell"] 3 (spFts) := ⟨_, _, PySem.W.mg_of X G aFts, kFts, bFts, ok_facts FFts ⟨mrange, mmax, mstr⟩ hTak hFee⟩
  have hTak3 : ZK.Has l.prog w K mg base (CX0) "_law_take" ["feed", "limit"] 1 (ZK.spTak) := ⟨_, _, PySem.W.mg_of X G aTak, kTak, bTak, ZK.ok_take GTak mint mlen⟩
  have hLru : ZK.Has l.prog w K mg base (CX0) "_law_rules" ["feed"] 2 (ZK.spLru) := ⟨_, _, PySem.W.mg_of X G aLru, kLru, bLru, ZK.ok_lru FLru mrange mtuple hTak3⟩
  have hLwi : ZK.Has l.prog w K mg base (CX0) "_law_will" ["feed", "names"] 2 (ZK.spLwi K) := ⟨_, _, PySem.W.mg_of X G aLwi, kLwi, bLwi, ZK.ok_lwi FLwi mrange mtuple mlen hTak3⟩
  have hLes : ZK.Has l.prog w K mg base (CX0) "_law_estate" ["feed"] 2 (ZK.spLes) := ⟨_, _, PySem.W.mg_of X G aLes, kLes, bLes, ZK.ok_les FLes mrange mtuple hTak3⟩
  have hLst : ZK.Has l.prog w K mg base (CX0) "_law_standing" ["will"] 1 (ZK.spLst K) := ⟨_, _, PySem.W.mg_of X G aLst, kLst, bLst, ZK.ok_lst FLst⟩
  have TKt : TK mg := ⟨mrange, mlen, msorted, mint, mtuple, mlist⟩
  have hKin : Has l.prog w K mg base (CX0) "_law_kin" ["facts", "at", "name"] 1 (spKin) := ⟨_, _, PySem.W.mg_of X G aKin, kKin, bKin, ok_kin FKin TKt⟩
  have hOnc : Has l.prog w K mg base (CX0) "_law_once" ["names"] 1 (spOnf) := ⟨_, _, PySem.W.mg_of X G aOnc, kOnc, bOnc, ok_oncf FOnc⟩
  have hLch : Has l.prog w K mg base (CX0) "_law_children" ["facts", "name"] 2 (spLch) := ⟨_, _, PySem.W.mg_of X G aLch, kLch, bLch, ok_lchildren FLch hKin hOnc⟩
  have hLpa : Has l.prog w K mg base (CX0) "_law_parents" ["facts", "name"] 2 (spLpa) := ⟨_, _, PySem.W.mg_of X G aLpa, kLpa, bLpa, ok_lparents FLpa hKin hOnc⟩
  have hLda : Has l.prog w K mg base (CX0) "_law_days" ["facts", "name"] 1 (spLda) := ⟨_, _, PySem.W.mg_of X G aLda, kLda, bLda, ok_ldays FLda⟩
  have hLsu : Has l.prog w K mg base (CX0) "_law_survives" ["world", "name"] 2 (spLsu) := ⟨_, _, PySem.W.mg_of X G aLsu, kLsu, bLsu, ok_lsu FLsu TKt hLda⟩
  have hLib : Has l.prog w K mg base (CX0) "_law_is_below" ["facts", "one", "name"] 3 (spLib) := ⟨_, _, PySem.W.mg_of X G aLib, kLib, bLib, ok_lib FLib TKt hLch hOnc⟩
  have hLsp : Has l.prog w K mg base (CX0) "_law_spouses" ["world"] 3 (spLsp) := ⟨_, _, PySem.W.mg_of X G aLsp, kLsp, bLsp, ok_lsp FLsp TKt hLsu⟩
  have hLwo : Has l.prog w K mg base (CX0) "_law_world" ["script"] 4 (spLwo K) := ⟨_, _, PySem.W.mg_of X G aLwo, kLwo, bLwo, ok_lwo FLwo hCel hFts hFee hLru hLwi hLes⟩
  have hLca : Has l.prog w K mg base (CX0) "_law_case" ["world", "facts"] 7 (spLca K C CB CC) := ⟨_, _, PySem.W.mg_of X G aLca, kLca, bLca, ok_lca (CR := CR) (CF := CX) FLca (PySem.W.mg_of X G aCB) ⟨mkCB, aBokI, iBokI, kcCB⟩ GRi kR5 (PySem.W.mg_of X G aCS) ⟨mkCS, aEstI, iEstI, kcCS⟩ GEi kE2 (PySem.W.mg_of X G aCC) ⟨mkCC, aCasI, iCasI, kcCC⟩ GCi kC3⟩
  have hLl : Has l.prog w K mg base (CX0) "_law_line" ["world", "case", "gift"] 7 (spLl K C CB CC) := ⟨_, _, PySem.W.mg_of X G aLl, kLl, bLl, ok_ll FLl TKt DC hLsu hLib hLpa hRow⟩
  have hLdl : Has l.prog w K mg base (CX0) "_law_descent_line" ["world", "case"] 7 (spLdl C CB CC) := ⟨_, _, PySem.W.mg_of X G aLdl, kLdl, bLdl, ok_ldl FLdl TKt DC hRow⟩
  exact law_terms FLaw ⟨mrepr, mtuple⟩ D DC hLwo hLca hLsp hLsu hLib hLpa hLl hLdl hMp hCsp hFst hNea hCsv hLst
end ZF
open PySem PySem.W PyProof.Rows
set_option maxRecDepth 100000 in
set_option maxHeartbeats 0 in
theorem PySem.Challenge.cw_parcener_k11_papers_of_cases_holds : PySem.Challenge.rw_parcener_k11_papers_of_cases.Holds := by
  w_on; o_law; k_head; (case hw => w_witness2)
  k_fill
  refine G.walk_ofBG (l := PySem.Challenge.rw_parcener_k11_papers_of_cases) (n := 63) (k := 9) (x := "script") (CX := fun _ => L2.CX0) (sp := fun w => ZF.spLaw _) rfl (by decide) rfl ⟨rfl, by decide, by decide⟩ (fun w h Y => PySem.W.kIn_of Y) ?F (fun _ _ a ns hl hb _ hS => ⟨a, ns, rfl, hS, hl, hb, fun _ => rfl⟩) (fun _ _ _ _ _ h => h)
  case F =>
    intro w mg fa h KX G hmg
    refine' ZF.all_mk KX G hmg ?aNam ?lNam ?cNam ?kNam ?aAmt ?lAmt ?cAmt ?kAmt ?aFac ?lFac ?cFac ?kFac ?aJoi ?lJoi ?cJoi ?kJoi ?aUpt ?lUpt ?cUpt ?kUpt ?aIPa ?lIPa ?cIPa ?kIPa ?aPas ?lPas ?cPas ?kPas ?aSv ?lSv ?cSv ?kSv ?aHds ?lHds ?cHds ?kHds ?aPto ?lPto ?cPto ?kPto ?aTks ?lTks ?cTks ?kTks ?aDiv ?lDiv ?cDiv ?kDiv ?aRow ?lRow ?cRow ?kRow ?aNn ?lNn ?cNn ?kNn ?aGl ?lGl ?cGl ?kGl ?aDl ?lDl ?cDl ?kDl ?aMp ?lMp ?cMp ?kMp ?aThn ?lThn ?cThn ?kThn ?aThi ?lThi ?cThi ?kThi ?aDeb ?lDeb ?cDeb ?kDeb ?aAtk ?lAtk ?cAtk ?kAtk ?aGiv ?lGiv ?cGiv ?kGiv ?aLin ?lLin ?cLin ?kLin ?aTaw ?lTaw ?cTaw ?kTaw ?aSta ?lSta ?cSta ?kSta ?aCel ?lCel ?cCel ?kCel ?aNum ?lNum ?cNum ?kNum ?aFee ?lFee ?cFee ?kFee ?aTak ?lTak ?cTak ?kTak ?aFts ?lFts ?cFts ?kFts ?aLru ?lLru ?cLru ?kLru ?aLwi ?lLwi ?cLwi ?kLwi ?aLes ?lLes ?cLes ?kLes ?aKin ?lKin ?cKin ?kKin ?aOnc ?lOnc ?cOnc ?kOnc ?aLch ?lLch ?cLch ?kLch ?aLpa ?lLpa ?cLpa ?kLpa ?aLda ?lLda ?cLda ?kLda ?aLsu ?lLsu ?cLsu ?kLsu ?aLib ?lLib ?cLib ?kLib ?aLsp ?lLsp ?cLsp ?kLsp ?aLst ?lLst ?cLst ?kLst ?aLwo ?lLwo ?cLwo ?kLwo ?aLca ?lLca ?cLca ?kLca ?aLl ?lLl ?cLl ?kLl ?aLdl ?lLdl ?cLdl ?kLdl ?aLaw ?lLaw ?cLaw ?kLaw ?aC ?aFamI ?iFamI ?lFamI ?cFamI ?kFamI ?aCon ?iCon ?lCon ?cCon ?kCon ?aLea ?iLea ?lLea ?cLea ?kLea ?aChi ?iChi ?lChi ?cChi ?kChi ?aPar ?iPar ?lPar ?cPar ?kPar ?aSpo ?iSpo ?lSpo ?cSpo ?kSpo ?aDay ?iDay ?lDay ?cDay ?kDay ?aRen ?iRen ?lRen ?cRen ?kRen ?aAdv ?iAdv ?lAdv ?cAdv ?kAdv ?aRea ?iRea ?lRea ?cRea ?kRea ?pgC ?hdC ?poC ?saC ?mkC ?kcC ?nC1 ?nC2 ?nC3 ?nC4 ?nC5 ?nC6 ?nC7 ?aCB ?aBokI ?iBokI ?lBokI ?cBokI ?kBokI ?wDKBdays ?wDKBmode ?wDKBspouse ?wDKBrows ?wDKBsteps_in ?pgCB ?hdCB ?poCB ?saCB ?mkCB ?kcCB ?nCB1 ?nCB2 ?nCB3 ?nCB4 ?nCB5 ?aCS ?aEstI ?iEstI ?lEstI ?cEstI ?kEstI ?wDKSthings ?wDKSdebts ?pgCS ?hdCS ?poCS ?saCS ?mkCS ?kcCS ?nCS1 ?nCS2 ?nCS3 ?aCC ?aCasI ?iCasI ?lCasI ?cCasI ?kCasI ?wDKCwill ?aCsv ?iCsv ?lCsv ?cCsv ?kCsv ?aCsp ?iCsp ?lCsp ?cCsp ?kCsp ?aNea ?iNea ?lNea ?cNea ?kNea ?aFst ?iFst ?lFst ?cFst ?kFst ?pgCC ?hdCC ?poCC ?saCC ?mkCC ?kcCC ?nCC1 ?nCC2 ?nCC3 ?nCC4 ?nCC5 ?aMo ?lMo ?aEx ?xE ?saEx ?exE ?tyE ?kcEx ?noE ?inE ?tiE ?lBadI ?cBadI ?kBadI ?aIx ?xI ?saIx ?exI ?tyI ?kcIx ?noI ?inI ?tiI ?lCirI ?cCirI ?kCirI ?aRx ?xR ?saRx ?exR ?tyR ?kcRx ?noR ?inR ?tiR ?lRulI ?cRulI ?kRulI ?aWx ?xW ?saWx ?exW ?tyW ?kcWx ?noW ?inW ?tiW ?lWilI ?cWilI ?kWilI ?aXx ?xX ?saXx ?exX ?tyX ?kcXx ?noX ?inX ?tiX ?lEsxI ?cEsxI ?kEsxI ?vSg ?vLn ?vCr ?vGr ?vMo ?vTw ?vTs ?vLt ?vLi ?vTk ?vMd ?vMr ?vGp ?vTa ?vDi ?vGo ?vGi ?vDe ?vPe ?vSt ?vLa ?vNr ?zisinstance ?zstr ?zint ?zbool ?ztuple ?zlen ?zall ?zany ?zsorted ?zlist ?zenumerate ?zabs ?zrange ?zmax ?zrepr
    (case aNam => k_is)
    (case lNam => k_is)
    (case cNam => k_is)
    (case kNam => k_is)
    (case aAmt => k_is)
    (case lAmt => k_is)
    (case cAmt => k_is)
    (case kAmt => k_is)
    (case aFac => k_is)
    (case lFac => k_is)
    (case cFac => k_is)
    (case kFac => k_is)
    (case aJoi => k_is)
    (case lJoi => k_is)
    (case cJoi => k_is)
    (case kJoi => k_is)
    (case aUpt => k_is)
    (case lUpt => k_is)
    (case cUpt => k_is)
    (case kUpt => k_is)
    (case aIPa => k_is)
    (case lIPa => k_is)
    (case cIPa => k_is)
    (case kIPa => k_is)
    (case aPas => k_is)
    (case lPas => k_is)
    (case cPas => k_is)
    (case kPas => k_is)
    (case aSv => k_is)
    (case lSv => k_is)
    (case cSv => k_is)
    (case kSv => k_is)
    (case aHds => k_is)
    (case lHds => k_is)
    (case cHds => k_is)
    (case kHds => k_is)
    (case aPto => k_is)
    (case lPto => k_is)
    (case cPto => k_is)
    (case kPto => k_is)
    (case aTks => k_is)
    (case lTks => k_is)
    (case cTks => k_is)
    (case kTks => k_is)
    (case aDiv => k_is)
    (case lDiv => k_is)
    (case cDiv => k_is)
    (case kDiv => k_is)
    (case aRow => k_is)
    (case lRow => k_is)
    (case cRow => k_is)
    (case kRow => k_is)
    (case aNn => k_is)
    (case lNn => k_is)
    (case cNn => k_is)
    (case kNn => k_is)
    (case aGl => k_is)
    (case lGl => k_is)
    (case cGl => k_is)
    (case kGl => k_is)
    (case aDl => k_is)
    (case lDl => k_is)
    (case cDl => k_is)
    (case kDl => k_is)
    (case aMp => k_is)
    (case lMp => k_is)
    (case cMp => k_is)
    (case kMp => k_is)
    (case aThn => k_is)
    (case lThn => k_is)
    (case cThn => k_is)
    (case kThn => k_is)
    (case aThi => k_is)
    (case lThi => k_is)
    (case cThi => k_is)
    (case kThi => k_is)
    (case aDeb => k_is)
    (case lDeb => k_is)
    (case cDeb => k_is)
    (case kDeb => k_is)
    (case aAtk => k_is)
    (case lAtk => k_is)
    (case cAtk => k_is)
    (case kAtk => k_is)
    (case aGiv => k_is)
    (case lGiv => k_is)
    (case cGiv => k_is)
    (case kGiv => k_is)
    (case aLin => k_is)
    (case lLin => k_is)
    (case cLin => k_is)
    (case kLin => k_is)
    (case aTaw => k_is)
    (case lTaw => k_is)
    (case cTaw => k_is)
    (case kTaw => k_is)
    (case aSta => k_is)
    (case lSta => k_is)
    (case cSta => k_is)
    (case kSta => k_is)
    (case aCel => k_is)
    (case lCel => k_is)
    (case cCel => k_is)
    (case kCel => k_is)
    (case aNum => k_is)
    (case lNum => k_is)
    (case cNum => k_is)
    (case kNum => k_is)
    (case aFee => k_is)
    (case lFee => k_is)
    (case cFee => k_is)
    (case kFee => k_is)
    (case aTak => k_is)
    (case lTak => k_is)
    (case cTak => k_is)
    (case kTak => k_is)
    (case aFts => k_is)
    (case lFts => k_is)
    (case cFts => k_is)
    (case kFts => k_is)
    (case aLru => k_is)
    (case lLru => k_is)
    (case cLru => k_is)
    (case kLru => k_is)
    (case aLwi => k_is)
    (case lLwi => k_is)
    (case cLwi => k_is)
    (case kLwi => k_is)
    (case aLes => k_is)
    (case lLes => k_is)
    (case cLes => k_is)
    (case kLes => k_is)
    (case aKin => k_is)
    (case lKin => k_is)
    (case cKin => k_is)
    (case kKin => k_is)
    (case aOnc => k_is)
    (case lOnc => k_is)
    (case cOnc => k_is)
    (case kOnc => k_is)
    (case aLch => k_is)
    (case lLch => k_is)
    (case cLch => k_is)
    (case kLch => k_is)
    (case aLpa => k_is)
    (case lLpa => k_is)
    (case cLpa => k_is)
    (case kLpa => k_is)
    (case aLda => k_is)
    (case lLda => k_is)
    (case cLda => k_is)
    (case kLda => k_is)
    (case aLsu => k_is)
    (case lLsu => k_is)
    (case cLsu => k_is)
    (case kLsu => k_is)
    (case aLib => k_is)
    (case lLib => k_is)
    (case cLib => k_is)
    (case kLib => k_is)
    (case aLsp => k_is)
    (case lLsp => k_is)
    (case cLsp => k_is)
    (case kLsp => k_is)
    (case aLst => k_is)
    (case lLst => k_is)
    (case cLst => k_is)
    (case kLst => k_is)
    (case aLwo => k_is)
    (case lLwo => k_is)
    (case cLwo => k_is)
    (case kLwo => k_is)
    (case aLca => k_is)
    (case lLca => k_is)
    (case cLca => k_is)
    (case kLca => k_is)
    (case aLl => k_is)
    (case lLl => k_is)
    (case cLl => k_is)
    (case kLl => k_is)
    (case aLdl => k_is)
    (case lLdl => k_is)
    (case cLdl => k_is)
    (case kLdl => k_is)
    (case aLaw => k_is)
    (case lLaw => k_is)
    (case cLaw => k_is)
    (case kLaw => k_is)
    (case aC => k_is)
    (case aFamI => k_is)
    (case iFamI => k_is)
    (case lFamI => k_is)
    (case cFamI => k_is)
    (case kFamI => k_is)
    (case aCon => k_is)
    (case iCon => k_is)
    (case lCon => k_is)
    (case cCon => k_is)
    (case kCon => k_is)
    (case aLea => k_is)
    (case iLea => k_is)
    (case lLea => k_is)
    (case cLea => k_is)
    (case kLea => k_is)
    (case aChi => k_is)
    (case iChi => k_is)
    (case lChi => k_is)
    (case cChi => k_is)
    (case kChi => k_is)
    (case aPar => k_is)
    (case iPar => k_is)
    (case lPar => k_is)
    (case cPar => k_is)
    (case kPar => k_is)
    (case aSpo => k_is)
    (case iSpo => k_is)
    (case lSpo => k_is)
    (case cSpo => k_is)
    (case kSpo => k_is)
    (case aDay => k_is)
    (case iDay => k_is)
    (case lDay => k_is)
    (case cDay => k_is)
    (case kDay => k_is)
    (case aRen => k_is)
    (case iRen => k_is)
    (case lRen => k_is)
    (case cRen => k_is)
    (case kRen => k_is)
    (case aAdv => k_is)
    (case iAdv => k_is)
    (case lAdv => k_is)
    (case cAdv => k_is)
    (case kAdv => k_is)
    (case aRea => k_is)
    (case iRea => k_is)
    (case lRea => k_is)
    (case cRea => k_is)
    (case kRea => k_is)
    (case pgC => k_is)
    (case hdC => k_is)
    (case poC => k_is)
    (case saC => k_is)
    (case mkC => k_is)
    (case kcC => k_is)
    (case nC1 => k_is)
    (case nC2 => k_is)
    (case nC3 => k_is)
    (case nC4 => k_is)
    (case nC5 => k_is)
    (case nC6 => k_is)
    (case nC7 => k_is)
    (case aCB => k_is)
    (case aBokI => k_is)
    (case iBokI => k_is)
    (case lBokI => k_is)
    (case cBokI => k_is)
    (case kBokI => k_is)
    (case wDKBdays => k_is)
    (case wDKBmode => k_is)
    (case wDKBspouse => k_is)
    (case wDKBrows => k_is)
    (case wDKBsteps_in => k_is)
    (case pgCB => k_is)
    (case hdCB => k_is)
    (case poCB => k_is)
    (case saCB => k_is)
    (case mkCB => k_is)
    (case kcCB => k_is)
    (case nCB1 => k_is)
    (case nCB2 => k_is)
    (case nCB3 => k_is)
    (case nCB4 => k_is)
    (case nCB5 => k_is)
    (case aCS => k_is)
    (case aEstI => k_is)
    (case iEstI => k_is)
    (case lEstI => k_is)
    (case cEstI => k_is)
    (case kEstI => k_is)
    (case wDKSthings => k_is)
    (case wDKSdebts => k_is)
    (case pgCS => k_is)
    (case hdCS => k_is)
    (case poCS => k_is)
    (case saCS => k_is)
    (case mkCS => k_is)
    (case kcCS => k_is)
    (case nCS1 => k_is)
    (case nCS2 => k_is)
    (case nCS3 => k_is)
    (case aCC => k_is)
    (case aCasI => k_is)
    (case iCasI => k_is)
    (case lCasI => k_is)
    (case cCasI => k_is)
    (case kCasI => k_is)
    (case wDKCwill => k_is)
    (case aCsv => k_is)
    (case iCsv => k_is)
    (case lCsv => k_is)
    (case cCsv => k_is)
    (case kCsv => k_is)
    (case aCsp => k_is)
    (case iCsp => k_is)
    (case lCsp => k_is)
    (case cCsp => k_is)
    (case kCsp => k_is)
    (case aNea => k_is)
    (case iNea => k_is)
    (case lNea => k_is)
    (case cNea => k_is)
    (case kNea => k_is)
    (case aFst => k_is)
    (case iFst => k_is)
    (case lFst => k_is)
    (case cFst => k_is)
    (case kFst => k_is)
    (case pgCC => k_is)
    (case hdCC => k_is)
    (case poCC => k_is)
    (case saCC => k_is)
    (case mkCC => k_is)
    (case kcCC => k_is)
    (case nCC1 => k_is)
    (case nCC2 => k_is)
    (case nCC3 => k_is)
    (case nCC4 => k_is)
    (case nCC5 => k_is)
    (case aMo => k_is)
    (case lMo => k_is)
    (case aEx => k_is)
    (case xE => k_is)
    (case saEx => k_is)
    (case exE => k_is)
    (case tyE => k_is)
    (case kcEx => k_is)
    (case noE => k_is)
    (case inE => k_is)
    (case tiE => k_is)
    (case lBadI => k_is)
    (case cBadI => k_is)
    (case kBadI => k_is)
    (case aIx => k_is)
    (case xI => k_is)
    (case saIx => k_is)
    (case exI => k_is)
    (case tyI => k_is)
    (case kcIx => k_is)
    (case noI => k_is)
    (case inI => k_is)
    (case tiI => k_is)
    (case lCirI => k_is)
    (case cCirI => k_is)
    (case kCirI => k_is)
    (case aRx => k_is)
    (case xR => k_is)
    (case saRx => k_is)
    (case exR => k_is)
    (case tyR => k_is)
    (case kcRx => k_is)
    (case noR => k_is)
    (case inR => k_is)
    (case tiR => k_is)
    (case lRulI => k_is)
    (case cRulI => k_is)
    (case kRulI => k_is)
    (case aWx => k_is)
    (case xW => k_is)
    (case saWx => k_is)
    (case exW => k_is)
    (case tyW => k_is)
    (case kcWx => k_is)
    (case noW => k_is)
    (case inW => k_is)
    (case tiW => k_is)
    (case lWilI => k_is)
    (case cWilI => k_is)
    (case kWilI => k_is)
    (case aXx => k_is)
    (case xX => k_is)
    (case saXx => k_is)
    (case exX => k_is)
    (case tyX => k_is)
    (case kcXx => k_is)
    (case noX => k_is)
    (case inX => k_is)
    (case tiX => k_is)
    (case lEsxI => k_is)
    (case cEsxI => k_is)
    (case kEsxI => k_is)
    (case vSg => k_is)
    (case vLn => k_is)
    (case vCr => k_is)
    (case vGr => k_is)
    (case vMo => k_is)
    (case vTw => k_is)
    (case vTs => k_is)
    (case vLt => k_is)
    (case vLi => k_is)
    (case vTk => k_is)
    (case vMd => k_is)
    (case vMr => k_is)
    (case vGp => k_is)
    (case vTa => k_is)
    (case vDi => k_is)
    (case vGo => k_is)
    (case vGi => k_is)
    (case vDe => k_is)
    (case vPe => k_is)
    (case vSt => k_is)
    (case vLa => k_is)
    (case vNr => k_is)
    (case zisinstance => k_is)
    (case zstr => k_is)
    (case zint => k_is)
    (case zbool => k_is)
    (case ztuple => k_is)
    (case zlen => k_is)
    (case zall => k_is)
    (case zany => k_is)
    (case zsorted => k_is)
    (case zlist => k_is)
    (case zenumerate => k_is)
    (case zabs => k_is)
    (case zrange => k_is)
    (case zmax => k_is)
    (case zrepr => k_is)
