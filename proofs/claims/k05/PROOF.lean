import PyProof.Rows.All
import Wide.All
import OpenK.AllK
import Wide.FinOn
import HandS.ForMost
import HandS.Gcd
import HandS.Wide
import HandS.SortOrd
import HandS.DictComp
import HandS.More
import HandS.EndBits
import KE.KMathGC
import KE.KDictList
import KE.KDictSum
import HandS.Walk
import HandS.TupLe
import HandS.NoneIn
import HandS.SortInts
import PySem.Challenge.RW_parcener_k05_levels_of_advances
set_option Elab.async false
set_option maxRecDepth 100000
set_option maxHeartbeats 8000000
namespace K0
open PySem L2 PyProof.Rows
def topS (i : Nat) : Stmt := PySem.Challenge.pw_parcener_k05_levels_of_advances.main.body.getD i (.Pass ⟨0, 0, 0, 0⟩)
abbrev sFra : Stmt := topS 3
abbrev sPlu : Stmt := topS 4
abbrev sMin : Stmt := topS 5
abbrev sTim : Stmt := topS 6
abbrev sLes : Stmt := topS 7
abbrev sLvl : Stmt := topS 9
abbrev sLvs : Stmt := topS 10
abbrev sCel : Stmt := topS 12
abbrev sNum : Stmt := topS 13
abbrev sLaw : Stmt := topS 14
/-! own rules of numbers -/
section
variable {X : Cx}
theorem op_mulG : OpR X (binaryOp .Mult) (rI IntMulOk fun i j => .int (i * j)) := opI fun _ _ _ _ _ _ _ fits go => mul_int go fits
/-- a divisor of either sign -/
def DivG (_ j : Int) : Prop := j ≠ 0 ∧ j.natAbs.log2 < 9000
theorem op_divG : OpR X (binaryOp .FloorDiv) (rI DivG fun i j => .int (i.fdiv j)) := opI fun _ _ _ _ _ _ _ fits go => floordiv_int fits.1 go (.inl (PyProof.noPylong_of_log2 fits.2))
end
/-! small sizes -/
/-- a number of at most k bits -/
structure Bt (k : Nat) (x : Int) : Prop where
  lt : x.natAbs < 2 ^ k
theorem Bt.mono {k m : Nat} {x : Int} (h : Bt k x) (l : k ≤ m) : Bt m x := ⟨Nat.lt_of_lt_of_le h.lt (Nat.pow_le_pow_right (by decide) l)⟩
theorem Bt.mul {k m : Nat} {x y : Int} (h : Bt k x) (g : Bt m y) : Bt (k + m) (x * y) := ⟨wide_lt h.lt g.lt⟩
theorem Bt.neg {k : Nat} {x : Int} (h : Bt k x) : Bt k (-x) := ⟨by rw [Int.natAbs_neg]; exact h.lt⟩
theorem Bt.add {k : Nat} {x y : Int} (h : Bt k x) (g : Bt k y) : Bt (k + 1) (x + y) := ⟨by
  have a := h.lt
  have b := g.lt
  have c := Int.natAbs_add_le x y
  rw [Nat.pow_succ]
  generalize 2 ^ k = z at *
  omega⟩
theorem Bt.sub {k : Nat} {x y : Int} (h : Bt k x) (g : Bt k y) : Bt (k + 1) (x - y) := by
  rw [Int.sub_eq_add_neg]
  exact h.add g.neg
theorem Bt.le {k : Nat} {x y : Int} (h : Bt k y) (l : x.natAbs ≤ y.natAbs) : Bt k x := ⟨Nat.lt_of_le_of_lt l h.lt⟩
theorem Bt.log {k : Nat} {x : Int} (h : Bt k x) (hk : 0 < k) : x.natAbs.log2 < k := PySem.Flt.log2_lt_of hk h.lt
theorem Bt.ok {k m : Nat} {x y : Int} (h : Bt k x) (g : Bt m y) (hk : 0 < k) (hm : 0 < m) (l : k + m ≤ 100000000) : IntMulOk x y := by
  have bits : ∀ z : Int, Builtin.Int.intBits z ≤ z.natAbs.log2 + 1 := fun z => by
    unfold Builtin.Int.intBits
    split <;> omega
  have b1 := bits x
  have b2 := bits y
  have l1 := h.log hk
  have l2 := g.log hm
  have e : bitsLine = 134217728 := by decide
  unfold IntMulOk
  intro z
  have z2 := (Bool.and_eq_true _ _ ▸ z).2
  unfold Builtin.Int.intTooBig at z2
  have z3 := of_decide_eq_true z2
  rw [e] at z3
  omega
theorem Bt.of_bits {k : Nat} {x : Int} (h : Builtin.Int.intBits x ≤ k) : Bt k x := by
  unfold Builtin.Int.intBits at h
  split at h
  · next e =>
    have e' : x = 0 := by simpa using e
    subst e'
    exact ⟨Nat.two_pow_pos _⟩
  · exact ⟨Nat.lt_of_lt_of_le Nat.lt_log2_self (Nat.pow_le_pow_right (by decide) h)⟩
theorem Bt.small {x : Int} (h : -1073741824 < x) (g : x < 1073741824) : Bt 30 x := ⟨by show x.natAbs < 1073741824; omega⟩
/-! fractions are Rat -/
/-- what stands in the tuple of a fraction -/
def fv (q : Rat) : List V := [.int q.num, .int (q.den : Int)]
theorem same_upd {H : Hp} {p : Addr} {o : HO} (h : H p = none) : Same H (upd H p o) := fun b x e => by
  rw [upd_ne (ne_of_none e h)]
  exact e
end K0
namespace K0
/-! Rat: what the tuples hold -/
/-- the greatest common divisor, as an int -/
def gd (t b : Int) : Int := ((Nat.gcd t.natAbs b.natAbs : Nat) : Int)
/-- what `shared` is -/
def sh (t b : Int) : Int := if b < 0 then -(gd t b) else gd t b
theorem gd_pos {t b : Int} (h : b ≠ 0) : 0 < gd t b := by
  have := Nat.gcd_pos_of_pos_right t.natAbs (Int.natAbs_pos.mpr h)
  unfold gd
  omega
theorem gd_le {t b : Int} (h : b ≠ 0) : (gd t b).natAbs ≤ b.natAbs := by
  have g : Nat.gcd t.natAbs b.natAbs ≤ b.natAbs := Nat.le_of_dvd (Int.natAbs_pos.mpr h) (Nat.gcd_dvd_right _ _)
  unfold gd
  omega
theorem gd_sym (t b : Int) : ((b.gcd t : Nat) : Int) = gd t b := by
  show ((Nat.gcd b.natAbs t.natAbs : Nat) : Int) = _
  rw [Nat.gcd_comm]
  rfl
theorem sh_ne {t b : Int} (h : b ≠ 0) : sh t b ≠ 0 := by
  have := gd_pos (t := t) h
  unfold sh
  split <;> omega
theorem sh_abs {t b : Int} (h : b ≠ 0) : (sh t b).natAbs ≤ b.natAbs := by
  have g := gd_le (t := t) h
  unfold sh
  split <;> omega
theorem den_int {t b : Int} (h : b ≠ 0) : ((Rat.divInt t b).den : Int) = (b.natAbs : Int) / gd t b := by
  rw [Rat.den_divInt, if_neg h, Int.natCast_ediv, gd_sym]
theorem low_num {t b : Int} (h : b ≠ 0) : (if b < 0 then -t else t) / gd t b = (Rat.divInt t b).num := by
  rw [Rat.num_divInt, gd_sym]
  by_cases n : b < 0
  · rw [if_pos n, Int.sign_eq_neg_one_of_neg n, Int.neg_one_mul]
  · rw [if_neg n, Int.sign_eq_one_of_pos (by omega), Int.one_mul]
theorem sh_num {t b : Int} (h : b ≠ 0) : t.fdiv (sh t b) = (Rat.divInt t b).num := by
  rw [← low_num h]
  have g0 := gd_pos (t := t) h
  unfold sh
  by_cases n : b < 0
  · rw [if_pos n, if_pos n]
    have e := Int.neg_fdiv_neg (-t) (gd t b)
    rw [Int.neg_neg] at e
    rw [e, Int.fdiv_eq_ediv_of_nonneg _ (by omega)]
  · rw [if_neg n, if_neg n, Int.fdiv_eq_ediv_of_nonneg _ (by omega)]
theorem sh_den {t b : Int} (h : b ≠ 0) : b.fdiv (sh t b) = ((Rat.divInt t b).den : Int) := by
  rw [den_int h]
  have g0 := gd_pos (t := t) h
  unfold sh
  by_cases n : b < 0
  · rw [if_pos n]
    have e := Int.neg_fdiv_neg (-b) (gd t b)
    rw [Int.neg_neg] at e
    rw [e, Int.fdiv_eq_ediv_of_nonneg _ (by omega), show (b.natAbs : Int) = -b by omega]
  · rw [if_neg n, Int.fdiv_eq_ediv_of_nonneg _ (by omega), show (b.natAbs : Int) = b by omega]
theorem rat_self (q : Rat) : Rat.divInt q.num (q.den : Int) = q := Rat.num_divInt_den q
theorem den_ne (q : Rat) : (q.den : Int) ≠ 0 := by
  have := q.den_nz
  omega
theorem den_pos (q : Rat) : 0 < (q.den : Int) := by
  have := q.den_nz
  omega
theorem q_add (p q : Rat) : Rat.divInt (p.num * q.den + q.num * p.den) ((p.den : Int) * q.den) = p + q := by
  rw [← Rat.divInt_add_divInt _ _ (den_ne p) (den_ne q), rat_self, rat_self]
theorem q_sub (p q : Rat) : Rat.divInt (p.num * q.den - q.num * p.den) ((p.den : Int) * q.den) = p - q := by
  rw [← Rat.divInt_sub_divInt _ _ (den_ne p) (den_ne q), rat_self, rat_self]
theorem q_mul (p q : Rat) : Rat.divInt (p.num * q.num) ((p.den : Int) * q.den) = p * q := by
  rw [← Rat.divInt_mul_divInt, rat_self, rat_self]
theorem q_over (p q : Rat) : Rat.divInt (p.num * q.den) ((p.den : Int) * q.num) = p / q := by
  rw [← Rat.divInt_mul_divInt, rat_self, Rat.div_def, Rat.inv_def]
end K0
namespace K0
open PySem L2 PyProof.Rows
section
variable {P : Program} {w : World} {K : PySem.W.Frag} {mg : Str → Option Value} {base : Heap}
theorem scFra : FnScope ["top", "bottom", "shared"] ["top", "bottom"] (defScope sFra) := ⟨rfl, rfl, rfl, by decide +kernel, rfl, by decide +kernel, by decide +kernel⟩
def spFra : Sp := fun vs H Q _ => ∃ t b : Int, vs = [.int t, .int b] ∧ b ≠ 0 ∧ Bt 8999 b ∧ ∀ p, H p = none → Q (.ref p) (upd H p (.tup (fv (Rat.divInt t b))))
theorem ok_fra {f : Addr} {fd : FuncData} (F : Fun K "fraction" "fraction" sFra f fd) (mgGcd : mg "gcd" = some (.builtin "math.gcd")) : FnOk P w K mg base CX0 1 f fd ["top", "bottom"] spFra := by
  refine F.ok scFra (fun vs H Q E h => ?_) (fun cdv A outer s H vs Q E hr h => ?_)
  · obtain ⟨t, b, rfl, _⟩ := h
    rfl
  · obtain ⟨t, b, rfl, hb, hl, go⟩ := h
    refine ⟨_, pss_cons (ps_set (i := 2) scFra.nd rfl (.inl rfl) (pe_callBfun cr_gcd (by rfl) mgGcd (pa_cons (pv 0) (pa_cons (pv 1) pa_nil))))
      (pss_cons (ps_if (pt_cmpR op_lt (pv 1) pe_int (nomark _)) (pss_one (ps_set (i := 2) scFra.nd rfl (.inl rfl) (pe_un un_neg (pv 2)))) pss_nil)
      (pss_one (ps_ret (pe_tup (pa_cons (pe_op op_divG (pv 0) (pv 2)) (pa_cons (pe_op op_divG (pv 1) (pv 2)) pa_nil)))))), ?_⟩
    have hd : ∀ c, c = sh t b → ∀ x, DivG x c := fun c e x => by
      rw [e]
      exact ⟨sh_ne hb, Nat.lt_trans ((hl.le (sh_abs hb)).log (by decide)) (by decide)⟩
    have fin : ∀ c, c = sh t b → ∀ p, H p = none → Q (.ref p) (upd H p (.tup [.int (t.fdiv c), .int (b.fdiv c)])) := fun c e p hp => by
      rw [e, sh_num hb, sh_den hb]
      exact go p hp
    refine ⟨_, rfl, _, rfl, t, b, rfl, _, rfl, _, _, rfl, rfl, _, rfl, ite2 (fun e => ?_) (fun e => ?_)⟩
    · have e' : b < 0 := of_decide_eq_true e
      have es : -((Nat.gcd t.natAbs b.natAbs : Nat) : Int) = sh t b := by
        unfold sh
        rw [if_pos e']
        rfl
      exact ⟨_, rfl, _, rfl, _, rfl, _, rfl, _, _, rfl, rfl, hd _ es _, _, rfl, _, rfl, _, _, rfl, rfl, hd _ es _, (by show 2 ≤ sizeLine; decide), fun p hp => fin _ es p hp⟩
    · have e' : ¬ b < 0 := fun z => e (decide_eq_true z)
      have es : ((Nat.gcd t.natAbs b.natAbs : Nat) : Int) = sh t b := by
        unfold sh
        rw [if_neg e']
        rfl
      exact ⟨_, rfl, _, rfl, _, _, rfl, rfl, hd _ es _, _, rfl, _, rfl, _, _, rfl, rfl, hd _ es _, (by show 2 ≤ sizeLine; decide), fun p hp => fin _ es p hp⟩
end
end K0
namespace K0
open PySem L2 PyProof.Rows
/-- the sizes of a fraction's two numbers -/
structure FSz (q : Rat) : Prop where
  n : ∃ k, 0 < k ∧ k ≤ 40000000 ∧ Bt k q.num
  d : Bt 4000 (q.den : Int)
theorem FSz.nd {p q : Rat} (h : FSz p) (g : FSz q) : IntMulOk p.num (q.den : Int) := by
  obtain ⟨k, k0, k1, b⟩ := h.n
  exact b.ok g.d k0 (by decide) (by omega)
theorem FSz.dn {p q : Rat} (h : FSz p) (g : FSz q) : IntMulOk (p.den : Int) q.num := by
  obtain ⟨k, k0, k1, b⟩ := g.n
  exact h.d.ok b (by decide) k0 (by omega)
theorem FSz.dd {p q : Rat} (h : FSz p) (g : FSz q) : IntMulOk (p.den : Int) (q.den : Int) := h.d.ok g.d (by decide) (by decide) (by decide)
theorem FSz.bd {p q : Rat} (h : FSz p) (g : FSz q) : Bt 8999 ((p.den : Int) * (q.den : Int)) := (h.d.mul g.d).mono (by decide)
theorem FSz.ne (p q : Rat) : (p.den : Int) * (q.den : Int) ≠ 0 := Int.ne_of_gt (Int.mul_pos (den_pos p) (den_pos q))
section
variable {P : Program} {w : World} {K : PySem.W.Frag} {mg : Str → Option Value} {base : Heap}
/-- what plus, minus, times, over promise -/
def spAr (K : PySem.W.Frag) (C : Rat → Rat → Prop) (g : Rat → Rat → Rat) : Sp := fun vs H Q _ => ∃ (a b : Addr) (p q : Rat), vs = [.ref a, .ref b] ∧ SqT K H a (fv p) ∧ SqT K H b (fv q) ∧ C p q ∧ ∀ x, H x = none → Q (.ref x) (upd H x (.tup (fv (g p q))))
/-- what the calls of fraction want of the top -/
structure TFra (P : Program) (w : World) (K : PySem.W.Frag) (mg : Str → Option Value) (base : Heap) : Prop where
  ok : ∃ (f : Addr) (fd : FuncData), mg "fraction" = some (.ref f) ∧ PySem.W.keepIn K (.ref f) = true ∧ Binds K fd ["top", "bottom"] [] ∧ FnOk P w K mg base CX0 1 f fd ["top", "bottom"] spFra
def C2 (p q : Rat) : Prop := FSz p ∧ FSz q ∧ True
def C2m (p q : Rat) : Prop := FSz p ∧ FSz q ∧ IntMulOk p.num q.num
theorem scPlu : FnScope ["one", "two"] ["one", "two"] (defScope sPlu) := ⟨rfl, rfl, rfl, by decide +kernel, rfl, by decide +kernel, by decide +kernel⟩
theorem ok_plus {f : Addr} {fd : FuncData} (F : Fun K "plus" "plus" sPlu f fd) (T : TFra P w K mg base) : FnOk P w K mg base CX0 2 f fd ["one", "two"] (spAr K C2 (fun p q => p + q)) := by
  obtain ⟨fF, fdF, mF, kF, bF, GF⟩ := T.ok
  refine F.ok scPlu (fun vs H Q E h => ?_) (fun cdv A outer s H vs Q E hr h => ?_)
  · obtain ⟨a, b, p, q, rfl, _⟩ := h
    rfl
  · obtain ⟨a, b, p, q, rfl, ha, hb, ⟨hp, hq, hm⟩, go⟩ := h
    refine ⟨_, pss_one (ps_ret (pe_call GF hr (by rfl) mF kF bF .nil pass0 (pa_cons (pe_op op_add (pe_op op_mulG (pe_ix ix_tup (pv 0) pe_int (fun _ _ => rfl)) (pe_ix ix_tup (pv 1) pe_int (fun _ _ => rfl))) (pe_op op_mulG (pe_ix ix_tup (pv 1) pe_int (fun _ _ => rfl)) (pe_ix ix_tup (pv 0) pe_int (fun _ _ => rfl)))) (pa_cons (pe_op op_mulG (pe_ix ix_tup (pv 0) pe_int (fun _ _ => rfl)) (pe_ix ix_tup (pv 1) pe_int (fun _ _ => rfl))) pa_nil)))), ?_⟩
    refine ⟨_, rfl, a, _, 0, _, rfl, rfl, ha, atI_nat (j := 0) rfl, _, rfl, b, _, 1, _, rfl, rfl, hb, atI_nat (j := 1) rfl, _, _, rfl, rfl, (hp.nd hq), _, rfl, b, _, 0, _, rfl, rfl, hb, atI_nat (j := 0) rfl, _, rfl, a, _, 1, _, rfl, rfl, ha, atI_nat (j := 1) rfl, _, _, rfl, rfl, (hq.nd hp), _, _, rfl, rfl, _, rfl, a, _, 1, _, rfl, rfl, ha, atI_nat (j := 1) rfl, _, rfl, b, _, 1, _, rfl, rfl, hb, atI_nat (j := 1) rfl, _, _, rfl, rfl, (hp.dd hq), _, _, rfl, FSz.ne p q, hp.bd hq, fun x hx => ?_⟩
    have z : Q (.ref x) (upd H x (.tup (fv (p + q)))) := go x hx
    rw [← q_add p q] at z
    exact z
theorem scMin : FnScope ["one", "two"] ["one", "two"] (defScope sMin) := ⟨rfl, rfl, rfl, by decide +kernel, rfl, by decide +kernel, by decide +kernel⟩
theorem ok_minus {f : Addr} {fd : FuncData} (F : Fun K "minus" "minus" sMin f fd) (T : TFra P w K mg base) : FnOk P w K mg base CX0 2 f fd ["one", "two"] (spAr K C2 (fun p q => p - q)) := by
  obtain ⟨fF, fdF, mF, kF, bF, GF⟩ := T.ok
  refine F.ok scMin (fun vs H Q E h => ?_) (fun cdv A outer s H vs Q E hr h => ?_)
  · obtain ⟨a, b, p, q, rfl, _⟩ := h
    rfl
  · obtain ⟨a, b, p, q, rfl, ha, hb, ⟨hp, hq, hm⟩, go⟩ := h
    refine ⟨_, pss_one (ps_ret (pe_call GF hr (by rfl) mF kF bF .nil pass0 (pa_cons (pe_op op_sub (pe_op op_mulG (pe_ix ix_tup (pv 0) pe_int (fun _ _ => rfl)) (pe_ix ix_tup (pv 1) pe_int (fun _ _ => rfl))) (pe_op op_mulG (pe_ix ix_tup (pv 1) pe_int (fun _ _ => rfl)) (pe_ix ix_tup (pv 0) pe_int (fun _ _ => rfl)))) (pa_cons (pe_op op_mulG (pe_ix ix_tup (pv 0) pe_int (fun _ _ => rfl)) (pe_ix ix_tup (pv 1) pe_int (fun _ _ => rfl))) pa_nil)))), ?_⟩
    refine ⟨_, rfl, a, _, 0, _, rfl, rfl, ha, atI_nat (j := 0) rfl, _, rfl, b, _, 1, _, rfl, rfl, hb, atI_nat (j := 1) rfl, _, _, rfl, rfl, (hp.nd hq), _, rfl, b, _, 0, _, rfl, rfl, hb, atI_nat (j := 0) rfl, _, rfl, a, _, 1, _, rfl, rfl, ha, atI_nat (j := 1) rfl, _, _, rfl, rfl, (hq.nd hp), _, _, rfl, rfl, _, rfl, a, _, 1, _, rfl, rfl, ha, atI_nat (j := 1) rfl, _, rfl, b, _, 1, _, rfl, rfl, hb, atI_nat (j := 1) rfl, _, _, rfl, rfl, (hp.dd hq), _, _, rfl, FSz.ne p q, hp.bd hq, fun x hx => ?_⟩
    have z : Q (.ref x) (upd H x (.tup (fv (p - q)))) := go x hx
    rw [← q_sub p q] at z
    exact z
theorem scTim : FnScope ["one", "two"] ["one", "two"] (defScope sTim) := ⟨rfl, rfl, rfl, by decide +kernel, rfl, by decide +kernel, by decide +kernel⟩
theorem ok_times {f : Addr} {fd : FuncData} (F : Fun K "times" "times" sTim f fd) (T : TFra P w K mg base) : FnOk P w K mg base CX0 2 f fd ["one", "two"] (spAr K C2m (fun p q => p * q)) := by
  obtain ⟨fF, fdF, mF, kF, bF, GF⟩ := T.ok
  refine F.ok scTim (fun vs H Q E h => ?_) (fun cdv A outer s H vs Q E hr h => ?_)
  · obtain ⟨a, b, p, q, rfl, _⟩ := h
    rfl
  · obtain ⟨a, b, p, q, rfl, ha, hb, ⟨hp, hq, hm⟩, go⟩ := h
    refine ⟨_, pss_one (ps_ret (pe_call GF hr (by rfl) mF kF bF .nil pass0 (pa_cons (pe_op op_mulG (pe_ix ix_tup (pv 0) pe_int (fun _ _ => rfl)) (pe_ix ix_tup (pv 1) pe_int (fun _ _ => rfl))) (pa_cons (pe_op op_mulG (pe_ix ix_tup (pv 0) pe_int (fun _ _ => rfl)) (pe_ix ix_tup (pv 1) pe_int (fun _ _ => rfl))) pa_nil)))), ?_⟩
    refine ⟨_, rfl, a, _, 0, _, rfl, rfl, ha, atI_nat (j := 0) rfl, _, rfl, b, _, 0, _, rfl, rfl, hb, atI_nat (j := 0) rfl, _, _, rfl, rfl, hm, _, rfl, a, _, 1, _, rfl, rfl, ha, atI_nat (j := 1) rfl, _, rfl, b, _, 1, _, rfl, rfl, hb, atI_nat (j := 1) rfl, _, _, rfl, rfl, (hp.dd hq), _, _, rfl, FSz.ne p q, hp.bd hq, fun x hx => ?_⟩
    have z : Q (.ref x) (upd H x (.tup (fv (p * q)))) := go x hx
    rw [← q_mul p q] at z
    exact z
theorem scLes : FnScope ["one", "two"] ["one", "two"] (defScope sLes) := ⟨rfl, rfl, rfl, by decide +kernel, rfl, by decide +kernel, by decide +kernel⟩
def spLes (K : PySem.W.Frag) : Sp := fun vs H Q _ => ∃ (a b : Addr) (p q : Rat), vs = [.ref a, .ref b] ∧ SqT K H a (fv p) ∧ SqT K H b (fv q) ∧ FSz p ∧ FSz q ∧ Q (.bl (decide (p.num * q.den < q.num * p.den))) H
theorem ok_less {f : Addr} {fd : FuncData} (F : Fun K "is_less" "is_less" sLes f fd) : FnOk P w K mg base CX0 1 f fd ["one", "two"] (spLes K) := by
  refine F.ok scLes (fun vs H Q E h => ?_) (fun cdv A outer s H vs Q E hr h => ?_)
  · obtain ⟨a, b, p, q, rfl, _⟩ := h
    rfl
  · obtain ⟨a, b, p, q, rfl, ha, hb, hp, hq, go⟩ := h
    refine ⟨_, pss_one (ps_ret (pe_cmpR op_lt (pe_op op_mulG (pe_ix ix_tup (pv 0) pe_int (fun _ _ => rfl)) (pe_ix ix_tup (pv 1) pe_int (fun _ _ => rfl))) (pe_op op_mulG (pe_ix ix_tup (pv 1) pe_int (fun _ _ => rfl)) (pe_ix ix_tup (pv 0) pe_int (fun _ _ => rfl))) (nomark _))), ?_⟩
    exact ⟨_, rfl, a, _, 0, _, rfl, rfl, ha, atI_nat (j := 0) rfl, _, rfl, b, _, 1, _, rfl, rfl, hb, atI_nat (j := 1) rfl, _, _, rfl, rfl, (hp.nd hq), _, rfl, b, _, 0, _, rfl, rfl, hb, atI_nat (j := 0) rfl, _, rfl, a, _, 1, _, rfl, rfl, ha, atI_nat (j := 1) rfl, _, _, rfl, rfl, (hq.nd hp), _, _, rfl, rfl, go⟩
end
end K0
namespace K0
open PySem L2 PyProof.Rows PySem.Spec SrtO
theorem sameT {K : PySem.W.Frag} {H H' : Hp} {a : Addr} {xs : List V} (e : Same H H') (h : SqT K H a xs) : SqT K H' a xs := by
  rcases h with (h | ⟨o, h⟩) | h
  · exact .inl (.inl (e _ _ h))
  · exact .inl (.inr ⟨o, e _ _ h⟩)
  · exact .inr h
/-- the i-th of the values is the fraction q -/
def FrAt (K : PySem.W.Frag) (H : Hp) (v : V) (q : Rat) : Prop := ∃ t, v = .ref t ∧ SqT K H t (fv q)
theorem FrAt.same {K : PySem.W.Frag} {H H' : Hp} {v : V} {q : Rat} (h : FrAt K H v q) (s : Same H H') : FrAt K H' v q := by
  obtain ⟨t, e, g⟩ := h
  exact ⟨t, e, sameT s g⟩
def FrsAt (K : PySem.W.Frag) (H : Hp) (vs : List V) (qs : List Rat) : Prop := vs.length = qs.length ∧ ∀ (i : Nat) v q, vs[i]? = some v → qs[i]? = some q → FrAt K H v q
/-- a def of the top that stands: its promise kept at a level -/
structure Has (P : Program) (w : World) (K : PySem.W.Frag) (mg : Str → Option Value) (base : Heap) (x : Str) (ps : List Str) (k : Nat) (sp : Sp) : Prop where
  ok : ∃ (f : Addr) (fd : FuncData), mg x = some (.ref f) ∧ PySem.W.keepIn K (.ref f) = true ∧ Binds K fd ps [] ∧ FnOk P w K mg base CX0 k f fd ps sp
theorem den_dvd {t B : Int} (hB : B ≠ 0) : (Rat.divInt t B).den ∣ B.natAbs := by
  rw [Rat.den_divInt, if_neg hB]
  exact Nat.div_dvd_of_dvd (Nat.gcd_dvd_left _ _)
theorem den_le {t B : Int} (hB : B ≠ 0) : (Rat.divInt t B).den ≤ B.natAbs := Nat.le_of_dvd (Int.natAbs_pos.mpr hB) (den_dvd hB)
theorem num_le {t B : Int} (hB : B ≠ 0) : (Rat.divInt t B).num.natAbs ≤ t.natAbs := by
  rw [← low_num hB]
  refine Nat.le_trans (Int.natAbs_ediv_le_natAbs _ _) ?_
  split <;> omega
theorem rising_pw : ∀ (l : List Str) (p : Str), risingS p l = true → (p :: l).Pairwise fun a b => ¬ b.cps.toList < a.cps.toList
  | [], p, _ => List.pairwise_singleton _ _
  | x :: r, p, h => by
    unfold risingS at h
    rw [Bool.and_eq_true, ltCps_eq] at h
    have h1 : ¬ x.cps.toList < p.cps.toList := by
      have := h.1
      simpa using this
    have ih := rising_pw r x h.2
    refine List.pairwise_cons.mpr ⟨fun y hy => ?_, ih⟩
    rcases List.mem_cons.mp hy with e | hy
    · rw [e]
      exact h1
    · have h2 := (List.pairwise_cons.mp ih).1 y hy
      exact List.not_lt.mpr (List.le_trans (List.not_lt.mp h1) (List.not_lt.mp h2))
theorem sortedS_pw {l : List Str} (h : sortedS l = true) : l.Pairwise fun a b => ¬ b.cps.toList < a.cps.toList := by
  cases l with
  | nil => exact .nil
  | cons x r => exact rising_pw r x h
theorem str_ext {a b : Str} (h : a.cps.toList = b.cps.toList) : a = b := by
  cases a
  cases b
  exact congrArg PySem.Str.mk (Array.toList_inj.mp h)
theorem sortedS_one {l m : List Str} (h : sortedS l = true) (g : sortedS m = true) (p : l.Perm m) : l = m :=
  p.eq_of_pairwise (fun a b _ _ h1 h2 => str_ext (List.le_antisymm (List.not_lt.mp h1) (List.not_lt.mp h2))) (sortedS_pw h) (sortedS_pw g)
structure ShAt (K : PySem.W.Frag) (H : Hp) (d : Addr) (kvs : List (Key × V)) (L : List (Str × Rat)) : Prop where
  dk : H d = some (.dK kvs)
  ks : kvs.map (·.1) = L.map fun p => (Sum.inr p.1 : Key)
  vs : FrsAt K H (kvs.map (·.2)) (L.map (·.2))
  nd : (L.map (·.1)).Nodup
theorem ShAt.len {K : PySem.W.Frag} {H : Hp} {d : Addr} {kvs : List (Key × V)} {L : List (Str × Rat)} (S : ShAt K H d kvs L) : kvs.length = L.length := by
  have e := congrArg List.length S.ks
  rwa [List.length_map, List.length_map] at e
theorem valV_nth {kvs : List (Key × V)} (nd : (kvs.map (·.1)).Nodup) {i : Nat} {k : Key} {v : V} (h : kvs[i]? = some (k, v)) : valV kvs k = some v := by
  induction kvs generalizing i with
  | nil => cases h
  | cons p r ih =>
    rw [List.map_cons, List.nodup_cons] at nd
    cases i with
    | zero =>
      have e : p = (k, v) := Option.some.inj h
      rw [e]
      exact valV_pos rfl
    | succ i =>
      have h' : r[i]? = some (k, v) := h
      have ne : ¬ p.1 = k := fun e => nd.1 (by
        rw [e]
        exact List.mem_map.mpr ⟨(k, v), List.mem_of_getElem? h', rfl⟩)
      rw [valV_neg ne]
      exact ih nd.2 h'
theorem ShAt.ndk {K : PySem.W.Frag} {H : Hp} {d : Addr} {kvs : List (Key × V)} {L : List (Str × Rat)} (S : ShAt K H d kvs L) : (kvs.map (·.1)).Nodup := by
  rw [S.ks]
  have e : (L.map fun p => (Sum.inr p.1 : Key)) = (L.map (·.1)).map Sum.inr := by rw [List.map_map]; rfl
  rw [e]
  exact List.pairwise_map.mpr (S.nd.imp fun h z => h (Sum.inr.inj z))
theorem ShAt.at {K : PySem.W.Frag} {H : Hp} {d : Addr} {kvs : List (Key × V)} {L : List (Str × Rat)} (S : ShAt K H d kvs L) {i : Nat} {k : Str} {q : Rat} (h : L[i]? = some (k, q)) :
    ∃ t, kvs[i]? = some (Sum.inr k, .ref t) ∧ valV kvs (Sum.inr k : Key) = some (.ref t) ∧ SqT K H t (fv q) := by
  have hi : i < kvs.length := by
    rw [S.len]
    exact (List.getElem?_eq_some_iff.mp h).1
  have e0 := List.getElem?_eq_getElem hi
  have e1 : (kvs.map (·.1))[i]? = some (Sum.inr k) := by
    rw [S.ks, List.getElem?_map, h]
    rfl
  rw [List.getElem?_map, e0] at e1
  have e2 : (kvs.map (·.2))[i]? = some kvs[i].2 := by
    rw [List.getElem?_map, e0]
    rfl
  have e3 : (L.map (·.2))[i]? = some q := by
    rw [List.getElem?_map, h]
    rfl
  obtain ⟨t, et, ht⟩ := S.vs.2 i _ _ e2 e3
  have e4 : kvs[i] = (Sum.inr k, .ref t) := Prod.ext (Option.some.inj e1) et
  rw [e4] at e0
  exact ⟨t, e0, valV_nth S.ndk e0, ht⟩
/-- the share of a key -/
def vq (L : List (Str × Rat)) (k : Str) : Rat := ((L.find? fun p => decide (p.1 = k)).map (·.2)).getD 0
theorem vq_at {L : List (Str × Rat)} (nd : (L.map (·.1)).Nodup) {i : Nat} {k : Str} {q : Rat} (h : L[i]? = some (k, q)) : vq L k = q := by
  unfold vq
  induction L generalizing i with
  | nil => cases h
  | cons p r ih =>
    rw [List.map_cons, List.nodup_cons] at nd
    cases i with
    | zero =>
      have e : p = (k, q) := Option.some.inj h
      rw [e, List.find?_cons_of_pos (by simp)]
      rfl
    | succ i =>
      have h' : r[i]? = some (k, q) := h
      have ne : ¬ p.1 = k := fun e => nd.1 (by
        rw [e]
        exact List.mem_map.mpr ⟨(k, q), List.mem_of_getElem? h', rfl⟩)
      rw [List.find?_cons_of_neg (by simpa using ne)]
      exact ih nd.2 h'
theorem key_at {L : List (Str × Rat)} {k : Str} (h : k ∈ L.map (·.1)) : ∃ (i : Nat) (q : Rat), L[i]? = some (k, q) := by
  obtain ⟨p, hp, rfl⟩ := List.mem_map.mp h
  obtain ⟨i, hi⟩ := List.mem_iff_getElem?.mp hp
  exact ⟨i, p.2, hi⟩
theorem valV_map {f : Str → V} {k : Str} : ∀ {ys : List Str}, k ∈ ys → valV (ys.map fun y => ((Sum.inr y : Key), f y)) (Sum.inr k : Key) = some (f k)
  | [], h => by cases h
  | y :: r, h => by
    by_cases e : y = k
    · subst e
      exact valV_pos rfl
    · have h2 : k ∈ r := (List.mem_cons.mp h).elim (fun z => absurd z.symm e) id
      rw [List.map_cons, valV_neg (fun z => e (Sum.inr.inj z))]
      exact valV_map h2
/-- a fraction of a numerator of k bits and a denominator of e bits -/
structure Sz (k e : Nat) (q : Rat) : Prop where
  n : Bt k q.num
  d : q.den < 2 ^ e
theorem Sz.fsz {k e : Nat} {q : Rat} (h : Sz k e q) (k0 : 0 < k) (k1 : k ≤ 40000000) (e1 : e ≤ 4000) : FSz q := ⟨⟨k, k0, k1, h.n⟩, Bt.mono (k := e) ⟨by rw [Int.natAbs_natCast]; exact h.d⟩ e1⟩
theorem Sz.mono {k m e : Nat} {q : Rat} (h : Sz k e q) (l : k ≤ m) : Sz m e q := ⟨h.n.mono l, h.d⟩
theorem Sz.div {t B : Int} {k e : Nat} (hB : B ≠ 0) (h : Bt k t) (g : B.natAbs < 2 ^ e) : Sz k e (Rat.divInt t B) := ⟨h.le (num_le hB), Nat.lt_of_le_of_lt (den_le hB) g⟩
theorem Sz.db {k e : Nat} {q : Rat} (h : Sz k e q) : Bt e (q.den : Int) := ⟨by rw [Int.natAbs_natCast]; exact h.d⟩
theorem Sz.add {k e f : Nat} {p q : Rat} (h : Sz k e p) (g : Sz k f q) : Sz (k + e + f + 1) (e + f) (p + q) := by
  rw [← q_add]
  refine Sz.div (FSz.ne p q) ?_ (h.db.mul g.db).lt
  exact ((h.n.mul g.db).mono (by omega)).add ((g.n.mul h.db).mono (by omega))
theorem FSz.zero : FSz 0 := ⟨⟨1, by decide, by decide, ⟨by decide⟩⟩, ⟨by show 1 < 2 ^ 4000; exact Nat.one_lt_two_pow (by decide)⟩⟩
def dig (i : Int) : Str := toString i
theorem len_app (a b : Str) : (a ++ b).length = a.length + b.length := by
  show (a.cps ++ b.cps).size = _
  rw [Array.size_append]
  rfl
theorem cps_app (a b : Str) : (a ++ b).cps.toList = a.cps.toList ++ b.cps.toList := by
  show (a.cps ++ b.cps).toList = _
  rw [Array.toList_append]
theorem sqT_keep {K : PySem.W.Frag} {H H' : Hp} {t d : Addr} {xs : List V} {kvs : List (Key × V)} (h : SqT K H t xs) (hd : H d = some (.dK kvs)) (kp : ∀ b o, H b = some o → b ≠ d → H' b = some o) : SqT K H' t xs := by
  rcases h with (h | ⟨z, h⟩) | h
  · exact .inl (.inl (kp _ _ h (ne_of h hd (by intro e; cases e))))
  · exact .inl (.inr ⟨z, kp _ _ h (ne_of h hd (by intro e; cases e))⟩)
  · exact .inr h
theorem sqT_upd {K : PySem.W.Frag} {H : Hp} {t d : Addr} {xs : List V} {u o : HO} (h : SqT K H t xs) (hd : H d = some u) (h1 : u ≠ .tup xs) (h2 : ∀ z, u ≠ .frz z (.tup xs)) : SqT K (upd H d o) t xs := by
  rcases h with (h | ⟨z, h⟩) | h
  · exact .inl (.inl (by rw [upd_ne (ne_of h hd (fun e => h1 e.symm))]; exact h))
  · exact .inl (.inr ⟨z, by rw [upd_ne (ne_of h hd (fun e => h2 z e.symm))]; exact h⟩)
  · exact .inr h
theorem ShAt.snoc {K : PySem.W.Frag} {H H' : Hp} {d t : Addr} {kvs : List (Key × V)} {L : List (Str × Rat)} {k : Str} {q : Rat} (S : ShAt K H d kvs L) (hk : k ∉ L.map (·.1)) (kp : ∀ b o, H b = some o → b ≠ d → H' b = some o)
    (hd : H' d = some (.dK (putK kvs (Sum.inr k) (.ref t)))) (ht : SqT K H' t (fv q)) : ShAt K H' d (putK kvs (Sum.inr k) (.ref t)) (L ++ [(k, q)]) := by
  have nov : valV kvs (Sum.inr k : Key) = none := by
    cases e : valV kvs (Sum.inr k : Key) with
    | none => rfl
    | some v =>
      have m := valV_in e
      rw [S.ks] at m
      obtain ⟨y, hy, e2⟩ := List.mem_map.mp m
      exact absurd (List.mem_map.mpr ⟨y, hy, Sum.inr.inj e2⟩) hk
  have ep := putK_new (V.ref t) nov
  refine ⟨hd, ?_, ?_, ?_⟩
  · rw [ep, List.map_append, List.map_append, S.ks]
    rfl
  · rw [ep, List.map_append, List.map_append]
    refine ⟨by rw [List.length_append, List.length_append, S.vs.1]; rfl, fun i v r h1 h2 => ?_⟩
    have hl := S.vs.1
    by_cases hi : i < (kvs.map (·.2)).length
    · rw [List.getElem?_append_left hi] at h1
      rw [List.getElem?_append_left (by omega)] at h2
      obtain ⟨t2, e2, g2⟩ := S.vs.2 i v r h1 h2
      exact ⟨t2, e2, sqT_keep g2 S.dk kp⟩
    · have hi0 : i = (kvs.map (·.2)).length := by
        have := (List.getElem?_eq_some_iff.mp h1).1
        rw [List.length_append] at this
        have e1 : (List.map (fun x : Key × V => x.2) [((Sum.inr k : Key), V.ref t)]).length = 1 := rfl
        omega
      rw [List.getElem?_append_right (by omega), hi0, Nat.sub_self] at h1
      rw [List.getElem?_append_right (by omega), hi0, hl, Nat.sub_self] at h2
      have e1 : V.ref t = v := Option.some.inj h1
      have e2 : q = r := Option.some.inj h2
      subst e1 e2
      exact ⟨t, rfl, ht⟩
  · rw [List.map_append]
    refine List.nodup_append.mpr ⟨S.nd, List.pairwise_singleton _ _, fun a ha b hb e => ?_⟩
    rw [List.mem_singleton.mp hb] at e
    have e3 : a = k := e
    exact hk (by rw [← e3]; exact ha)
theorem nat_num {xs : List Int} {i : Nat} (h : i < xs.length) : atI (xs.map V.int) ((i : Nat) : Int) = some (.int xs[i]) := atI_nat (by rw [List.getElem?_map, List.getElem?_eq_getElem h]; rfl)
theorem ok_app {a b : Str} (h : PyData.strOk a = true) (g : PyData.strOk b = true) : PyData.strOk (a ++ b) = true := by
  show (a.cps ++ b.cps).all (· < 0x110000) = true
  rw [Array.all_append]
  exact Bool.and_eq_true_iff.mpr ⟨h, g⟩
theorem lg {x : Int} (h0 : 0 ≤ x) (h1 : x < 1000) : x.natAbs.log2 < 1920 := Nat.lt_trans ((Bt.small (x := x) (by omega) (by omega)).log (by decide)) (by decide)
end K0
namespace K0
open PySem L2 PyProof.Rows PySem.Spec SrtO
theorem kv_snd {kvs : List (Key × V)} {us : List (Key × Value)} (r : KV kvs us) : Vals (kvs.map (·.2)) (us.map (·.2)) := by
  unfold KV at r
  induction r with
  | nil => exact .nil
  | cons one _ ih => exact .cons one.2 ih
theorem ints_at : ∀ {vs : List Value} {is : List Int}, vs.length = is.length → (∀ (j : Nat) v x, vs[j]? = some v → is[j]? = some x → ∃ t, v = Value.int x t) → IntsAre vs is
  | [], [], _, _ => .nil
  | [], x :: is, hl, _ => by cases hl
  | v :: vs, [], hl, _ => by cases hl
  | v :: vs, x :: is, hl, h => by
    obtain ⟨t, rfl⟩ := h 0 v x rfl rfl
    exact .cons x t (ints_at (Nat.succ.inj hl) fun j v y h1 h2 => h (j + 1) v y h1 h2)
/-- sorted(d.values()), the values ints -/
def tSortVals (td : TE) : TE := fun σ H Q => td σ H fun x H1 => ∃ a kvs, ∃ is : List Int, x = V.ref a ∧ H1 a = some (.dK kvs) ∧ kvs.map (·.2) = is.map V.int ∧
  ∀ (ns : List Int) (p : Addr), ns.Perm is → ns.Pairwise (· ≤ ·) → H1 p = none → Q (.ref p) (upd H1 p (.lst (ns.map V.int)))
section
variable {X : Cx} {o : Expr} {p pos apos mpos : Pos} {td : TE}
theorem pe_sortVals (calm : X.calm = true) (hg : Gl X "sorted") (hm : X.mg "sorted" = none) (hd : PE X o td) (hb : attributeBase o "values" X.env (eval o X.env) = eval o X.env := by rfl) (hline : (apos.endLine == mpos.line) = true := by rfl)
    (hst : starEach [Expr.Call (.Attribute o "values" apos) [] [] mpos] X.env = [(false, eval (Expr.Call (.Attribute o "values" apos) [] [] mpos) X.env)] := by rfl) :
    PE X (.Call (.Name "sorted" p) [.Call (.Attribute o "values" apos) [] [] mpos] [] pos) (tSortVals td) := by
  refine ⟨fun pins s σ H Q I h => ?_⟩
  refine wpAny_Call_Name_kw (ld_blt I hg hm (u := .builtin "sorted") (by first | rfl | decide +kernel) ?_ (by first | decide +kernel | decide) (by first | decide +kernel | decide))
  rw [hst]
  refine PySem.callWith_builtin1 (wpAny_Call_method0_late hb hline (thn (hd.run pins s σ H _ I h) fun u s1 ⟨x, H1, I1, rx, d, kvs, is, ex, hd1, hv, go⟩ => ?_))
  subst ex
  obtain rfl : u = Value.ref d := rx
  obtain ⟨hsz, hsys, us, kv, dof⟩ := dk_of I1.hok hd1
  obtain ⟨ep, dat⟩ := dof.dictAt
  obtain ⟨ob, es, ho, ex, hdat, hko, hpr, hnd⟩ := id dat
  refine ⟨"dict", "dict.values", F.plainAttrs_dict, F.slot_dict_values, F.type_dict_values, ⟨ob, ho, ex.1⟩, fun b e => by cases e; exact ⟨ob, ho, ex.2.1⟩, Calls.callWith_builtin rfl (PySem.evalArgs_none ?_)⟩
  refine call_meetsIn F.slot_dict_values ⟨ob, ho, ex.1⟩ F.entry_dict_values (F.args_dict_values_1 _) (meets_dict_values (mixKind X.prog X.w) d hsys) ⟨⟨us, dof⟩, ?_⟩
  have lk : us.length = kvs.length := (Paired.length kv).symm
  have li : kvs.length = is.length := by
    have e1 := congrArg List.length hv
    rwa [List.length_map, List.length_map] at e1
  have S := PySem.W.kdl_values (prog := X.prog) (w := X.w) (knd := mixKind X.prog X.w) (r := s1.heap.objs.size) (d := d) (kvs := us) (ep := ep)
  have okV : (s1.heap.push { cls := .type "dict_values", data := .fields #[.ref d] }).IsValuesView s1.heap.objs.size d ∧ (s1.heap.push { cls := .type "dict_values", data := .fields #[.ref d] }).DictAt (mixKind X.prog X.w) d us ep := ⟨⟨_, Heap.get?_push_size _ rfl, rfl, rfl⟩, dat.push _⟩
  have hz : us.length ≤ sizeLine := by
    rw [lk]
    exact hsz
  refine Calls.call_function_entry PyProof.Rows.kind_sorted PyProof.Rows.plain_sorted PyProof.Rows.entry_sorted (PyProof.Rows.args_sorted1 _) ?_
  unfold Builtin.«sorted»
  refine wpAny_bind (m := checkCount "sorted" 1 1 _) (wpAny_pure ?_)
  refine wpAny_bind (PySem.W.kdu_collect (A := X.A.in1) (s := { s1 with heap := s1.heap.push { cls := .type "dict_values", data := .fields #[.ref d] } }) S (I1.ok.hd calm) okV hz fun h' tk acc keep items => ?_)
  have hal : acc.toList.length = is.length := by rw [Array.length_toList, items.1, lk, li]
  have hI : IntsAre acc.toList is := ints_at hal fun j v x h1 h2 => by
    obtain ⟨k, hk⟩ := items.2 j v (by rw [← Array.getElem?_toList]; exact h1)
    have hx : (us.map (·.2))[j]? = some v := by
      rw [List.getElem?_map, hk]
      rfl
    have rel := kv_snd kv
    rw [hv] at rel
    have hy : (is.map V.int)[j]? = some (V.int x) := by
      rw [List.getElem?_map, h2]
      rfl
    obtain ⟨u, eu, ru⟩ := rel.get hy
    rw [hx] at eu
    cases eu
    exact ru
  have keep1 : ∀ b u, s1.heap.get? b = some u → h'.get? b = some u := fun b u e => keep b u (Heap.get?_push_of_some _ e)
  have I2 : Inv X pins σ H1 { s1 with heap := h', toks := tk } := I1.kept keep1
  refine wpAny_bind (wpAny_newList ?_ (by rw [hal, ← li, ← lk]; exact hz))
  have there : (h'.push (seqObj "list" acc.toList.toArray 0)).get? h'.objs.size = some (seqObj "list" acc.toList.toArray 0) := Heap.get?_push_size _ rfl
  show wpAny _ _ _ _ _ { s1 with heap := h'.push (seqObj "list" acc.toList.toArray 0), toks := tk }
  refine wpAny_bind (wpAny_holding (wpAny_call_entry PyProof.Rows.slot_list_sort ⟨_, there, rfl⟩ PyProof.Rows.entry_list_sort
    (list_sort_ord (s := { s1 with heap := h'.push (seqObj "list" acc.toList.toArray 0), toks := tk }) swo_int there (by rw [hal, ← li, ← lk]; exact hz) (fun h2 => ints_sortable hI h2) fun out h1 h2 => ⟨_, rfl, ?_⟩) (PyProof.Rows.args_list_sort _)))
  obtain ⟨k1, k2, k3⟩ := ints_out hI h1 h2
  obtain ⟨e', he'⟩ := PyProof.Rows.sortedHeap_at (vs := acc.toList) (out := out.toArray) there
  refine wpAny_pure ⟨_, rfl, .ref h'.objs.size, upd H1 h'.objs.size (.lst ((out.map iv).map V.int)), I2.laid (t' := tk) (fun b u e => ?_) (Nat.le_refl _) ⟨?_, out, e', vals_of_ints k1, he'⟩, rfl, go _ _ k2 k3 (I2.hok.fresh (Nat.le_refl _))⟩
  · have hb : b < h'.objs.size := Heap.lt_size e
    rw [PyProof.Rows.sortedHeap_old (Nat.ne_of_lt hb) (by rw [size_push']; exact Nat.lt_succ_of_lt hb)]
    exact Heap.get?_push_of_some _ e
  · rw [List.length_map, k2.length_eq, ← li]
    exact hsz
end
/-! != of two dicts that hold the same ints -/
def rNeIn : R2 := fun x y H Q => ∃ a b kvs, x = .ref a ∧ y = .ref b ∧ H a = some (.dK kvs) ∧ H b = some (.dK kvs) ∧ (kvs.map (·.1)).Nodup ∧ (∀ p ∈ kvs, ∃ t, p.2 = .int t) ∧ Q (.bl false) H
theorem hitsInt {A : Around} {s : Shared} {ls : List (Key × V)} {vb : List (Key × Value)} (rb : KV ls vb) {ks : List (Key × V)} {va : List (Key × Value)} (ra : KV ks va) :
    (∀ p ∈ ks, valV ls p.1 = some p.2 ∧ ∃ t, p.2 = .int t) → PySem.W.KeqHits A s vb va true := by
  unfold KV at ra
  induction ra with
  | nil => exact fun _ => .nil
  | @cons p q ps qs one _ ih =>
    intro hp
    obtain ⟨e, t, et⟩ := hp p List.mem_cons_self
    have rel : RelO (some p.2) (valueAt vb p.1) := by
      rw [← e]
      exact rb.val p.1
    obtain ⟨y, hy, ry⟩ := rel.some_of
    obtain ⟨k, v⟩ := q
    rw [show p.1 = k from one.1] at hy
    have r2 : RelV p.2 v := one.2
    rw [et] at ry r2
    obtain ⟨t1, rfl⟩ : ∃ t1, v = Value.int t t1 := r2
    obtain ⟨t2, rfl⟩ : ∃ t2, y = Value.int t t2 := ry
    have h1 := SeqAt.EqAt.int_int (A := A) (s := s) t t1 t t2
    rw [show (t == t) = true from by simp] at h1
    show PySem.W.KeqHits A s vb ((k, _) :: qs) (true && true)
    exact .hit hy h1 (ih fun p' hm => hp p' (List.mem_cons_of_mem _ hm))
theorem op_neIn {X : Cx} (hu : X.A.units < cLine) : OpR X (compareOp .NotEq) rNeIn := by
  intro pins s σ H x y v u Q I rx ry h
  obtain ⟨a, b, kvs, rfl, rfl, ea, eb, nd, rf, go⟩ := h
  obtain rfl : v = Value.ref a := rx
  obtain rfl : u = Value.ref b := ry
  obtain ⟨_, ya, va, ra, da⟩ := (show ObjOk X.prog X.w H s.heap a (.dK kvs) from I.hok a _ ea)
  obtain ⟨_, yb, vb, rb, db⟩ := (show ObjOk X.prog X.w H s.heap b (.dK kvs) from I.hok b _ eb)
  exact PySem.W.keq_ne (knd := mixKind X.prog X.w) (r := true) ya yb da db hu (fun _ => hitsInt rb ra fun p hp => ⟨val_nodup nd p hp, rf p hp⟩) (fin_bl I go (by simp [ra.length.symm.trans rb.length]))
end K0
namespace K0
/-- what one has of a level -/
def por (L : Rat) (a : Int) : Rat := if (a : Rat) < L then L - a else 0
theorem por_nn (L : Rat) (a : Int) : 0 ≤ por L a := by
  unfold por
  split <;> grind
def rsum (l : List Rat) : Rat := l.foldr (· + ·) 0
theorem rsum_cons (x : Rat) (l : List Rat) : rsum (x :: l) = x + rsum l := rfl
theorem rsum_app (l m : List Rat) : rsum (l ++ m) = rsum l + rsum m := by
  induction l with
  | nil => show rsum m = 0 + rsum m; grind
  | cons x l ih => rw [List.cons_append, rsum_cons, rsum_cons, ih]; grind
theorem rsum_perm {l m : List Rat} (p : l.Perm m) : rsum l = rsum m := by
  induction p with
  | nil => rfl
  | cons x _ ih => rw [rsum_cons, rsum_cons, ih]
  | swap x y l => rw [rsum_cons, rsum_cons, rsum_cons, rsum_cons]; grind
  | trans _ _ h1 h2 => exact h1.trans h2
/-- one level for all -/
structure Lev (q : Rat) (ns : List Int) (L : Rat) : Prop where
  ok : ∃ A B, ns = A ++ B ∧ A ≠ [] ∧ (∀ a ∈ A, (a : Rat) ≤ L) ∧ (∀ b ∈ B, L ≤ (b : Rat)) ∧ L * (A.length : Int) = q + (A.sum : Int)
theorem por_low {L : Rat} : ∀ {A : List Int}, (∀ a ∈ A, (a : Rat) ≤ L) → rsum (A.map (por L)) = L * (A.length : Int) - (A.sum : Int)
  | [], _ => by show (0 : Rat) = L * ((0 : Int) : Rat) - ((0 : Int) : Rat); grind
  | a :: A, h => by
    have ih := por_low (A := A) fun x hx => h x (List.mem_cons_of_mem _ hx)
    have ha := h a List.mem_cons_self
    have e : por L a = L - a := by
      unfold por
      split <;> grind
    rw [List.map_cons, rsum_cons, ih, e, List.length_cons, List.sum_cons, Int.natCast_add, Rat.intCast_add, Rat.intCast_add]
    grind
theorem por_high {L : Rat} : ∀ {B : List Int}, (∀ b ∈ B, L ≤ (b : Rat)) → rsum (B.map (por L)) = 0
  | [], _ => rfl
  | b :: B, h => by
    have ih := por_high (B := B) fun x hx => h x (List.mem_cons_of_mem _ hx)
    have hb := h b List.mem_cons_self
    have e : por L b = 0 := by
      unfold por
      split <;> grind
    rw [List.map_cons, rsum_cons, ih, e]
    grind
theorem Lev.sum {q : Rat} {ns : List Int} {L : Rat} (h : Lev q ns L) : rsum (ns.map (por L)) = q := by
  obtain ⟨A, B, rfl, _, h1, h2, e⟩ := h
  rw [List.map_append, rsum_app, por_low h1, por_high h2]
  grind
theorem lv_le {n L m k s : Rat} (k1 : k = m + 1) (m0 : 0 < m) (k0 : 0 < k) (lt : n < L) (e : s = L * m + n) : n ≤ s * (1 / k) := by
  have ik : (0 : Rat) ≤ 1 / k := by
    rw [Rat.div_def, Rat.one_mul]
    exact Rat.le_of_lt (Rat.inv_pos.mpr k0)
  have z : n * k ≤ s := by
    have := Rat.mul_le_mul_of_nonneg_right (Rat.le_of_lt lt) (Rat.le_of_lt m0)
    rw [k1, e, Rat.mul_add, Rat.mul_one]
    exact Rat.add_le_add_right.mpr this
  have h := Rat.mul_le_mul_of_nonneg_right z ik
  have kk : k * (1 / k) = 1 := by
    rw [Rat.div_def, Rat.one_mul, Rat.mul_inv_cancel]
    grind
  rw [Rat.mul_assoc, kk, Rat.mul_one] at h
  exact h
theorem lv_eq {s k : Rat} (k0 : 0 < k) : s * (1 / k) * k = s := by
  have kk : 1 / k * k = 1 := by
    rw [Rat.div_def, Rat.one_mul, Rat.inv_mul_cancel]
    grind
  rw [Rat.mul_assoc, kk, Rat.mul_one]
/-- ahead of turn i: the level of the first i + 1 -/
structure LvI (q : Rat) (ns : List Int) (i : Nat) (L : Rat) : Prop where
  le : i + 1 ≤ ns.length
  lo : ∀ a ∈ ns.take (i + 1), (a : Rat) ≤ L
  eq : L * ((i + 1 : Nat) : Int) = q + ((ns.take (i + 1)).sum : Int)
theorem take_len {ns : List Int} {i : Nat} (h : i + 1 ≤ ns.length) : (ns.take (i + 1)).length = i + 1 := by
  rw [List.length_take]
  omega
theorem LvI.done {q : Rat} {ns : List Int} {i : Nat} {L : Rat} (h : LvI q ns i L) (hi : ∀ b ∈ ns.drop (i + 1), L ≤ (b : Rat)) : Lev q ns L := by
  refine ⟨ns.take (i + 1), ns.drop (i + 1), (List.take_append_drop _ _).symm, fun z => ?_, h.lo, hi, ?_⟩
  · have := congrArg List.length z
    rw [take_len h.le] at this
    cases this
  · rw [take_len h.le]
    exact h.eq
theorem LvI.start {q : Rat} {ns : List Int} {n : Int} (h : ns[0]? = some n) (q0 : 0 ≤ q) : LvI q ns 0 (q + n) := by
  cases ns with
  | nil => cases h
  | cons x r =>
    have e : x = n := Option.some.inj h
    subst e
    refine ⟨by simp, fun a ha => ?_, ?_⟩
    · rw [List.take_succ_cons, List.take_zero] at ha
      rw [List.mem_singleton.mp ha]
      grind
    · rw [List.take_succ_cons, List.take_zero, List.sum_cons, List.sum_nil, Int.add_zero]
      show (q + x) * ((1 : Int) : Rat) = q + x
      grind
theorem LvI.next {q : Rat} {ns : List Int} {i : Nat} {L : Rat} {n : Int} (h : LvI q ns i L) (hn : ns[i + 1]? = some n) (pw : ns.Pairwise (· ≤ ·)) (lt : (n : Rat) < L) :
    LvI q ns (i + 1) ((q + ((ns.take (i + 1)).sum + n : Int)) * ((1 : Rat) / ((i + 1 + 1 : Nat) : Int))) := by
  have hl : i + 1 < ns.length := (List.getElem?_eq_some_iff.mp hn).1
  have et : ns.take (i + 1 + 1) = ns.take (i + 1) ++ [n] := by
    rw [List.take_add_one, hn]
    rfl
  have es : (ns.take (i + 1 + 1)).sum = (ns.take (i + 1)).sum + n := by
    rw [et, List.sum_append]
    simp
  have e := h.eq
  have le_n : ∀ a ∈ ns.take (i + 1 + 1), a ≤ n := fun a ha => by
    obtain ⟨j, hj⟩ := List.mem_iff_getElem?.mp ha
    have hj2 : j < i + 1 + 1 := by
      have := (List.getElem?_eq_some_iff.mp hj).1
      rw [List.length_take] at this
      omega
    rw [List.getElem?_take_of_lt hj2] at hj
    have jl := (List.getElem?_eq_some_iff.mp hj).1
    rcases Nat.lt_or_ge j (i + 1) with g | g
    · have := (List.pairwise_iff_getElem.mp pw) j (i + 1) jl hl g
      rw [(List.getElem?_eq_some_iff.mp hj).2, (List.getElem?_eq_some_iff.mp hn).2] at this
      exact this
    · have : j = i + 1 := by omega
      rw [this, hn] at hj
      cases hj
      exact Int.le_refl _
  have k0 : (0 : Rat) < ((i + 1 + 1 : Nat) : Int) := by exact_mod_cast (show (0 : Int) < ((i + 1 + 1 : Nat) : Int) by omega)
  have k1 : ((i + 1 + 1 : Nat) : Int) = ((((i + 1 : Nat) : Int) : Rat) + 1) := by
    rw [Int.natCast_add, Rat.intCast_add]
    rfl
  have i0 : (0 : Rat) < ((i + 1 : Nat) : Int) := by exact_mod_cast (show (0 : Int) < ((i + 1 : Nat) : Int) by omega)
  refine ⟨hl, fun a ha => ?_, ?_⟩
  · exact Rat.le_trans (by exact_mod_cast le_n a ha) (lv_le k1 i0 k0 lt (by rw [Rat.intCast_add, e]; grind))
  · rw [es]
    exact lv_eq k0
theorem Lev.pair {L : Rat} {a b : Int} (h : 0 < por L a) (g : 0 < por L b) : por L a + a = por L b + b := by
  unfold por at *
  grind
theorem Lev.none {L : Rat} {a b : Int} (h : 0 < por L a) (g : por L b = 0) : por L a + a ≤ por L b + b := by
  unfold por at *
  grind
end K0
namespace K0
theorem q_den (r : Rat) : r * (r.den : Int) = (r.num : Int) := by
  have d0 : ((r.den : Int) : Rat) ≠ 0 := by
    have := r.den_nz
    exact_mod_cast this
  have e : r = (r.num : Rat) / ((r.den : Int) : Rat) := by
    rw [← Rat.divInt_eq_div, Rat.num_divInt_den]
  generalize (r.num : Rat) = n at *
  generalize ((r.den : Int) : Rat) = d at *
  rw [e, Rat.div_def, Rat.mul_assoc, Rat.inv_mul_cancel _ d0, Rat.mul_one]
theorem ex_div {r : Rat} {S : Int} (h : (r.den : Int) ∣ S) : (((r.num * S).fdiv (r.den : Int) : Int) : Rat) = r * S := by
  obtain ⟨e, rfl⟩ := h
  have d0 : (r.den : Int) ≠ 0 := by
    have := r.den_nz
    omega
  have e1 : r.num * ((r.den : Int) * e) = (r.num * e) * (r.den : Int) := by
    rw [Int.mul_comm (r.den : Int), Int.mul_assoc]
  rw [e1, Int.mul_fdiv_cancel _ d0, Rat.intCast_mul, Rat.intCast_mul, ← q_den]
  grind
theorem ex_sum {S : Int} : ∀ {rs : List Rat}, (∀ r ∈ rs, (r.den : Int) ∣ S) → (((rs.map fun r => (r.num * S).fdiv (r.den : Int)).sum : Int) : Rat) = rsum rs * S
  | [], _ => by
    show ((0 : Int) : Rat) = 0 * _
    grind
  | r :: rs, h => by
    have ih := ex_sum (rs := rs) fun x hx => h x (List.mem_cons_of_mem _ hx)
    have h1 := ex_div (h r List.mem_cons_self)
    rw [List.map_cons, List.sum_cons, Rat.intCast_add, ih, h1, rsum_cons]
    grind
/-- the product of the second numbers -/
def dprod (rs : List Rat) : Int := rs.foldl (fun s r => s * (r.den : Int)) 1
theorem dprod_snoc (rs : List Rat) (r : Rat) : dprod (rs ++ [r]) = dprod rs * (r.den : Int) := by
  unfold dprod
  rw [List.foldl_append]
  rfl
theorem dprod_dvd {rs : List Rat} : ∀ r ∈ rs, (r.den : Int) ∣ dprod rs := by
  have h : ∀ (n : Nat) (rs : List Rat), rs.length = n → ∀ r ∈ rs, (r.den : Int) ∣ dprod rs := by
    intro n
    induction n with
    | zero =>
      intro rs e r hr
      rw [List.length_eq_zero_iff.mp e] at hr
      cases hr
    | succ n ih =>
      intro rs e r hr
      have ne : rs ≠ [] := fun z => by
        rw [z] at e
        cases e
      have e2 := List.dropLast_concat_getLast ne
      rw [← e2] at hr ⊢
      rw [dprod_snoc]
      rcases List.mem_append.mp hr with m | m
      · exact Int.dvd_trans (ih _ (by rw [List.length_dropLast]; omega) r m) (Int.dvd_mul_right _ _)
      · rw [List.mem_singleton.mp m]
        exact Int.dvd_mul_left _ _
  exact h _ rs rfl
theorem divInt_mul {t b : Int} (hb : b ≠ 0) : Rat.divInt t b * (b : Rat) = (t : Rat) := by
  have b0 : (b : Rat) ≠ 0 := by exact_mod_cast hb
  rw [Rat.divInt_eq_div, Rat.div_def, Rat.mul_assoc, Rat.inv_mul_cancel _ b0, Rat.mul_one]
theorem all_given {rs : List Rat} {t b : Int} (hb : b ≠ 0) (h : rsum rs = Rat.divInt t b) :
    (rs.map fun r => (r.num * (dprod rs * b)).fdiv (r.den : Int)).sum * b = t * (dprod rs * b) := by
  have e := ex_sum (S := dprod rs * b) (rs := rs) fun r hr => Int.dvd_trans (dprod_dvd r hr) (Int.dvd_mul_right _ _)
  have e2 : (((rs.map fun r => (r.num * (dprod rs * b)).fdiv (r.den : Int)).sum * b : Int) : Rat) = ((t * (dprod rs * b) : Int) : Rat) := by
    rw [Rat.intCast_mul, Rat.intCast_mul, e, h]
    have := divInt_mul (t := t) hb
    grind
  exact_mod_cast e2
theorem cross (r s : Rat) (a : Int) : ((r.num * (s.den : Int) + a * (r.den : Int) * (s.den : Int) : Int) : Rat) = (r + a) * (((r.den : Int) : Rat) * ((s.den : Int) : Rat)) := by
  rw [Rat.intCast_add, Rat.intCast_mul, Rat.intCast_mul, Rat.intCast_mul, ← q_den r]
  grind
theorem cross' (r s : Rat) (b : Int) : ((s.num * (r.den : Int) + b * (r.den : Int) * (s.den : Int) : Int) : Rat) = (s + b) * (((r.den : Int) : Rat) * ((s.den : Int) : Rat)) := by
  rw [Rat.intCast_add, Rat.intCast_mul, Rat.intCast_mul, Rat.intCast_mul, ← q_den s]
  grind
theorem cross_eq {r s : Rat} {a b : Int} (h : r + a = s + b) : r.num * (s.den : Int) + a * (r.den : Int) * (s.den : Int) = s.num * (r.den : Int) + b * (r.den : Int) * (s.den : Int) := by
  have e := cross r s a
  have f := cross' r s b
  rw [h, ← f] at e
  exact_mod_cast e
theorem cross_le {r s : Rat} {a b : Int} (h : r + a ≤ s + b) : r.num * (s.den : Int) + a * (r.den : Int) * (s.den : Int) ≤ s.num * (r.den : Int) + b * (r.den : Int) * (s.den : Int) := by
  have e := cross r s a
  have f := cross' r s b
  have p : (0 : Rat) ≤ ((r.den : Int) : Rat) * ((s.den : Int) : Rat) := by
    rw [← Rat.intCast_mul]
    exact_mod_cast Int.mul_nonneg (Int.natCast_nonneg r.den) (Int.natCast_nonneg s.den)
  have z := Rat.mul_le_mul_of_nonneg_right h p
  rw [← e, ← f] at z
  exact_mod_cast z
end K0
namespace K0
open PySem L2 PyProof.Rows PySem.Spec SrtO
theorem fv_int (n : Int) : fv (n : Rat) = [.int n, .int 1] := by
  unfold fv
  rw [Rat.num_intCast, Rat.den_intCast]
  rfl
theorem gd_one (n : Int) : gd 1 n = 1 := by
  unfold gd
  show ((Nat.gcd 1 n.natAbs : Nat) : Int) = 1
  rw [Nat.gcd_one_left]
  rfl
theorem inv_div (n : Int) : Rat.divInt 1 n = 1 / (n : Rat) := by
  rw [Rat.divInt_eq_div]
  rfl
theorem fv_inv {n : Int} (h : 0 < n) : fv (1 / (n : Rat)) = [.int 1, .int n] := by
  have hn : n ≠ 0 := by omega
  have e1 := low_num (t := 1) hn
  have e2 := den_int (t := 1) hn
  rw [gd_one, Int.ediv_one] at e1 e2
  unfold fv
  rw [← inv_div, ← e1, e2, if_neg (by omega), show (n.natAbs : Int) = n by omega]
theorem Sz.int {n : Int} {k : Nat} (h : Bt k n) : Sz k 1 (n : Rat) := ⟨by rw [Rat.num_intCast]; exact h, by rw [Rat.den_intCast]; decide⟩
theorem Sz.inv {n : Int} {k : Nat} (h : 0 < n) (g : n.natAbs < 2 ^ k) : Sz 1 k (1 / (n : Rat)) := by
  rw [← inv_div]
  exact Sz.div (by omega) ⟨by decide⟩ g
theorem Sz.mul {k m e f : Nat} {p q : Rat} (h : Sz k e p) (g : Sz m f q) : Sz (k + m) (e + f) (p * q) := by
  rw [← q_mul]
  exact Sz.div (FSz.ne p q) (h.n.mul g.n) (h.db.mul g.db).lt
theorem Sz.sub {k e f : Nat} {p q : Rat} (h : Sz k e p) (g : Sz k f q) : Sz (k + e + f + 1) (e + f) (p - q) := by
  rw [← q_sub]
  refine Sz.div (FSz.ne p q) ?_ (h.db.mul g.db).lt
  exact ((h.n.mul g.db).mono (by omega)).sub ((g.n.mul h.db).mono (by omega))
theorem Sz.wide {k e m f : Nat} {q : Rat} (h : Sz k e q) (l : k ≤ m) (g : e ≤ f) : Sz m f q := ⟨h.n.mono l, Nat.lt_of_lt_of_le h.d (Nat.pow_le_pow_right (by decide) g)⟩
/-- the drawn advances -/
def Adv (ns : List Int) : Prop := ∀ n ∈ ns, 0 ≤ n ∧ n < 1048576
theorem Adv.sum : ∀ {ns : List Int}, Adv ns → 0 ≤ ns.sum ∧ ns.sum ≤ 1048576 * (ns.length : Int)
  | [], _ => ⟨Int.le_refl _, by simp⟩
  | n :: ns, h => by
    obtain ⟨a, b⟩ := Adv.sum (ns := ns) fun x hx => h x (List.mem_cons_of_mem _ hx)
    obtain ⟨c, d⟩ := h n List.mem_cons_self
    rw [List.sum_cons, List.length_cons]
    omega
theorem Adv.take {ns : List Int} (h : Adv ns) (i : Nat) : Adv (ns.take i) := fun n hn => h n (List.mem_of_mem_take hn)
theorem Adv.bt {ns : List Int} (h : Adv ns) (hl : ns.length ≤ 63) (i : Nat) : Bt 30 (ns.take i).sum := by
  obtain ⟨a, b⟩ := (h.take i).sum
  have : (ns.take i).length ≤ 63 := by
    rw [List.length_take]
    omega
  exact Bt.small (by omega) (by omega)
section
variable {P : Program} {w : World} {K : PySem.W.Frag} {mg : Str → Option Value} {base : Heap}
def wAr (K : PySem.W.Frag) (C : Rat → Rat → Prop) (g : Rat → Rat → Rat) : Sp := fun vs H Q _ => ∃ (a b : Addr) (p q : Rat), vs = [.ref a, .ref b] ∧ SqT K H a (fv p) ∧ SqT K H b (fv q) ∧ C p q ∧ ∀ x H', Same H H' → SqT K H' x (fv (g p q)) → Q (.ref x) H'
def wLe (K : PySem.W.Frag) : Sp := fun vs H Q _ => ∃ (a b : Addr) (p q : Rat), vs = [.ref a, .ref b] ∧ SqT K H a (fv p) ∧ SqT K H b (fv q) ∧ FSz p ∧ FSz q ∧ Q (.bl (decide (p < q))) H
theorem sq_int {H : Hp} {t : Addr} {n : Int} : SqT K (upd H t (.tup [.int n, .int 1])) t (fv (n : Rat)) := by
  rw [fv_int]
  exact SqT.of upd_same
/-! _level -/
abbrev nLvl : List Str := ["amount", "steps", "had", "level", "many"]
theorem scLvl : FnScope nLvl ["amount", "steps"] (defScope sLvl) := ⟨rfl, rfl, rfl, by decide +kernel, rfl, by decide +kernel, by decide +kernel⟩
def spLvl (K : PySem.W.Frag) : Sp := fun vs H Q _ => ∃ (a b : Addr) (q : Rat) (ns : List Int), vs = [.ref a, .ref b] ∧ SqT K H a (fv q) ∧ SqL K H b (ns.map V.int) ∧ 0 < ns.length ∧ ns.length ≤ 63 ∧ Adv ns ∧ ns.Pairwise (· ≤ ·) ∧ 0 ≤ q ∧ Sz 30 4 q ∧
  ∀ x H' L, Same H H' → SqT K H' x (fv L) → Lev q ns L → Sz 100 20 L → Q (.ref x) H'
theorem ok_level {f : Addr} {fd : FuncData} (F : Fun K "_level" "_level" sLvl f fd) (TP : Has P w K mg base "plus" ["one", "two"] 2 (wAr K C2 fun p q => p + q)) (TT : Has P w K mg base "times" ["one", "two"] 2 (wAr K C2m fun p q => p * q))
    (TL : Has P w K mg base "is_less" ["one", "two"] 2 (wLe K)) (mgLen : mg "len" = none) (mgRange : mg "range" = none) : FnOk P w K mg base CX0 3 f fd ["amount", "steps"] (spLvl K) := by
  obtain ⟨fP, fdP, mP, kP, bP, GP⟩ := TP.ok
  obtain ⟨fT, fdT, mT, kT, bT, GT⟩ := TT.ok
  obtain ⟨fL, fdL, mL, kL, bL, GL⟩ := TL.ok
  refine F.ok scLvl (fun vs H Q E h => ?_) (fun cdv A outer s H vs Q E hr h => ?_)
  · obtain ⟨a, b, q, ns, rfl, _⟩ := h
    rfl
  · obtain ⟨a, b, q, ns, rfl, ha, hb, h0, h63, hA, pw, q0, qS, go⟩ := h
    refine ⟨_, pss_cons (ps_set (i := 2) scLvl.nd rfl (.inl rfl) (pe_ix ix_list (pv 1) pe_int (fun _ _ => rfl)))
      (pss_cons (ps_set (i := 3) scLvl.nd rfl (.inl rfl) (pe_call GP hr (by rfl) mP kP bP .nil pass0 (pa_cons (pv 0) (pa_cons (pe_tup (pa_cons (pv 2) (pa_cons pe_int pa_nil))) pa_nil))))
      (pss_cons (ps_for PassesOwn.never rfl (pi_range2 rfl mgRange (pa_cons pe_int (pa_cons (pe_callB call_len_seq (by rfl) mgLen PySem.boot_len (pa_cons (pv 1) pa_nil)) pa_nil))) (pg_name (i := 4) scLvl.nd rfl (.inl rfl))
        (pss_cons (ps_if (pt_not (pt_val (pe_call GL hr (by rfl) mL kL bL .nil pass0 (pa_cons (pe_tup (pa_cons (pe_ix ix_list (pv 1) (pv 4) (fun _ _ => rfl)) (pa_cons pe_int pa_nil))) (pa_cons (pv 3) pa_nil))))) (pss_one ps_break) pss_nil)
        (pss_cons (ps_set (i := 2) scLvl.nd rfl (.inl rfl) (pe_op op_add (pv 2) (pe_ix ix_list (pv 1) (pv 4) (fun _ _ => rfl))))
        (pss_one (ps_set (i := 3) scLvl.nd rfl (.inl rfl) (pe_call GT hr (by rfl) mT kT bT .nil pass0 (pa_cons (pe_call GP hr (by rfl) mP kP bP .nil pass0 (pa_cons (pv 0) (pa_cons (pe_tup (pa_cons (pv 2) (pa_cons pe_int pa_nil))) pa_nil))) (pa_cons (pe_tup (pa_cons pe_int (pa_cons (pe_op op_add (pv 4) pe_int) pa_nil))) pa_nil))))))))
      (pss_one (ps_ret (pv 3))))), ?_⟩
    have n0 : ns[0]? = some ns[0] := List.getElem?_eq_getElem h0
    have e1 : (ns.take 1).sum = ns[0] := by
      rw [List.take_one, List.head?_eq_getElem?, n0]
      simp
    have atn (j : Nat) (hj : j < ns.length) : atI (ns.map V.int) (j : Int) = some (.int ns[j]) := atI_nat (by rw [List.getElem?_map, List.getElem?_eq_getElem hj]; rfl)
    have qF : FSz q := qS.fsz (by decide) (by decide) (by decide)
    have hS (i : Nat) : Sz 30 1 (((ns.take i).sum : Int) : Rat) := Sz.int (hA.bt h63 i)
    have pS (i : Nat) : Sz 36 5 (q + ((ns.take i).sum : Int)) := Sz.add qS (hS i)
    refine ⟨_, rfl, b, _, 0, _, rfl, rfl, hb, atn 0 h0, ?_⟩
    refine ⟨_, rfl, _, rfl, (by show 2 ≤ sizeLine; decide), fun t nt => ⟨a, t, q, (ns[0] : Rat), rfl, sameT (same_upd nt) ha, sq_int, ⟨qF, by rw [← e1]; exact (hS 1).fsz (by decide) (by decide) (by decide), trivial⟩, fun x H1 sm1 hx => ?_⟩⟩
    have sm1 : Same H H1 := (same_upd nt).trans sm1
    have I0 := LvI.start n0 q0
    have hlen : ((ns.map V.int).length : Int) = (ns.length : Int) := by rw [List.length_map]
    refine ⟨_, rfl, b, _, rfl, .inl (sm1.seq hb), 1, (ns.length : Int), by rw [hlen], ⟨by decide, by decide, by omega, by omega⟩, ?_⟩
    refine for_range (lo := 1) (n := ((ns.length : Int) - 1).toNat) (fun i σ H' => ∃ (L : Rat) (x : Addr) (y : Option V), σ = [some (.ref a), some (.ref b), some (.int (ns.take (i + 1)).sum), some (.ref x), y] ∧ Same H H' ∧ SqT K H' x (fv L) ∧ LvI q ns i L ∧ Sz 100 20 L)
      ⟨q + (ns[0] : Int), x, none, by rw [e1]; rfl, sm1, hx, I0, by rw [← e1]; exact (pS 1).wide (by decide) (by decide)⟩ ?_ ?_
    · rintro i σ H2 hi ⟨L, x2, y, rfl, sm2, hx2, I2, S2⟩
      have hi1 : i + 1 < ns.length := by omega
      have ei : (1 : Int) + (i : Int) = ((i + 1 : Nat) : Int) := by omega
      have atj : atI (ns.map V.int) (1 + (i : Int)) = some (.int ns[i + 1]) := by
        rw [ei]
        exact atn _ hi1
      have nj : ns[i + 1]? = some ns[i + 1] := List.getElem?_eq_getElem hi1
      obtain ⟨m0, m1⟩ := hA ns[i + 1] (List.getElem_mem hi1)
      have jS : Sz 30 1 (ns[i + 1] : Rat) := Sz.int (Bt.small (by omega) (by omega))
      have et : (ns.take (i + 1 + 1)).sum = (ns.take (i + 1)).sum + ns[i + 1] := by
        rw [List.take_add_one, nj, List.sum_append]
        simp
      refine ⟨_, rfl, _, rfl, b, _, _, _, rfl, rfl, sm2.seq hb, atj, (by show 2 ≤ sizeLine; decide), fun t3 nt3 => ⟨_, rfl, t3, x2, (ns[i + 1] : Rat), L, rfl, sq_int, sameT (same_upd nt3) hx2, jS.fsz (by decide) (by decide) (by decide), S2.fsz (by decide) (by decide) (by decide), _, rfl, ite2 (fun e => ?_) (fun e => ?_)⟩⟩
      · have hlt : ¬ (ns[i + 1] : Rat) < L := by simpa using e
        have hle : L ≤ (ns[i + 1] : Rat) := Rat.not_lt.mp hlt
        refine ⟨_, rfl, go x2 _ L (sm2.trans (same_upd nt3)) (sameT (same_upd nt3) hx2) (I2.done fun c hc => ?_) S2⟩
        obtain ⟨j, hj⟩ := List.mem_iff_getElem?.mp hc
        rw [List.getElem?_drop] at hj
        have jl := (List.getElem?_eq_some_iff.mp hj).1
        have : ns[i + 1] ≤ c := by
          rcases Nat.eq_zero_or_pos j with z | z
          · subst z
            rw [Nat.add_zero, nj] at hj
            cases hj
            exact Int.le_refl _
          · have := (List.pairwise_iff_getElem.mp pw) (i + 1) (i + 1 + j) hi1 jl (by omega)
            rw [(List.getElem?_eq_some_iff.mp hj).2] at this
            exact this
        exact Rat.le_trans hle (by exact_mod_cast this)
      · have hlt : (ns[i + 1] : Rat) < L := by
          by_cases z : (ns[i + 1] : Rat) < L
          · exact z
          · exact absurd (by simp [z]) e
        have sm3 : Same H (upd H2 t3 (.tup [.int ns[i + 1], .int 1])) := sm2.trans (same_upd nt3)
        generalize upd H2 t3 (.tup [.int ns[i + 1], .int 1]) = H3 at sm3 ⊢
        refine ⟨_, rfl, _, rfl, _, rfl, b, _, _, _, rfl, rfl, sm3.seq hb, atj, _, _, rfl, rfl, ?_⟩
        have hS2 : Sz 30 1 (((ns.take (i + 1)).sum + ns[i + 1] : Int) : Rat) := by
          rw [← et]
          exact hS _
        have pS2 : Sz 36 5 (q + (((ns.take (i + 1)).sum + ns[i + 1] : Int) : Rat)) := Sz.add qS hS2
        refine ⟨_, rfl, _, rfl, (by show 2 ≤ sizeLine; decide), fun t4 nt4 => ⟨a, t4, q, (((ns.take (i + 1)).sum + ns[i + 1] : Int) : Rat), rfl, sameT (sm3.trans (same_upd nt4)) ha, sq_int, ⟨qF, hS2.fsz (by decide) (by decide) (by decide), trivial⟩, fun x5 H5 sm5 hx5 => ?_⟩⟩
        have sm5 := (sm3.trans (same_upd nt4)).trans sm5
        refine ⟨_, rfl, _, _, rfl, rfl, (by show 2 ≤ sizeLine; decide), fun t6 nt6 => ?_⟩
        have ek : (1 : Int) + (i : Int) + 1 = ((i + 1 + 1 : Nat) : Int) := by omega
        have k0 : (0 : Int) < ((i + 1 + 1 : Nat) : Int) := by omega
        have kS : Sz 1 7 (1 / (((i + 1 + 1 : Nat) : Int) : Rat)) := Sz.inv k0 (by show _ < 128; omega)
        refine ⟨x5, t6, q + (((ns.take (i + 1)).sum + ns[i + 1] : Int) : Rat), 1 / (((i + 1 + 1 : Nat) : Int) : Rat), rfl, sameT (same_upd nt6) hx5, ?_, ⟨pS2.fsz (by decide) (by decide) (by decide), kS.fsz (by decide) (by decide) (by decide), pS2.n.ok kS.n (by decide) (by decide) (by decide)⟩, fun x7 H7 sm7 hx7 => ?_⟩
        · rw [fv_inv k0, ← ek]
          exact SqT.of upd_same
        have nx := I2.next nj pw hlt
        exact ⟨_, x7, _, by rw [et]; rfl, (sm5.trans (same_upd nt6)).trans sm7, hx7, nx, (pS2.mul kS).wide (by decide) (by decide)⟩
    · rintro σ H2 ⟨L, x2, y, rfl, sm2, hx2, I2, S2⟩
      refine ⟨_, rfl, go x2 _ L sm2 hx2 (I2.done fun c hc => ?_) S2⟩
      rw [List.drop_eq_nil_of_le (by omega)] at hc
      cases hc
end
end K0
namespace K0
open PySem L2 PyProof.Rows PySem.Spec SrtO
/-- a dict of ints -/
def advK (L : List (Str × Int)) : List (Key × V) := L.map fun p => (Sum.inr p.1, V.int p.2)
def va (L : List (Str × Int)) (k : Str) : Int := ((L.find? fun p => decide (p.1 = k)).map (·.2)).getD 0
theorem va_cons_pos {L : List (Str × Int)} {k : Str} {a : Int} : va ((k, a) :: L) k = a := by
  unfold va
  rw [List.find?_cons_of_pos (by simp)]
  rfl
theorem va_cons_neg {L : List (Str × Int)} {k j : Str} {a : Int} (h : j ≠ k) : va ((j, a) :: L) k = va L k := by
  unfold va
  rw [List.find?_cons_of_neg (by simpa using h)]
theorem va_val {k : Str} : ∀ {L : List (Str × Int)}, k ∈ L.map (·.1) → valV (advK L) (Sum.inr k : Key) = some (.int (va L k))
  | [], h => by cases h
  | (j, a) :: L, h => by
    by_cases e : j = k
    · subst e
      rw [va_cons_pos]
      exact valV_pos rfl
    · rw [va_cons_neg e]
      have h2 : k ∈ L.map (·.1) := by
        rcases List.mem_cons.mp h with z | z
        · exact absurd z.symm e
        · exact z
      exact (valV_neg (fun z => e (Sum.inr.inj z))).trans (va_val h2)
theorem va_mem {p : Str × Int} : ∀ {L : List (Str × Int)}, (L.map (·.1)).Nodup → p ∈ L → va L p.1 = p.2
  | [], _, h => by cases h
  | (j, a) :: L, nd, h => by
    rw [List.map_cons, List.nodup_cons] at nd
    rcases List.mem_cons.mp h with z | z
    · rw [z]
      exact va_cons_pos
    · have ne : j ≠ p.1 := fun e => nd.1 (by
        rw [e]
        exact List.mem_map.mpr ⟨p, z, rfl⟩)
      rw [va_cons_neg ne]
      exact va_mem nd.2 z
theorem va_in {L : List (Str × Int)} {k : Str} (h : k ∈ L.map (·.1)) (nd : (L.map (·.1)).Nodup) : va L k ∈ L.map (·.2) := by
  obtain ⟨p, hp, rfl⟩ := List.mem_map.mp h
  rw [va_mem nd hp]
  exact List.mem_map.mpr ⟨p, hp, rfl⟩
theorem advK_keys (L : List (Str × Int)) : (advK L).map (·.1) = (L.map (·.1)).map Sum.inr := by
  unfold advK
  rw [List.map_map, List.map_map]
  rfl
theorem advK_vals (L : List (Str × Int)) : (advK L).map (·.2) = (L.map (·.2)).map V.int := by
  unfold advK
  rw [List.map_map, List.map_map]
  rfl
theorem rsum_va {L : List (Str × Int)} {ys : List Str} {f : Int → Rat} (p : ys.Perm (L.map (·.1))) (nd : (L.map (·.1)).Nodup) : rsum (ys.map fun k => f (va L k)) = rsum ((L.map (·.2)).map f) := by
  rw [rsum_perm (p.map fun k => f (va L k)), List.map_map, List.map_map]
  refine congrArg rsum (List.map_congr_left fun x hx => ?_)
  show f (va L x.1) = f x.2
  rw [va_mem nd hx]
/-- what each name has -/
def porL (lv : Rat) (L : List (Str × Int)) (ys : List Str) : List (Str × Rat) := ys.map fun k => (k, por lv (va L k))
theorem porL_keys (lv : Rat) (L : List (Str × Int)) (ys : List Str) : (porL lv L ys).map (·.1) = ys := by
  unfold porL
  rw [List.map_map]
  exact List.map_id ys
theorem por_sz {lv : Rat} {a : Int} (h : Sz 100 20 lv) (g : Sz 30 1 (a : Rat)) : Sz 200 30 (por lv a) := by
  unfold por
  split
  · exact (h.sub (g.wide (m := 100) (f := 1) (by decide) (by decide))).wide (by decide) (by decide)
  · exact ⟨⟨by decide⟩, by decide⟩
section
variable {P : Program} {w : World} {K : PySem.W.Frag} {mg : Str → Option Value} {base : Heap}
abbrev nLvs : List Str := ["amount", "advances", "level", "portions", "name", "advance"]
theorem scLvs : FnScope nLvs ["amount", "advances"] (defScope sLvs) := ⟨rfl, rfl, rfl, by decide +kernel, rfl, by decide +kernel, by decide +kernel⟩
def spLvs (K : PySem.W.Frag) : Sp := fun vs H Q _ => ∃ (a d : Addr) (q : Rat) (L : List (Str × Int)), vs = [.ref a, .ref d] ∧ SqT K H a (fv q) ∧ H d = some (.dK (advK L)) ∧ (L.map (·.1)).Nodup ∧ 0 < L.length ∧ L.length ≤ 63 ∧ Adv (L.map (·.2)) ∧ 0 ≤ q ∧ Sz 30 4 q ∧
  ∀ p H' kvs lv ys, Same H H' → ys.Perm (L.map (·.1)) → sortedS ys = true → ShAt K H' p kvs (porL lv L ys) → rsum (ys.map fun k => por lv (va L k)) = q → (∀ k ∈ ys, Sz 200 30 (por lv (va L k))) → Q (.ref p) H'
theorem ok_levels {f : Addr} {fd : FuncData} (F : Fun K "levels" "levels" sLvs f fd) (TV : Has P w K mg base "_level" ["amount", "steps"] 3 (spLvl K)) (TM : Has P w K mg base "minus" ["one", "two"] 3 (wAr K C2 fun p q => p - q))
    (TL : Has P w K mg base "is_less" ["one", "two"] 3 (wLe K)) (TZ : ∃ a : Addr, mg "ZERO" = some (.ref a) ∧ ∀ H, SqT K H a (fv 0)) (mgSorted : mg "sorted" = none) : FnOk P w K mg base CX0 4 f fd ["amount", "advances"] (spLvs K) := by
  obtain ⟨fV, fdV, mV, kV, bV, GV⟩ := TV.ok
  obtain ⟨fM, fdM, mM, kM, bM, GM⟩ := TM.ok
  obtain ⟨fL, fdL, mL, kL, bL, GL⟩ := TL.ok
  obtain ⟨aZ, mZ, hZ⟩ := TZ
  refine F.ok scLvs (fun vs H Q E h => ?_) (fun cdv A outer s H vs Q E hr h => ?_)
  · obtain ⟨a, d, q, L, rfl, _⟩ := h
    rfl
  · obtain ⟨a, d, q, L, rfl, ha, hd, nd, l0, l63, hA, q0, qS, go⟩ := h
    have hu := hu_of hr
    refine ⟨_, pss_cons (ps_set (i := 2) scLvs.nd rfl (.inl rfl) (pe_call GV hr (by rfl) mV kV bV .nil pass0 (pa_cons (pv 0) (pa_cons (pe_sortVals rfl (by rfl) mgSorted (pv 1)) pa_nil))))
      (pss_cons (ps_set (i := 3) scLvs.nd rfl (.inl rfl) pe_dnewK)
      (pss_cons (ps_for PassesOwn.never rfl (pi_list (pe_callB (call_sortedD rfl) (by rfl) mgSorted (by decide +kernel) (pa_cons (pv 1) pa_nil))) (pg_name (i := 4) scLvs.nd rfl (.inl rfl))
        (pss_cons (ps_set (i := 5) scLvs.nd rfl (.inl rfl) (pe_tup (pa_cons (pe_dget hu (pv 1) (pv 4) (fun _ _ => rfl)) (pa_cons pe_int pa_nil))))
        (pss_one (ps_dput hu (pv 3) (pv 4) (pe_ifExp (pt_val (pe_call GL hr (by rfl) mL kL bL .nil pass0 (pa_cons (pv 5) (pa_cons (pv 2) pa_nil)))) (pe_call GM hr (by rfl) mM kM bM .nil pass0 (pa_cons (pv 2) (pa_cons (pv 5) pa_nil))) (pe_glob (v := .ref aZ) (by rfl) mZ rfl)) rfl))))
      (pss_one (ps_ret (pv 3))))), ?_⟩
    refine ⟨_, rfl, _, rfl, d, _, L.map (·.2), rfl, hd, advK_vals L, fun ns t pn pwn nt => ?_⟩
    have nl : ns.length = L.length := by rw [pn.length_eq, List.length_map]
    have hd1 : upd H t (.lst (ns.map V.int)) d = some (.dK (advK L)) := by
      rw [upd_ne (ne_of_none hd nt)]
      exact hd
    refine ⟨a, t, q, ns, rfl, sameT (same_upd nt) ha, SqL.of upd_same, by omega, by omega, fun n hn => hA n (pn.mem_iff.mp hn), pwn, q0, qS, fun x H1 lv sm1 hx LV SL => ?_⟩
    have sm1 : Same H H1 := (same_upd nt).trans sm1
    have esum : rsum ((L.map (·.2)).map (por lv)) = q := by
      rw [← rsum_perm (pn.map (por lv))]
      exact LV.sum
    intro p hp
    have hpH : H p = none := sm1.free hp
    have sm2 : Same H1 (upd H1 p (.dK [])) := same_upd hp
    have hd2 : upd H1 p (.dK []) d = some (.dK (advK L)) := sm2 _ _ (sm1 _ _ hd)
    refine ⟨_, rfl, d, advK L, L.map (·.1), rfl, .inl hd2, advK_keys L, by rw [List.length_map]; omega, fun ys l py sy nly => ?_⟩
    have sm3 : Same H1 (upd (upd H1 p (.dK [])) l (.lst (ys.map V.str))) := sm2.trans (same_upd nly)
    have hp3 : upd (upd H1 p (.dK [])) l (.lst (ys.map V.str)) p = some (.dK []) := by
      rw [upd_ne (ne_of_none upd_same nly), upd_same]
    have hl3 : upd (upd H1 p (.dK [])) l (.lst (ys.map V.str)) l = some (.lst (ys.map V.str)) := upd_same
    generalize upd (upd H1 p (.dK [])) l (.lst (ys.map V.str)) = H3 at sm3 hp3 hl3 ⊢
    have lp : l ≠ p := ne_of hl3 hp3 (by intro z; cases z)
    have dp : d ≠ p := ne_of_none hd hpH
    have hd3 : H3 d = some (.dK (advK L)) := sm3 _ _ (sm1 _ _ hd)
    have hx3 : SqT K H3 x (fv lv) := sameT sm3 hx
    have ylen : ys.length ≤ 63 := by
      rw [py.length_eq, List.length_map]
      exact l63
    have ndy : ys.Nodup := py.nodup_iff.mpr nd
    have sz30 (k : Str) (hk : k ∈ ys) : Sz 30 1 (va L k : Rat) := by
      obtain ⟨m0, m1⟩ := hA _ (va_in (py.mem_iff.mp hk) nd)
      exact Sz.int (Bt.small (by omega) (by omega))
    refine ⟨l, rfl, ⟨_, SqL.of hl3⟩, for_list (K := K) (a := l) (xs := ys.map V.str) (fun i σ Hy => ∃ kvs y4 y5, σ = [some (.ref a), some (.ref d), some (.ref x), some (.ref p), y4, y5] ∧ (∀ b o, H3 b = some o → b ≠ p → Hy b = some o) ∧ ShAt K Hy p kvs (porL lv L (ys.take i)))
      ⟨[], none, none, rfl, fun b o hb _ => hb, hp3, rfl, ⟨rfl, fun i v q h => by cases h⟩, List.nodup_nil⟩ (fun i σ Hy _ ⟨_, _, _, _, g, _⟩ => SqL.of (g l _ hl3 lp)) ?_ ?_⟩
    · rintro i v σ Hy hi ⟨kvs, y4, y5, rfl, g, S⟩
      obtain ⟨k, ek, rfl⟩ : ∃ k, ys[i]? = some k ∧ v = .str k := by
        rw [List.getElem?_map] at hi
        obtain ⟨k, h1, h2⟩ := Option.map_eq_some_iff.mp hi
        exact ⟨k, h1, h2.symm⟩
      have hky : k ∈ ys := List.mem_of_getElem? ek
      have hil := (List.getElem?_eq_some_iff.mp ek).1
      have gd : DGet Hy d (.str k) (some (.int (va L k))) := .inl ⟨_, Sum.inr k, .inl (g _ _ hd3 dp), rfl, (va_val (py.mem_iff.mp hky)).symm⟩
      have gx : SqT K Hy x (fv lv) := by
        rcases hx3 with (h | ⟨z, h⟩) | h
        · exact .inl (.inl (g _ _ h (ne_of h hp3 (by intro e; cases e))))
        · exact .inl (.inr ⟨z, g _ _ h (ne_of h hp3 (by intro e; cases e))⟩)
        · exact .inr h
      have vS := sz30 k hky
      have et : ys.take (i + 1) = ys.take i ++ [k] := by
        rw [List.take_add_one, ek]
        rfl
      have eP : porL lv L (ys.take (i + 1)) = porL lv L (ys.take i) ++ [(k, por lv (va L k))] := by
        unfold porL
        rw [et, List.map_append]
        rfl
      have new : k ∉ (porL lv L (ys.take i)).map (·.1) := by
        rw [porL_keys]
        intro m
        obtain ⟨j, hj⟩ := List.mem_iff_getElem?.mp m
        have h1 : j < i := by
          have := (List.getElem?_eq_some_iff.mp hj).1
          rw [List.length_take] at this
          omega
        rw [List.getElem?_take_of_lt h1] at hj
        have := (List.getElem?_inj (by exact (List.getElem?_eq_some_iff.mp hj).1) ndy).mp (hj.trans ek.symm)
        omega
      refine ⟨_, rfl, _, rfl, d, _, rfl, gd, (by show 2 ≤ sizeLine; decide), fun t2 nt2 => ?_⟩
      have pt2 : p ≠ t2 := ne_of_none S.dk nt2
      have hlen : kvs.length < sizeLine := by
        rw [S.len]
        unfold porL
        rw [List.length_map, List.length_take]
        exact small1000 (by omega)
      have fin (r : Addr) (Hr : Hp) (sr : Same (upd Hy t2 (.tup [.int (va L k), .int 1])) Hr) (hr : SqT K Hr r (fv (por lv (va L k)))) (y5 : Option V) :
          ∃ kvs' y4' y5', [some (V.ref a), some (.ref d), some (.ref x), some (.ref p), some (.str k), y5] = [some (V.ref a), some (.ref d), some (.ref x), some (.ref p), y4', y5'] ∧ (∀ b o, H3 b = some o → b ≠ p → upd Hr p (.dK (putK kvs (Sum.inr k) (.ref r))) b = some o) ∧ ShAt K (upd Hr p (.dK (putK kvs (Sum.inr k) (.ref r)))) p kvs' (porL lv L (ys.take (i + 1))) := by
        have sm : ∀ b o, Hy b = some o → b ≠ p → upd Hr p (.dK (putK kvs (Sum.inr k) (.ref r))) b = some o := fun b o hb hbp => by
          rw [upd_ne hbp]
          exact sr b o (same_upd nt2 b o hb)
        have hrp : Hr p = some (.dK kvs) := sr _ _ (same_upd nt2 _ _ S.dk)
        refine ⟨putK kvs (Sum.inr k) (.ref r), _, _, rfl, fun b o hb hbp => sm b o (g b o hb hbp) hbp, ?_⟩
        rw [eP]
        exact S.snoc new sm upd_same (sqT_upd hr hrp (by intro e; cases e) (by intro z e; cases e))
      refine ⟨_, rfl, _, rfl, t2, x, (va L k : Rat), lv, rfl, sq_int, sameT (same_upd nt2) gx, vS.fsz (by decide) (by decide) (by decide), SL.fsz (by decide) (by decide) (by decide), _, rfl, ite2 (fun e => ?_) (fun e => ?_)⟩
      · have e' : (va L k : Rat) < lv := of_decide_eq_true e
        refine ⟨_, rfl, _, rfl, x, t2, lv, (va L k : Rat), rfl, sameT (same_upd nt2) gx, sq_int, ⟨SL.fsz (by decide) (by decide) (by decide), vS.fsz (by decide) (by decide) (by decide), trivial⟩, fun r Hr sr hr => ?_⟩
        refine ⟨_, rfl, _, rfl, p, _, rfl, DPut.k (k := Sum.inr k) (sr _ _ (same_upd nt2 _ _ S.dk)) hlen, ?_⟩
        refine fin r Hr sr ?_ _
        unfold por
        rw [if_pos e']
        exact hr
      · have e' : ¬ (va L k : Rat) < lv := fun z => e (decide_eq_true z)
        refine ⟨_, rfl, _, rfl, p, _, rfl, DPut.k (k := Sum.inr k) (same_upd nt2 _ _ S.dk) hlen, ?_⟩
        refine fin aZ _ (Same.refl _) ?_ _
        unfold por
        rw [if_neg e']
        exact hZ _
    · rintro σ Hy ⟨kvs, y4, y5, rfl, g, S⟩
      rw [List.length_map, List.take_length] at S
      refine ⟨_, rfl, go p Hy kvs lv ys (fun b o hb => ?_) py sy S (by rw [rsum_va py nd]; exact esum) fun k hk => por_sz SL (sz30 k hk)⟩
      exact g b o (sm3 b o (sm1 b o hb)) (ne_of_none hb hpH)
end
end K0
namespace K0
open PySem L2 PyProof.Rows PySem.Spec
section
variable {P : Program} {w : World} {K : PySem.W.Frag} {mg : Str → Option Value} {base : Heap}
/-! _law_cell -/
def cell (ns : List Int) (k : Int) : Int := (ns[k.toNat]?).getD 0
theorem scCel : FnScope ["script", "k"] ["script", "k"] (defScope sCel) := ⟨rfl, rfl, rfl, by decide +kernel, rfl, by decide +kernel, by decide +kernel⟩
def spCel (K : PySem.W.Frag) : Sp := fun vs H Q _ => ∃ (a : Addr) (ns : List Int) (k : Int), vs = [.ref a, .int k] ∧ SqL K H a (ns.map V.int) ∧ 0 ≤ k ∧ Q (.int (cell ns k)) H
theorem ok_cell {f : Addr} {fd : FuncData} (F : Fun K "_law_cell" "_law_cell" sCel f fd) (mgLen : mg "len" = none) (mgInt : mg "int" = none) : FnOk P w K mg base CX0 1 f fd ["script", "k"] (spCel K) := by
  refine F.ok scCel (fun vs H Q E h => ?_) (fun cdv A outer s H vs Q E hr h => ?_)
  · obtain ⟨a, ns, k, rfl, _⟩ := h
    rfl
  · obtain ⟨a, ns, k, rfl, hS, hk, go⟩ := h
    refine ⟨_, pss_cons (ps_if (pt_cmpR op_lt (pv 1) (pe_callB call_len_seq (by rfl) mgLen PySem.boot_len (pa_cons (pv 0) pa_nil)) (nomark _))
      (pss_one (ps_ret (pe_callTy call_int1 (by rfl) mgInt (by decide +kernel) (pa_cons (pe_ix ix_list (pv 0) (pv 1) (fun _ _ => rfl)) pa_nil)))) pss_nil) (pss_one (ps_ret pe_int)), ?_⟩
    obtain ⟨j, rfl⟩ : ∃ j : Nat, k = (j : Int) := ⟨k.toNat, by omega⟩
    refine ⟨_, rfl, _, rfl, a, ns.map V.int, rfl, .inl hS, _, _, rfl, rfl, _, rfl, ite2 (fun e => ?_) (fun e => ?_)⟩
    · have e1 : (j : Int) < ((ns.map V.int).length : Int) := of_decide_eq_true e
      rw [List.length_map] at e1
      have hj : j < ns.length := by omega
      refine ⟨_, rfl, _, rfl, a, _, _, .int ns[j], rfl, rfl, hS, atI_nat (by rw [List.getElem?_map, List.getElem?_eq_getElem hj]; rfl), .inl ⟨_, rfl, ?_⟩⟩
      unfold cell at go
      rw [Int.toNat_natCast, List.getElem?_eq_getElem hj] at go
      exact go
    · have e1 : ¬ (j : Int) < ((ns.map V.int).length : Int) := fun z => e (decide_eq_true z)
      rw [List.length_map] at e1
      unfold cell at go
      rw [Int.toNat_natCast, List.getElem?_eq_none_iff.mpr (by omega)] at go
      exact go
/-! _law_numbers -/
theorem scNum : FnScope ["cell", "many", "found", "rest", "k"] ["cell", "many"] (defScope sNum) := ⟨rfl, rfl, rfl, by decide +kernel, rfl, by decide +kernel, by decide +kernel⟩
def Nums (xs : List Int) : Prop := ∀ x ∈ xs, 0 ≤ x ∧ x < 1048576
def spNum : Sp := fun vs H Q _ => ∃ (c : Int) (m : Nat), vs = [.int c, .int (m : Int)] ∧ m ≤ 1000 ∧ ∀ p H' (xs : List Int), Same H H' → H p = none → H' p = some (.lst (xs.map V.int)) → xs.length = m → Nums xs → Q (.ref p) H'
theorem Nums.snoc {xs : List Int} {x : Int} (h : Nums xs) (a : 0 ≤ x) (b : x < 1048576) : Nums (xs ++ [x]) := fun y hy => by
  rcases List.mem_append.mp hy with z | z
  · exact h y z
  · rw [List.mem_singleton.mp z]
    exact ⟨a, b⟩
theorem ok_numbers {f : Addr} {fd : FuncData} (F : Fun K "_law_numbers" "_law_numbers" sNum f fd) (mgAbs : mg "abs" = none) (mgInt : mg "int" = none) (mgRange : mg "range" = none) : FnOk P w K mg base CX0 1 f fd ["cell", "many"] spNum := by
  refine F.ok scNum (fun vs H Q E h => ?_) (fun cdv A outer s H vs Q E hr h => ?_)
  · obtain ⟨c, m, rfl, _⟩ := h
    rfl
  · obtain ⟨c, m, rfl, hm, go⟩ := h
    refine ⟨_, pss_cons (ps_set (i := 2) scNum.nd rfl (.inl rfl) (pe_lst pa_nil))
      (pss_cons (ps_set (i := 3) scNum.nd rfl (.inl rfl) (pe_callB call_abs (by rfl) mgAbs (by decide +kernel) (pa_cons (pv 0) pa_nil)))
      (pss_cons (ps_if (pt_cmpR op_ge (pv 3) pe_int (nomark _))
        (pss_cons (ps_for PassesOwn.never rfl (pi_range1 rfl mgRange (pa_cons (pv 1) pa_nil)) (pg_name (i := 4) scNum.nd rfl (.inl rfl))
          (pss_cons (ps_expr (pe_bm PySem.F.plainAttrs_list PySem.F.slot_list_append PySem.F.type_list_append mt_append (pv 2) (pa_cons (pe_op op_mod (pe_callTy call_int1 (by rfl) mgInt (by decide +kernel) (pa_cons (pv 3) pa_nil)) pe_int) pa_nil)))
          (pss_one (ps_set (i := 3) scNum.nd rfl (.inl rfl) (pe_op op_fdiv (pv 3) pe_int)))))
        (pss_one (ps_ret (pv 2)))) pss_nil)
      (pss_cons (ps_for PassesOwn.never rfl (pi_range1 rfl mgRange (pa_cons (pv 1) pa_nil)) (pg_name (i := 4) scNum.nd rfl (.inl rfl))
        (pss_cons (ps_set (i := 3) scNum.nd rfl (.inl rfl) (pe_op op_mod (pe_callTy call_int1 (by rfl) mgInt (by decide +kernel) (pa_cons (pe_op op_add (pe_op op_add (pe_op op_mul (pv 3) pe_int) (pe_op op_mul (pv 4) pe_int)) pe_int) pa_nil)) pe_int))
        (pss_one (ps_expr (pe_bm PySem.F.plainAttrs_list PySem.F.slot_list_append PySem.F.type_list_append mt_append (pv 2) (pa_cons (pe_op op_mod (pe_op op_mod (pe_callTy call_int1 (by rfl) mgInt (by decide +kernel) (pa_cons (pe_op op_mul (pv 3) pe_int) pa_nil)) pe_int) pe_int) pa_nil))))))
      (pss_one (ps_ret (pv 2)))))), ?_⟩
    refine ⟨Nat.zero_le _, fun p np => ⟨_, rfl, _, rfl, ?_⟩⟩
    generalize ea : (if c < 0 then -c else c) = r0
    have r00 : 0 ≤ r0 := by
      rw [← ea]
      split <;> omega
    have keep (Hx : Hp) (xs : List V) : (∀ b o, H b = some o → b ≠ p → Hx b = some o) → ∀ b o, H b = some o → b ≠ p → upd Hx p (.lst xs) b = some o := fun h b o hb hbp => by
      rw [upd_ne hbp]
      exact h b o hb hbp
    refine ⟨_, rfl, _, _, rfl, rfl, _, rfl, ite2 (fun e => ?_) (fun e => ?_)⟩
    · refine ⟨_, rfl, (m : Int), rfl, by omega, by omega, ?_⟩
      rw [Int.toNat_natCast]
      refine for_range (lo := 0) (n := m) (fun i σ Hx => ∃ (xs : List Int) (r : Int) (y : Option V), σ = [some (.int c), some (.int (m : Int)), some (.ref p), some (.int r), y] ∧ (∀ b o, H b = some o → b ≠ p → Hx b = some o) ∧ Hx p = some (.lst (xs.map V.int)) ∧ xs.length = i ∧ Nums xs)
        ⟨[], r0, none, rfl, fun b o hb hbp => by rw [upd_ne hbp]; exact hb, upd_same, rfl, fun x hx => by cases hx⟩ ?_ ?_
      · rintro i σ Hx hi ⟨xs, r, y, rfl, kp, hp, hl, hn⟩
        refine ⟨.ref p, rfl, .inl ⟨rfl, _, SqL.of hp⟩, _, rfl, .inl ⟨_, rfl, _, _, rfl, rfl, (by show (0 : Int) < 1048576; decide), p, _, _, rfl, rfl, hp, by rw [List.length_map]; exact small1000 (by omega), ?_⟩⟩
        refine ⟨_, rfl, _, _, rfl, rfl, ⟨by decide, by decide⟩, xs ++ [r % 1048576], r / 1048576, some (.int (0 + (i : Int))), rfl, keep _ _ kp, ?_, by rw [List.length_append, hl]; rfl, hn.snoc (Int.emod_nonneg _ (by decide)) (Int.emod_lt_of_pos _ (by decide))⟩
        rw [upd_same, List.map_append]
        rfl
      · rintro σ Hx ⟨xs, r, y, rfl, kp, hp, hl, hn⟩
        exact ⟨_, rfl, go p Hx xs (fun b o hb => kp b o hb (ne_of_none hb np)) np hp hl hn⟩
    · have e1 : r0 < 1000000000000000000 := Int.not_le.mp fun z => e (decide_eq_true z)
      refine ⟨_, rfl, (m : Int), rfl, by omega, by omega, ?_⟩
      rw [Int.toNat_natCast]
      refine for_range (lo := 0) (n := m) (fun i σ Hx => ∃ (xs : List Int) (r : Int) (y : Option V), σ = [some (.int c), some (.int (m : Int)), some (.ref p), some (.int r), y] ∧ (∀ b o, H b = some o → b ≠ p → Hx b = some o) ∧ Hx p = some (.lst (xs.map V.int)) ∧ xs.length = i ∧ Nums xs ∧ 0 ≤ r ∧ r < 1000000000000000000)
        ⟨[], r0, none, rfl, fun b o hb hbp => by rw [upd_ne hbp]; exact hb, upd_same, rfl, (fun x hx => by cases hx), r00, e1⟩ ?_ ?_
      · rintro i σ Hx hi ⟨xs, r, y, rfl, kp, hp, hl, hn, b0, b1⟩
        refine ⟨_, rfl, _, _, rfl, rfl, .inl ⟨by omega, by omega⟩, _, rfl, _, _, rfl, rfl, .inl ⟨by omega, by omega⟩, _, _, rfl, rfl, _, _, rfl, rfl, .inl ⟨_, rfl, _, _, rfl, rfl, (by show (0 : Int) < 2147483647; decide), ?_⟩⟩
        have c0 := Int.emod_nonneg (r * 48271 + (0 + (i : Int)) * 7919 + 11) (b := 2147483647) (by decide)
        have c1 := Int.emod_lt_of_pos (r * 48271 + (0 + (i : Int)) * 7919 + 11) (b := 2147483647) (by decide)
        refine ⟨.ref p, rfl, .inl ⟨rfl, _, SqL.of hp⟩, _, rfl, _, _, rfl, rfl, .inl ⟨Int.lt_of_lt_of_le (by decide) c0, Int.lt_trans c1 (by decide)⟩, .inl ⟨_, rfl, _, _, rfl, rfl, (by show (0 : Int) < 2147483629; decide), _, _, rfl, rfl, (by show (0 : Int) < 1048576; decide), p, _, _, rfl, rfl, hp, by rw [List.length_map]; exact small1000 (by omega), ?_⟩⟩
        refine ⟨xs ++ [(r * 48271 + (0 + (i : Int)) * 7919 + 11) % 2147483647 * 69621 % 2147483629 % 1048576], (r * 48271 + (0 + (i : Int)) * 7919 + 11) % 2147483647, some (.int (0 + (i : Int))), rfl, keep _ _ kp, ?_, by rw [List.length_append, hl]; rfl, hn.snoc (Int.emod_nonneg _ (by decide)) (Int.emod_lt_of_pos _ (by decide)), c0, by omega⟩
        rw [upd_same, List.map_append]
        rfl
      · rintro σ Hx ⟨xs, r, y, rfl, kp, hp, hl, hn, b0, b1⟩
        exact ⟨_, rfl, go p Hx xs (fun b o hb => kp b o hb (ne_of_none hb np)) np hp hl hn⟩
end
end K0
namespace K0
open PySem L2 PyProof.Rows PySem.Spec SrtO
section
variable {X : Cx}
/-- != of two lists of the same texts -/
def rNeTx (K : PySem.W.Frag) : R2 := fun x y H Q => ∃ a b, ∃ ys : List Str, x = .ref a ∧ y = .ref b ∧ SqL K H a (ys.map V.str) ∧ SqL K H b (ys.map V.str) ∧ (∀ k ∈ ys, PyData.strOk k = true) ∧ Q (.bl false) H
theorem dp_tx {K : PySem.W.Frag} {H : Hp} : ∀ ys : List Str, DpAll K H (ys.map V.str) (ys.map PyData.str)
  | [] => .nil
  | y :: ys => .cons (.str y) (dp_tx ys)
theorem lay_tx : ∀ {ys : List Str}, (∀ k ∈ ys, PyData.strOk k = true) → PyData.canLayAll0 (ys.map PyData.str) = true
  | [], _ => rfl
  | y :: ys, h => by
    show (PyData.canLay0 (.str y) && PyData.canLayAll0 (ys.map PyData.str)) = true
    rw [lay_tx fun k hk => h k (List.mem_cons_of_mem _ hk), Bool.and_true]
    exact h y List.mem_cons_self
theorem depth_tx (ys : List Str) : PyData.depth (.list (ys.map PyData.str)) ≤ 2 := by
  have h : ∀ l : List Str, PyData.depthAll (l.map PyData.str) ≤ 1 := fun l => by
    induction l with
    | nil => simp [PyData.depthAll]
    | cons x l ih => simp [PyData.depthAll, PyData.depth]; omega
  have := h ys
  simp [PyData.depth]
  omega
theorem op_neTx (hu : X.A.units + 64 < cLine) : OpR X (compareOp .NotEq) (rNeTx X.K) := by
  intro pins s σ H x y v u Q I rx ry h
  obtain ⟨a, b, ys, rfl, rfl, ha, hb, ok, go⟩ := h
  have lay : PyData.canLay0 (.list (ys.map PyData.str)) = true := lay_tx ok
  have sh : SeqAt.shaped (.list (ys.map PyData.str)) = true := Bool.and_eq_true_iff.mpr ⟨lay, decide_eq_true (Nat.le_trans (depth_tx ys) (by decide))⟩
  refine op_neD hu pins s σ H _ _ _ _ Q I rx ry ⟨_, _, .lst ha (dp_tx ys), .lst hb (dp_tx ys), sh, sh, ?_⟩
  rw [SeqAt.eqv_refl _ lay]
  exact go
end
end K0
namespace K0
open PySem L2 PyProof.Rows PySem.Spec SrtO
theorem max_gcd {t b m : Int} (hb : 0 < b) (h1 : 1 ≤ m) (d1 : t % m = 0) (d2 : b % m = 0) (mx : ∀ d, 1 ≤ d → d ≤ b → t % d = 0 → b % d = 0 → d ≤ m) : m = gd t b := by
  have g0 := gd_pos (t := t) (b := b) (by omega)
  have gl := gd_le (t := t) (b := b) (by omega)
  have gt : gd t b ∣ t := by
    unfold gd
    exact Int.dvd_trans (Int.natCast_dvd_natCast.mpr (Nat.gcd_dvd_left _ _)) (Int.natAbs_dvd.mpr (Int.dvd_refl _))
  have gb : gd t b ∣ b := by
    unfold gd
    exact Int.dvd_trans (Int.natCast_dvd_natCast.mpr (Nat.gcd_dvd_right _ _)) (Int.natAbs_dvd.mpr (Int.dvd_refl _))
  have le1 : gd t b ≤ m := mx _ (by omega) (by omega) (Int.emod_eq_zero_of_dvd gt) (Int.emod_eq_zero_of_dvd gb)
  have m1 : m ∣ t := Int.dvd_of_emod_eq_zero d1
  have m2 : m ∣ b := Int.dvd_of_emod_eq_zero d2
  have : m.natAbs ∣ Nat.gcd t.natAbs b.natAbs := Nat.dvd_gcd (Int.natAbs_dvd_natAbs.mpr m1) (Int.natAbs_dvd_natAbs.mpr m2)
  have le2 := Nat.le_of_dvd (Nat.gcd_pos_of_pos_right _ (by omega)) this
  unfold gd at le1 ⊢
  omega
theorem fv_gcd {t b m : Int} (hb : 0 < b) (h : m = gd t b) : [V.int (t / m), .int (b / m)] = fv (Rat.divInt t b) := by
  have hb0 : b ≠ 0 := by omega
  have e1 := low_num (t := t) hb0
  have e2 := den_int (t := t) hb0
  rw [if_neg (by omega)] at e1
  unfold fv
  rw [h, ← e1, e2, show (b.natAbs : Int) = b by omega]
theorem divInt_nn {t b : Int} (h : 0 ≤ t) (hb : 0 < b) : 0 ≤ Rat.divInt t b := by
  rw [← Rat.num_nonneg, ← low_num (t := t) (b := b) (by omega), if_neg (by omega)]
  exact Int.ediv_nonneg h (by have := gd_pos (t := t) (b := b) (by omega); omega)
theorem numpos {q : Rat} (h : 0 < q.num) : 0 < q := by
  have a : 0 ≤ q := Rat.num_nonneg.mp (by omega)
  have b : q ≠ 0 := fun e => by
    rw [e] at h
    exact absurd h (by decide)
  grind
theorem pickA {x : Int} : ∃ B : Int, atI [V.int 1, .int 50, .int 5000] (x % 3) = some (.int B) ∧ 0 < B ∧ B ≤ 5000 := by
  have h0 := Int.emod_nonneg x (b := 3) (by decide)
  have h1 := Int.emod_lt_of_pos x (b := 3) (by decide)
  generalize x % 3 = z at *
  have c : z = 0 ∨ z = 1 ∨ z = 2 := by omega
  rcases c with rfl | rfl | rfl <;> exact ⟨_, rfl, by decide, by decide⟩
theorem pickB {x : Int} : ∃ B : Int, atI [V.int 1, .int 9, .int 400, .int 4000] (x % 4) = some (.int B) ∧ 0 < B ∧ B ≤ 4000 := by
  have h0 := Int.emod_nonneg x (b := 4) (by decide)
  have h1 := Int.emod_lt_of_pos x (b := 4) (by decide)
  generalize x % 4 = z at *
  have c : z = 0 ∨ z = 1 ∨ z = 2 ∨ z = 3 := by omega
  rcases c with rfl | rfl | rfl | rfl <;> exact ⟨_, rfl, by decide, by decide⟩
/-! a dict of ints grows -/
theorem advK_put {L : List (Str × Int)} {k : Str} {v : Int} (nd : (L.map (·.1)).Nodup) :
    ∃ L' : List (Str × Int), putK (advK L) (Sum.inr k : Key) (.int v) = advK L' ∧ (L'.map (·.1)).Nodup ∧ L'.length ≤ L.length + 1 ∧ 0 < L'.length ∧ ∀ p ∈ L', p ∈ L ∨ p = (k, v) := by
  by_cases h : k ∈ L.map (·.1)
  · refine ⟨L.map fun p => if p.1 = k then (p.1, v) else p, ?_, ?_, ?_, ?_, fun p hp => ?_⟩
    · unfold putK
      rw [valV_any, va_val h]
      show (if true = true then _ else _) = _
      rw [if_pos rfl]
      unfold advK
      rw [List.map_map, List.map_map]
      refine List.map_congr_left fun p _ => ?_
      show (if (Sum.inr p.1 : Key) = Sum.inr k then ((Sum.inr p.1 : Key), V.int v) else ((Sum.inr p.1 : Key), V.int p.2)) = ((Sum.inr ((if p.1 = k then (p.1, v) else p) : Str × Int).1 : Key), V.int ((if p.1 = k then (p.1, v) else p) : Str × Int).2)
      by_cases e : p.1 = k
      · rw [if_pos (congrArg Sum.inr e), if_pos e]
      · rw [if_neg (fun z => e (Sum.inr.inj z)), if_neg e]
    · rw [List.map_map]
      have e : ((fun x : Str × Int => x.1) ∘ fun p => if p.1 = k then (p.1, v) else p) = fun p => p.1 := by
        funext p
        show ((if p.1 = k then (p.1, v) else p) : Str × Int).1 = p.1
        split <;> rfl
      rw [e]
      exact nd
    · rw [List.length_map]
      omega
    · rw [List.length_map]
      cases L with
      | nil => cases h
      | cons _ _ => simp
    · obtain ⟨x, hx, rfl⟩ := List.mem_map.mp hp
      by_cases e : x.1 = k
      · rw [if_pos e, e]
        exact .inr rfl
      · rw [if_neg e]
        exact .inl hx
  · have nov : valV (advK L) (Sum.inr k : Key) = none := by
      cases e : valV (advK L) (Sum.inr k : Key) with
      | none => rfl
      | some v =>
        have m := valV_in e
        rw [advK_keys] at m
        obtain ⟨y, hy, e2⟩ := List.mem_map.mp m
        rw [Sum.inr.inj e2] at hy
        exact absurd hy h
    refine ⟨L ++ [(k, v)], ?_, ?_, by simp, by simp, fun p hp => ?_⟩
    · rw [putK_new _ nov]
      unfold advK
      rw [List.map_append]
      rfl
    · rw [List.map_append]
      refine List.nodup_append.mpr ⟨nd, List.pairwise_singleton _ _, fun a ha b hb e => ?_⟩
      rw [List.mem_singleton.mp hb] at e
      have e3 : a = k := e
      rw [e3] at ha
      exact h ha
    · rcases List.mem_append.mp hp with z | z
      · exact .inl z
      · exact .inr (List.mem_singleton.mp z)
theorem dig_fin40 : ∀ i : _root_.Fin 40, (dig ((i.val : Nat) : Int)).length ≤ 2 ∧ PyData.strOk (dig ((i.val : Nat) : Int)) = true := by decide +kernel
theorem dig40 {i : Int} (h0 : 0 ≤ i) (h : i < 40) : (dig i).length ≤ 2 ∧ PyData.strOk (dig i) = true := by
  have := dig_fin40 ⟨i.toNat, by omega⟩
  rw [show i = ((i.toNat : Nat) : Int) by omega]
  exact this
theorem dprod_bt : ∀ (n : Nat) {rs : List Rat}, rs.length = n → (∀ r ∈ rs, r.den < 2 ^ 30) → Bt (30 * n + 1) (dprod rs)
  | 0, rs, e, _ => by
    rw [List.length_eq_zero_iff.mp e]
    exact ⟨by decide⟩
  | n + 1, rs, e, h => by
    have ne : rs ≠ [] := fun z => by
      rw [z] at e
      cases e
    have e2 := List.dropLast_concat_getLast ne
    have ih := dprod_bt n (rs := rs.dropLast) (by rw [List.length_dropLast]; omega) fun r hr => h r (List.dropLast_subset _ hr)
    rw [← e2, dprod_snoc]
    have hl : Bt 30 ((rs.getLast ne).den : Int) := ⟨by rw [Int.natAbs_natCast]; exact h _ (List.getLast_mem ne)⟩
    exact (ih.mul hl).mono (by omega)
theorem dprod_take {rs : List Rat} {i : Nat} {r : Rat} (h : rs[i]? = some r) : dprod (rs.take (i + 1)) = dprod (rs.take i) * (r.den : Int) := by
  rw [List.take_add_one, h, Option.toList_some, dprod_snoc]
theorem dprod_pos : ∀ (n : Nat) {rs : List Rat}, rs.length = n → 0 < dprod rs
  | 0, rs, e => by
    rw [List.length_eq_zero_iff.mp e]
    decide
  | n + 1, rs, e => by
    have ne : rs ≠ [] := fun z => by
      rw [z] at e
      cases e
    have e2 := List.dropLast_concat_getLast ne
    have ih := dprod_pos n (rs := rs.dropLast) (by rw [List.length_dropLast]; omega)
    rw [← e2, dprod_snoc]
    exact Int.mul_pos ih (den_pos _)
end K0
set_option maxHeartbeats 40000000
namespace K0
open PySem L2 PyProof.Rows PySem.Spec SrtO
theorem ShAt.same {K : PySem.W.Frag} {H H' : Hp} {d : Addr} {kvs : List (Key × V)} {L : List (Str × Rat)} (S : ShAt K H d kvs L) (s : Same H H') : ShAt K H' d kvs L := ⟨s _ _ S.dk, S.ks, ⟨S.vs.1, fun i v q h1 h2 => (S.vs.2 i v q h1 h2).same s⟩, S.nd⟩
structure BI (mg : Str → Option Value) : Prop where
  range : mg "range" = none
  max : mg "max" = none
  min : mg "min" = none
  len : mg "len" = none
  int : mg "int" = none
  str : mg "str" = none
  dict : mg "dict" = none
  list : mg "list" = none
  sorted : mg "sorted" = none
  sum : mg "sum" = none
section
variable {P : Program} {w : World} {K : PySem.W.Frag} {mg : Str → Option Value} {base : Heap}
abbrev nLaw : List Str := ["script", "k", "numbers", "amount", "bottom", "advances", "j", "kept", "top", "common", "shares", "scale", "name", "one", "other", "two", "first", "second", "d"]
theorem scLaw : FnScope nLaw ["script"] (defScope sLaw) := ⟨rfl, rfl, rfl, by decide +kernel, rfl, by decide +kernel, by decide +kernel⟩
def spLaw (K : PySem.W.Frag) : Sp := fun vs H Q _ => ∃ (a : Addr) (ns : List Int), vs = [.ref a] ∧ SqL K H a (ns.map V.int) ∧ ns.length ≤ 63 ∧ ∀ H', Q (.bl true) H'
theorem ok_law {f : Addr} {fd : FuncData} (F : Fun K "law" "law" sLaw f fd) (B : BI mg) (TC : Has P w K mg base "_law_cell" ["script", "k"] 4 (spCel K)) (TN : Has P w K mg base "_law_numbers" ["cell", "many"] 4 spNum) (TL : Has P w K mg base "levels" ["amount", "advances"] 4 (spLvs K)) : FnOk P w K mg base CX0 5 f fd ["script"] (spLaw K) := by
  obtain ⟨fCel, fdCel, mCel, kCel, bCel, GCel⟩ := TC.ok
  obtain ⟨fNum, fdNum, mNum, kNum, bNum, GNum⟩ := TN.ok
  obtain ⟨fLvs, fdLvs, mLvs, kLvs, bLvs, GLvs⟩ := TL.ok
  refine F.ok scLaw (fun vs H Q E h => ?_) (fun cdv A outer s H vs Q E hr h => ?_)
  · obtain ⟨a, ns, rfl, _⟩ := h
    rfl
  · obtain ⟨a0, ns, rfl, hS, hlen, go⟩ := h
    have hu := hu_of hr
    have hu64 := hr.units
    have hu0 := hr.units0
    refine ⟨_, (pss_cons (ps_for PassesOwn.never rfl (pi_range1 rfl B.range (pa_cons (pe_callB (call_max2 rfl) (by rfl) B.max (by decide +kernel) (pa_cons pe_int (pa_cons (pe_callB (call_min2 rfl) (by rfl) B.min (by decide +kernel) (pa_cons (pe_callB call_len_seq (by rfl) B.len PySem.boot_len (pa_cons (pv 0) pa_nil)) (pa_cons pe_int pa_nil))) pa_nil))) pa_nil)) (pg_name (i := 1) scLaw.nd rfl (.inl rfl)) (pss_cons (ps_set (i := 2) scLaw.nd rfl (.inl rfl) (pe_call GNum hr (by rfl) mNum kNum bNum .nil pass0 (pa_cons (pe_call GCel hr (by rfl) mCel kCel bCel .nil pass0 (pa_cons (pv 0) (pa_cons (pv 1) pa_nil))) (pa_cons pe_int pa_nil))))
      (pss_cons (ps_set (i := 3) scLaw.nd rfl (.inl rfl) (pe_op op_mod (pe_callTy call_int1 (by rfl) B.int (by decide +kernel) (pa_cons (pe_ix ix_list (pv 2) pe_int (fun _ _ => rfl)) pa_nil)) (pe_ix ix_list (pe_lst (pa_cons pe_int (pa_cons pe_int (pa_cons pe_int pa_nil)))) (pe_op op_mod (pe_callTy call_int1 (by rfl) B.int (by decide +kernel) (pa_cons (pe_ix ix_list (pv 2) pe_int (fun _ _ => rfl)) pa_nil)) pe_int) (fun _ _ => rfl))))
      (pss_cons (ps_set (i := 4) scLaw.nd rfl (.inr rfl) (pe_op op_add pe_int (pe_op op_mod (pe_callTy call_int1 (by rfl) B.int (by decide +kernel) (pa_cons (pe_op op_fdiv (pe_ix ix_list (pv 2) pe_int (fun _ _ => rfl)) pe_int) pa_nil)) pe_int)))
      (pss_cons (ps_set (i := 5) scLaw.nd rfl (.inl rfl) pe_dnewK)
      (pss_cons (ps_for PassesOwn.never rfl (pi_range1 rfl B.range (pa_cons (pe_op op_add pe_int (pe_op op_mod (pe_callTy call_int1 (by rfl) B.int (by decide +kernel) (pa_cons (pe_ix ix_list (pv 2) pe_int (fun _ _ => rfl)) pa_nil)) pe_int)) pa_nil)) (pg_name (i := 6) scLaw.nd rfl (.inl rfl)) (pss_one (ps_dput hu (pv 5) (pe_op op_add_str pe_str (pe_callTy call_str_int (by rfl) B.str (by decide +kernel) (pa_cons (pe_op op_mod (pe_callTy call_int1 (by rfl) B.int (by decide +kernel) (pa_cons (pe_op op_fdiv (pe_ix ix_list (pv 2) (pe_op op_add pe_int (pv 6)) (fun _ _ => rfl)) pe_int) pa_nil)) pe_int) pa_nil))) (pe_op op_mod (pe_callTy call_int1 (by rfl) B.int (by decide +kernel) (pa_cons (pe_ix ix_list (pv 2) (pe_op op_add pe_int (pv 6)) (fun _ _ => rfl)) pa_nil)) (pe_ix ix_list (pe_lst (pa_cons pe_int (pa_cons pe_int (pa_cons pe_int (pa_cons pe_int pa_nil))))) (pe_op op_mod (pe_callTy call_int1 (by rfl) B.int (by decide +kernel) (pa_cons (pe_op op_fdiv (pe_ix ix_list (pv 2) pe_int (fun _ _ => rfl)) pe_int) pa_nil)) pe_int) (fun _ _ => rfl))) rfl)))
      (pss_cons (ps_set (i := 7) scLaw.nd rfl (.inl rfl) (pe_callTy call_dictD (by rfl) B.dict (by decide +kernel) (pa_cons (pv 5) pa_nil)))
      (pss_cons (ps_set (i := 8) scLaw.nd rfl (.inr rfl) (pv 3))
      (pss_cons (ps_for PassesOwn.never rfl (pi_range1 rfl B.range (pa_cons pe_int pa_nil)) (pg_name (i := 6) scLaw.nd rfl (.inl rfl)) (pss_one (ps_if (PW.pt (pw_and (pt_cmpR op_gt (pv 8) pe_int (nomark _)) (pw_and (pt_cmpR op_gt (pv 4) pe_int (nomark _)) (pw_and1 (pt_cmpR op_eq (pe_op op_mod (pe_callTy call_int1 (by rfl) B.int (by decide +kernel) (pa_cons (pv 8) pa_nil)) (pv 4)) pe_int (nomark _)))))) (pss_cons (ps_set (i := 8) scLaw.nd rfl (.inr rfl) (pe_op op_fdiv (pv 8) (pv 4)))
      (pss_one (ps_set (i := 4) scLaw.nd rfl (.inr rfl) pe_int))) pss_nil)))
      (pss_cons (ps_setLc (i := 9) (own := [("d", 18)]) (g := gName 18) rfl scLaw.nd rfl rfl (sw_true rfl rfl rfl (by decide +kernel)) (pi_range2 rfl B.range (pa_cons pe_int (pa_cons (pe_op op_add (pv 4) pe_int) pa_nil))) (blkOk_by (N := nLaw) (sc := defScope sLaw) (by decide +kernel)) (fun _ _ _ _ _ => (pg_name (i := 18) scLaw.nd rfl (.inl rfl) (.inr rfl))) (fun _ _ _ _ _ => pts_one (PW.pt (pw_and (pt_cmpR op_eq (pe_op op_mod (pe_callTy call_int1 (by rfl) B.int (by decide +kernel) (pa_cons (pv 8) pa_nil)) (pv 18)) pe_int (nomark _)) (pw_and1 (pt_cmpR op_eq (pe_op op_mod (pe_callTy call_int1 (by rfl) B.int (by decide +kernel) (pa_cons (pv 4) pa_nil)) (pv 18)) pe_int (nomark _)))))) (fun _ _ _ _ _ => (pv 18)))
      (pss_cons (ps_set (i := 10) scLaw.nd rfl (.inr rfl) (pe_call GLvs hr (by rfl) mLvs kLvs bLvs .nil pass0 (pa_cons (pe_tup (pa_cons (pe_op op_fdiv (pv 8) (pe_callB (cr_max rfl) (by rfl) B.max (by decide +kernel) (pa_cons (pv 9) pa_nil))) (pa_cons (pe_op op_fdiv (pv 4) (pe_callB (cr_max rfl) (by rfl) B.max (by decide +kernel) (pa_cons (pv 9) pa_nil))) pa_nil))) (pa_cons (pv 5) pa_nil))))
      (pss_cons (ps_if (PW.pt (pw_or (pt_cmpR (op_neTx hu64) (pe_callTy (call_listD rfl) (by rfl) B.list (by decide +kernel) (pa_cons (pv 10) pa_nil)) (pe_callB (call_sortedD rfl) (by rfl) B.sorted (by decide +kernel) (pa_cons (pv 5) pa_nil)) (nomark _)) (pw_or1 (pt_cmpR (op_neIn hu0) (pv 5) (pv 7) (nomark _))))) (pss_one (ps_ret pe_bl)) pss_nil)
      (pss_cons (ps_set (i := 11) scLaw.nd rfl (.inr rfl) pe_int)
      (pss_cons (ps_lock (ps_for PassesOwn.never rfl (pi_keys (pv 10)) (pg_name (i := 12) scLaw.nd rfl (.inl rfl)) (pss_one (ps_set (i := 11) scLaw.nd rfl (.inr rfl) (pe_op op_mulG (pv 11) (pe_ix ix_tup (pe_dget hu (pv 10) (pv 12) (fun _ _ => rfl)) pe_int (fun _ _ => rfl)))))))
      (pss_cons (ps_set (i := 11) scLaw.nd rfl (.inr rfl) (pe_op op_mulG (pv 11) (pv 4)))
      (pss_cons (ps_if (pt_cmpR op_ne (pe_op op_mulG (pe_callB (cr_sum rfl) (by rfl) B.sum (by decide +kernel) (pa_cons (pe_lock (pe_lc (own := [("name", 12)]) (g := gName 12) (tt := tYes) rfl scLaw.nd (pi_keys (pv 10)) (blkOk_by (N := nLaw) (sc := defScope sLaw) (by decide +kernel)) (fun _ _ _ _ _ => (pg_name (i := 12) scLaw.nd rfl (.inl rfl) (.inr rfl))) (fun _ _ _ _ _ => pts_nil) (fun _ _ _ _ _ => (pe_op op_divG (pe_op op_mulG (pe_ix (show IxR _ (rIxT K) from ix_tup) (pe_dget hu (pv 10) (pv 12) (fun _ _ => rfl)) pe_int (fun _ _ => rfl)) (pv 11)) (pe_ix (show IxR _ (rIxT K) from ix_tup) (pe_dget hu (pv 10) (pv 12) (fun _ _ => rfl)) pe_int (fun _ _ => rfl)))))) pa_nil)) (pv 4)) (pe_op op_mulG (pv 8) (pv 11)) (nomark _)) (pss_one (ps_ret pe_bl)) pss_nil)
      (pss_one (ps_lock (ps_for PassesOwn.never rfl (pi_keys (pv 10)) (pg_name (i := 12) scLaw.nd rfl (.inl rfl)) (pss_cons (ps_set (i := 13) scLaw.nd rfl (.inl rfl) (pe_dget hu (pv 10) (pv 12) (fun _ _ => rfl)))
      (pss_cons (ps_if (PW.pt (pw_or (pt_cmpR op_lt (pe_ix ix_tup (pv 13) pe_int (fun _ _ => rfl)) pe_int (nomark _)) (pw_or1 (pt_cmpR op_lt (pe_ix ix_tup (pv 13) pe_int (fun _ _ => rfl)) pe_int (nomark _))))) (pss_one (ps_ret pe_bl)) pss_nil)
      (pss_one (ps_for PassesOwn.never rfl (pi_keys (pv 10)) (pg_name (i := 14) scLaw.nd rfl (.inl rfl)) (pss_cons (ps_set (i := 15) scLaw.nd rfl (.inl rfl) (pe_dget hu (pv 10) (pv 14) (fun _ _ => rfl)))
      (pss_cons (ps_set (i := 16) scLaw.nd rfl (.inl rfl) (pe_op op_add (pe_op op_mulG (pe_ix ix_tup (pv 13) pe_int (fun _ _ => rfl)) (pe_ix ix_tup (pv 15) pe_int (fun _ _ => rfl))) (pe_op op_mulG (pe_op op_mulG (pe_dget hu (pv 5) (pv 12) (fun _ _ => rfl)) (pe_ix ix_tup (pv 13) pe_int (fun _ _ => rfl))) (pe_ix ix_tup (pv 15) pe_int (fun _ _ => rfl)))))
      (pss_cons (ps_set (i := 17) scLaw.nd rfl (.inl rfl) (pe_op op_add (pe_op op_mulG (pe_ix ix_tup (pv 15) pe_int (fun _ _ => rfl)) (pe_ix ix_tup (pv 13) pe_int (fun _ _ => rfl))) (pe_op op_mulG (pe_op op_mulG (pe_dget hu (pv 5) (pv 14) (fun _ _ => rfl)) (pe_ix ix_tup (pv 13) pe_int (fun _ _ => rfl))) (pe_ix ix_tup (pv 15) pe_int (fun _ _ => rfl)))))
      (pss_cons (ps_if (PW.pt (pw_and (pt_cmpR op_gt (pe_ix ix_tup (pv 13) pe_int (fun _ _ => rfl)) pe_int (nomark _)) (pw_and (pt_cmpR op_gt (pe_ix ix_tup (pv 15) pe_int (fun _ _ => rfl)) pe_int (nomark _)) (pw_and1 (pt_cmpR op_ne (pv 16) (pv 17) (nomark _)))))) (pss_one (ps_ret pe_bl)) pss_nil)
      (pss_one (ps_if (PW.pt (pw_and (pt_cmpR op_gt (pe_ix ix_tup (pv 13) pe_int (fun _ _ => rfl)) pe_int (nomark _)) (pw_and (pt_cmpR op_eq (pe_ix ix_tup (pv 15) pe_int (fun _ _ => rfl)) pe_int (nomark _)) (pw_and1 (pt_cmpR op_lt (pv 17) (pv 16) (nomark _)))))) (pss_one (ps_ret pe_bl)) pss_nil)))))))))))))))))))))))))))))
      (pss_one (ps_ret pe_bl))), ?_⟩
    have hl63 : ((ns.map V.int).length : Int) = (ns.length : Int) := by rw [List.length_map]
    refine ⟨_, rfl, a0, _, rfl, .inl hS, _, _, rfl, _, _, rfl, _, rfl, ?_, ?_, ?_⟩
    · show -(2 ^ 62 : Int) ≤ (if (if (6 : Int) < ((ns.map V.int).length : Int) then (6 : Int) else ((ns.map V.int).length : Int)) > 1 then (if (6 : Int) < ((ns.map V.int).length : Int) then (6 : Int) else ((ns.map V.int).length : Int)) else 1)
      split <;> omega
    · show (if (if (6 : Int) < ((ns.map V.int).length : Int) then (6 : Int) else ((ns.map V.int).length : Int)) > 1 then (if (6 : Int) < ((ns.map V.int).length : Int) then (6 : Int) else ((ns.map V.int).length : Int)) else 1) < (2 ^ 62 : Int)
      split <;> omega
    refine for_range (lo := 0) (n := _) (fun i σ H' => ∃ y1 y2 y3 y4 y5 y6 y7 y8 y9 y10 y11 y12 y13 y14 y15 y16 y17 y18, σ = [some (.ref a0), y1, y2, y3, y4, y5, y6, y7, y8, y9, y10, y11, y12, y13, y14, y15, y16, y17, y18] ∧ Same H H')
      ⟨none, none, none, none, none, none, none, none, none, none, none, none, none, none, none, none, none, none, rfl, Same.refl _⟩ ?_ (fun σ H' _ => go H')
    rintro i σ H0 hi ⟨y1, y2, y3, y4, y5, y6, y7, y8, y9, y10, y11, y12, y13, y14, y15, y16, y17, y18, rfl, sm0⟩
    -- numbers
    refine ⟨_, rfl, _, rfl, a0, ns, 0 + (i : Int), rfl, sm0.seq hS, by omega, cell ns (0 + (i : Int)), 16, rfl, by decide, fun nl H1 xs sm1 nnl e1 xl xn => ?_⟩
    have sm1 := sm0.trans sm1
    clear nnl
    have nat (j : Nat) (hj : j < 16) : atI (xs.map V.int) ((j : Nat) : Int) = some (.int xs[j]) := nat_num (i := j) (by omega)
    have at0 : atI (xs.map V.int) 0 = some (.int xs[0]) := nat 0 (by decide)
    have at1 : atI (xs.map V.int) 1 = some (.int xs[1]) := nat 1 (by decide)
    have at2 : atI (xs.map V.int) 2 = some (.int xs[2]) := nat 2 (by decide)
    -- amount
    refine ⟨_, rfl, nl, _, 0, _, rfl, rfl, SqL.of e1, at0, .inl ⟨_, rfl, (by show 3 ≤ sizeLine; decide), fun l2 nl2 => ?_⟩⟩
    have e2 : ∀ o, upd H1 l2 o nl = some (.lst (xs.map V.int)) := fun o => by
      rw [upd_ne (ne_of_none e1 nl2)]
      exact e1
    obtain ⟨mA, hm, m0, m1⟩ := pickA (x := xs[1])
    refine ⟨_, rfl, nl, _, 1, _, rfl, rfl, SqL.of (e2 _), at1, .inl ⟨_, rfl, _, _, rfl, rfl, (by show (0 : Int) < 3; decide), l2, _, _, .int mA, rfl, rfl, SqL.of upd_same, hm, _, _, rfl, rfl, m0, ?_⟩⟩
    have A0 : 0 ≤ xs[0] % mA := Int.emod_nonneg _ (by omega)
    have A1 : xs[0] % mA < 5000 := Int.lt_of_lt_of_le (Int.emod_lt_of_pos _ m0) m1
    have e2' := e2 (.lst [V.int 1, .int 50, .int 5000])
    have sm2 := sm1.trans (same_upd (o := .lst [V.int 1, .int 50, .int 5000]) nl2)
    generalize upd H1 l2 (.lst [V.int 1, .int 50, .int 5000]) = H2 at e2' sm2 ⊢
    clear hm m0 m1 e2 e1 nl2 sm1
    -- bottom
    refine ⟨_, rfl, nl, _, 1, _, rfl, rfl, SqL.of e2', at1, _, _, rfl, rfl, ⟨by decide, by decide⟩, .inl ⟨_, rfl, _, _, rfl, rfl, (by show (0 : Int) < 5; decide), _, _, rfl, rfl, ?_⟩⟩
    have B0 := Int.emod_nonneg (xs[1] / 3) (b := 5) (by decide)
    have B1 := Int.emod_lt_of_pos (xs[1] / 3) (b := 5) (by decide)
    -- advances
    intro d hd
    have nld : nl ≠ d := ne_of_none e2' hd
    have hdH : H d = none := sm2.free hd
    refine ⟨_, rfl, nl, _, 2, _, rfl, rfl, SqL.of (by rw [upd_ne nld]; exact e2'), at2, .inl ⟨_, rfl, _, _, rfl, rfl, (by show (0 : Int) < 12; decide), _, _, rfl, rfl, 1 + xs[2] % 12, rfl, ?_, ?_, ?_⟩⟩
    · have := Int.emod_nonneg xs[2] (b := 12) (by decide)
      omega
    · have := Int.emod_lt_of_pos xs[2] (b := 12) (by decide)
      omega
    have hn12 : 0 < (1 + xs[2] % 12).toNat ∧ (1 + xs[2] % 12).toNat ≤ 12 := by
      have := Int.emod_nonneg xs[2] (b := 12) (by decide)
      have := Int.emod_lt_of_pos xs[2] (b := 12) (by decide)
      omega
    generalize (1 + xs[2] % 12).toNat = n at hn12 ⊢
    refine for_range (lo := 0) (n := n) (fun j σ Hx => ∃ (L : List (Str × Int)) (y6 : Option V), σ = [some (.ref a0), some (.int (0 + (i : Int))), some (.ref nl), some (.int (xs[0] % mA)), some (.int (1 + xs[1] / 3 % 5)), some (.ref d), y6, y7, y8, y9, y10, y11, y12, y13, y14, y15, y16, y17, y18] ∧ (∀ b o, H2 b = some o → Hx b = some o) ∧ Hx d = some (.dK (advK L)) ∧
      (L.map (·.1)).Nodup ∧ L.length ≤ j ∧ (0 < j → 0 < L.length) ∧ ∀ p ∈ L, (0 ≤ p.2 ∧ p.2 < 1048576) ∧ PyData.strOk p.1 = true) ⟨[], y6, rfl, (fun b o hb => by rw [upd_ne (ne_of_none hb hd)]; exact hb), upd_same, List.nodup_nil, Nat.le_refl _, (fun h => absurd h (Nat.lt_irrefl _)), (fun p hp => by cases hp)⟩ ?_ ?_
    · rintro j σ Hx hj ⟨L, y6, rfl, kp, dx, nd, ll, lp, ps⟩
      have nx : Hx nl = some (.lst (xs.map V.int)) := kp nl _ e2'
      have at3 : atI (xs.map V.int) (3 + (0 + (j : Int))) = some (.int (xs[3 + j]'(by omega))) := by
        rw [show (3 : Int) + (0 + (j : Int)) = ((3 + j : Nat) : Int) by omega]
        exact nat (3 + j) (by omega)
      refine ⟨_, rfl, _, rfl, _, _, rfl, rfl, nl, _, _, _, rfl, rfl, SqL.of nx, at3, .inl ⟨_, rfl, (by show 4 ≤ sizeLine; decide), fun l3 nl3 => ?_⟩⟩
      have nx3 : ∀ o, upd Hx l3 o nl = some (.lst (xs.map V.int)) := fun o => by
        rw [upd_ne (ne_of_none nx nl3)]
        exact nx
      obtain ⟨m, hm, m0, m1⟩ := pickB (x := xs[2] / 12)
      have a0' := Int.emod_nonneg ((xs[3 + j]'(by omega)) / 9) (b := 40) (by decide)
      have a1' := Int.emod_lt_of_pos ((xs[3 + j]'(by omega)) / 9) (b := 40) (by decide)
      obtain ⟨g1, g2⟩ := dig40 a0' a1'
      have v0 : 0 ≤ (xs[3 + j]'(by omega)) % m := Int.emod_nonneg _ (by omega)
      have v1 : (xs[3 + j]'(by omega)) % m < 4000 := Int.lt_of_lt_of_le (Int.emod_lt_of_pos _ m0) m1
      have dx3 : upd Hx l3 (.lst [V.int 1, .int 9, .int 400, .int 4000]) d = some (.dK (advK L)) := by
        rw [upd_ne (ne_of_none dx nl3)]
        exact dx
      have ln : ("n" : Str).length = 1 := by decide +kernel
      have hlen : (advK L).length < sizeLine := by
        unfold advK
        rw [List.length_map]
        exact small1000 (by omega)
      refine ⟨_, rfl, nl, _, 2, _, rfl, rfl, SqL.of (nx3 _), at2, _, _, rfl, rfl, ⟨by decide, by decide⟩, .inl ⟨_, rfl, _, _, rfl, rfl, (by show (0 : Int) < 4; decide), l3, _, _, .int m, rfl, rfl, SqL.of upd_same, hm, _, _, rfl, rfl, m0, ?_⟩⟩
      refine ⟨_, rfl, _, rfl, _, rfl, _, _, rfl, rfl, nl, _, _, _, rfl, rfl, SqL.of (nx3 _), at3, _, _, rfl, rfl, ⟨by decide, by decide⟩, .inl ⟨_, rfl, _, _, rfl, rfl, (by show (0 : Int) < 40; decide), _, rfl, lg a0' (by omega), _, _, rfl, rfl, Nat.le_of_lt (small1000 (by show ("n" : Str).length + (dig ((xs[3 + j]'(by omega)) / 9 % 40)).length ≤ 1000; omega)), d, _, rfl, DPut.k (k := Sum.inr (("n" : Str) ++ dig ((xs[3 + j]'(by omega)) / 9 % 40))) dx3 hlen, ?_⟩⟩
      obtain ⟨L', eL, nd', ll', lp', ps'⟩ := advK_put (L := L) (k := ("n" : Str) ++ dig ((xs[3 + j]'(by omega)) / 9 % 40)) (v := (xs[3 + j]'(by omega)) % m) nd
      refine ⟨L', some (.int (0 + (j : Int))), rfl, fun b o hb => ?_, ?_, nd', by omega, fun _ => lp', fun p hp => ?_⟩
      · have hbd : b ≠ d := ne_of_none hb hd
        rw [upd_ne hbd, upd_ne (ne_of_none (kp b o hb) nl3)]
        exact kp b o hb
      · rw [upd_same]
        exact congrArg (fun z => some (HO.dK z)) eL
      · rcases ps' p hp with z | z
        · exact ps p z
        · rw [z]
          exact ⟨⟨v0, by show (xs[3 + j]'(by omega)) % m < 1048576; omega⟩, ok_app (by decide +kernel) g2⟩
    rintro σ H3 ⟨L, y6, rfl, kp, hd3, nd, ll, lp, ps⟩
    have l12 : L.length ≤ 12 := by omega
    have l0 : 0 < L.length := lp hn12.1
    have hA : Adv (L.map (·.2)) := fun z hz => by
      obtain ⟨p, hp, rfl⟩ := List.mem_map.mp hz
      exact (ps p hp).1
    have sm3 : Same H H3 := fun b o hb => kp b o (sm2 b o hb)
    clear at0 at1 at2 nat kp e2' nld hd lp ll sm2 hn12
    -- kept
    refine ⟨_, rfl, d, _, rfl, .inl hd3, fun dk ndk => ?_⟩
    have hd4 : upd H3 dk (.dK (advK L)) d = some (.dK (advK L)) := by
      rw [upd_ne (ne_of_none hd3 ndk)]
      exact hd3
    have hk4 : upd H3 dk (.dK (advK L)) dk = some (.dK (advK L)) := upd_same
    have sm4 := sm3.trans (same_upd (o := .dK (advK L)) ndk)
    generalize upd H3 dk (.dK (advK L)) = H4 at hd4 hk4 sm4 ⊢
    clear hd3 ndk sm3
    -- top
    refine ⟨_, rfl, ?_⟩
    refine ⟨6, rfl, by decide, by decide, ?_⟩
    refine for_range (lo := 0) (n := 6) (fun j σ Hx => ∃ (t b : Int) (y6 : Option V), σ = [some (.ref a0), some (.int (0 + (i : Int))), some (.ref nl), some (.int (xs[0] % mA)), some (.int b), some (.ref d), y6, some (.ref dk), some (.int t), y9, y10, y11, y12, y13, y14, y15, y16, y17, y18] ∧ H4 = Hx ∧ 0 ≤ t ∧ t < 5000 ∧ 0 < b ∧ b ≤ 5)
      ⟨xs[0] % mA, 1 + xs[1] / 3 % 5, y6, rfl, rfl, A0, A1, by omega, by omega⟩ ?_ ?_
    · rintro j σ Hx hj ⟨t, b, y6, rfl, rfl, t0, t1, b0, b1⟩
      refine ⟨_, rfl, _, _, rfl, rfl, _, rfl, ite2 (fun c1 => ?_) (fun _ => ⟨t, b, _, rfl, rfl, t0, t1, b0, b1⟩)⟩
      refine ⟨_, rfl, _, _, rfl, rfl, _, rfl, ite2 (fun c2 => ?_) (fun _ => ⟨t, b, _, rfl, rfl, t0, t1, b0, b1⟩)⟩
      refine ⟨_, rfl, .inl ⟨_, rfl, _, rfl, _, _, rfl, rfl, b0, rfl, _, rfl, ite2 (fun c3 => ?_) (fun _ => ⟨t, b, _, rfl, rfl, t0, t1, b0, b1⟩)⟩⟩
      have q1 : t / b ≤ t := Int.ediv_le_self _ t0
      exact ⟨_, rfl, _, rfl, _, _, rfl, rfl, ⟨b0, by omega⟩, t / b, 1, _, rfl, rfl, Int.ediv_nonneg t0 (by omega), by omega, by decide, by decide⟩
    rintro σ Hx ⟨t, b, y6, rfl, rfl, t0, t1, b0, b1⟩
    clear A0 A1 B0 B1
    -- common
    refine ⟨_, rfl, _, _, rfl, rfl, 1, b + 1, rfl, ⟨by decide, by decide, by omega, by omega⟩, fun D nD => ?_⟩
    refine lc_range (lo := 1) (n := (b + 1 - 1).toNat) (fun j Hy => Same H4 Hy ∧ ∃ cs : List Int, Hy D = some (.lst (cs.map V.int)) ∧ cs.length ≤ j ∧ ∀ c, c ∈ cs ↔ (∃ u : Nat, u < j ∧ c = 1 + (u : Int)) ∧ t % c = 0 ∧ b % c = 0)
      ⟨same_upd nD, [], upd_same, Nat.le_refl _, fun c => ⟨(fun h => by cases h), fun ⟨⟨u, hu, _⟩, _⟩ => absurd hu (Nat.not_lt_zero _)⟩⟩ ?_ ?_
    · rintro j Hy hj ⟨smy, cs, hc, cl, cm⟩
      have nope (h : ¬ (t % (1 + (j : Int)) = 0 ∧ b % (1 + (j : Int)) = 0)) : Same H4 Hy ∧ ∃ cs : List Int, Hy D = some (.lst (cs.map V.int)) ∧ cs.length ≤ j + 1 ∧ ∀ c, c ∈ cs ↔ (∃ u : Nat, u < j + 1 ∧ c = 1 + (u : Int)) ∧ t % c = 0 ∧ b % c = 0 := by
        refine ⟨smy, cs, hc, Nat.le_succ_of_le cl, fun c => ⟨fun z => ?_, fun ⟨⟨u, hu, eu⟩, z⟩ => ?_⟩⟩
        · obtain ⟨⟨u, hu, eu⟩, z⟩ := (cm c).mp z
          exact ⟨⟨u, by omega, eu⟩, z⟩
        · rcases Nat.lt_or_ge u j with g | g
          · exact (cm c).mpr ⟨⟨u, g, eu⟩, z⟩
          · have : u = j := by omega
            rw [this] at eu
            rw [eu] at z
            exact absurd z h
      refine ⟨rfl, _, rfl, .inl ⟨_, rfl, _, rfl, _, _, rfl, rfl, (by show (0 : Int) < 1 + (j : Int); omega), rfl, _, rfl, ite2 (fun c1 => ?_) (fun c1 => iteF (nope fun z => c1 (decide_eq_true (congrArg V.int z.1))))⟩⟩
      have c1' : t % (1 + (j : Int)) = 0 := V.int.inj (of_decide_eq_true c1)
      refine ⟨_, rfl, .inl ⟨_, rfl, _, rfl, _, _, rfl, rfl, (by show (0 : Int) < 1 + (j : Int); omega), rfl, _, rfl, ite2 (fun c2 => ?_) (fun c2 => nope fun z => c2 (decide_eq_true (congrArg V.int z.2)))⟩⟩
      have c2' : b % (1 + (j : Int)) = 0 := V.int.inj (of_decide_eq_true c2)
      refine ⟨_, rfl, _, hc, by rw [List.length_map]; exact small1000 (by omega), fun x o hx => ?_, cs ++ [1 + (j : Int)], ?_, by rw [List.length_append]; exact Nat.succ_le_succ cl, fun c => ⟨fun z => ?_, fun ⟨⟨u, hu, eu⟩, z⟩ => ?_⟩⟩
      · rw [upd_ne (ne_of_none hx nD)]
        exact smy x o hx
      · rw [upd_same, List.map_append]
        rfl
      · rcases List.mem_append.mp z with z | z
        · obtain ⟨⟨u, hu, eu⟩, z⟩ := (cm c).mp z
          exact ⟨⟨u, by omega, eu⟩, z⟩
        · rw [List.mem_singleton.mp z]
          exact ⟨⟨j, by omega, rfl⟩, c1', c2'⟩
      · rcases Nat.lt_or_ge u j with g | g
        · exact List.mem_append_left _ ((cm c).mpr ⟨⟨u, g, eu⟩, z⟩)
        · have : u = j := by omega
          rw [this] at eu
          exact List.mem_append_right _ (List.mem_singleton.mpr eu)
    rintro H5 ⟨sm5, cs, hc, cl, cm⟩
    have bn : (b + 1 - 1).toNat = b.toNat := by omega
    rw [bn] at cl cm
    have hd5 := sm5 _ _ hd4
    have hk5 := sm5 _ _ hk4
    have sm5 := sm4.trans sm5
    clear hd4 hk4 sm4 nD
    have one_in : (1 : Int) ∈ cs := (cm 1).mpr ⟨⟨0, by omega, rfl⟩, Int.emod_one _, Int.emod_one _⟩
    have c0 : 0 < cs.length := List.length_pos_of_mem one_in
    have gcd_of (m : Int) (hm : m ∈ cs) (hx : ∀ y, y ∈ cs → y ≤ m) : m = gd t b := by
      obtain ⟨⟨u, hu, eu⟩, z1, z2⟩ := (cm m).mp hm
      exact max_gcd b0 (by omega) z1 z2 fun e e1 e2 e3 e4 => hx e ((cm e).mpr ⟨⟨(e - 1).toNat, by omega, by omega⟩, e3, e4⟩)
    have g0 := gd_pos (t := t) (b := b) (by omega)
    have gl := gd_le (t := t) (b := b) (by omega)
    -- shares
    refine ⟨_, rfl, _, rfl, D, cs, rfl, SqL.of hc, c0, fun m hm hx => ?_⟩
    have em := gcd_of m hm hx
    refine ⟨_, _, rfl, rfl, ⟨by omega, by omega⟩, _, rfl, _, rfl, D, cs, rfl, SqL.of hc, c0, fun m2 hm2 hx2 => ?_⟩
    have em2 := gcd_of m2 hm2 hx2
    rw [em2, ← em]
    refine ⟨_, _, rfl, rfl, ⟨by omega, by omega⟩, (by show 2 ≤ sizeLine; decide), fun tq ntq => ?_⟩
    have eqf := fv_gcd b0 em
    have q0 := divInt_nn t0 b0
    have qS : Sz 30 4 (Rat.divInt t b) := Sz.div (by omega) (Bt.small (by omega) (by omega)) (by show _ < 16; omega)
    have hb0 : b ≠ 0 := by omega
    refine ⟨_, rfl, tq, d, Rat.divInt t b, L, rfl, by rw [← eqf]; exact SqT.of upd_same, same_upd ntq _ _ hd5, nd, l0, by omega, hA, q0, qS, fun p H6 kvs lv ys sm6 py sy S esum szs => ?_⟩
    have sm6' := (same_upd ntq).trans sm6
    have hd6 := sm6' _ _ hd5
    have hk6 := sm6' _ _ hk5
    have sm6 := sm5.trans sm6'
    clear sm6' hd5 hk5 ntq eqf em em2 gcd_of one_in cm cl hc c0 hm hx hm2 hx2 sm5 g0 gl
    have yl : ys.length = L.length := by rw [py.length_eq, List.length_map]
    have oky : ∀ k ∈ ys, PyData.strOk k = true := fun k hk => by
      obtain ⟨x, hx, rfl⟩ := List.mem_map.mp (py.mem_iff.mp hk)
      exact (ps x hx).2
    have ndy : ys.Nodup := py.nodup_iff.mpr nd
    have ekeys : kvs.map (fun kv => kV kv.1) = ys.map V.str := by
      have e : kvs.map (fun kv => kV kv.1) = (kvs.map (·.1)).map kV := by
        rw [List.map_map]
        rfl
      rw [e, S.ks]
      unfold porL
      rw [List.map_map, List.map_map]
      rfl
    -- list(shares) != sorted(advances)
    refine ⟨_, rfl, p, kvs, rfl, .inl S.dk, fun l7 nl7 => ?_⟩
    rw [ekeys]
    have s7 := same_upd (o := .lst (ys.map V.str)) nl7
    refine ⟨_, rfl, d, advK L, L.map (·.1), rfl, .inl (s7 _ _ hd6), advK_keys L, by rw [List.length_map]; omega, fun ys8 p8 pe8 so8 np8 => ?_⟩
    have e8 : ys8 = ys := sortedS_one so8 sy (pe8.trans py.symm)
    rw [e8]
    refine ⟨l7, p8, ys, rfl, rfl, SqL.of (by rw [upd_ne (ne_of_none upd_same np8), upd_same]), SqL.of upd_same, oky, _, rfl, iteF ?_⟩
    have s8 := s7.trans (same_upd (o := .lst (ys.map V.str)) np8)
    have hd8 := s8 _ _ hd6
    have hk8 := s8 _ _ hk6
    have S8 : ShAt K _ p kvs (porL lv L ys) := S.same s8
    have sm8 := sm6.trans s8
    generalize upd (upd H6 l7 (.lst (ys.map V.str))) p8 (.lst (ys.map V.str)) = H8 at hd8 hk8 S8 sm8 ⊢
    clear S s8 s7 hd6 hk6 np8 nl7 so8 pe8 e8 sm6
    -- advances != kept
    refine ⟨_, rfl, _, rfl, d, dk, advK L, rfl, rfl, hd8, hk8, ?_, ?_, _, rfl, iteF ?_⟩
    · rw [advK_keys]
      exact List.pairwise_map.mpr (nd.imp fun h z => h (Sum.inr.inj z))
    · intro x hx
      unfold advK at hx
      obtain ⟨z, _, rfl⟩ := List.mem_map.mp hx
      exact ⟨_, rfl⟩
    have klen : kvs.length = ys.length := by
      rw [S8.len]
      unfold porL
      rw [List.length_map]
    -- the shares
    have pget (j : Nat) (k : Str) (h : ys[j]? = some k) : (porL lv L ys)[j]? = some (k, por lv (va L k)) := by
      unfold porL
      rw [List.getElem?_map, h]
      rfl
    have katk (j : Nat) (hj : j < kvs.length) (key : Key) (v : V) (ek : kvs[j]? = some (key, v)) : ∃ k tt, ys[j]? = some k ∧ k ∈ ys ∧ key = Sum.inr k ∧ v = .ref tt ∧ valV kvs (Sum.inr k : Key) = some (.ref tt) ∧ SqT K H8 tt (fv (por lv (va L k))) := by
      have hy : ys[j]? = some (ys[j]'(by omega)) := List.getElem?_eq_getElem (by omega)
      obtain ⟨tt, g1, g2, g3⟩ := S8.at (pget j _ hy)
      rw [ek] at g1
      have z := Option.some.inj g1
      exact ⟨_, tt, hy, List.getElem_mem _, congrArg Prod.fst z, congrArg Prod.snd z, g2, g3⟩
    have tinf (od : Obj) (tt : Addr) (q : Rat) (h : SqT K H8 tt (fv q)) : SqT K (upd H8 p (.frz od (.dK kvs))) tt (fv q) := sqT_upd h S8.dk (by intro e; cases e) (by intro z e; cases e)
    have gfrz (od : Obj) (k : Str) (v : V) (h : valV kvs (Sum.inr k : Key) = some v) : DGet (upd H8 p (.frz od (.dK kvs))) p (.str k) (some v) := .inl ⟨_, Sum.inr k, .inr ⟨od, upd_same⟩, rfl, h.symm⟩
    have back (od : Obj) : Same H8 (upd (upd H8 p (.frz od (.dK kvs))) p (.dK kvs)) := fun x o hx => by
      by_cases e : x = p
      · rw [e] at hx ⊢
        rw [S8.dk] at hx
        rw [upd_same]
        exact hx
      · rw [upd_ne e, upd_ne e]
        exact hx
    have rget (j : Nat) (k : Str) (h : ys[j]? = some k) : (ys.map fun k => por lv (va L k))[j]? = some (por lv (va L k)) := by
      rw [List.getElem?_map, h]
      rfl
    have rszs : ∀ r ∈ ys.map fun k => por lv (va L k), r.den < 2 ^ 30 := fun r hr => by
      obtain ⟨k, hk, rfl⟩ := List.mem_map.mp hr
      exact (szs k hk).d
    have dtake (j : Nat) : Bt 2000 (dprod ((ys.map fun k => por lv (va L k)).take j)) := by
      refine (dprod_bt _ (rs := (ys.map fun k => por lv (va L k)).take j) rfl fun r hr => rszs r (List.mem_of_mem_take hr)).mono ?_
      have : ((ys.map fun k => por lv (va L k)).take j).length ≤ 12 := by
        rw [List.length_take, List.length_map]
        omega
      omega
    -- scale
    refine ⟨p, .dK kvs, S8.dk, trivial, fun od => ?_⟩
    refine ⟨_, rfl, p, od, rfl, .inl ⟨kvs, upd_same, for_it walk_keys (fun j σ Hy => ∃ y12, σ = [some (.ref a0), some (.int (0 + (i : Int))), some (.ref nl), some (.int (xs[0] % mA)), some (.int b), some (.ref d), y6, some (.ref dk), some (.int t), some (.ref D), some (.ref p), some (.int (dprod ((ys.map fun k => por lv (va L k)).take j))), y12, y13, y14, y15, y16, y17, y18] ∧ Hy = upd H8 p (.frz od (.dK kvs)))
      ⟨y12, rfl, rfl⟩ (fun j σ Hy _ ⟨_, _, e⟩ => by rw [e]; exact upd_same) ?_ ?_⟩⟩
    · rintro j x σ Hy Hy' hj ⟨y12, rfl, rfl⟩ ⟨rfl, key, v, ek, rfl⟩
      obtain ⟨k, tt, yk, ky, rfl, rfl, g2, g3⟩ := katk j hj key v ek
      refine ⟨_, rfl, _, rfl, _, rfl, p, _, rfl, gfrz od k _ g2, tt, _, 1, _, rfl, rfl, tinf od tt _ g3, atI_nat (j := 1) rfl, _, _, rfl, rfl, (dtake j).ok ((szs k ky).db) (by decide) (by decide) (by decide), some (.str k), ?_, rfl⟩
      rw [dprod_take (rget j k yk)]
      rfl
    rintro σ Hy ⟨y12, rfl, rfl⟩
    refine ⟨upd_same, ?_⟩
    have sb := back od
    have S9 : ShAt K _ p kvs (porL lv L ys) := S8.same sb
    have hd9 := sb _ _ hd8
    have sm9 := sm8.trans sb
    generalize upd (upd H8 p (.frz od (.dK kvs))) p (.dK kvs) = H9 at S9 hd9 sm9 ⊢
    clear S8 hd8 hk8 sb back gfrz tinf katk sm8 od
    rw [klen]
    have etake : (ys.map fun k => por lv (va L k)).take ys.length = ys.map fun k => por lv (va L k) := by
      rw [List.take_of_length_le]
      rw [List.length_map]
      exact Nat.le_refl _
    rw [etake]
    have dall : Bt 2000 (dprod (ys.map fun k => por lv (va L k))) := by
      have := dtake ys.length
      rw [etake] at this
      exact this
    have bB : Bt 30 b := Bt.small (by omega) (by omega)
    have tB : Bt 30 t := Bt.small (by omega) (by omega)
    refine ⟨_, rfl, _, rfl, _, _, rfl, rfl, dall.ok bB (by decide) (by decide) (by decide), ?_⟩
    have all := all_given (rs := ys.map fun k => por lv (va L k)) hb0 esum
    have dB := dall.mul bB
    have katk (j : Nat) (hj : j < kvs.length) (key : Key) (v : V) (ek : kvs[j]? = some (key, v)) : ∃ k tt, ys[j]? = some k ∧ k ∈ ys ∧ key = Sum.inr k ∧ v = .ref tt ∧ valV kvs (Sum.inr k : Key) = some (.ref tt) ∧ SqT K H9 tt (fv (por lv (va L k))) := by
      have hy : ys[j]? = some (ys[j]'(by omega)) := List.getElem?_eq_getElem (by omega)
      obtain ⟨tt, g1, g2, g3⟩ := S9.at (pget j _ hy)
      rw [ek] at g1
      have z := Option.some.inj g1
      exact ⟨_, tt, hy, List.getElem_mem _, congrArg Prod.fst z, congrArg Prod.snd z, g2, g3⟩
    -- the sum
    refine ⟨p, .dK kvs, S9.dk, trivial, fun od => ⟨_, rfl, p, od, rfl, .inl ⟨kvs, upd_same, fun D6 hD6 => ?_⟩⟩⟩
    have pD : p ≠ D6 := ne_of_none upd_same hD6
    refine lc_it walk_keys (fun j Hy => (∀ x o, H9 x = some o → x ≠ p → Hy x = some o) ∧ Hy p = some (.frz od (.dK kvs)) ∧ Hy D6 = some (.lst (((ys.take j).map fun k => ((por lv (va L k)).num * (dprod (ys.map fun k => por lv (va L k)) * b)).fdiv ((por lv (va L k)).den : Int)).map V.int))) ⟨fun x o hx hxp => ?_, ?_, upd_same⟩ (fun j Hy _ h => h.2.1) ?_ ?_
    · rw [upd_ne (ne_of_none (by rw [upd_ne hxp]; exact hx) hD6), upd_ne hxp]
      exact hx
    · rw [upd_ne pD, upd_same]
    · rintro j x Hy Hy' hj ⟨g1, g2, g3⟩ ⟨rfl, key, v, ek, rfl⟩
      obtain ⟨k, tt, yk, ky, rfl, rfl, h2, h3⟩ := katk j hj key v ek
      have G : DGet Hy' p (.str k) (some (.ref tt)) := .inl ⟨_, Sum.inr k, .inr ⟨od, g2⟩, rfl, h2.symm⟩
      have ht : SqT K Hy' tt (fv (por lv (va L k))) := by
        rcases h3 with (h | ⟨z, h⟩) | h
        · exact .inl (.inl (g1 _ _ h (ne_of h S9.dk (by intro e; cases e))))
        · exact .inl (.inr ⟨z, g1 _ _ h (ne_of h S9.dk (by intro e; cases e))⟩)
        · exact .inr h
      refine ⟨rfl, _, rfl, _, rfl, p, _, rfl, G, tt, _, 0, _, rfl, rfl, ht, atI_nat (j := 0) rfl, _, rfl, _, _, rfl, rfl, (szs k ky).n.ok dB (by decide) (by decide) (by decide), _, rfl, _, rfl, p, _, rfl, G, tt, _, 1, _, rfl, rfl, ht, atI_nat (j := 1) rfl, _, _, rfl, rfl, ⟨den_ne _, Nat.lt_trans ((szs k ky).db.log (by decide)) (by decide)⟩, _, g3, ?_, ?_, ?_, ?_⟩
      · rw [List.length_map, List.length_map, List.length_take]
        exact small1000 (by omega)
      · intro x o hx hxp
        have xD : x ≠ D6 := fun e => by
          rw [e] at hx hxp
          rw [upd_ne hxp, hx] at hD6
          cases hD6
        rw [upd_ne xD]
        exact g1 x o hx hxp
      · rw [upd_ne pD]
        exact g2
      · rw [upd_same, List.take_add_one, yk, List.map_append, List.map_append]
        rfl
    rintro Hy ⟨g1, g2, g3⟩
    rw [klen, List.take_length] at g3
    refine ⟨g2, ?_⟩
    have sb : Same H9 (upd Hy p (.dK kvs)) := fun x o hx => by
      by_cases e : x = p
      · rw [e] at hx ⊢
        rw [S9.dk] at hx
        rw [upd_same]
        exact hx
      · rw [upd_ne e]
        exact g1 x o hx e
    have hD : upd Hy p (.dK kvs) D6 = some (.lst ((ys.map fun k => ((por lv (va L k)).num * (dprod (ys.map fun k => por lv (va L k)) * b)).fdiv ((por lv (va L k)).den : Int)).map V.int)) := by
      rw [upd_ne pD.symm]
      exact g3
    have S10 : ShAt K _ p kvs (porL lv L ys) := S9.same sb
    have hd10 := sb _ _ hd9
    have sm10 := sm9.trans sb
    generalize upd Hy p (.dK kvs) = H10 at hD S10 hd10 sm10 ⊢
    clear S9 hd9 sb katk sm9 g1 g2 g3 hD6
    have esm : ((ys.map fun k => por lv (va L k)).map fun r => (r.num * (dprod (ys.map fun k => por lv (va L k)) * b)).fdiv (r.den : Int)) = ys.map fun k => ((por lv (va L k)).num * (dprod (ys.map fun k => por lv (va L k)) * b)).fdiv ((por lv (va L k)).den : Int) := by
      rw [List.map_map]
      rfl
    rw [esm] at all
    have tS := tB.mul dB
    have sB : Bt 2060 (ys.map fun k => ((por lv (va L k)).num * (dprod (ys.map fun k => por lv (va L k)) * b)).fdiv ((por lv (va L k)).den : Int)).sum := by
      refine tS.le ?_
      rw [← all, Int.natAbs_mul]
      exact Nat.le_mul_of_pos_right _ (by omega)
    refine ⟨D6, _, rfl, SqL.of hD, _, rfl, _, _, rfl, rfl, sB.ok bB (by decide) (by decide) (by decide), _, rfl, _, rfl, _, _, rfl, rfl, tB.ok dB (by decide) (by decide) (by decide), rfl, _, rfl, iteNS (congrArg V.int all) ?_⟩
    -- two by two
    have katk (j : Nat) (hj : j < kvs.length) (key : Key) (v : V) (ek : kvs[j]? = some (key, v)) : ∃ k tt, ys[j]? = some k ∧ k ∈ ys ∧ key = Sum.inr k ∧ v = .ref tt ∧ valV kvs (Sum.inr k : Key) = some (.ref tt) ∧ SqT K H10 tt (fv (por lv (va L k))) := by
      have hy : ys[j]? = some (ys[j]'(by omega)) := List.getElem?_eq_getElem (by omega)
      obtain ⟨tt, g1, g2, g3⟩ := S10.at (pget j _ hy)
      rw [ek] at g1
      have z := Option.some.inj g1
      exact ⟨_, tt, hy, List.getElem_mem _, congrArg Prod.fst z, congrArg Prod.snd z, g2, g3⟩
    refine ⟨p, .dK kvs, S10.dk, trivial, fun od => ?_⟩
    have tinf (tt : Addr) (q : Rat) (h : SqT K H10 tt (fv q)) : SqT K (upd H10 p (.frz od (.dK kvs))) tt (fv q) := sqT_upd h S10.dk (by intro e; cases e) (by intro z e; cases e)
    have gfrz (k : Str) (v : V) (h : valV kvs (Sum.inr k : Key) = some v) : DGet (upd H10 p (.frz od (.dK kvs))) p (.str k) (some v) := .inl ⟨_, Sum.inr k, .inr ⟨od, upd_same⟩, rfl, h.symm⟩
    have back : Same H10 (upd (upd H10 p (.frz od (.dK kvs))) p (.dK kvs)) := fun x o hx => by
      by_cases e : x = p
      · rw [e] at hx ⊢
        rw [S10.dk] at hx
        rw [upd_same]
        exact hx
      · rw [upd_ne e, upd_ne e]
        exact hx
    have dp : d ≠ p := fun e => by
      have z := S10.dk
      have z2 := ys.length
      rw [← e, hd10] at z
      have z3 := HO.dK.inj (Option.some.inj z)
      obtain ⟨k0, hk0⟩ : ∃ k0, ys[0]? = some k0 := ⟨_, List.getElem?_eq_getElem (by omega)⟩
      obtain ⟨tt, _, g2, _⟩ := S10.at (pget 0 k0 hk0)
      rw [← z3, va_val (py.mem_iff.mp (List.mem_of_getElem? hk0))] at g2
      cases g2
    have gadv (k : Str) (h : k ∈ ys) : DGet (upd H10 p (.frz od (.dK kvs))) d (.str k) (some (.int (va L k))) := .inl ⟨_, Sum.inr k, .inl (by rw [upd_ne dp]; exact hd10), rfl, (va_val (py.mem_iff.mp h)).symm⟩
    have aB (k : Str) (h : k ∈ ys) : Bt 30 (va L k) := by
      obtain ⟨u0, u1⟩ := hA _ (va_in (py.mem_iff.mp h) nd)
      exact Bt.small (by omega) (by omega)
    refine ⟨_, rfl, p, od, rfl, .inl ⟨kvs, upd_same, for_it walk_keys (fun j σ Hy => ∃ y12 y13 y14 y15 y16 y17, σ = [some (.ref a0), some (.int (0 + (i : Int))), some (.ref nl), some (.int (xs[0] % mA)), some (.int b), some (.ref d), y6, some (.ref dk), some (.int t), some (.ref D), some (.ref p), some (.int (dprod (ys.map fun k => por lv (va L k)) * b)), y12, y13, y14, y15, y16, y17, y18] ∧ Hy = upd H10 p (.frz od (.dK kvs)))
      ⟨y12, y13, y14, y15, y16, y17, rfl, rfl⟩ (fun j σ Hy _ ⟨_, _, _, _, _, _, _, e⟩ => by rw [e]; exact upd_same) ?_ ?_⟩⟩
    · rintro j x σ Hy Hy' hj ⟨y12, y13, y14, y15, y16, y17, rfl, rfl⟩ ⟨rfl, key, v, ek, rfl⟩
      obtain ⟨k, tt, yk, ky, rfl, rfl, g2, g3⟩ := katk j hj key v ek
      have T1 := tinf tt _ g3
      have s1 := szs k ky
      refine ⟨_, rfl, _, rfl, p, _, rfl, gfrz k _ g2, ?_⟩
      refine ⟨_, rfl, tt, _, 0, _, rfl, rfl, T1, atI_nat (j := 0) rfl, _, _, rfl, rfl, _, rfl, ite2 (fun e => ?_) (fun _ => ?_)⟩
      · have := Rat.num_nonneg.mpr (por_nn lv (va L k))
        exact absurd (of_decide_eq_true e) (Int.not_lt.mpr this)
      refine ⟨_, rfl, tt, _, 1, _, rfl, rfl, T1, atI_nat (j := 1) rfl, _, _, rfl, rfl, _, rfl, ite2 (fun e => ?_) (fun _ => ?_)⟩
      · have := den_pos (por lv (va L k))
        exact absurd (of_decide_eq_true e) (by omega)
      refine ⟨_, rfl, p, od, rfl, .inl ⟨kvs, upd_same, for_it walk_keys (fun j2 σ Hy => ∃ y14 y15 y16 y17, σ = [some (.ref a0), some (.int (0 + (i : Int))), some (.ref nl), some (.int (xs[0] % mA)), some (.int b), some (.ref d), y6, some (.ref dk), some (.int t), some (.ref D), some (.ref p), some (.int (dprod (ys.map fun k => por lv (va L k)) * b)), some (.str k), some (.ref tt), y14, y15, y16, y17, y18] ∧ Hy = upd H10 p (.frz od (.dK kvs)))
        ⟨y14, y15, y16, y17, rfl, rfl⟩ (fun j σ Hy _ ⟨_, _, _, _, _, e⟩ => by rw [e]; exact upd_same) ?_ ?_⟩⟩
      · rintro j2 x σ Hy Hy' hj2 ⟨y14, y15, y16, y17, rfl, rfl⟩ ⟨rfl, key, v, ek2, rfl⟩
        obtain ⟨o, tu, yo, oy, rfl, rfl, h2, h3⟩ := katk j2 hj2 key v ek2
        have T2 := tinf tu _ h3
        have s2 := szs o oy
        refine ⟨_, rfl, _, rfl, p, _, rfl, gfrz o _ h2, ?_⟩
        refine ⟨_, rfl, tt, _, 0, _, rfl, rfl, T1, atI_nat (j := 0) rfl, _, rfl, tu, _, 1, _, rfl, rfl, T2, atI_nat (j := 1) rfl, _, _, rfl, rfl, s1.n.ok s2.db (by decide) (by decide) (by decide), _, rfl, _, rfl, d, _, rfl, gadv k ky, _, rfl, tt, _, 1, _, rfl, rfl, T1, atI_nat (j := 1) rfl, _, _, rfl, rfl, (aB k ky).ok s1.db (by decide) (by decide) (by decide), _, rfl, tu, _, 1, _, rfl, rfl, T2, atI_nat (j := 1) rfl, _, _, rfl, rfl, ((aB k ky).mul s1.db).ok s2.db (by decide) (by decide) (by decide), _, _, rfl, rfl, ?_⟩
        refine ⟨_, rfl, tu, _, 0, _, rfl, rfl, T2, atI_nat (j := 0) rfl, _, rfl, tt, _, 1, _, rfl, rfl, T1, atI_nat (j := 1) rfl, _, _, rfl, rfl, s2.n.ok s1.db (by decide) (by decide) (by decide), _, rfl, _, rfl, d, _, rfl, gadv o oy, _, rfl, tt, _, 1, _, rfl, rfl, T1, atI_nat (j := 1) rfl, _, _, rfl, rfl, (aB o oy).ok s1.db (by decide) (by decide) (by decide), _, rfl, tu, _, 1, _, rfl, rfl, T2, atI_nat (j := 1) rfl, _, _, rfl, rfl, ((aB o oy).mul s1.db).ok s2.db (by decide) (by decide) (by decide), _, _, rfl, rfl, ?_⟩
        have fin : ∃ y14 y15 y16 y17, [some (V.ref a0), some (.int (0 + (i : Int))), some (.ref nl), some (.int (xs[0] % mA)), some (.int b), some (.ref d), y6, some (.ref dk), some (.int t), some (.ref D), some (.ref p), some (.int (dprod (ys.map fun k => por lv (va L k)) * b)), some (.str k), some (.ref tt), some (.str o), some (.ref tu), some (.int ((por lv (va L k)).num * ((por lv (va L o)).den : Int) + va L k * ((por lv (va L k)).den : Int) * ((por lv (va L o)).den : Int))), some (.int ((por lv (va L o)).num * ((por lv (va L k)).den : Int) + va L o * ((por lv (va L k)).den : Int) * ((por lv (va L o)).den : Int))), y18] = [some (V.ref a0), some (.int (0 + (i : Int))), some (.ref nl), some (.int (xs[0] % mA)), some (.int b), some (.ref d), y6, some (.ref dk), some (.int t), some (.ref D), some (.ref p), some (.int (dprod (ys.map fun k => por lv (va L k)) * b)), some (.str k), some (.ref tt), y14, y15, y16, y17, y18] ∧ upd H10 p (.frz od (.dK kvs)) = upd H10 p (.frz od (.dK kvs)) := ⟨_, _, _, _, rfl, rfl⟩
        refine ⟨_, rfl, tt, _, 0, _, rfl, rfl, T1, atI_nat (j := 0) rfl, _, _, rfl, rfl, _, rfl, ite2 (fun c1 => ⟨_, rfl, tu, _, 0, _, rfl, rfl, T2, atI_nat (j := 0) rfl, _, _, rfl, rfl, _, rfl, ite2 (fun c2 => ⟨_, rfl, _, rfl, rfl, _, rfl, iteNS (congrArg V.int (cross_eq (Lev.pair (numpos (of_decide_eq_true c1)) (numpos (of_decide_eq_true c2))))) ?_⟩) (fun _ => ?_)⟩) (fun _ => ?_)⟩
        all_goals
          refine ⟨_, rfl, tt, _, 0, _, rfl, rfl, T1, atI_nat (j := 0) rfl, _, _, rfl, rfl, _, rfl, ite2 (fun c1 => ⟨_, rfl, tu, _, 0, _, rfl, rfl, T2, atI_nat (j := 0) rfl, rfl, _, rfl, ite2 (fun c2 => ⟨_, rfl, _, rfl, _, _, rfl, rfl, _, rfl, ite2 (fun c3 => ?_) (fun _ => fin)⟩) (fun _ => fin)⟩) (fun _ => fin)⟩
          exact absurd (of_decide_eq_true c3) (Int.not_lt.mpr (cross_le (Lev.none (numpos (of_decide_eq_true c1)) (Rat.num_eq_zero.mp (V.int.inj (of_decide_eq_true c2))))))
      · rintro σ Hy ⟨y14, y15, y16, y17, rfl, rfl⟩
        exact ⟨_, _, _, _, _, _, rfl, rfl⟩
    rintro σ Hy ⟨y12, y13, y14, y15, y16, y17, rfl, rfl⟩
    exact ⟨upd_same, _, _, _, _, _, _, _, _, _, _, _, _, _, _, _, _, _, _, rfl, sm10.trans back⟩
end
end K0
namespace K0
open PySem L2 PyProof.Rows PySem.Spec
theorem tup2 {K : PySem.W.Frag} {a : Addr} {x y : Int} {od : Option Addr} {t u : Tok} {n : Nat} {sl : Array (Option Value)} (l : K.lookup a = some ⟨.type "tuple", od, .seq #[.int x t, .int y u] n, sl⟩) : ∀ H, SqT K H a [.int x, .int y] := fun H =>
  .inr ⟨_, _, n, l, rfl, rfl, (show 2 ≤ sizeLine by decide), .cons ⟨t, rfl⟩ (.cons ⟨u, rfl⟩ .nil)⟩
theorem wAr_of {vs : List V} {H : Hp} {Q : VK} {E : XK} {K : PySem.W.Frag} {C : Rat → Rat → Prop} {g : Rat → Rat → Rat} (h : wAr K C g vs H Q E) : spAr K C g vs H Q E := by
  obtain ⟨a, b, p, q, e, ha, hb, hc, go⟩ := h
  exact ⟨a, b, p, q, e, ha, hb, hc, fun x hx => go x _ (same_upd hx) (SqT.of upd_same)⟩
theorem wLe_of {vs : List V} {H : Hp} {Q : VK} {E : XK} {K : PySem.W.Frag} (h : wLe K vs H Q E) : spLes K vs H Q E := by
  obtain ⟨a, b, p, q, e, ha, hb, hp, hq, go⟩ := h
  refine ⟨a, b, p, q, e, ha, hb, hp, hq, ?_⟩
  rw [show decide (p.num * (q.den : Int) < q.num * (p.den : Int)) = decide (p < q) from decide_eq_decide.mpr (Rat.lt_iff p q).symm]
  exact go
theorem all_mk {l : PySem.W.OpenLaw} {w : World} {K : PySem.W.Frag} {h : Heap} {mg : Str → Option Value} {fa aZ fFra fPlu fMin fTim fLes fLvl fLvs fCel fNum fLaw : Addr} (X : K.In h) (G : h.Ns mainGlobals mg) (hfa : mg "law" = some (.ref fa))
    {odFra anFra odPlu anPlu odMin anMin odTim anTim odLes anLes odLvl anLvl odLvs anLvs odCel anCel odNum anNum odLaw anLaw odZ : Option Addr} {slFra slPlu slMin slTim slLes slLvl slLvs slCel slNum slLaw slZ : Array (Option Value)} {ocFra kVFra dcFra pmFra cdFra ctFra ocPlu kVPlu dcPlu pmPlu cdPlu ctPlu ocMin kVMin dcMin pmMin cdMin ctMin ocTim kVTim dcTim pmTim cdTim ctTim ocLes kVLes dcLes pmLes cdLes ctLes ocLvl kVLvl dcLvl pmLvl cdLvl ctLvl ocLvs kVLvs dcLvs pmLvs cdLvs ctLvs ocCel kVCel dcCel pmCel cdCel ctCel ocNum kVNum dcNum pmNum cdNum ctNum ocLaw kVLaw dcLaw pmLaw cdLaw ctLaw : Value} {tZ uZ : Tok} {nZ : Nat}
    (aFra : PySem.W.nsIn K mainGlobals "fraction" = some (some (.ref fFra))) (lFra : K.lookup fFra = some ⟨ocFra, odFra, .func (PySem.W.fnOf "fraction" "fraction" (defArgs sFra) (defBody sFra) (defScope sFra) .none kVFra dcFra pmFra anFra cdFra ctFra), slFra⟩) (cFra : PySem.W.codeIn K cdFra "fraction" = true) (kFra : PySem.W.keepIn K (.ref fFra) = true)
    (aPlu : PySem.W.nsIn K mainGlobals "plus" = some (some (.ref fPlu))) (lPlu : K.lookup fPlu = some ⟨ocPlu, odPlu, .func (PySem.W.fnOf "plus" "plus" (defArgs sPlu) (defBody sPlu) (defScope sPlu) .none kVPlu dcPlu pmPlu anPlu cdPlu ctPlu), slPlu⟩) (cPlu : PySem.W.codeIn K cdPlu "plus" = true) (kPlu : PySem.W.keepIn K (.ref fPlu) = true)
    (aMin : PySem.W.nsIn K mainGlobals "minus" = some (some (.ref fMin))) (lMin : K.lookup fMin = some ⟨ocMin, odMin, .func (PySem.W.fnOf "minus" "minus" (defArgs sMin) (defBody sMin) (defScope sMin) .none kVMin dcMin pmMin anMin cdMin ctMin), slMin⟩) (cMin : PySem.W.codeIn K cdMin "minus" = true) (kMin : PySem.W.keepIn K (.ref fMin) = true)
    (aTim : PySem.W.nsIn K mainGlobals "times" = some (some (.ref fTim))) (lTim : K.lookup fTim = some ⟨ocTim, odTim, .func (PySem.W.fnOf "times" "times" (defArgs sTim) (defBody sTim) (defScope sTim) .none kVTim dcTim pmTim anTim cdTim ctTim), slTim⟩) (cTim : PySem.W.codeIn K cdTim "times" = true) (kTim : PySem.W.keepIn K (.ref fTim) = true)
    (aLes : PySem.W.nsIn K mainGlobals "is_less" = some (some (.ref fLes))) (lLes : K.lookup fLes = some ⟨ocLes, odLes, .func (PySem.W.fnOf "is_less" "is_less" (defArgs sLes) (defBody sLes) (defScope sLes) .none kVLes dcLes pmLes anLes cdLes ctLes), slLes⟩) (cLes : PySem.W.codeIn K cdLes "is_less" = true) (kLes : PySem.W.keepIn K (.ref fLes) = true)
    (aLvl : PySem.W.nsIn K mainGlobals "_level" = some (some (.ref fLvl))) (lLvl : K.lookup fLvl = some ⟨ocLvl, odLvl, .func (PySem.W.fnOf "_level" "_level" (defArgs sLvl) (defBody sLvl) (defScope sLvl) .none kVLvl dcLvl pmLvl anLvl cdLvl ctLvl), slLvl⟩) (cLvl : PySem.W.codeIn K cdLvl "_level" = true) (kLvl : PySem.W.keepIn K (.ref fLvl) = true)
    (aLvs : PySem.W.nsIn K mainGlobals "levels" = some (some (.ref fLvs))) (lLvs : K.lookup fLvs = some ⟨ocLvs, odLvs, .func (PySem.W.fnOf "levels" "levels" (defArgs sLvs) (defBody sLvs) (defScope sLvs) .none kVLvs dcLvs pmLvs anLvs cdLvs ctLvs), slLvs⟩) (cLvs : PySem.W.codeIn K cdLvs "levels" = true) (kLvs : PySem.W.keepIn K (.ref fLvs) = true)
    (aCel : PySem.W.nsIn K mainGlobals "_law_cell" = some (some (.ref fCel))) (lCel : K.lookup fCel = some ⟨ocCel, odCel, .func (PySem.W.fnOf "_law_cell" "_law_cell" (defArgs sCel) (defBody sCel) (defScope sCel) .none kVCel dcCel pmCel anCel cdCel ctCel), slCel⟩) (cCel : PySem.W.codeIn K cdCel "_law_cell" = true) (kCel : PySem.W.keepIn K (.ref fCel) = true)
    (aNum : PySem.W.nsIn K mainGlobals "_law_numbers" = some (some (.ref fNum))) (lNum : K.lookup fNum = some ⟨ocNum, odNum, .func (PySem.W.fnOf "_law_numbers" "_law_numbers" (defArgs sNum) (defBody sNum) (defScope sNum) .none kVNum dcNum pmNum anNum cdNum ctNum), slNum⟩) (cNum : PySem.W.codeIn K cdNum "_law_numbers" = true) (kNum : PySem.W.keepIn K (.ref fNum) = true)
    (aLaw : PySem.W.nsIn K mainGlobals "law" = some (some (.ref fLaw))) (lLaw : K.lookup fLaw = some ⟨ocLaw, odLaw, .func (PySem.W.fnOf "law" "law" (defArgs sLaw) (defBody sLaw) (defScope sLaw) .none kVLaw dcLaw pmLaw anLaw cdLaw ctLaw), slLaw⟩) (cLaw : PySem.W.codeIn K cdLaw "law" = true) (kLaw : PySem.W.keepIn K (.ref fLaw) = true)
    (zrange : PySem.W.nsIn K mainGlobals "range" = some none)
    (zmax : PySem.W.nsIn K mainGlobals "max" = some none)
    (zmin : PySem.W.nsIn K mainGlobals "min" = some none)
    (zlen : PySem.W.nsIn K mainGlobals "len" = some none)
    (zint : PySem.W.nsIn K mainGlobals "int" = some none)
    (zstr : PySem.W.nsIn K mainGlobals "str" = some none)
    (zdict : PySem.W.nsIn K mainGlobals "dict" = some none)
    (zlist : PySem.W.nsIn K mainGlobals "list" = some none)
    (zsorted : PySem.W.nsIn K mainGlobals "sorted" = some none)
    (zsum : PySem.W.nsIn K mainGlobals "sum" = some none)
    (zabs : PySem.W.nsIn K mainGlobals "abs" = some none)
    (gcd : PySem.W.nsIn K mainGlobals "gcd" = some (some (.builtin "math.gcd")))
    (aZe : PySem.W.nsIn K mainGlobals "ZERO" = some (some (.ref aZ))) (lZ : K.lookup aZ = some ⟨.type "tuple", odZ, .seq #[.int 0 tZ, .int 1 uZ] nZ, slZ⟩) :
    ∃ fd : FuncData, (∀ (s : Shared) (v : Value), BindsTo s fd ⟨[v], []⟩ [("script", v)]) ∧ ∀ base : Heap, K.In base → base.Ns mainGlobals mg → FnOk l.prog w K mg base CX0 5 fa fd ["script"] (spLaw K) := by
  cases hfa.symm.trans (PySem.W.mg_of X G aLaw)
  have FFra := fun_mk (st := sFra) lFra cFra kFra
  have FPlu := fun_mk (st := sPlu) lPlu cPlu kPlu
  have FMin := fun_mk (st := sMin) lMin cMin kMin
  have FTim := fun_mk (st := sTim) lTim cTim kTim
  have FLes := fun_mk (st := sLes) lLes cLes kLes
  have FLvl := fun_mk (st := sLvl) lLvl cLvl kLvl
  have FLvs := fun_mk (st := sLvs) lLvs cLvs kLvs
  have FCel := fun_mk (st := sCel) lCel cCel kCel
  have FNum := fun_mk (st := sNum) lNum cNum kNum
  have FLaw := fun_mk (st := sLaw) lLaw cLaw kLaw
  have bFra := FFra.binds (ps := ["top", "bottom"]) fun _ _ _ _ _ _ us hl => match us, hl with | [_, _], _ => rfl
  have bPlu := FPlu.binds (ps := ["one", "two"]) fun _ _ _ _ _ _ us hl => match us, hl with | [_, _], _ => rfl
  have bMin := FMin.binds (ps := ["one", "two"]) fun _ _ _ _ _ _ us hl => match us, hl with | [_, _], _ => rfl
  have bTim := FTim.binds (ps := ["one", "two"]) fun _ _ _ _ _ _ us hl => match us, hl with | [_, _], _ => rfl
  have bLes := FLes.binds (ps := ["one", "two"]) fun _ _ _ _ _ _ us hl => match us, hl with | [_, _], _ => rfl
  have bLvl := FLvl.binds (ps := ["amount", "steps"]) fun _ _ _ _ _ _ us hl => match us, hl with | [_, _], _ => rfl
  have bLvs := FLvs.binds (ps := ["amount", "advances"]) fun _ _ _ _ _ _ us hl => match us, hl with | [_, _], _ => rfl
  have bCel := FCel.binds (ps := ["script", "k"]) fun _ _ _ _ _ _ us hl => match us, hl with | [_, _], _ => rfl
  have bNum := FNum.binds (ps := ["cell", "many"]) fun _ _ _ _ _ _ us hl => match us, hl with | [_, _], _ => rfl
  have mrange := PySem.W.mg_none_of X G zrange
  have mmax := PySem.W.mg_none_of X G zmax
  have mmin := PySem.W.mg_none_of X G zmin
  have mlen := PySem.W.mg_none_of X G zlen
  have mint := PySem.W.mg_none_of X G zint
  have mstr := PySem.W.mg_none_of X G zstr
  have mdict := PySem.W.mg_none_of X G zdict
  have mlist := PySem.W.mg_none_of X G zlist
  have msorted := PySem.W.mg_none_of X G zsorted
  have msum := PySem.W.mg_none_of X G zsum
  have mabs := PySem.W.mg_none_of X G zabs
  refine ⟨PySem.W.fnOf "law" "law" (defArgs sLaw) (defBody sLaw) (defScope sLaw) .none kVLaw dcLaw pmLaw anLaw cdLaw ctLaw, fun s v => .of_eq rfl, fun base _ _ => ?_⟩
  have tF : TFra l.prog w K mg base := ⟨_, _, PySem.W.mg_of X G aFra, kFra, bFra, ok_fra FFra (PySem.W.mg_of X G gcd)⟩
  have hPl : Has l.prog w K mg base "plus" ["one", "two"] 2 (wAr K C2 fun p q => p + q) := ⟨_, _, PySem.W.mg_of X G aPlu, kPlu, bPlu, ((ok_plus FPlu tF).mono (by decide)).imp fun _ _ _ _ => wAr_of⟩
  have hMi : Has l.prog w K mg base "minus" ["one", "two"] 3 (wAr K C2 fun p q => p - q) := ⟨_, _, PySem.W.mg_of X G aMin, kMin, bMin, ((ok_minus FMin tF).mono (by decide)).imp fun _ _ _ _ => wAr_of⟩
  have hTi : Has l.prog w K mg base "times" ["one", "two"] 2 (wAr K C2m fun p q => p * q) := ⟨_, _, PySem.W.mg_of X G aTim, kTim, bTim, ((ok_times FTim tF).mono (by decide)).imp fun _ _ _ _ => wAr_of⟩
  have hLe2 : Has l.prog w K mg base "is_less" ["one", "two"] 2 (wLe K) := ⟨_, _, PySem.W.mg_of X G aLes, kLes, bLes, ((ok_less FLes).mono (by decide)).imp fun _ _ _ _ => wLe_of⟩
  have hLe3 : Has l.prog w K mg base "is_less" ["one", "two"] 3 (wLe K) := ⟨_, _, PySem.W.mg_of X G aLes, kLes, bLes, ((ok_less FLes).mono (by decide)).imp fun _ _ _ _ => wLe_of⟩
  have hLv : Has l.prog w K mg base "_level" ["amount", "steps"] 3 (spLvl K) := ⟨_, _, PySem.W.mg_of X G aLvl, kLvl, bLvl, ok_level FLvl hPl hTi hLe2 mlen mrange⟩
  have hLs : Has l.prog w K mg base "levels" ["amount", "advances"] 4 (spLvs K) := ⟨_, _, PySem.W.mg_of X G aLvs, kLvs, bLvs, ok_levels FLvs hLv hMi hLe3 ⟨aZ, PySem.W.mg_of X G aZe, tup2 lZ⟩ msorted⟩
  have hCe : Has l.prog w K mg base "_law_cell" ["script", "k"] 4 (spCel K) := ⟨_, _, PySem.W.mg_of X G aCel, kCel, bCel, (ok_cell FCel mlen mint).mono (by decide)⟩
  have hNu : Has l.prog w K mg base "_law_numbers" ["cell", "many"] 4 (spNum) := ⟨_, _, PySem.W.mg_of X G aNum, kNum, bNum, (ok_numbers FNum mabs mint mrange).mono (by decide)⟩
  exact ok_law FLaw ⟨mrange, mmax, mmin, mlen, mint, mstr, mdict, mlist, msorted, msum⟩ hCe hNu hLs
end K0
open PySem PySem.W PyProof.Rows
set_option maxRecDepth 100000 in
set_option maxHeartbeats 0 in
theorem PySem.Challenge.cw_parcener_k05_levels_of_advances_holds : PySem.Challenge.rw_parcener_k05_levels_of_advances.Holds := by
  w_on; o_law; k_head; (case hw => w_witness2)
  k_fill
  refine L2.walk_ofB (l := PySem.Challenge.rw_parcener_k05_levels_of_advances) (n := 63) (k := 5) (x := "script") (CX := fun _ => L2.CX0) (sp := fun w => K0.spLaw _) rfl (by decide) rfl ⟨rfl, by decide, by decide⟩ (fun w h Y => PySem.W.kIn_of Y) ?F (fun _ _ a ns hl hb _ hS => ⟨a, ns, rfl, hS, hl, fun _ => rfl⟩) (fun _ _ _ _ _ h => h)
  case F =>
    intro w mg fa h KX G hmg
    refine' K0.all_mk KX G hmg ?aFra ?lFra ?cFra ?kFra ?aPlu ?lPlu ?cPlu ?kPlu ?aMin ?lMin ?cMin ?kMin ?aTim ?lTim ?cTim ?kTim ?aLes ?lLes ?cLes ?kLes ?aLvl ?lLvl ?cLvl ?kLvl ?aLvs ?lLvs ?cLvs ?kLvs ?aCel ?lCel ?cCel ?kCel ?aNum ?lNum ?cNum ?kNum ?aLaw ?lLaw ?cLaw ?kLaw ?zrange ?zmax ?zmin ?zlen ?zint ?zstr ?zdict ?zlist ?zsorted ?zsum ?zabs ?gcd ?aZe ?lZ
    (case aFra => k_is)
    (case lFra => k_is)
    (case cFra => k_is)
    (case kFra => k_is)
    (case aPlu => k_is)
    (case lPlu => k_is)
    (case cPlu => k_is)
    (case kPlu => k_is)
    (case aMin => k_is)
    (case lMin => k_is)
    (case cMin => k_is)
    (case kMin => k_is)
    (case aTim => k_is)
    (case lTim => k_is)
    (case cTim => k_is)
    (case kTim => k_is)
    (case aLes => k_is)
    (case lLes => k_is)
    (case cLes => k_is)
    (case kLes => k_is)
    (case aLvl => k_is)
    (case lLvl => k_is)
    (case cLvl => k_is)
    (case kLvl => k_is)
    (case aLvs => k_is)
    (case lLvs => k_is)
    (case cLvs => k_is)
    (case kLvs => k_is)
    (case aCel => k_is)
    (case lCel => k_is)
    (case cCel => k_is)
    (case kCel => k_is)
    (case aNum => k_is)
    (case lNum => k_is)
    (case cNum => k_is)
    (case kNum => k_is)
    (case aLaw => k_is)
    (case lLaw => k_is)
    (case cLaw => k_is)
    (case kLaw => k_is)
    (case zrange => k_is)
    (case zmax => k_is)
    (case zmin => k_is)
    (case zlen => k_is)
    (case zint => k_is)
    (case zstr => k_is)
    (case zdict => k_is)
    (case zlist => k_is)
    (case zsorted => k_is)
    (case zsum => k_is)
    (case zabs => k_is)
    (case gcd => k_is)
    (case aZe => k_is)
    (case lZ => k_is)
