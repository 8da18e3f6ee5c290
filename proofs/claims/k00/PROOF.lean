import PyProof.Rows.All
import Wide.All
import OpenK.AllK
import Wide.FinOn
import HandS.ForMost
import HandS.Gcd
import HandS.Wide
import HandS.SortOrd
import HandS.DictComp
import HandS.More
import HandS.EndBits
import KE.KMathGC
import KE.KDictList
import KE.KDictSum
import HandS.Walk
import HandS.TupLe
import HandS.NoneIn
import PySem.Challenge.RW_parcener_k00_fractions_and_coins
set_option Elab.async false
set_option maxRecDepth 100000
set_option maxHeartbeats 8000000
namespace K0
open PySem L2 PyProof.Rows
def topS (i : Nat) : Stmt := PySem.Challenge.pw_parcener_k00_fractions_and_coins.main.body.getD i (.Pass ⟨0, 0, 0, 0⟩)
abbrev sFra : Stmt := topS 4
abbrev sPlu : Stmt := topS 5
abbrev sMin : Stmt := topS 6
abbrev sTim : Stmt := topS 7
abbrev sOve : Stmt := topS 8
abbrev sLes : Stmt := topS 9
abbrev sTot : Stmt := topS 10
abbrev sWho : Stmt := topS 11
abbrev sCom : Stmt := topS 12
abbrev sByr : Stmt := topS 13
abbrev sInc : Stmt := topS 14
abbrev sCel : Stmt := topS 16
abbrev sNum : Stmt := topS 17
abbrev sEuc : Stmt := topS 18
abbrev sLow : Stmt := topS 19
abbrev sSha : Stmt := topS 20
abbrev sLaw : Stmt := topS 21
/-! own rules of numbers -/
section
variable {X : Cx}
theorem op_mulG : OpR X (binaryOp .Mult) (rI IntMulOk fun i j => .int (i * j)) := opI fun _ _ _ _ _ _ _ fits go => mul_int go fits
/-- a divisor of either sign -/
def DivG (_ j : Int) : Prop := j ≠ 0 ∧ j.natAbs.log2 < 9000
theorem op_divG : OpR X (binaryOp .FloorDiv) (rI DivG fun i j => .int (i.fdiv j)) := opI fun _ _ _ _ _ _ _ fits go => floordiv_int fits.1 go (.inl (PyProof.noPylong_of_log2 fits.2))
def rLcm : List V → Hp → VK → Prop := fun vs H Q => ∃ i j : Int, vs = [.int i, .int j] ∧ i.natAbs < 2 ^ 64 ∧ j.natAbs < 2 ^ 64 ∧ Q (.int ((Nat.lcm i.natAbs j.natAbs : Nat) : Int)) H
theorem cr_lcm : CallR X (.builtin "math.lcm") rLcm := by
  intro pins s σ H vs us Q I r h
  obtain ⟨i, j, rfl, hi, hj, go⟩ := h
  obtain ⟨t, u, rfl⟩ := Vals.int2 r
  exact PySem.W.mc_lcm hi hj fun _ => ⟨.int _, H, I.tok _, ⟨_, rfl⟩, go⟩
end
/-! small sizes -/
/-- a number of at most k bits -/
structure Bt (k : Nat) (x : Int) : Prop where
  lt : x.natAbs < 2 ^ k
theorem Bt.mono {k m : Nat} {x : Int} (h : Bt k x) (l : k ≤ m) : Bt m x := ⟨Nat.lt_of_lt_of_le h.lt (Nat.pow_le_pow_right (by decide) l)⟩
theorem Bt.mul {k m : Nat} {x y : Int} (h : Bt k x) (g : Bt m y) : Bt (k + m) (x * y) := ⟨wide_lt h.lt g.lt⟩
theorem Bt.neg {k : Nat} {x : Int} (h : Bt k x) : Bt k (-x) := ⟨by rw [Int.natAbs_neg]; exact h.lt⟩
theorem Bt.add {k : Nat} {x y : Int} (h : Bt k x) (g : Bt k y) : Bt (k + 1) (x + y) := ⟨by
  have a := h.lt
  have b := g.lt
  have c := Int.natAbs_add_le x y
  rw [Nat.pow_succ]
  generalize 2 ^ k = z at *
  omega⟩
theorem Bt.sub {k : Nat} {x y : Int} (h : Bt k x) (g : Bt k y) : Bt (k + 1) (x - y) := by
  rw [Int.sub_eq_add_neg]
  exact h.add g.neg
theorem Bt.le {k : Nat} {x y : Int} (h : Bt k y) (l : x.natAbs ≤ y.natAbs) : Bt k x := ⟨Nat.lt_of_le_of_lt l h.lt⟩
theorem Bt.log {k : Nat} {x : Int} (h : Bt k x) (hk : 0 < k) : x.natAbs.log2 < k := PySem.Flt.log2_lt_of hk h.lt
theorem Bt.ok {k m : Nat} {x y : Int} (h : Bt k x) (g : Bt m y) (hk : 0 < k) (hm : 0 < m) (l : k + m ≤ 100000000) : IntMulOk x y := by
  have bits : ∀ z : Int, Builtin.Int.intBits z ≤ z.natAbs.log2 + 1 := fun z => by
    unfold Builtin.Int.intBits
    split <;> omega
  have b1 := bits x
  have b2 := bits y
  have l1 := h.log hk
  have l2 := g.log hm
  have e : bitsLine = 134217728 := by decide
  unfold IntMulOk
  intro z
  have z2 := (Bool.and_eq_true _ _ ▸ z).2
  unfold Builtin.Int.intTooBig at z2
  have z3 := of_decide_eq_true z2
  rw [e] at z3
  omega
theorem Bt.of_bits {k : Nat} {x : Int} (h : Builtin.Int.intBits x ≤ k) : Bt k x := by
  unfold Builtin.Int.intBits at h
  split at h
  · next e =>
    have e' : x = 0 := by simpa using e
    subst e'
    exact ⟨Nat.two_pow_pos _⟩
  · exact ⟨Nat.lt_of_lt_of_le Nat.lt_log2_self (Nat.pow_le_pow_right (by decide) h)⟩
theorem Bt.small {x : Int} (h : -1073741824 < x) (g : x < 1073741824) : Bt 30 x := ⟨by show x.natAbs < 1073741824; omega⟩
/-! fractions are Rat -/
/-- what stands in the tuple of a fraction -/
def fv (q : Rat) : List V := [.int q.num, .int (q.den : Int)]
theorem same_upd {H : Hp} {p : Addr} {o : HO} (h : H p = none) : Same H (upd H p o) := fun b x e => by
  rw [upd_ne (ne_of_none e h)]
  exact e
end K0
namespace K0
/-! Rat: what the tuples hold -/
/-- the greatest common divisor, as an int -/
def gd (t b : Int) : Int := ((Nat.gcd t.natAbs b.natAbs : Nat) : Int)
/-- what `shared` is -/
def sh (t b : Int) : Int := if b < 0 then -(gd t b) else gd t b
theorem gd_pos {t b : Int} (h : b ≠ 0) : 0 < gd t b := by
  have := Nat.gcd_pos_of_pos_right t.natAbs (Int.natAbs_pos.mpr h)
  unfold gd
  omega
theorem gd_le {t b : Int} (h : b ≠ 0) : (gd t b).natAbs ≤ b.natAbs := by
  have g : Nat.gcd t.natAbs b.natAbs ≤ b.natAbs := Nat.le_of_dvd (Int.natAbs_pos.mpr h) (Nat.gcd_dvd_right _ _)
  unfold gd
  omega
theorem gd_sym (t b : Int) : ((b.gcd t : Nat) : Int) = gd t b := by
  show ((Nat.gcd b.natAbs t.natAbs : Nat) : Int) = _
  rw [Nat.gcd_comm]
  rfl
theorem sh_ne {t b : Int} (h : b ≠ 0) : sh t b ≠ 0 := by
  have := gd_pos (t := t) h
  unfold sh
  split <;> omega
theorem sh_abs {t b : Int} (h : b ≠ 0) : (sh t b).natAbs ≤ b.natAbs := by
  have g := gd_le (t := t) h
  unfold sh
  split <;> omega
theorem den_int {t b : Int} (h : b ≠ 0) : ((Rat.divInt t b).den : Int) = (b.natAbs : Int) / gd t b := by
  rw [Rat.den_divInt, if_neg h, Int.natCast_ediv, gd_sym]
theorem low_num {t b : Int} (h : b ≠ 0) : (if b < 0 then -t else t) / gd t b = (Rat.divInt t b).num := by
  rw [Rat.num_divInt, gd_sym]
  by_cases n : b < 0
  · rw [if_pos n, Int.sign_eq_neg_one_of_neg n, Int.neg_one_mul]
  · rw [if_neg n, Int.sign_eq_one_of_pos (by omega), Int.one_mul]
theorem sh_num {t b : Int} (h : b ≠ 0) : t.fdiv (sh t b) = (Rat.divInt t b).num := by
  rw [← low_num h]
  have g0 := gd_pos (t := t) h
  unfold sh
  by_cases n : b < 0
  · rw [if_pos n, if_pos n]
    have e := Int.neg_fdiv_neg (-t) (gd t b)
    rw [Int.neg_neg] at e
    rw [e, Int.fdiv_eq_ediv_of_nonneg _ (by omega)]
  · rw [if_neg n, if_neg n, Int.fdiv_eq_ediv_of_nonneg _ (by omega)]
theorem sh_den {t b : Int} (h : b ≠ 0) : b.fdiv (sh t b) = ((Rat.divInt t b).den : Int) := by
  rw [den_int h]
  have g0 := gd_pos (t := t) h
  unfold sh
  by_cases n : b < 0
  · rw [if_pos n]
    have e := Int.neg_fdiv_neg (-b) (gd t b)
    rw [Int.neg_neg] at e
    rw [e, Int.fdiv_eq_ediv_of_nonneg _ (by omega), show (b.natAbs : Int) = -b by omega]
  · rw [if_neg n, Int.fdiv_eq_ediv_of_nonneg _ (by omega), show (b.natAbs : Int) = b by omega]
theorem rat_self (q : Rat) : Rat.divInt q.num (q.den : Int) = q := Rat.num_divInt_den q
theorem den_ne (q : Rat) : (q.den : Int) ≠ 0 := by
  have := q.den_nz
  omega
theorem den_pos (q : Rat) : 0 < (q.den : Int) := by
  have := q.den_nz
  omega
theorem q_add (p q : Rat) : Rat.divInt (p.num * q.den + q.num * p.den) ((p.den : Int) * q.den) = p + q := by
  rw [← Rat.divInt_add_divInt _ _ (den_ne p) (den_ne q), rat_self, rat_self]
theorem q_sub (p q : Rat) : Rat.divInt (p.num * q.den - q.num * p.den) ((p.den : Int) * q.den) = p - q := by
  rw [← Rat.divInt_sub_divInt _ _ (den_ne p) (den_ne q), rat_self, rat_self]
theorem q_mul (p q : Rat) : Rat.divInt (p.num * q.num) ((p.den : Int) * q.den) = p * q := by
  rw [← Rat.divInt_mul_divInt, rat_self, rat_self]
theorem q_over (p q : Rat) : Rat.divInt (p.num * q.den) ((p.den : Int) * q.num) = p / q := by
  rw [← Rat.divInt_mul_divInt, rat_self, Rat.div_def, Rat.inv_def]
end K0
namespace K0
open PySem L2 PyProof.Rows
section
variable {P : Program} {w : World} {K : PySem.W.Frag} {mg : Str → Option Value} {base : Heap}
theorem scFra : FnScope ["top", "bottom", "shared"] ["top", "bottom"] (defScope sFra) := ⟨rfl, rfl, rfl, by decide +kernel, rfl, by decide +kernel, by decide +kernel⟩
def spFra : Sp := fun vs H Q _ => ∃ t b : Int, vs = [.int t, .int b] ∧ b ≠ 0 ∧ Bt 8999 b ∧ ∀ p, H p = none → Q (.ref p) (upd H p (.tup (fv (Rat.divInt t b))))
theorem ok_fra {f : Addr} {fd : FuncData} (F : Fun K "fraction" "fraction" sFra f fd) (mgGcd : mg "gcd" = some (.builtin "math.gcd")) : FnOk P w K mg base CX0 1 f fd ["top", "bottom"] spFra := by
  refine F.ok scFra (fun vs H Q E h => ?_) (fun cdv A outer s H vs Q E hr h => ?_)
  · obtain ⟨t, b, rfl, _⟩ := h
    rfl
  · obtain ⟨t, b, rfl, hb, hl, go⟩ := h
    refine ⟨_, pss_cons (ps_set (i := 2) scFra.nd rfl (.inl rfl) (pe_callBfun cr_gcd (by rfl) mgGcd (pa_cons (pv 0) (pa_cons (pv 1) pa_nil))))
      (pss_cons (ps_if (pt_cmpR op_lt (pv 1) pe_int (nomark _)) (pss_one (ps_set (i := 2) scFra.nd rfl (.inl rfl) (pe_un un_neg (pv 2)))) pss_nil)
      (pss_one (ps_ret (pe_tup (pa_cons (pe_op op_divG (pv 0) (pv 2)) (pa_cons (pe_op op_divG (pv 1) (pv 2)) pa_nil)))))), ?_⟩
    have hd : ∀ c, c = sh t b → ∀ x, DivG x c := fun c e x => by
      rw [e]
      exact ⟨sh_ne hb, Nat.lt_trans ((hl.le (sh_abs hb)).log (by decide)) (by decide)⟩
    have fin : ∀ c, c = sh t b → ∀ p, H p = none → Q (.ref p) (upd H p (.tup [.int (t.fdiv c), .int (b.fdiv c)])) := fun c e p hp => by
      rw [e, sh_num hb, sh_den hb]
      exact go p hp
    refine ⟨_, rfl, _, rfl, t, b, rfl, _, rfl, _, _, rfl, rfl, _, rfl, ite2 (fun e => ?_) (fun e => ?_)⟩
    · have e' : b < 0 := of_decide_eq_true e
      have es : -((Nat.gcd t.natAbs b.natAbs : Nat) : Int) = sh t b := by
        unfold sh
        rw [if_pos e']
        rfl
      exact ⟨_, rfl, _, rfl, _, rfl, _, rfl, _, _, rfl, rfl, hd _ es _, _, rfl, _, rfl, _, _, rfl, rfl, hd _ es _, (by show 2 ≤ sizeLine; decide), fun p hp => fin _ es p hp⟩
    · have e' : ¬ b < 0 := fun z => e (decide_eq_true z)
      have es : ((Nat.gcd t.natAbs b.natAbs : Nat) : Int) = sh t b := by
        unfold sh
        rw [if_neg e']
        rfl
      exact ⟨_, rfl, _, rfl, _, _, rfl, rfl, hd _ es _, _, rfl, _, rfl, _, _, rfl, rfl, hd _ es _, (by show 2 ≤ sizeLine; decide), fun p hp => fin _ es p hp⟩
end
end K0
namespace K0
open PySem L2 PyProof.Rows
/-- the sizes of a fraction's two numbers -/
structure FSz (q : Rat) : Prop where
  n : ∃ k, 0 < k ∧ k ≤ 40000000 ∧ Bt k q.num
  d : Bt 4000 (q.den : Int)
theorem FSz.nd {p q : Rat} (h : FSz p) (g : FSz q) : IntMulOk p.num (q.den : Int) := by
  obtain ⟨k, k0, k1, b⟩ := h.n
  exact b.ok g.d k0 (by decide) (by omega)
theorem FSz.dn {p q : Rat} (h : FSz p) (g : FSz q) : IntMulOk (p.den : Int) q.num := by
  obtain ⟨k, k0, k1, b⟩ := g.n
  exact h.d.ok b (by decide) k0 (by omega)
theorem FSz.dd {p q : Rat} (h : FSz p) (g : FSz q) : IntMulOk (p.den : Int) (q.den : Int) := h.d.ok g.d (by decide) (by decide) (by decide)
theorem FSz.bd {p q : Rat} (h : FSz p) (g : FSz q) : Bt 8999 ((p.den : Int) * (q.den : Int)) := (h.d.mul g.d).mono (by decide)
theorem FSz.ne (p q : Rat) : (p.den : Int) * (q.den : Int) ≠ 0 := Int.ne_of_gt (Int.mul_pos (den_pos p) (den_pos q))
section
variable {P : Program} {w : World} {K : PySem.W.Frag} {mg : Str → Option Value} {base : Heap}
/-- what plus, minus, times, over promise -/
def spAr (K : PySem.W.Frag) (C : Rat → Rat → Prop) (g : Rat → Rat → Rat) : Sp := fun vs H Q _ => ∃ (a b : Addr) (p q : Rat), vs = [.ref a, .ref b] ∧ SqT K H a (fv p) ∧ SqT K H b (fv q) ∧ C p q ∧ ∀ x, H x = none → Q (.ref x) (upd H x (.tup (fv (g p q))))
/-- what the calls of fraction want of the top -/
structure TFra (P : Program) (w : World) (K : PySem.W.Frag) (mg : Str → Option Value) (base : Heap) : Prop where
  ok : ∃ (f : Addr) (fd : FuncData), mg "fraction" = some (.ref f) ∧ PySem.W.keepIn K (.ref f) = true ∧ Binds K fd ["top", "bottom"] [] ∧ FnOk P w K mg base CX0 1 f fd ["top", "bottom"] spFra
def C2 (p q : Rat) : Prop := FSz p ∧ FSz q ∧ True
def C2m (p q : Rat) : Prop := FSz p ∧ FSz q ∧ IntMulOk p.num q.num
def C2o (p q : Rat) : Prop := FSz p ∧ FSz q ∧ q ≠ 0 ∧ Bt 4000 q.num
theorem ne_over {p q : Rat} (h : q ≠ 0 ∧ Bt 4000 q.num) : (p.den : Int) * q.num ≠ 0 := fun z => by
  rcases Int.mul_eq_zero.mp z with e | e
  · exact den_ne p e
  · exact h.1 (Rat.num_eq_zero.mp e)
theorem scPlu : FnScope ["one", "two"] ["one", "two"] (defScope sPlu) := ⟨rfl, rfl, rfl, by decide +kernel, rfl, by decide +kernel, by decide +kernel⟩
theorem ok_plus {f : Addr} {fd : FuncData} (F : Fun K "plus" "plus" sPlu f fd) (T : TFra P w K mg base) : FnOk P w K mg base CX0 2 f fd ["one", "two"] (spAr K C2 (fun p q => p + q)) := by
  obtain ⟨fF, fdF, mF, kF, bF, GF⟩ := T.ok
  refine F.ok scPlu (fun vs H Q E h => ?_) (fun cdv A outer s H vs Q E hr h => ?_)
  · obtain ⟨a, b, p, q, rfl, _⟩ := h
    rfl
  · obtain ⟨a, b, p, q, rfl, ha, hb, ⟨hp, hq, hm⟩, go⟩ := h
    refine ⟨_, pss_one (ps_ret (pe_call GF hr (by rfl) mF kF bF .nil pass0 (pa_cons (pe_op op_add (pe_op op_mulG (pe_ix ix_tup (pv 0) pe_int (fun _ _ => rfl)) (pe_ix ix_tup (pv 1) pe_int (fun _ _ => rfl))) (pe_op op_mulG (pe_ix ix_tup (pv 1) pe_int (fun _ _ => rfl)) (pe_ix ix_tup (pv 0) pe_int (fun _ _ => rfl)))) (pa_cons (pe_op op_mulG (pe_ix ix_tup (pv 0) pe_int (fun _ _ => rfl)) (pe_ix ix_tup (pv 1) pe_int (fun _ _ => rfl))) pa_nil)))), ?_⟩
    refine ⟨_, rfl, a, _, 0, _, rfl, rfl, ha, atI_nat (j := 0) rfl, _, rfl, b, _, 1, _, rfl, rfl, hb, atI_nat (j := 1) rfl, _, _, rfl, rfl, (hp.nd hq), _, rfl, b, _, 0, _, rfl, rfl, hb, atI_nat (j := 0) rfl, _, rfl, a, _, 1, _, rfl, rfl, ha, atI_nat (j := 1) rfl, _, _, rfl, rfl, (hq.nd hp), _, _, rfl, rfl, _, rfl, a, _, 1, _, rfl, rfl, ha, atI_nat (j := 1) rfl, _, rfl, b, _, 1, _, rfl, rfl, hb, atI_nat (j := 1) rfl, _, _, rfl, rfl, (hp.dd hq), _, _, rfl, FSz.ne p q, hp.bd hq, fun x hx => ?_⟩
    have z : Q (.ref x) (upd H x (.tup (fv (p + q)))) := go x hx
    rw [← q_add p q] at z
    exact z
theorem scMin : FnScope ["one", "two"] ["one", "two"] (defScope sMin) := ⟨rfl, rfl, rfl, by decide +kernel, rfl, by decide +kernel, by decide +kernel⟩
theorem ok_minus {f : Addr} {fd : FuncData} (F : Fun K "minus" "minus" sMin f fd) (T : TFra P w K mg base) : FnOk P w K mg base CX0 2 f fd ["one", "two"] (spAr K C2 (fun p q => p - q)) := by
  obtain ⟨fF, fdF, mF, kF, bF, GF⟩ := T.ok
  refine F.ok scMin (fun vs H Q E h => ?_) (fun cdv A outer s H vs Q E hr h => ?_)
  · obtain ⟨a, b, p, q, rfl, _⟩ := h
    rfl
  · obtain ⟨a, b, p, q, rfl, ha, hb, ⟨hp, hq, hm⟩, go⟩ := h
    refine ⟨_, pss_one (ps_ret (pe_call GF hr (by rfl) mF kF bF .nil pass0 (pa_cons (pe_op op_sub (pe_op op_mulG (pe_ix ix_tup (pv 0) pe_int (fun _ _ => rfl)) (pe_ix ix_tup (pv 1) pe_int (fun _ _ => rfl))) (pe_op op_mulG (pe_ix ix_tup (pv 1) pe_int (fun _ _ => rfl)) (pe_ix ix_tup (pv 0) pe_int (fun _ _ => rfl)))) (pa_cons (pe_op op_mulG (pe_ix ix_tup (pv 0) pe_int (fun _ _ => rfl)) (pe_ix ix_tup (pv 1) pe_int (fun _ _ => rfl))) pa_nil)))), ?_⟩
    refine ⟨_, rfl, a, _, 0, _, rfl, rfl, ha, atI_nat (j := 0) rfl, _, rfl, b, _, 1, _, rfl, rfl, hb, atI_nat (j := 1) rfl, _, _, rfl, rfl, (hp.nd hq), _, rfl, b, _, 0, _, rfl, rfl, hb, atI_nat (j := 0) rfl, _, rfl, a, _, 1, _, rfl, rfl, ha, atI_nat (j := 1) rfl, _, _, rfl, rfl, (hq.nd hp), _, _, rfl, rfl, _, rfl, a, _, 1, _, rfl, rfl, ha, atI_nat (j := 1) rfl, _, rfl, b, _, 1, _, rfl, rfl, hb, atI_nat (j := 1) rfl, _, _, rfl, rfl, (hp.dd hq), _, _, rfl, FSz.ne p q, hp.bd hq, fun x hx => ?_⟩
    have z : Q (.ref x) (upd H x (.tup (fv (p - q)))) := go x hx
    rw [← q_sub p q] at z
    exact z
theorem scTim : FnScope ["one", "two"] ["one", "two"] (defScope sTim) := ⟨rfl, rfl, rfl, by decide +kernel, rfl, by decide +kernel, by decide +kernel⟩
theorem ok_times {f : Addr} {fd : FuncData} (F : Fun K "times" "times" sTim f fd) (T : TFra P w K mg base) : FnOk P w K mg base CX0 2 f fd ["one", "two"] (spAr K C2m (fun p q => p * q)) := by
  obtain ⟨fF, fdF, mF, kF, bF, GF⟩ := T.ok
  refine F.ok scTim (fun vs H Q E h => ?_) (fun cdv A outer s H vs Q E hr h => ?_)
  · obtain ⟨a, b, p, q, rfl, _⟩ := h
    rfl
  · obtain ⟨a, b, p, q, rfl, ha, hb, ⟨hp, hq, hm⟩, go⟩ := h
    refine ⟨_, pss_one (ps_ret (pe_call GF hr (by rfl) mF kF bF .nil pass0 (pa_cons (pe_op op_mulG (pe_ix ix_tup (pv 0) pe_int (fun _ _ => rfl)) (pe_ix ix_tup (pv 1) pe_int (fun _ _ => rfl))) (pa_cons (pe_op op_mulG (pe_ix ix_tup (pv 0) pe_int (fun _ _ => rfl)) (pe_ix ix_tup (pv 1) pe_int (fun _ _ => rfl))) pa_nil)))), ?_⟩
    refine ⟨_, rfl, a, _, 0, _, rfl, rfl, ha, atI_nat (j := 0) rfl, _, rfl, b, _, 0, _, rfl, rfl, hb, atI_nat (j := 0) rfl, _, _, rfl, rfl, hm, _, rfl, a, _, 1, _, rfl, rfl, ha, atI_nat (j := 1) rfl, _, rfl, b, _, 1, _, rfl, rfl, hb, atI_nat (j := 1) rfl, _, _, rfl, rfl, (hp.dd hq), _, _, rfl, FSz.ne p q, hp.bd hq, fun x hx => ?_⟩
    have z : Q (.ref x) (upd H x (.tup (fv (p * q)))) := go x hx
    rw [← q_mul p q] at z
    exact z
theorem scOve : FnScope ["one", "two"] ["one", "two"] (defScope sOve) := ⟨rfl, rfl, rfl, by decide +kernel, rfl, by decide +kernel, by decide +kernel⟩
theorem ok_over {f : Addr} {fd : FuncData} (F : Fun K "over" "over" sOve f fd) (T : TFra P w K mg base) : FnOk P w K mg base CX0 2 f fd ["one", "two"] (spAr K C2o (fun p q => p / q)) := by
  obtain ⟨fF, fdF, mF, kF, bF, GF⟩ := T.ok
  refine F.ok scOve (fun vs H Q E h => ?_) (fun cdv A outer s H vs Q E hr h => ?_)
  · obtain ⟨a, b, p, q, rfl, _⟩ := h
    rfl
  · obtain ⟨a, b, p, q, rfl, ha, hb, ⟨hp, hq, hm⟩, go⟩ := h
    refine ⟨_, pss_one (ps_ret (pe_call GF hr (by rfl) mF kF bF .nil pass0 (pa_cons (pe_op op_mulG (pe_ix ix_tup (pv 0) pe_int (fun _ _ => rfl)) (pe_ix ix_tup (pv 1) pe_int (fun _ _ => rfl))) (pa_cons (pe_op op_mulG (pe_ix ix_tup (pv 0) pe_int (fun _ _ => rfl)) (pe_ix ix_tup (pv 1) pe_int (fun _ _ => rfl))) pa_nil)))), ?_⟩
    refine ⟨_, rfl, a, _, 0, _, rfl, rfl, ha, atI_nat (j := 0) rfl, _, rfl, b, _, 1, _, rfl, rfl, hb, atI_nat (j := 1) rfl, _, _, rfl, rfl, (hp.nd hq), _, rfl, a, _, 1, _, rfl, rfl, ha, atI_nat (j := 1) rfl, _, rfl, b, _, 0, _, rfl, rfl, hb, atI_nat (j := 0) rfl, _, _, rfl, rfl, (hp.dn hq), _, _, rfl, (ne_over hm), ((hp.d.mul hm.2).mono (by decide)), fun x hx => ?_⟩
    have z : Q (.ref x) (upd H x (.tup (fv (p / q)))) := go x hx
    rw [← q_over p q] at z
    exact z
theorem scLes : FnScope ["one", "two"] ["one", "two"] (defScope sLes) := ⟨rfl, rfl, rfl, by decide +kernel, rfl, by decide +kernel, by decide +kernel⟩
def spLes (K : PySem.W.Frag) : Sp := fun vs H Q _ => ∃ (a b : Addr) (p q : Rat), vs = [.ref a, .ref b] ∧ SqT K H a (fv p) ∧ SqT K H b (fv q) ∧ FSz p ∧ FSz q ∧ Q (.bl (decide (p.num * q.den < q.num * p.den))) H
theorem ok_less {f : Addr} {fd : FuncData} (F : Fun K "is_less" "is_less" sLes f fd) : FnOk P w K mg base CX0 1 f fd ["one", "two"] (spLes K) := by
  refine F.ok scLes (fun vs H Q E h => ?_) (fun cdv A outer s H vs Q E hr h => ?_)
  · obtain ⟨a, b, p, q, rfl, _⟩ := h
    rfl
  · obtain ⟨a, b, p, q, rfl, ha, hb, hp, hq, go⟩ := h
    refine ⟨_, pss_one (ps_ret (pe_cmpR op_lt (pe_op op_mulG (pe_ix ix_tup (pv 0) pe_int (fun _ _ => rfl)) (pe_ix ix_tup (pv 1) pe_int (fun _ _ => rfl))) (pe_op op_mulG (pe_ix ix_tup (pv 1) pe_int (fun _ _ => rfl)) (pe_ix ix_tup (pv 0) pe_int (fun _ _ => rfl))) (nomark _))), ?_⟩
    exact ⟨_, rfl, a, _, 0, _, rfl, rfl, ha, atI_nat (j := 0) rfl, _, rfl, b, _, 1, _, rfl, rfl, hb, atI_nat (j := 1) rfl, _, _, rfl, rfl, (hp.nd hq), _, rfl, b, _, 0, _, rfl, rfl, hb, atI_nat (j := 0) rfl, _, rfl, a, _, 1, _, rfl, rfl, ha, atI_nat (j := 1) rfl, _, _, rfl, rfl, (hq.nd hp), _, _, rfl, rfl, go⟩
theorem scWho : FnScope ["value"] ["value"] (defScope sWho) := ⟨rfl, rfl, rfl, by decide +kernel, rfl, by decide +kernel, by decide +kernel⟩
def spWho (K : PySem.W.Frag) : Sp := fun vs H Q _ => ∃ (a : Addr) (p : Rat), vs = [.ref a] ∧ SqT K H a (fv p) ∧ Bt 8999 (p.den : Int) ∧ Q (.int p.floor) H
theorem ok_whole {f : Addr} {fd : FuncData} (F : Fun K "whole_part" "whole_part" sWho f fd) : FnOk P w K mg base CX0 1 f fd ["value"] (spWho K) := by
  refine F.ok scWho (fun vs H Q E h => ?_) (fun cdv A outer s H vs Q E hr h => ?_)
  · obtain ⟨a, p, rfl, _⟩ := h
    rfl
  · obtain ⟨a, p, rfl, ha, hd, go⟩ := h
    refine ⟨_, pss_one (ps_ret (pe_op op_divG (pe_ix ix_tup (pv 0) pe_int (fun _ _ => rfl)) (pe_ix ix_tup (pv 0) pe_int (fun _ _ => rfl)))), ?_⟩
    refine ⟨_, rfl, a, _, 0, _, rfl, rfl, ha, atI_nat (j := 0) rfl, _, rfl, a, _, 1, _, rfl, rfl, ha, atI_nat (j := 1) rfl, _, _, rfl, rfl, ⟨den_ne p, Nat.lt_trans (hd.log (by decide)) (by decide)⟩, ?_⟩
    rw [Rat.floor_def, ← Int.fdiv_eq_ediv_of_nonneg _ (Int.natCast_nonneg _)] at go
    exact go
end
end K0
namespace K0
open PySem L2 PyProof.Rows
theorem sameT {K : PySem.W.Frag} {H H' : Hp} {a : Addr} {xs : List V} (e : Same H H') (h : SqT K H a xs) : SqT K H' a xs := by
  rcases h with (h | ⟨o, h⟩) | h
  · exact .inl (.inl (e _ _ h))
  · exact .inl (.inr ⟨o, e _ _ h⟩)
  · exact .inr h
/-- the sum of a list of fractions, from the left -/
def qsum (l : List Rat) : Rat := l.foldl (· + ·) 0
theorem qsum_snoc (l : List Rat) (q : Rat) : qsum (l ++ [q]) = qsum l + q := by
  unfold qsum
  rw [List.foldl_append]
  rfl
theorem qsum_take {l : List Rat} {i : Nat} {q : Rat} (h : l[i]? = some q) : qsum (l.take (i + 1)) = qsum (l.take i) + q := by
  rw [List.take_add_one, h, Option.toList_some, qsum_snoc]
/-- the i-th of the values is the fraction q -/
def FrAt (K : PySem.W.Frag) (H : Hp) (v : V) (q : Rat) : Prop := ∃ t, v = .ref t ∧ SqT K H t (fv q)
theorem FrAt.same {K : PySem.W.Frag} {H H' : Hp} {v : V} {q : Rat} (h : FrAt K H v q) (s : Same H H') : FrAt K H' v q := by
  obtain ⟨t, e, g⟩ := h
  exact ⟨t, e, sameT s g⟩
def FrsAt (K : PySem.W.Frag) (H : Hp) (vs : List V) (qs : List Rat) : Prop := vs.length = qs.length ∧ ∀ (i : Nat) v q, vs[i]? = some v → qs[i]? = some q → FrAt K H v q
section
variable {P : Program} {w : World} {K : PySem.W.Frag} {mg : Str → Option Value} {base : Heap}
structure TPlu (P : Program) (w : World) (K : PySem.W.Frag) (mg : Str → Option Value) (base : Heap) : Prop where
  ok : ∃ (f : Addr) (fd : FuncData), mg "plus" = some (.ref f) ∧ PySem.W.keepIn K (.ref f) = true ∧ Binds K fd ["one", "two"] [] ∧ FnOk P w K mg base CX0 2 f fd ["one", "two"] (spAr K C2 fun p q => p + q)
structure TZero (K : PySem.W.Frag) (mg : Str → Option Value) : Prop where
  ok : ∃ a : Addr, mg "ZERO" = some (.ref a) ∧ ∀ H, SqT K H a (fv 0)
theorem scTot : FnScope ["values", "reached", "value"] ["values"] (defScope sTot) := ⟨rfl, rfl, rfl, by decide +kernel, rfl, by decide +kernel, by decide +kernel⟩
def spTot (K : PySem.W.Frag) : Sp := fun vs H Q _ => ∃ (a : Addr) (xs : List V) (qs : List Rat), vs = [.ref a] ∧ SqL K H a xs ∧ FrsAt K H xs qs ∧ (∀ i, FSz (qsum (qs.take i))) ∧ (∀ q ∈ qs, FSz q) ∧ ∀ x H', Same H H' → SqT K H' x (fv (qsum qs)) → Q (.ref x) H'
theorem ok_total {f : Addr} {fd : FuncData} (F : Fun K "total" "total" sTot f fd) (TP : TPlu P w K mg base) (TZ : TZero K mg) : FnOk P w K mg base CX0 3 f fd ["values"] (spTot K) := by
  obtain ⟨fP, fdP, mP, kP, bP, GP⟩ := TP.ok
  obtain ⟨aZ, mZ, hZ⟩ := TZ.ok
  refine F.ok scTot (fun vs H Q E h => ?_) (fun cdv A outer s H vs Q E hr h => ?_)
  · obtain ⟨a, xs, qs, rfl, _⟩ := h
    rfl
  · obtain ⟨a, xs, qs, rfl, hS, ⟨hl, hq⟩, hp, hs, go⟩ := h
    refine ⟨_, pss_cons (ps_set (i := 1) scTot.nd rfl (.inl rfl) (pe_glob (v := .ref aZ) (by rfl) mZ rfl))
      (pss_cons (ps_for PassesOwn.never rfl (pi_list (pv 0)) (pg_name (i := 2) scTot.nd rfl (.inl rfl))
        (pss_one (ps_set (i := 1) scTot.nd rfl (.inl rfl) (pe_call GP hr (by rfl) mP kP bP .nil pass0 (pa_cons (pv 1) (pa_cons (pv 2) pa_nil))))))
      (pss_one (ps_ret (pv 1)))), ?_⟩
    refine ⟨.ref a, rfl, a, rfl, ⟨_, hS⟩, for_list (K := K) (a := a) (xs := xs) (fun i σ H' => ∃ x y, σ = [some (.ref a), some (.ref x), y] ∧ Same H H' ∧ SqT K H' x (fv (qsum (qs.take i))))
      ⟨aZ, none, rfl, Same.refl H, hZ _⟩ (fun i σ H' _ ⟨_, _, _, s', _⟩ => s'.seq hS) ?_ ?_⟩
    · rintro i v σ H' hi ⟨x, y, rfl, s', hx⟩
      have hil : i < qs.length := by rw [← hl]; exact (List.getElem?_eq_some_iff.mp hi).1
      have eq := List.getElem?_eq_getElem hil
      obtain ⟨t, rfl, ht⟩ := (hq i v _ hi eq).same s'
      refine ⟨_, rfl, _, rfl, x, t, _, _, rfl, hx, ht, ⟨hp i, hs _ (List.getElem_mem hil), trivial⟩, fun z hz => ?_⟩
      refine ⟨z, _, rfl, s'.trans (same_upd hz), ?_⟩
      rw [qsum_take eq]
      exact SqT.of upd_same
    · rintro σ H' ⟨x, y, rfl, s', hx⟩
      refine ⟨_, rfl, go x H' s' ?_⟩
      rw [hl, List.take_length] at hx
      exact hx
end
end K0
namespace K0
open PySem L2 PyProof.Rows PySem.Spec
/-! list(d.values()), sum(d.values()) -/
theorem kv_snd {kvs : List (Key × V)} {us : List (Key × Value)} (r : KV kvs us) : Vals (kvs.map (·.2)) (us.map (·.2)) := by
  unfold KV at r
  induction r with
  | nil => exact .nil
  | cons one _ ih => exact .cons one.2 ih
theorem preSum_list (is : List Int) (f : Nat → Int) : ∀ n, n ≤ is.length → (∀ i, i < n → f i = is.getD i 0) → preSum f n = (is.take n).sum
  | 0, _, _ => rfl
  | n + 1, hn, hf => by
    have ih := preSum_list is f n (by omega) (fun i hi => hf i (by omega))
    show preSum f n + f n = _
    have hg : is[n]? = some is[n] := List.getElem?_eq_getElem (by omega)
    have ht : is.take (n + 1) = is.take n ++ [is[n]] := by
      rw [List.take_add_one, hg]
      rfl
    have hv : f n = is[n] := by
      rw [hf n (by omega), List.getD_eq_getElem?_getD, hg]
      rfl
    rw [ih, hv, ht, List.sum_append]
    simp
def tListVals (td : TE) : TE := fun σ H Q => td σ H fun x H1 => ∃ a kvs, x = V.ref a ∧ H1 a = some (.dK kvs) ∧ ∀ l, H1 l = none → Q (.ref l) (upd H1 l (.lst (kvs.map (·.2))))
def tSumVals (td : TE) : TE := fun σ H Q => td σ H fun x H1 => ∃ a kvs, ∃ is : List Int, x = V.ref a ∧ H1 a = some (.dK kvs) ∧ kvs.map (·.2) = is.map V.int ∧ Q (.int is.sum) H1
section
variable {X : Cx} {o : Expr} {p pos apos mpos : Pos} {td : TE}
theorem pe_listVals (calm : X.calm = true) (hg : Gl X "list") (hm : X.mg "list" = none) (hd : PE X o td) (hb : attributeBase o "values" X.env (eval o X.env) = eval o X.env := by rfl) (hline : (apos.endLine == mpos.line) = true := by rfl)
    (hst : starEach [Expr.Call (.Attribute o "values" apos) [] [] mpos] X.env = (false, eval (.Call (.Attribute o "values" apos) [] [] mpos) X.env) :: starEach [] X.env := by rfl) :
    PE X (.Call (.Name "list" p) [.Call (.Attribute o "values" apos) [] [] mpos] [] pos) (tListVals td) := by
  refine ⟨fun pins s σ H Q I h => ?_⟩
  refine wpAny_Call_Name_kw (ld_blt I hg hm (u := .type "list") (by first | rfl | decide +kernel) ?_ (by first | decide +kernel | decide) (by first | decide +kernel | decide))
  refine PyProof.Rows.callWith_type1 ?_ hst rfl
  rw [hst]
  show wpAny _ _ (spliced ((false, eval (.Call (.Attribute o "values" apos) [] [] mpos) X.env) :: backTo pos (starEach [] X.env))) _ _ s
  refine Calls.spliced_cons ?_
  refine wpAny_Call_method0_late hb hline (thn (hd.run pins s σ H _ I h) fun u s1 ⟨x, H1, I1, rx, d, kvs, ex, hd1, go⟩ => ?_)
  subst ex
  obtain rfl : u = Value.ref d := rx
  obtain ⟨hsz, hsys, us, kv, dof⟩ := dk_of I1.hok hd1
  obtain ⟨ep, dat⟩ := dof.dictAt
  obtain ⟨ob, es, ho, ex, hdat, hko, hpr, hnd⟩ := id dat
  refine ⟨"dict", "dict.values", F.plainAttrs_dict, F.slot_dict_values, F.type_dict_values, ⟨ob, ho, ex.1⟩, fun b e => by cases e; exact ⟨ob, ho, ex.2.1⟩, Calls.callWith_builtin rfl (PySem.evalArgs_none ?_)⟩
  refine call_meetsIn F.slot_dict_values ⟨ob, ho, ex.1⟩ F.entry_dict_values (F.args_dict_values_1 _) (meets_dict_values (mixKind X.prog X.w) d hsys) ⟨⟨us, dof⟩, ?_⟩
  refine Calls.spliced_nil ?_
  have lk : us.length = kvs.length := (Paired.length kv).symm
  refine PySem.W.kdl_call (PySem.W.kdl_values (knd := mixKind X.prog X.w) (r := s1.heap.objs.size) (d := d) (kvs := us) (ep := ep)) (I.ok.hd calm) ⟨⟨_, Heap.get?_push_size _ rfl, rfl, rfl⟩, dat.push _⟩ (by rw [lk]; exact hsz) fun h' tk acc c keep at' items => ?_
  have keep1 : ∀ b u, s1.heap.get? b = some u → h'.get? b = some u := fun b u e => keep b u (Heap.get?_push_of_some _ e)
  have size1 : (s1.heap.push { cls := .type "dict_values", data := .fields #[.ref d] }).objs.size = s1.heap.objs.size + 1 := Heap.size_push _ _
  have hacc : acc.toList = us.map (·.2) := PySem.W.kdl_vals_eq acc.toList (by rw [Array.length_toList]; exact items.1) fun j v e => items.2 j v (by rw [← Array.getElem?_toList]; exact e)
  have frs : H1 (s1.heap.objs.size + 1) = none := I1.hok.fresh (Nat.le_succ _)
  refine ⟨.ref (s1.heap.objs.size + 1), upd H1 (s1.heap.objs.size + 1) (.lst (kvs.map (·.2))), I1.laid keep1 (Nat.le_succ _) ⟨by rw [List.length_map]; exact hsz, acc.toList, c, by rw [hacc]; exact kv_snd kv, ?_⟩, by rw [size1]; rfl, go _ frs⟩
  rw [Array.toArray_toList, ← size1]
  exact at'
theorem pe_sumVals (calm : X.calm = true) (hg : Gl X "sum") (hm : X.mg "sum" = none) (hd : PE X o td) (hb : attributeBase o "values" X.env (eval o X.env) = eval o X.env := by rfl) (hline : (apos.endLine == mpos.line) = true := by rfl)
    (hst : starEach [Expr.Call (.Attribute o "values" apos) [] [] mpos] X.env = [(false, eval (Expr.Call (.Attribute o "values" apos) [] [] mpos) X.env)] := by rfl) :
    PE X (.Call (.Name "sum" p) [.Call (.Attribute o "values" apos) [] [] mpos] [] pos) (tSumVals td) := by
  refine ⟨fun pins s σ H Q I h => ?_⟩
  refine wpAny_Call_Name_kw (ld_blt I hg hm (u := .builtin "sum") (by first | rfl | decide +kernel) ?_ (by first | decide +kernel | decide) (by first | decide +kernel | decide))
  rw [hst]
  refine PySem.callWith_builtin1 (wpAny_Call_method0_late hb hline (thn (hd.run pins s σ H _ I h) fun u s1 ⟨x, H1, I1, rx, d, kvs, is, ex, hd1, hv, go⟩ => ?_))
  subst ex
  obtain rfl : u = Value.ref d := rx
  obtain ⟨hsz, hsys, us, kv, dof⟩ := dk_of I1.hok hd1
  obtain ⟨ep, dat⟩ := dof.dictAt
  obtain ⟨ob, es, ho, ex, hdat, hko, hpr, hnd⟩ := id dat
  refine ⟨"dict", "dict.values", F.plainAttrs_dict, F.slot_dict_values, F.type_dict_values, ⟨ob, ho, ex.1⟩, fun b e => by cases e; exact ⟨ob, ho, ex.2.1⟩, Calls.callWith_builtin rfl (PySem.evalArgs_none ?_)⟩
  refine call_meetsIn F.slot_dict_values ⟨ob, ho, ex.1⟩ F.entry_dict_values (F.args_dict_values_1 _) (meets_dict_values (mixKind X.prog X.w) d hsys) ⟨⟨us, dof⟩, ?_⟩
  have lk : us.length = kvs.length := (Paired.length kv).symm
  have li : kvs.length = is.length := by
    have e1 := congrArg List.length hv
    rwa [List.length_map, List.length_map] at e1
  have size1 : (s1.heap.push { cls := .type "dict_values", data := .fields #[.ref d] }).objs.size = s1.heap.objs.size + 1 := Heap.size_push _ _
  have S := PySem.W.kdl_values (prog := X.prog) (w := X.w) (knd := mixKind X.prog X.w) (r := s1.heap.objs.size) (d := d) (kvs := us) (ep := ep)
  have okV : (s1.heap.push { cls := .type "dict_values", data := .fields #[.ref d] }).IsValuesView s1.heap.objs.size d ∧ (s1.heap.push { cls := .type "dict_values", data := .fields #[.ref d] }).DictAt (mixKind X.prog X.w) d us ep := ⟨⟨_, Heap.get?_push_size _ rfl, rfl, rfl⟩, dat.push _⟩
  refine call_sum_walkAnyS ?_
  obtain ⟨oI, St, hit, W, st⟩ := S.iter X.A.in1 { s1 with heap := s1.heap.push { cls := .type "dict_values", data := .fields #[.ref d] } } (I.ok.hd calm) okV
  have there := (S.there _ okV).2
  refine hit _ _ ⟨_, _, _, _, us.length, _, _, fun i => is.getD i 0, rfl, W.toS, st, fun b hb => ?_, fun i v hkk => ?_, fun s' t' mv => ?_⟩
  · show b < ((s1.heap.push _).push oI).objs.size
    rw [Heap.size_push]
    rcases List.mem_cons.mp hb with e | hb
    · rw [e]
      exact Nat.lt_succ_self _
    · rw [List.mem_singleton.mp hb]
      exact Nat.lt_succ_of_lt there
  · obtain ⟨k, hk⟩ := hkk
    have hx : (us.map (·.2))[i]? = some v := by
      rw [List.getElem?_map, hk]
      rfl
    have rel := kv_snd kv
    rw [hv] at rel
    have hil : i < is.length := by
      have e2 := (List.getElem?_eq_some_iff.mp hk).1
      omega
    have hy : (is.map V.int)[i]? = some (V.int is[i]) := by
      rw [List.getElem?_map, List.getElem?_eq_getElem hil]
      rfl
    obtain ⟨u, eu, ru⟩ := rel.get hy
    rw [hx] at eu
    cases eu
    obtain ⟨t, et⟩ := ru
    refine ⟨t, ?_⟩
    show v = Value.int (is.getD i 0) t
    rw [et, List.getD_eq_getElem?_getD, List.getElem?_eq_getElem hil]
    rfl
  · have keep1 : ∀ b u, s1.heap.get? b = some u → s'.heap.get? b = some u := fun b u e => mv.heap b u (fun hI => by
      have e1 : b = (s1.heap.push { cls := .type "dict_values", data := .fields #[.ref d] }).objs.size := List.mem_singleton.mp hI
      have e2 : b < s1.heap.objs.size := Heap.lt_size e
      rw [size1] at e1
      exact absurd e2 (by rw [e1]; exact Nat.not_lt.mpr (Nat.le_succ _))) (Heap.get?_push_of_some _ (Heap.get?_push_of_some _ e))
    rw [Moved.eq_with mv]
    have es : preSum (fun i => is.getD i 0) us.length = is.sum := by
      rw [preSum_list is _ us.length (by omega) (fun _ _ => rfl), List.take_of_length_le (by omega)]
    refine ⟨.int is.sum, H1, I1.kept keep1, ⟨t', ?_⟩, go⟩
    rw [es]
end
end K0
namespace K0
open PySem L2 PyProof.Rows PySem.Spec SrtO
/-! sorted of pairs of an int and a text -/
/-- by the int, then by the text -/
def ltIS (p q : Int × Str) : Bool := if p.1 = q.1 then decide (p.2.cps.toList < q.2.cps.toList) else decide (p.1 < q.1)
theorem ltIS_iff {p q : Int × Str} : ltIS p q = true ↔ p.1 < q.1 ∨ (p.1 = q.1 ∧ p.2.cps.toList < q.2.cps.toList) := by
  unfold ltIS
  by_cases e : p.1 = q.1
  · rw [if_pos e, decide_eq_true_eq]
    exact ⟨fun h => .inr ⟨e, h⟩, fun h => h.elim (fun z => absurd e (Int.ne_of_lt z)) fun z => z.2⟩
  · rw [if_neg e, decide_eq_true_eq]
    exact ⟨fun h => .inl h, fun h => h.elim id fun z => absurd z.1 e⟩
theorem ltIS_no {p q : Int × Str} : ltIS p q = false ↔ ¬ (p.1 < q.1 ∨ (p.1 = q.1 ∧ p.2.cps.toList < q.2.cps.toList)) := by
  rw [← ltIS_iff]
  cases ltIS p q <;> simp
theorem swoIS {α : Type} (k : α → Int × Str) : Swo fun x y => ltIS (k x) (k y) := by
  refine ⟨fun x y h => ?_, fun x y z h1 h2 => ?_⟩
  · refine ltIS_no.mpr fun g => ?_
    rcases ltIS_iff.mp h with a | ⟨a, b⟩
    · rcases g with c | ⟨c, d⟩ <;> omega
    · rcases g with c | ⟨c, d⟩
      · omega
      · exact List.lt_asymm b d
  · have a := ltIS_no.mp h1
    have b := ltIS_no.mp h2
    refine ltIS_no.mpr fun g => ?_
    have a1 : ¬ (k y).1 < (k x).1 := fun z => a (.inl z)
    have b1 : ¬ (k z).1 < (k y).1 := fun z => b (.inl z)
    rcases g with c | ⟨c, d⟩
    · omega
    · have e1 : (k y).1 = (k x).1 := by omega
      have e2 : (k z).1 = (k y).1 := by omega
      have a2 : ¬ (k y).2.cps.toList < (k x).2.cps.toList := fun z => a (.inr ⟨e1, z⟩)
      have b2 : ¬ (k z).2.cps.toList < (k y).2.cps.toList := fun z => b (.inr ⟨e2, z⟩)
      exact absurd d (List.not_lt.mpr (List.le_trans (List.not_lt.mp a2) (List.not_lt.mp b2)))
/-- the value is a tuple of an int and a text -/
def IsIS (h : Heap) (v : Value) (x : Int) (y : Str) : Prop := ∃ a o t u n, v = .ref a ∧ h.get? a = some o ∧ o.cls = .type "tuple" ∧ o.data = .seq #[.int x t, .str y u] n
theorem IsIS.keeps {h h' : Heap} {v : Value} {x : Int} {y : Str} (p : IsIS h v x y) (keep : ∀ b o, h.get? b = some o → o.cls = .type "tuple" → h'.get? b = some o) : IsIS h' v x y := by
  obtain ⟨a, o, t, u, n, e1, e2, e3, e4⟩ := p
  exact ⟨a, o, t, u, n, e1, keep _ _ e2 e3, e3, e4⟩
theorem firstsIS {h : Heap} : ∀ {vs : List Value}, (∀ v ∈ vs, ∃ x y, IsIS h v x y) → ∃ fs : List Value, PySem.W.KatTups h vs fs ∧ fs.length = vs.length ∧ ∀ f ∈ fs, ∃ x t, f = Value.int x t
  | [], _ => ⟨[], .nil, rfl, fun _ g => by cases g⟩
  | v :: vs, hp => by
    obtain ⟨fs, g1, g2, g3⟩ := firstsIS (vs := vs) fun u hu => hp u (List.mem_cons_of_mem _ hu)
    obtain ⟨x, y, a, o, t, u, n, rfl, ho, hc, hd⟩ := hp v List.mem_cons_self
    refine ⟨.int x t :: fs, .cons ho hc hd rfl g1, by rw [List.length_cons, List.length_cons, g2], fun f hf => ?_⟩
    rcases List.mem_cons.mp hf with e | hf
    · exact ⟨x, t, e⟩
    · exact g3 f hf
section
variable {prog : Program} {w : World} {A : Around} {E : Value → Shared → Prop} {s : Shared}
theorem cmpIS {vs : List Value} {k : Value → Int × Str} (hp : ∀ v ∈ vs, IsIS s.heap v (k v).1 (k v).2) : Cmp prog w A s (tuples' true) (fun p => p.1 ∈ vs) (lt2 fun v u => ltIS (k v) (k u)) := by
  intro p q hm hm'
  obtain ⟨a, o, t, u, n, e, ho, hc, hd⟩ := hp _ hm
  obtain ⟨a', o', t', u', n', e', ho', hc', hd'⟩ := hp _ hm'
  show wpAny (model prog w) A (keyLt' (tuples' true) p.1 q.1) (fun r s' => s' = s ∧ r = ltIS (k p.1) (k q.1)) (fun _ _ => False) s
  rw [show ltIS (k p.1) (k q.1) = (if (k p.1).1 = (k q.1).1 then decide ((k p.1).2.cps.toList < (k q.1).2.cps.toList) else decide ((k p.1).1 < (k q.1).1)) from rfl]
  generalize (k p.1).1 = x, (k p.1).2 = y, (k q.1).1 = x', (k q.1).2 = y' at *
  rw [e, e']
  refine PySem.W.kat_lt ho hd ho' hd' ?_
  show PySem.W.KatLex prog w A true (decide (2 < 2)) _ [(.int x t, .int x' t'), (.str y u, .str y' u')] 0 s
  refine PySem.W.kat_cons (SeqAt.EqAt.int_int x t x' t' prog w _ _ (PySem.W.kat_go (fun g => ?_) fun g => ?_))
  · have ex : x = x' := by simpa using g
    refine PySem.W.kat_yes (PySem.W.kat_cons (SeqAt.EqAt.str_str y u y' u' prog w _ _ (PySem.W.kat_go (fun g2 => ?_) fun g2 => ?_)))
    · have ey : y = y' := by simpa using g2
      refine PySem.W.kat_yes (PySem.W.kat_nil ⟨rfl, ?_⟩)
      rw [if_pos ex, ey]
      exact (decide_eq_false (List.lt_irrefl _)).symm
    · refine PySem.W.kat_no (PySem.W.kat_one _ _ (PyProof.Rows.lt_str ?_))
      show s = s ∧ _ = _
      exact ⟨rfl, (if_pos ex).symm⟩
  · have ex : ¬ x = x' := by simpa using g
    exact PySem.W.kat_no (oneLt_int ⟨rfl, (if_neg ex).symm⟩)
theorem sortableIS {a : Addr} {vs : List Value} {k : Value → Int × Str} (h0 : 0 < vs.length) (hp : ∀ v ∈ vs, IsIS s.heap v (k v).1 (k v).2) (ha : ∀ o, s.heap.get? a = some o → o.cls ≠ .type "tuple") : SortableO prog w A s a vs fun v u => ltIS (k v) (k u) := by
  intro h' keep
  have hp' : ∀ v ∈ vs, IsIS h' v (k v).1 (k v).2 := fun v hm => (hp v hm).keeps fun b o e c => keep b o (fun z => ha o (z ▸ e) c) e
  obtain ⟨fs, h1, h2, h3⟩ := firstsIS fun v hm => ⟨_, _, hp' v hm⟩
  refine ⟨tuples' true, fun Q E hq => PySem.W.kat_kind (T := .type "int") h1 (by omega) (fun f hm => ?_) (by rfl) ?_, cmpIS hp'⟩
  · obtain ⟨x, t, rfl⟩ := h3 f hm
    exact PySem.W.Looks.now
  · rw [show (Value.type "int" != Value.type "tuple") = true by first | decide +kernel | rfl]
    exact hq
end
/-- sorted(xs), xs a list of pairs of an int and a text (k says which) -/
def rSortIS (K : PySem.W.Frag) : List V → Hp → VK → Prop := fun vs H Q => ∃ (a : Addr) (xs : List V) (k : V → Int × Str), vs = [V.ref a] ∧ SqL K H a xs ∧ (∀ x ∈ xs, ∃ t, x = V.ref t ∧ H t = some (.tup [.int (k x).1, .str (k x).2])) ∧
  ∀ ys p, Srtd (fun x y => ltIS (k x) (k y)) ys → ys.Perm xs → H p = none → Q (.ref p) (upd H p (.lst ys))
section
variable {X : Cx}
theorem cr_sortIS : CallR X (.builtin "sorted") (rSortIS X.K) := by
  intro pins s σ H vs us Q I r h
  obtain ⟨a, xs, k, rfl, hs, hx, go⟩ := h
  obtain ⟨its, rv, hl, hz⟩ := I.list hs
  obtain ⟨u, rfl, ru⟩ := vals1 r
  obtain rfl : u = Value.ref a := ru
  obtain ⟨e1, e2⟩ := refs_back rv fun x m => (hx x m).imp fun _ g => g.1
  have hp : ∀ v ∈ its, IsIS s.heap v (k (backV v)).1 (k (backV v)).2 := fun v hv => by
    obtain ⟨t, rfl⟩ := e2 v hv
    obtain ⟨t', e, ht⟩ := hx (V.ref t) (by rw [e1]; exact List.mem_map.mpr ⟨_, hv, rfl⟩)
    cases e
    obtain ⟨_, its2, r2, o, ho, hc, n, hd⟩ := I.hok _ _ ht
    obtain ⟨u1, u2, rfl, ⟨t1, rfl⟩, ⟨t2, rfl⟩⟩ := vals2 r2
    exact ⟨t, o, t1, t2, n, rfl, ho, hc, hd⟩
  refine sorted_ord (swoIS fun u => k (backV u)) hl.isList (by rw [← rv.length]; exact hz) (fun h2 h₁ b hb kk => ?_) fun out hso hst => ?_
  · refine sortableIS (s := { s with heap := h₁ }) (by omega) (fun v hm => (hp v hm).keeps fun c o e _ => (kk c o e).2) fun o e => ?_
    have e' : some o = some (seqObj "list" its.toArray 0) := e.symm.trans hb
    cases e'
    intro c
    exact absurd (Value.type.inj c) (by decide)
  · have h3 : ∀ u ∈ out, ∃ b, u = Value.ref b := fun u hu => e2 u (hst.perm.mem_iff.mp hu)
    obtain ⟨n, hn⟩ := sortedAll_at s.heap its out.toArray
    refine ⟨.ref (s.heap.objs.size + 1), upd H (s.heap.objs.size + 1) (.lst (out.map backV)), I.laid (t' := s.toks) (fun b o e => sortedAll_old e) (Nat.le_succ _) ⟨?_, out, n, vals_back h3, hn⟩, rfl, go _ _ (List.pairwise_map.mpr hso) ?_ (I.hok.fresh (Nat.le_succ _))⟩
    · rw [List.length_map, hst.perm.length_eq, ← rv.length]
      exact hz
    · rw [e1]
      exact hst.perm.map backV
end
end K0
namespace K0
open PySem L2 PyProof.Rows PySem.Spec
/-! _common_bottom -/
/-- the least common multiple of the second numbers -/
def qlcm (l : List Rat) : Nat := l.foldl (fun b q => Nat.lcm b q.den) 1
theorem qlcm_snoc (l : List Rat) (q : Rat) : qlcm (l ++ [q]) = Nat.lcm (qlcm l) q.den := by
  unfold qlcm
  rw [List.foldl_append]
  rfl
theorem qlcm_take {l : List Rat} {i : Nat} {q : Rat} (h : l[i]? = some q) : qlcm (l.take (i + 1)) = Nat.lcm (qlcm (l.take i)) q.den := by
  rw [List.take_add_one, h, Option.toList_some, qlcm_snoc]
section
variable {P : Program} {w : World} {K : PySem.W.Frag} {mg : Str → Option Value} {base : Heap}
theorem scCom : FnScope ["values", "bottom", "value"] ["values"] (defScope sCom) := ⟨rfl, rfl, rfl, by decide +kernel, rfl, by decide +kernel, by decide +kernel⟩
def spCom (K : PySem.W.Frag) : Sp := fun vs H Q _ => ∃ (a : Addr) (xs : List V) (qs : List Rat), vs = [.ref a] ∧ SqL K H a xs ∧ FrsAt K H xs qs ∧ (∀ i, qlcm (qs.take i) < 2 ^ 64) ∧ (∀ q ∈ qs, q.den < 2 ^ 64) ∧ Q (.int (qlcm qs : Int)) H
theorem ok_common {f : Addr} {fd : FuncData} (F : Fun K "_common_bottom" "_common_bottom" sCom f fd) (mgLcm : mg "lcm" = some (.builtin "math.lcm")) : FnOk P w K mg base CX0 1 f fd ["values"] (spCom K) := by
  refine F.ok scCom (fun vs H Q E h => ?_) (fun cdv A outer s H vs Q E hr h => ?_)
  · obtain ⟨a, xs, qs, rfl, _⟩ := h
    rfl
  · obtain ⟨a, xs, qs, rfl, hS, ⟨hl, hq⟩, hp, hs, go⟩ := h
    refine ⟨_, pss_cons (ps_set (i := 1) scCom.nd rfl (.inl rfl) pe_int)
      (pss_cons (ps_for PassesOwn.never rfl (pi_list (pv 0)) (pg_name (i := 2) scCom.nd rfl (.inl rfl))
        (pss_one (ps_set (i := 1) scCom.nd rfl (.inl rfl) (pe_callBfun cr_lcm (by rfl) mgLcm (pa_cons (pv 1) (pa_cons (pe_ix ix_tup (pv 2) pe_int (fun _ _ => rfl)) pa_nil))))))
      (pss_one (ps_ret (pv 1)))), ?_⟩
    refine ⟨.ref a, rfl, a, rfl, ⟨_, hS⟩, for_list (K := K) (a := a) (xs := xs) (fun i σ H' => ∃ y, σ = [some (.ref a), some (.int (qlcm (qs.take i) : Int)), y] ∧ H' = H)
      ⟨none, rfl, rfl⟩ (fun i σ H' _ ⟨_, _, e⟩ => by rw [e]; exact hS) ?_ ?_⟩
    · rintro i v σ H' hi ⟨y, rfl, rfl⟩
      have hil : i < qs.length := by rw [← hl]; exact (List.getElem?_eq_some_iff.mp hi).1
      have eq := List.getElem?_eq_getElem hil
      obtain ⟨t, rfl, ht⟩ := hq i v _ hi eq
      have b1 := hp i
      have b2 := hs _ (List.getElem_mem hil)
      refine ⟨_, rfl, _, rfl, t, _, 1, _, rfl, rfl, ht, atI_nat (j := 1) rfl, _, _, rfl, by rw [Int.natAbs_natCast]; exact b1, by rw [Int.natAbs_natCast]; exact b2, some (.ref t), ?_, rfl⟩
      rw [qlcm_take eq, Int.natAbs_natCast, Int.natAbs_natCast]
      rfl
    · rintro σ H' ⟨y, rfl, rfl⟩
      rw [hl, List.take_length]
      exact ⟨_, rfl, go⟩
end
/-! a dict of shares -/
structure ShAt (K : PySem.W.Frag) (H : Hp) (d : Addr) (kvs : List (Key × V)) (L : List (Str × Rat)) : Prop where
  dk : H d = some (.dK kvs)
  ks : kvs.map (·.1) = L.map fun p => (Sum.inr p.1 : Key)
  vs : FrsAt K H (kvs.map (·.2)) (L.map (·.2))
  nd : (L.map (·.1)).Nodup
theorem ShAt.len {K : PySem.W.Frag} {H : Hp} {d : Addr} {kvs : List (Key × V)} {L : List (Str × Rat)} (S : ShAt K H d kvs L) : kvs.length = L.length := by
  have e := congrArg List.length S.ks
  rwa [List.length_map, List.length_map] at e
theorem valV_nth {kvs : List (Key × V)} (nd : (kvs.map (·.1)).Nodup) {i : Nat} {k : Key} {v : V} (h : kvs[i]? = some (k, v)) : valV kvs k = some v := by
  induction kvs generalizing i with
  | nil => cases h
  | cons p r ih =>
    rw [List.map_cons, List.nodup_cons] at nd
    cases i with
    | zero =>
      have e : p = (k, v) := Option.some.inj h
      rw [e]
      exact valV_pos rfl
    | succ i =>
      have h' : r[i]? = some (k, v) := h
      have ne : ¬ p.1 = k := fun e => nd.1 (by
        rw [e]
        exact List.mem_map.mpr ⟨(k, v), List.mem_of_getElem? h', rfl⟩)
      rw [valV_neg ne]
      exact ih nd.2 h'
theorem ShAt.ndk {K : PySem.W.Frag} {H : Hp} {d : Addr} {kvs : List (Key × V)} {L : List (Str × Rat)} (S : ShAt K H d kvs L) : (kvs.map (·.1)).Nodup := by
  rw [S.ks]
  have e : (L.map fun p => (Sum.inr p.1 : Key)) = (L.map (·.1)).map Sum.inr := by rw [List.map_map]; rfl
  rw [e]
  exact List.pairwise_map.mpr (S.nd.imp fun h z => h (Sum.inr.inj z))
theorem ShAt.at {K : PySem.W.Frag} {H : Hp} {d : Addr} {kvs : List (Key × V)} {L : List (Str × Rat)} (S : ShAt K H d kvs L) {i : Nat} {k : Str} {q : Rat} (h : L[i]? = some (k, q)) :
    ∃ t, kvs[i]? = some (Sum.inr k, .ref t) ∧ valV kvs (Sum.inr k : Key) = some (.ref t) ∧ SqT K H t (fv q) := by
  have hi : i < kvs.length := by
    rw [S.len]
    exact (List.getElem?_eq_some_iff.mp h).1
  have e0 := List.getElem?_eq_getElem hi
  have e1 : (kvs.map (·.1))[i]? = some (Sum.inr k) := by
    rw [S.ks, List.getElem?_map, h]
    rfl
  rw [List.getElem?_map, e0] at e1
  have e2 : (kvs.map (·.2))[i]? = some kvs[i].2 := by
    rw [List.getElem?_map, e0]
    rfl
  have e3 : (L.map (·.2))[i]? = some q := by
    rw [List.getElem?_map, h]
    rfl
  obtain ⟨t, et, ht⟩ := S.vs.2 i _ _ e2 e3
  have e4 : kvs[i] = (Sum.inr k, .ref t) := Prod.ext (Option.some.inj e1) et
  rw [e4] at e0
  exact ⟨t, e0, valV_nth S.ndk e0, ht⟩
theorem sqT_upd {K : PySem.W.Frag} {H : Hp} {t d : Addr} {xs : List V} {u o : HO} (h : SqT K H t xs) (hd : H d = some u) (h1 : u ≠ .tup xs) (h2 : ∀ z, u ≠ .frz z (.tup xs)) : SqT K (upd H d o) t xs := by
  rcases h with (h | ⟨z, h⟩) | h
  · exact .inl (.inl (by rw [upd_ne (ne_of h hd (fun e => h1 e.symm))]; exact h))
  · exact .inl (.inr ⟨z, by rw [upd_ne (ne_of h hd (fun e => h2 z e.symm))]; exact h⟩)
  · exact .inr h
end K0
namespace K0
open PySem L2 PyProof.Rows PySem.Spec SrtO
/-- what a share is ranked by: the negative remainder over the common bottom -/
def rk (M : Nat) (q : Rat) : Int := -((q.num * ((M : Int) / (q.den : Int))) % (M : Int))
def rkL (L : List (Str × Rat)) : List (Int × Str) := L.map fun p => (rk (qlcm (L.map (·.2))) p.2, p.1)
theorem qlcm_pos (l : List Rat) : 0 < qlcm l := by
  unfold qlcm
  suffices h : ∀ (l : List Rat) (b : Nat), 0 < b → 0 < l.foldl (fun b q => Nat.lcm b q.den) b from h l 1 (by decide)
  intro l
  induction l with
  | nil => exact fun b h => h
  | cons q r ih => exact fun b h => ih _ (Nat.lcm_pos h (Nat.pos_of_ne_zero q.den_nz))
/-- a pair's key, read off the heap -/
def kOf (H : Hp) (v : V) : Int × Str := match v with
  | .ref t => match H t with
    | some (.tup [.int a, .str b]) => (a, b)
    | _ => (0, Str.empty)
  | _ => (0, Str.empty)
theorem kOf_at {H : Hp} {t : Addr} {a : Int} {b : Str} (h : H t = some (.tup [.int a, .str b])) : kOf H (.ref t) = (a, b) := by
  unfold kOf
  simp only [h]
section
variable {P : Program} {w : World} {K : PySem.W.Frag} {mg : Str → Option Value} {base : Heap}
structure TCom (P : Program) (w : World) (K : PySem.W.Frag) (mg : Str → Option Value) (base : Heap) : Prop where
  ok : ∃ (f : Addr) (fd : FuncData), mg "_common_bottom" = some (.ref f) ∧ PySem.W.keepIn K (.ref f) = true ∧ Binds K fd ["values"] [] ∧ FnOk P w K mg base CX0 1 f fd ["values"] (spCom K)
abbrev nByr : List Str := ["shares", "bottom", "ranked", "key", "top", "_"]
theorem scByr : FnScope nByr ["shares"] (defScope sByr) := ⟨rfl, rfl, rfl, by decide +kernel, rfl, by decide +kernel, by decide +kernel⟩
def spByr (K : PySem.W.Frag) : Sp := fun vs H Q _ => ∃ (d : Addr) (kvs : List (Key × V)) (L : List (Str × Rat)), vs = [.ref d] ∧ ShAt K H d kvs L ∧ L.length ≤ 1000 ∧ (∀ i, qlcm ((L.map (·.2)).take i) < 2 ^ 64) ∧ (∀ q ∈ L.map (·.2), q.den < 2 ^ 64 ∧ FSz q) ∧
  ∀ p H' Y, Same H H' → H p = none → H' p = some (.lst (Y.map fun y => V.str y.2)) → Y.Perm (rkL L) → Srtd (fun x y => ltIS x y) Y → Q (.ref p) H'
theorem ok_by {f : Addr} {fd : FuncData} (F : Fun K "_by_remainder" "_by_remainder" sByr f fd) (TC : TCom P w K mg base) (mgList : mg "list" = none) (mgSorted : mg "sorted" = none) : FnOk P w K mg base CX0 2 f fd ["shares"] (spByr K) := by
  obtain ⟨fC, fdC, mC, kC, bC, GC⟩ := TC.ok
  refine F.ok scByr (fun vs H Q E h => ?_) (fun cdv A outer s H vs Q E hr h => ?_)
  · obtain ⟨d, kvs, L, rfl, _⟩ := h
    rfl
  · obtain ⟨d, kvs, L, rfl, S, hL, hM, hq, go⟩ := h
    have hu := hu_of hr
    refine ⟨_, pss_cons (ps_set (i := 1) scByr.nd rfl (.inl rfl) (pe_call GC hr (by rfl) mC kC bC .nil pass0 (pa_cons (pe_listVals rfl (by rfl) mgList (pv 0)) pa_nil)))
      (pss_cons (ps_set (i := 2) scByr.nd rfl (.inl rfl) (pe_lst pa_nil))
      (pss_cons (ps_lock (ps_for PassesOwn.never rfl (pi_keys (pv 0)) (pg_name (i := 3) scByr.nd rfl (.inl rfl))
        (pss_cons (ps_set (i := 4) scByr.nd rfl (.inl rfl) (pe_op op_mulG (pe_ix ix_tup (pe_dget hu (pv 0) (pv 3) (fun _ _ => rfl)) pe_int (fun _ _ => rfl)) (pe_op op_fdivW (pv 1) (pe_ix ix_tup (pe_dget hu (pv 0) (pv 3) (fun _ _ => rfl)) pe_int (fun _ _ => rfl)))))
        (pss_one (ps_expr (pe_bm PySem.F.plainAttrs_list PySem.F.slot_list_append PySem.F.type_list_append mt_append (pv 2) (pa_cons (pe_tup (pa_cons (pe_un un_neg (pe_op op_mod (pv 4) (pv 1))) (pa_cons (pv 3) pa_nil))) pa_nil)))))))
      (pss_one (ps_ret (pe_lc (own := [("_", 5), ("key", 3)]) (g := gTup K 2 (gCons (gName 5) (gCons (gName 3) gNil))) (tt := tYes) rfl scByr.nd (pi_list (pe_callB cr_sortIS (by rfl) mgSorted (by decide +kernel) (pa_cons (pv 2) pa_nil)))
        (blkOk_by (N := nByr) (sc := defScope sByr) (by decide +kernel))
        (fun _ _ _ _ _ => pg_tup (n := 2) rfl (pgs_cons (pg_name (i := 5) scByr.nd rfl (.inl rfl) (.inr rfl)) (pgs_cons (pg_name (i := 3) scByr.nd rfl (.inl rfl) (.inr rfl)) pgs_nil)))
        (fun _ _ _ _ _ => pts_nil) (fun _ _ _ _ _ => pv 3)))))), ?_⟩
    have hnd := S.ndk
    refine ⟨_, rfl, d, kvs, rfl, S.dk, fun l hl => ?_⟩
    have sm1 : Same H (upd H l (.lst (kvs.map (·.2)))) := same_upd hl
    have fr1 : FrsAt K (upd H l (.lst (kvs.map (·.2)))) (kvs.map (·.2)) (L.map (·.2)) := ⟨S.vs.1, fun i v q h1 h2 => (S.vs.2 i v q h1 h2).same sm1⟩
    refine ⟨l, _, _, rfl, SqL.of upd_same, fr1, hM, fun q h => (hq q h).1, ?_⟩
    refine ⟨Nat.zero_le _, fun r hr2 => ?_⟩
    generalize e1 : upd H l (.lst (kvs.map (·.2))) = H1 at sm1 fr1 hr2 ⊢
    generalize eM : qlcm (L.map (·.2)) = M at *
    have rd : r ≠ d := fun e => by
      rw [e, sm1 _ _ S.dk] at hr2
      cases hr2
    have d1 : H1 d = some (.dK kvs) := sm1 _ _ S.dk
    have d2 : upd H1 r (.lst []) d = some (.dK kvs) := by
      rw [upd_ne rd.symm]
      exact d1
    have M0 : 0 < (M : Int) := by
      have := qlcm_pos (L.map (·.2))
      rw [eM] at this
      omega
    have hMM : M < 2 ^ 64 := by
      have := hM (L.map (·.2)).length
      rw [List.take_length, eM] at this
      exact this
    refine ⟨d, .dK kvs, d2, trivial, fun od => ?_⟩
    refine ⟨_, rfl, d, od, rfl, .inl ⟨kvs, upd_same, for_it walk_keys (fun i σ Hx => ∃ (ts : List Addr) (y3 y4 : Option V), σ = [some (.ref d), some (.int (M : Int)), some (.ref r), y3, y4, none] ∧ (∀ b o, H1 b = some o → b ≠ d → Hx b = some o) ∧ Hx d = some (.frz od (.dK kvs)) ∧ Hx r = some (.lst (ts.map V.ref)) ∧ ts.length = i ∧
      ∀ (j : Nat) t, ts[j]? = some t → ∃ k q, L[j]? = some (k, q) ∧ Hx t = some (.tup [.int (rk M q), .str k])) ?_ (fun i σ Hx _ ⟨_, _, _, _, _, z, _⟩ => z) ?_ ?_⟩⟩
    · refine ⟨[], none, none, rfl, fun b o hb hbd => ?_, upd_same, ?_, rfl, fun j t h => by cases h⟩
      · rw [upd_ne hbd, upd_ne (ne_of_none hb hr2)]
        exact hb
      · rw [upd_ne rd, upd_same]
        rfl
    · rintro i x σ Hx H' hi ⟨ts, y3, y4, rfl, kp, hd, hR, hlen, hts⟩ ⟨rfl, key, v, ek, rfl⟩
      have hiL : i < L.length := by
        rw [← S.len]
        exact hi
      obtain ⟨k, q, eL⟩ : ∃ k q, L[i]? = some (k, q) := ⟨L[i].1, L[i].2, List.getElem?_eq_getElem hiL⟩
      obtain ⟨t, et, ev, ht⟩ := S.at eL
      rw [et] at ek
      obtain ⟨rfl, rfl⟩ : Sum.inr k = key ∧ V.ref t = v := by
        have z := Option.some.inj ek
        exact ⟨congrArg Prod.fst z, congrArg Prod.snd z⟩
      have hqm : q ∈ L.map (·.2) := List.mem_map.mpr ⟨(k, q), List.mem_of_getElem? eL, rfl⟩
      obtain ⟨hden, hsz⟩ := hq q hqm
      have ht1 : SqT K H1 t (fv q) := sameT sm1 ht
      have htx : SqT K H' t (fv q) := by
        rcases ht1 with (z | ⟨o, z⟩) | z
        · exact .inl (.inl (kp _ _ z (ne_of z d1 (by intro e; cases e))))
        · exact .inl (.inr ⟨o, kp _ _ z (ne_of z d1 (by intro e; cases e))⟩)
        · exact .inr z
      have G : DGet H' d (.str k) (some (.ref t)) := .inl ⟨kvs, Sum.inr k, .inr ⟨od, hd⟩, rfl, ev.symm⟩
      have hdv : CDivW (M : Int) (q.den : Int) := wide_div (b := 64) (den_pos q) (by rw [Int.natAbs_natCast]; exact hden) (by decide) (by decide)
      have hmk : IntMulOk q.num ((M : Int) / (q.den : Int)) := by
        obtain ⟨z, z0, z1, bz⟩ := hsz.n
        have b2 : Bt 64 ((M : Int) / (q.den : Int)) := ⟨by
          rw [← Int.natCast_ediv, Int.natAbs_natCast]
          exact Nat.lt_of_le_of_lt (Nat.div_le_self _ _) hMM⟩
        exact bz.ok b2 z0 (by decide) (by omega)
      refine ⟨_, rfl, _, rfl, d, .ref t, rfl, G, t, _, 0, _, rfl, rfl, htx, atI_nat (j := 0) rfl, _, rfl, _, rfl, _, rfl, d, .ref t, rfl, G, t, _, 1, _, rfl, rfl, htx, atI_nat (j := 1) rfl, _, _, rfl, rfl, hdv, _, _, rfl, rfl, hmk, ?_⟩
      refine ⟨.ref r, rfl, .inl ⟨rfl, _, SqL.of hR⟩, _, rfl, _, rfl, _, _, rfl, rfl, M0, _, rfl, _, rfl, (by show 2 ≤ sizeLine; decide), fun T nT => ?_⟩
      have rT : r ≠ T := ne_of_none hR nT
      have hR2 : upd H' T (.tup [.int (rk M q), .str k]) r = some (.lst (ts.map V.ref)) := by
        rw [upd_ne rT]
        exact hR
      refine ⟨r, ts.map V.ref, .ref T, rfl, rfl, hR2, ?_, ?_⟩
      · rw [List.length_map, hlen]
        exact small1000 (by omega)
      · refine ⟨ts ++ [T], some (.str k), some (.int (q.num * ((M : Int) / (q.den : Int)))), rfl, fun b o hb hbd => ?_, ?_, ?_, by rw [List.length_append, hlen]; rfl, fun j t2 h2 => ?_⟩
        · have hx := kp b o hb hbd
          have br : b ≠ r := ne_of_none hb hr2
          rw [upd_ne br, upd_ne (ne_of_none hx nT)]
          exact hx
        · rw [upd_ne rd.symm, upd_ne (ne_of_none hd nT)]
          exact hd
        · rw [upd_same, List.map_append]
          rfl
        · by_cases hj : j < ts.length
          · rw [List.getElem?_append_left hj] at h2
            obtain ⟨k2, q2, e2, z2⟩ := hts j t2 h2
            refine ⟨k2, q2, e2, ?_⟩
            rw [upd_ne (ne_of z2 hR (by intro e; cases e)), upd_ne (ne_of_none z2 nT)]
            exact z2
          · rw [List.getElem?_append_right (by omega)] at h2
            have hj2 : j = i := by
              have := (List.getElem?_eq_some_iff.mp h2).1
              rw [List.length_singleton] at this
              omega
            subst hj2
            have e3 : T = t2 := by
              rw [hlen, Nat.sub_self] at h2
              exact Option.some.inj h2
            subst e3
            refine ⟨k, q, eL, ?_⟩
            rw [upd_ne rT.symm, upd_same]
            rfl
    · rintro σ Hx ⟨ts, y3, y4, rfl, kp, hd, hR, hlen, hts⟩
      refine ⟨hd, ?_⟩
      generalize e4 : upd Hx d (.dK kvs) = H4
      have r4 : H4 r = some (.lst (ts.map V.ref)) := by
        rw [← e4, upd_ne rd]
        exact hR
      have t4 : ∀ (j : Nat) t, ts[j]? = some t → ∃ k q, L[j]? = some (k, q) ∧ H4 t = some (.tup [.int (rk M q), .str k]) := fun j t h => by
        obtain ⟨k, q, g1, g2⟩ := hts j t h
        refine ⟨k, q, g1, ?_⟩
        rw [← e4, upd_ne (ne_of g2 hd (by intro e; cases e))]
        exact g2
      have sm4 : Same H H4 := fun b o hb => by
        rw [← e4]
        by_cases hbd : b = d
        · rw [hbd] at hb ⊢
          rw [S.dk] at hb
          rw [upd_same]
          exact hb
        · rw [upd_ne hbd]
          exact kp b o (sm1 b o hb) hbd
      have mem4 : ∀ x ∈ ts.map V.ref, ∃ t, x = V.ref t ∧ H4 t = some (.tup [.int (kOf H4 x).1, .str (kOf H4 x).2]) := fun x hx => by
        obtain ⟨t, ht, rfl⟩ := List.mem_map.mp hx
        obtain ⟨j, hj⟩ := List.mem_iff_getElem?.mp ht
        obtain ⟨k, q, g1, g2⟩ := t4 j t hj
        refine ⟨t, rfl, ?_⟩
        rw [kOf_at g2]
        exact g2
      have eY : (ts.map V.ref).map (kOf H4) = rkL L := by
        refine List.ext_getElem? fun j => ?_
        unfold rkL
        rw [List.getElem?_map, List.getElem?_map, List.getElem?_map, eM]
        cases ej : ts[j]? with
        | none =>
          have : L[j]? = none := List.getElem?_eq_none_iff.mpr (by
            have := List.getElem?_eq_none_iff.mp ej
            have := S.len
            omega)
          rw [this]
          rfl
        | some t =>
          obtain ⟨k, q, g1, g2⟩ := t4 j t ej
          rw [g1]
          show some (kOf H4 (V.ref t)) = some (rk M q, k)
          rw [kOf_at g2]
      refine ⟨_, rfl, r, ts.map V.ref, kOf H4, rfl, SqL.of r4, mem4, fun ys p so pe np => ⟨p, rfl, ⟨_, SqL.of upd_same⟩, fun D hD => ?_⟩⟩
      have npD : p ≠ D := ne_of_none upd_same hD
      have hys : ys.length = L.length := by
        rw [pe.length_eq, List.length_map, hlen, S.len]
      refine lc_it walk_list (fun i Hy => (∀ b o, upd H4 p (.lst ys) b = some o → Hy b = some o) ∧ Hy D = some (.lst (((ys.map (kOf H4)).take i).map fun y => V.str y.2))) ⟨fun b o hb => ?_, upd_same⟩ (fun i Hy _ h => SqL.of (h.1 p _ upd_same)) ?_ ?_
      · rw [upd_ne (ne_of_none hb hD)]
        exact hb
      · rintro i x Hy H' hi ⟨k1, k2⟩ ⟨rfl, ex⟩
        have hx : x ∈ ts.map V.ref := pe.mem_iff.mp (List.mem_of_getElem? ex)
        obtain ⟨t, rfl, ht⟩ := mem4 x hx
        have ht2 : H' t = some (.tup [.int (kOf H4 (.ref t)).1, .str (kOf H4 (.ref t)).2]) := k1 t _ (by rw [upd_ne (ne_of_none ht np)]; exact ht)
        refine ⟨t, _, rfl, SqT.of ht2, rfl, _, _, rfl, _, _, rfl, rfl, rfl, ?_⟩
        refine ⟨_, rfl, _, k2, ?_, ?_, ?_⟩
        · rw [List.length_map, List.length_take]
          exact Nat.lt_of_le_of_lt (Nat.min_le_left _ _) (small1000 (by omega))
        · intro b o hb
          rw [upd_ne (ne_of_none hb hD)]
          exact k1 b o hb
        · rw [upd_same, List.take_add_one, List.getElem?_map, ex, List.map_append]
          rfl
      · rintro Hy ⟨k1, k2⟩
        have np0 : H D = none := (sm4.trans (same_upd np)).free hD
        refine go D Hy (ys.map (kOf H4)) (fun b o hb => k1 b o (by rw [upd_ne (ne_of_none (sm4 b o hb) np)]; exact sm4 b o hb)) np0 ?_ ?_ (List.pairwise_map.mpr so)
        · rw [List.take_of_length_le (by rw [List.length_map]; exact Nat.le_refl _)] at k2
          exact k2
        · rw [← eY]
          exact pe.map _
end
end K0
namespace K0
open PySem L2 PyProof.Rows PySem.Spec
section
variable {X : Cx}
/-- in each block of the comprehension -/
abbrev InBlk (X : Cx) (sc : Scope) (G : Cx → Prop) : Prop := ∀ (s : Shared) (H : Hp) (C : Addr) (cl : List (Str × Addr)) (fp : List Addr), G (X.blk s H sc (compEnvC sc cl C X.env) fp)
/-- name = {k: v for ..} on one line, the name a local -/
theorem ps_setDc {i : Nat} {y : Str} {py pos spos : Pos} {ek ev tg src : Expr} {ifs : List Expr} {sc : Scope} {own : List (Str × Nat)} {wi : TI} {g : TG} {tt : TT} {tk tv : TE} (calm : X.calm = true) (hN : X.N.Nodup) (hy : X.N[i]? = some y)
    (loc : X.env.scope.names.lookup y = some .local) (sw : swapsWith (.DictComp ek ev [⟨tg, src, ifs, 0⟩] sc pos) (some (.Name y py)) spos.line X.env = pure true) (hi : PI X tg src wi) (ok : BlkOk X.N X.env.scope sc own)
    (hg : InBlk X sc fun B => PG B tg g) (ht : InBlk X sc fun B => PTs B ifs tt) (hk : InBlk X sc fun B => PE B ek tk) (hv : InBlk X sc fun B => PE B ev tv) (hs : ∀ x, foldedSetIterable src X.env x = pure x := by intro _; rfl) :
    PS X (.Assign [.Name y py] (.DictComp ek ev [⟨tg, src, ifs, 0⟩] sc pos) spos) (tAsg (tDc wi g tt tk tv (own.map (·.2))) (gName i)) := by
  refine ⟨fun pins s σ H D I h => ?_⟩
  rw [exec_Assign_Name_used _ _ _ _ sw]
  refine wpAny_bind (wpAny_standAt (wpAny_bind ?_))
  show wpAny _ X.A (do let _ ← comprehension (.DictComp ek ev [⟨tg, src, ifs, 0⟩] sc pos) sc X.env (firstIterPos [⟨tg, src, ifs, 0⟩] pos) newDict false (eval src X.env) (some (assign (.Name y py) X.env))) _ _ s
  have h' : tDc wi g tt tk tv (own.map (·.2)) σ H (fun x H1 => gName i x σ H1 D.nx) := h
  refine wpAny_bind (thn (dc_core (Qf := fun _ s2 => SP X pins D .next s2) calm hN I hi ok hg ht hk hv hs h' fun L C s2 m H2 I2 q2 ns2 fp2 => ?_) fun _ s2 q2 => wpAny_pure (wpAny_pure q2))
  show wpAny _ _ (assign (.Name y py) X.env (.ref L)) _ _ _
  refine wpAny_assign_Name (store_ok2 (v := V.ref L) I2 hN hy (.inl loc) rfl (fun s3 I3 ⟨a, sb, ha⟩ => ?_) (.inr loc))
  obtain ⟨f0, f1, f2, f3, f4, f5⟩ := fp2
  have apart : C ≠ a := ha.elim (fun z => by rw [z]; exact f1) fun z e => f4 y a z e.symm
  exact ⟨m, ns2.sameBut sb apart, fun h4 sb4 => ⟨_, H2, I3.turned (t' := s3.toks) (fun b o hb e => (sb4.2 b hb).trans e) f0 f1 f3 f4 f5, q2⟩⟩
theorem sw_dc {ek ev : Expr} {gs : List Comprehension} {sc : Scope} {pos py : Pos} {y : Str} {l : Nat} {env : Env} (fn : env.scope.kind = .function) (loc : env.scope.names.lookup y = some .local) (line : (py.line == pos.line) = true)
    (away : (sc.names.any fun (n, k) => n == y && (k == .local || k == .cell)) = false) : swapsWith (.DictComp ek ev gs sc pos) (some (.Name y py)) l env = pure true := by
  have e1 : env.kindOf y = some .local := loc
  have e2 : env.blockKind = .function := by
    unfold Env.blockKind
    rw [fn]
    rfl
  unfold swapsWith
  simp only [e2, e1, away, Expr.pos, line]
  rfl
end
/-- a dict comprehension's reading by a walk -/
theorem dc_it {J : It} {n : Nat} {G : Hp → Prop} {Y : Nat → Hp → V → Hp → Prop} (w : Walk J n G Y) {g : TG} {tt : TT} {tk tv : TE} {vs : List Nat} {σ : L2.St} {H1 : Hp} {D : Addr} {Qd : Hp → Prop} (Pv : Nat → Hp → Prop)
    (h0 : Pv 0 (upd H1 D (.dK []))) (hG : ∀ i H, i ≤ n → Pv i H → G H)
    (hs : ∀ i x H H', i < n → Pv i H → Y i H x H' → g x (wipe σ vs) H' fun σ2 H2 => wipe σ2 vs = wipe σ vs ∧ tt σ2 H2 fun b H3 =>
      if b = true then tk σ2 H3 fun y H4 => tv σ2 H4 fun z H5 => ∃ kvs k, y = kV k ∧ H5 D = some (.dK kvs) ∧ kvs.length < sizeLine ∧ Pv (i + 1) (upd H5 D (.dK (putK kvs k z))) else Pv (i + 1) H3)
    (hd : ∀ H, Pv n H → Qd H) :
    ∃ W : Nat → Nat → Hp → Prop, (∃ m, W 0 m (upd H1 D (.dK []))) ∧ ∀ i m H, W i m H →
      (J.stop i H ∧ Qd H) ∨ (J.go i H ∧ ∃ Nx : Hp → Prop, (∀ H', Nx H' → ∃ m', m' < m ∧ W (i + 1) m' H') ∧ ∀ x H', J.yld i H x H' → g x (wipe σ vs) H' fun σ2 H2 => wipe σ2 vs = wipe σ vs ∧ tt σ2 H2 fun b H3 =>
        if b = true then tk σ2 H3 fun y H4 => tv σ2 H4 fun z H5 => ∃ kvs k, y = kV k ∧ H5 D = some (.dK kvs) ∧ kvs.length < sizeLine ∧ Nx (upd H5 D (.dK (putK kvs k z))) else Nx H3) := by
  refine ⟨fun i m H => m = n - i ∧ i ≤ n ∧ Pv i H, ⟨n, by simp, Nat.zero_le _, h0⟩, ?_⟩
  rintro i m H ⟨rfl, hi, pv'⟩
  have gg := hG i H hi pv'
  rcases Nat.lt_or_ge i n with hlt | hge
  · exact .inr ⟨w.goes i H hlt gg, Pv (i + 1), fun H' p' => ⟨n - (i + 1), by omega, rfl, hlt, p'⟩, fun x H' y => hs i x H H' hlt pv' (w.yields i H x H' hlt gg y)⟩
  · obtain rfl : i = n := by omega
    exact .inl ⟨w.stops H gg, hd H pv'⟩
end K0
namespace K0
open PySem L2 PyProof.Rows PySem.Spec SrtO
/-! in_coins: the mathematics -/
/-- the share of a key -/
def vq (L : List (Str × Rat)) (k : Str) : Rat := ((L.find? fun p => decide (p.1 = k)).map (·.2)).getD 0
theorem vq_at {L : List (Str × Rat)} (nd : (L.map (·.1)).Nodup) {i : Nat} {k : Str} {q : Rat} (h : L[i]? = some (k, q)) : vq L k = q := by
  unfold vq
  induction L generalizing i with
  | nil => cases h
  | cons p r ih =>
    rw [List.map_cons, List.nodup_cons] at nd
    cases i with
    | zero =>
      have e : p = (k, q) := Option.some.inj h
      rw [e, List.find?_cons_of_pos (by simp)]
      rfl
    | succ i =>
      have h' : r[i]? = some (k, q) := h
      have ne : ¬ p.1 = k := fun e => nd.1 (by
        rw [e]
        exact List.mem_map.mpr ⟨(k, q), List.mem_of_getElem? h', rfl⟩)
      rw [List.find?_cons_of_neg (by simpa using ne)]
      exact ih nd.2 h'
theorem key_at {L : List (Str × Rat)} {k : Str} (h : k ∈ L.map (·.1)) : ∃ (i : Nat) (q : Rat), L[i]? = some (k, q) := by
  obtain ⟨p, hp, rfl⟩ := List.mem_map.mp h
  obtain ⟨i, hi⟩ := List.mem_iff_getElem?.mp hp
  exact ⟨i, p.2, hi⟩
/-- the whole parts' sum -/
def flo (L : List (Str × Rat)) : Int := (L.map fun p => p.2.floor).sum
theorem flo_le : ∀ (l : List Rat) (z : Rat), ((l.map Rat.floor).sum : Rat) + z ≤ l.foldl (· + ·) z
  | [], z => by
    show (((([] : List Rat).map Rat.floor).sum : Int) : Rat) + z ≤ z
    rw [List.map_nil, List.sum_nil, Rat.intCast_zero, Rat.zero_add]
    exact Rat.le_refl
  | q :: l, z => by
    have ih := flo_le l (z + q)
    refine Rat.le_trans ?_ ih
    rw [List.map_cons, List.sum_cons, Rat.intCast_add, Rat.add_comm (q.floor : Rat), Rat.add_assoc, Rat.add_comm (q.floor : Rat)]
    exact Rat.add_le_add_left.mpr (Rat.add_le_add_left.mpr (Rat.floor_le q))
/-- what a key gets -/
def coin (L : List (Str × Rat)) (zs : List Str) (k : Str) : Int := (vq L k).floor + if k ∈ zs then 1 else 0
def coinsK (L : List (Str × Rat)) (zs ys : List Str) : List (Key × V) := ys.map fun k => (Sum.inr k, V.int (coin L zs k))
theorem valV_map {f : Str → V} {k : Str} : ∀ {ys : List Str}, k ∈ ys → valV (ys.map fun y => ((Sum.inr y : Key), f y)) (Sum.inr k : Key) = some (f k)
  | [], h => by cases h
  | y :: r, h => by
    by_cases e : y = k
    · subst e
      exact valV_pos rfl
    · have h2 : k ∈ r := (List.mem_cons.mp h).elim (fun z => absurd z.symm e) id
      rw [List.map_cons, valV_neg (fun z => e (Sum.inr.inj z))]
      exact valV_map h2
theorem putK_map {f : Str → V} {k : Str} {v : V} {ys : List Str} (h : k ∈ ys) : putK (ys.map fun y => ((Sum.inr y : Key), f y)) (Sum.inr k : Key) v = ys.map fun y => ((Sum.inr y : Key), if y = k then v else f y) := by
  unfold putK
  rw [valV_any, valV_map h]
  show (if true = true then _ else _) = _
  rw [if_pos rfl, List.map_map]
  refine List.map_congr_left fun y _ => ?_
  show (if (Sum.inr y : Key) = Sum.inr k then ((Sum.inr y : Key), v) else ((Sum.inr y : Key), f y)) = _
  by_cases e : y = k
  · rw [if_pos (congrArg Sum.inr e), if_pos e]
  · rw [if_neg (fun z => e (Sum.inr.inj z)), if_neg e]
theorem coins_step {L : List (Str × Rat)} {zs ys : List Str} {i : Nat} {k : Str} (nd : zs.Nodup) (hz : zs[i]? = some k) (hk : k ∈ ys) :
    putK (coinsK L (zs.take i) ys) (Sum.inr k) (.int (coin L (zs.take i) k + 1)) = coinsK L (zs.take (i + 1)) ys := by
  unfold coinsK
  rw [putK_map (f := fun k => V.int (coin L (zs.take i) k)) hk]
  refine List.map_congr_left fun y _ => ?_
  have et : zs.take (i + 1) = zs.take i ++ [k] := by
    rw [List.take_add_one, hz]
    rfl
  have no : k ∉ zs.take i := fun m => by
    obtain ⟨j, hj⟩ := List.mem_iff_getElem?.mp m
    have h1 : j < i := by
      have := (List.getElem?_eq_some_iff.mp hj).1
      rw [List.length_take] at this
      omega
    rw [List.getElem?_take_of_lt h1] at hj
    have := (List.getElem?_inj (by exact (List.getElem?_eq_some_iff.mp hj).1) nd).mp (hj.trans hz.symm)
    omega
  refine Prod.ext rfl ?_
  show (if y = k then V.int (coin L (zs.take i) k + 1) else V.int (coin L (zs.take i) y)) = V.int (coin L (zs.take (i + 1)) y)
  unfold coin
  rw [et]
  by_cases e : y = k
  · subst e
    rw [if_pos rfl, if_neg no, if_pos (List.mem_append_right _ (List.mem_singleton.mpr rfl))]
    rw [Int.add_zero]
  · rw [if_neg e]
    by_cases m : y ∈ zs.take i
    · rw [if_pos m, if_pos (List.mem_append_left _ m)]
    · rw [if_neg m, if_neg fun z => (List.mem_append.mp z).elim m fun z2 => e (List.mem_singleton.mp z2)]
end K0
namespace K0
open PySem L2 PyProof.Rows PySem.Spec SrtO
theorem ShAt.same {K : PySem.W.Frag} {H H' : Hp} {d : Addr} {kvs : List (Key × V)} {L : List (Str × Rat)} (S : ShAt K H d kvs L) (s : Same H H') : ShAt K H' d kvs L :=
  ⟨s _ _ S.dk, S.ks, ⟨S.vs.1, fun i v q h1 h2 => (S.vs.2 i v q h1 h2).same s⟩, S.nd⟩
/-- sizes of shares, as the program wants them -/
structure ShSz (L : List (Str × Rat)) : Prop where
  len : L.length < 64
  lcm : ∀ i, qlcm ((L.map (·.2)).take i) < 2 ^ 64
  each : ∀ q ∈ L.map (·.2), q.den < 2 ^ 64 ∧ FSz q
  sums : ∀ i, FSz (qsum ((L.map (·.2)).take i))
theorem FSz.d9 {q : Rat} (h : FSz q) : Bt 8999 (q.den : Int) := h.d.mono (by decide)
section
variable {P : Program} {w : World} {K : PySem.W.Frag} {mg : Str → Option Value} {base : Heap}
/-- a def of the top that stands: its promise kept at a level -/
structure Has (P : Program) (w : World) (K : PySem.W.Frag) (mg : Str → Option Value) (base : Heap) (x : Str) (ps : List Str) (k : Nat) (sp : Sp) : Prop where
  ok : ∃ (f : Addr) (fd : FuncData), mg x = some (.ref f) ∧ PySem.W.keepIn K (.ref f) = true ∧ Binds K fd ps [] ∧ FnOk P w K mg base CX0 k f fd ps sp
abbrev nInc : List Str := ["shares", "coins", "left", "key"]
theorem scInc : FnScope nInc ["shares"] (defScope sInc) := ⟨rfl, rfl, rfl, by decide +kernel, rfl, by decide +kernel, by decide +kernel⟩
def spInc (K : PySem.W.Frag) : Sp := fun vs H Q _ => ∃ (d : Addr) (kvs : List (Key × V)) (L : List (Str × Rat)) (n : Int), vs = [.ref d] ∧ ShAt K H d kvs L ∧ ShSz L ∧ qsum (L.map (·.2)) = (n : Rat) ∧
  ∀ p H' (ys : List Str) (Y : List (Int × Str)) (lf : Nat), Same H H' → H p = none → (lf : Int) = n - flo L → ys.Perm (L.map (·.1)) → sortedS ys = true → Y.Perm (rkL L) → Srtd (fun x y => ltIS x y) Y →
    H' p = some (.dK (coinsK L ((Y.map (·.2)).take lf) ys)) → Q (.ref p) H'
theorem flo_ge {L : List (Str × Rat)} {n : Int} (h : qsum (L.map (·.2)) = (n : Rat)) : 0 ≤ n - flo L := by
  have a := flo_le (L.map (·.2)) 0
  have e : (L.map (·.2)).foldl (· + ·) 0 = (n : Rat) := h
  rw [e, Rat.add_zero, List.map_map] at a
  have b := Rat.intCast_le_intCast.mp a
  have c : flo L = (L.map (Rat.floor ∘ fun x => x.2)).sum := rfl
  omega
theorem perm_sum {a b : List Int} (h : a.Perm b) : a.sum = b.sum := by
  induction h with
  | nil => rfl
  | cons x _ ih => rw [List.sum_cons, List.sum_cons, ih]
  | swap x y l => rw [List.sum_cons, List.sum_cons, List.sum_cons, List.sum_cons]; omega
  | trans _ _ h1 h2 => exact h1.trans h2
theorem rkL_keys (L : List (Str × Rat)) : (rkL L).map (·.2) = L.map (·.1) := by
  unfold rkL
  rw [List.map_map]
  rfl
theorem ok_inc {f : Addr} {fd : FuncData} (F : Fun K "in_coins" "in_coins" sInc f fd) (TW : Has P w K mg base "whole_part" ["value"] 1 (spWho K)) (TT : Has P w K mg base "total" ["values"] 3 (spTot K)) (TB : Has P w K mg base "_by_remainder" ["shares"] 2 (spByr K))
    (mgList : mg "list" = none) (mgSorted : mg "sorted" = none) (mgSum : mg "sum" = none) : FnOk P w K mg base CX0 4 f fd ["shares"] (spInc K) := by
  obtain ⟨fW, fdW, mW, kW, bW, GW⟩ := TW.ok
  obtain ⟨fT, fdT, mT, kT, bT, GT⟩ := TT.ok
  obtain ⟨fB, fdB, mB, kB, bB, GB⟩ := TB.ok
  refine F.ok scInc (fun vs H Q E h => ?_) (fun cdv A outer s H vs Q E hr h => ?_)
  · obtain ⟨d, kvs, L, n, rfl, _⟩ := h
    rfl
  · obtain ⟨d, kvs, L, n, rfl, S, Z, hn, go⟩ := h
    have hu := hu_of hr
    refine ⟨_, pss_cons (ps_setDc (i := 1) (own := [("key", 3)]) (g := gName 3) (tt := tYes) rfl scInc.nd rfl rfl (sw_dc rfl rfl rfl (by decide +kernel)) (pi_list (pe_callB (call_sortedD rfl) (by rfl) mgSorted (by decide +kernel) (pa_cons (pv 0) pa_nil)))
        (blkOk_by (N := nInc) (sc := defScope sInc) (by decide +kernel)) (fun _ _ _ _ _ => pg_name (i := 3) scInc.nd rfl (.inl rfl) (.inr rfl)) (fun _ _ _ _ _ => pts_nil) (fun _ _ _ _ _ => pv 3)
        (fun _ _ _ _ _ => pe_call GW (hr.mono (by decide)) (by rfl) mW kW bW .nil pass0 (pa_cons (pe_dget hu (pv 0) (pv 3) (fun _ _ => rfl)) pa_nil)))
      (pss_cons (ps_set (i := 2) scInc.nd rfl (.inl rfl) (pe_op op_sub (pe_call GW (hr.mono (by decide)) (by rfl) mW kW bW .nil pass0 (pa_cons (pe_call GT hr (by rfl) mT kT bT .nil pass0 (pa_cons (pe_listVals rfl (by rfl) mgList (pv 0)) pa_nil)) pa_nil)) (pe_sumVals rfl (by rfl) mgSum (pv 1))))
      (pss_cons (ps_for PassesOwn.never rfl (pi_list (pe_slice sl_list (pe_call GB (hr.mono (by decide)) (by rfl) mB kB bB .nil pass0 (pa_cons (pv 0) pa_nil)) po_none (po_some (pv 2)))) (pg_name (i := 3) scInc.nd rfl (.inl rfl))
        (pss_one (ps_dput hu (pv 1) (pv 3) (pe_op op_add (pe_dget hu (pv 1) (pv 3) (fun _ _ => rfl)) pe_int) rfl)))
      (pss_one (ps_ret (pv 1))))), ?_⟩
    have ks2 : kvs.map (·.1) = (L.map (·.1)).map Sum.inr := by
      rw [S.ks, List.map_map]
      rfl
    refine ⟨_, rfl, d, kvs, L.map (·.1), rfl, .inl S.dk, ks2, by rw [List.length_map]; exact Z.len, fun ys p pe so np => ⟨p, rfl, ⟨_, SqL.of upd_same⟩, fun D hD => ?_⟩⟩
    have ndy : ys.Nodup := pe.nodup_iff.mpr S.nd
    have ylen : ys.length = L.length := by rw [pe.length_eq, List.length_map]
    have smp : Same H (upd H p (.lst (ys.map V.str))) := same_upd np
    have tk (k : Str) (hk : k ∈ ys) : ∃ t q, valV kvs (Sum.inr k : Key) = some (.ref t) ∧ SqT K H t (fv q) ∧ q = vq L k ∧ q ∈ L.map (·.2) := by
      obtain ⟨i, q, hi⟩ := key_at (pe.mem_iff.mp hk)
      obtain ⟨t, _, ev, ht⟩ := S.at hi
      exact ⟨t, q, ev, ht, (vq_at S.nd hi).symm, List.mem_map.mpr ⟨(k, q), List.mem_of_getElem? hi, rfl⟩⟩
    refine dc_it walk_list (fun i Hy => (∀ b o, upd H p (.lst (ys.map V.str)) b = some o → Hy b = some o) ∧ Hy D = some (.dK (coinsK L [] (ys.take i)))) ⟨fun b o hb => ?_, upd_same⟩ (fun i Hy _ h => SqL.of (h.1 p _ upd_same)) ?_ ?_
    · rw [upd_ne (ne_of_none hb hD)]
      exact hb
    · rintro i x Hy H' hi ⟨k1, k2⟩ ⟨rfl, ex⟩
      rw [List.length_map] at hi
      obtain ⟨k, ek, rfl⟩ : ∃ k, ys[i]? = some k ∧ x = .str k := by
        rw [List.getElem?_map, List.getElem?_eq_getElem hi] at ex
        exact ⟨ys[i], List.getElem?_eq_getElem hi, (Option.some.inj ex).symm⟩
      have sm : Same H H' := fun b o hb => k1 b o (smp b o hb)
      obtain ⟨t, q, ev, ht, eq, hq⟩ := tk k (List.mem_of_getElem? ek)
      have G : DGet H' d (.str k) (some (.ref t)) := .inl ⟨kvs, Sum.inr k, .inl (sm _ _ S.dk), rfl, ev.symm⟩
      refine ⟨rfl, _, rfl, _, rfl, _, rfl, d, .ref t, rfl, G, t, q, rfl, sameT sm ht, (Z.each q hq).2.d9, _, Sum.inr k, rfl, k2, ?_, ?_, ?_⟩
      · unfold coinsK
        rw [List.length_map, List.length_take]
        have := Z.len
        exact Nat.lt_of_le_of_lt (Nat.min_le_left _ _) (small1000 (by omega))
      · intro b o hb
        rw [upd_ne (ne_of_none hb hD)]
        exact k1 b o hb
      · have et : ys.take (i + 1) = ys.take i ++ [k] := by
          rw [List.take_add_one, ek]
          rfl
        have no : k ∉ ys.take i := fun m => by
          obtain ⟨j, hj⟩ := List.mem_iff_getElem?.mp m
          have h1 : j < i := by
            have := (List.getElem?_eq_some_iff.mp hj).1
            rw [List.length_take] at this
            omega
          rw [List.getElem?_take_of_lt h1] at hj
          have := (List.getElem?_inj (by exact (List.getElem?_eq_some_iff.mp hj).1) ndy).mp (hj.trans ek.symm)
          omega
        have nov : valV (coinsK L [] (ys.take i)) (Sum.inr k : Key) = none := by
          cases e : valV (coinsK L [] (ys.take i)) (Sum.inr k : Key) with
          | none => rfl
          | some v =>
            have m := valV_in e
            unfold coinsK at m
            rw [List.map_map] at m
            obtain ⟨y, hy, e2⟩ := List.mem_map.mp m
            exact absurd (by rw [← Sum.inr.inj e2]; exact hy) no
        rw [upd_same, putK_new _ nov, et, eq]
        unfold coinsK coin
        rw [List.map_append]
        simp
    · rintro Hy ⟨k1, k2⟩
      rw [List.length_map, List.take_length] at k2
      have sm : Same H Hy := fun b o hb => k1 b o (smp b o hb)
      have Sy := S.same sm
      have eis : (coinsK L [] ys).map (·.2) = (ys.map (coin L [])).map V.int := by
        unfold coinsK
        rw [List.map_map, List.map_map]
        rfl
      have esum : (ys.map (coin L [])).sum = flo L := by
        rw [perm_sum (pe.map (coin L [])), List.map_map]
        unfold flo
        refine congrArg List.sum (List.map_congr_left fun x hx => ?_)
        obtain ⟨i, hi⟩ := List.mem_iff_getElem?.mp hx
        show coin L [] x.1 = x.2.floor
        unfold coin
        rw [vq_at S.nd hi]
        simp
      have eflr : (qsum (L.map (·.2))).floor = n := by rw [hn, Rat.floor_intCast]
      have lf0 := flo_ge hn
      refine ⟨_, rfl, d, kvs, rfl, Sy.dk, fun l hl => ⟨l, _, L.map (·.2), rfl, SqL.of upd_same, (Sy.same (same_upd hl)).vs, Z.sums, fun q hq => (Z.each q hq).2, fun x H2 sm2 hx => ?_⟩⟩
      have sm3 : Same Hy H2 := (same_upd hl).trans sm2
      have fsz : FSz (qsum (L.map (·.2))) := by
        have := Z.sums (L.map (·.2)).length
        rwa [List.take_length] at this
      have D2 : H2 D = some (.dK (coinsK L [] ys)) := sm3 _ _ k2
      refine ⟨x, _, rfl, hx, fsz.d9, _, rfl, D, _, _, rfl, D2, eis, _, _, rfl, rfl, ?_⟩
      have S2 := Sy.same sm3
      refine ⟨_, rfl, d, kvs, L, rfl, S2, by have := Z.len; omega, Z.lcm, Z.each, fun p2 H3 Y sm4 np2 eY pY sY => ?_⟩
      have el : (qsum (L.map (·.2))).floor - (ys.map (coin L [])).sum = (((n - flo L).toNat : Nat) : Int) := by
        rw [eflr, esum]
        omega
      generalize ef : (n - flo L).toNat = lf at *
      have elf : (lf : Int) = n - flo L := by omega
      have ecut : cutV (Y.map fun y => V.str y.2) none (some ((qsum (L.map (·.2))).floor - (ys.map (coin L [])).sum)) = ((Y.map (·.2)).take lf).map V.str := by
        unfold cutV
        rw [el, HT.sIx_none, HT.sIx_nat, List.drop_zero, Nat.sub_zero, ← List.take_eq_take_min, List.map_take, List.map_map]
        rfl
      refine ⟨_, rfl, _, rfl, p2, _, rfl, SqL.of eY, fun p3 np3 => ?_⟩
      rw [ecut]
      generalize ez : (Y.map (·.2)).take lf = zs
      have zy : (Y.map (·.2)).Perm (L.map (·.1)) := by
        rw [← rkL_keys]
        exact pY.map _
      have ndz : zs.Nodup := by
        rw [← ez]
        exact List.Sublist.nodup (List.take_sublist _ _) (zy.nodup_iff.mpr S.nd)
      have memz : ∀ k ∈ zs, k ∈ ys := fun k hk => by
        rw [← ez] at hk
        exact pe.mem_iff.mpr (zy.mem_iff.mp ((List.take_sublist _ _).subset hk))
      have D3 : H3 D = some (.dK (coinsK L [] ys)) := sm4 _ _ D2
      have p3D : p3 ≠ D := fun e => by
        rw [e, D3] at np3
        cases np3
      refine ⟨p3, rfl, ⟨_, SqL.of upd_same⟩, for_list (K := K) (a := p3) (xs := zs.map V.str) (fun i σ Hz => ∃ y, σ = [some (.ref d), some (.ref D), some (.int ((qsum (L.map (·.2))).floor - (ys.map (coin L [])).sum)), y] ∧ (∀ b o, upd H3 p3 (.lst (zs.map V.str)) b = some o → b ≠ D → Hz b = some o) ∧ Hz D = some (.dK (coinsK L (zs.take i) ys)))
        ⟨none, rfl, fun b o hb _ => hb, by rw [upd_ne p3D.symm]; exact D3⟩ (fun i σ Hz _ ⟨_, _, z1, _⟩ => SqL.of (z1 p3 _ upd_same p3D)) ?_ ?_⟩
      · rintro i x σ Hz hi ⟨y, rfl, z1, z2⟩
        obtain ⟨k, ek, rfl⟩ : ∃ k, zs[i]? = some k ∧ x = .str k := by
          rw [List.getElem?_map] at hi
          obtain ⟨k, h1, h2⟩ := Option.map_eq_some_iff.mp hi
          exact ⟨k, h1, h2.symm⟩
        have hk := memz k (List.mem_of_getElem? ek)
        have G : DGet Hz D (.str k) (some (.int (coin L (zs.take i) k))) := .inl ⟨_, Sum.inr k, .inl z2, rfl, (valV_map (f := fun k => V.int (coin L (zs.take i) k)) hk).symm⟩
        refine ⟨_, rfl, _, rfl, D, _, rfl, G, _, _, rfl, rfl, _, rfl, _, rfl, D, _, rfl, DPut.k (k := Sum.inr k) z2 ?_, ?_⟩
        · unfold coinsK
          rw [List.length_map, ylen]
          have := Z.len
          exact small1000 (by omega)
        · refine ⟨some (.str k), rfl, fun b o hb hbD => ?_, ?_⟩
          · rw [upd_ne hbD]
            exact z1 b o hb hbD
          · rw [upd_same, coins_step ndz ek hk]
      · rintro σ Hz ⟨y, rfl, z1, z2⟩
        rw [List.length_map, List.take_length, ← ez] at z2
        have hDn : H D = none := smp.free hD
        refine ⟨_, rfl, go D Hz ys Y lf (fun b o hb => ?_) hDn elf pe so pY sY z2⟩
        have h3 := sm4 b o (sm3 b o (sm b o hb))
        refine z1 b o (by rw [upd_ne (ne_of_none h3 np3)]; exact h3) (ne_of_none hb hDn)
end
end K0
namespace K0
open PySem L2 PyProof.Rows PySem.Spec
section
variable {P : Program} {w : World} {K : PySem.W.Frag} {mg : Str → Option Value} {base : Heap}
/-! _law_cell -/
def cell (ns : List Int) (k : Int) : Int := (ns[k.toNat]?).getD 0
theorem scCel : FnScope ["script", "k"] ["script", "k"] (defScope sCel) := ⟨rfl, rfl, rfl, by decide +kernel, rfl, by decide +kernel, by decide +kernel⟩
def spCel (K : PySem.W.Frag) : Sp := fun vs H Q _ => ∃ (a : Addr) (ns : List Int) (k : Int), vs = [.ref a, .int k] ∧ SqL K H a (ns.map V.int) ∧ 0 ≤ k ∧ Q (.int (cell ns k)) H
theorem ok_cell {f : Addr} {fd : FuncData} (F : Fun K "_law_cell" "_law_cell" sCel f fd) (mgLen : mg "len" = none) (mgInt : mg "int" = none) : FnOk P w K mg base CX0 1 f fd ["script", "k"] (spCel K) := by
  refine F.ok scCel (fun vs H Q E h => ?_) (fun cdv A outer s H vs Q E hr h => ?_)
  · obtain ⟨a, ns, k, rfl, _⟩ := h
    rfl
  · obtain ⟨a, ns, k, rfl, hS, hk, go⟩ := h
    refine ⟨_, pss_cons (ps_if (pt_cmpR op_lt (pv 1) (pe_callB call_len_seq (by rfl) mgLen PySem.boot_len (pa_cons (pv 0) pa_nil)) (nomark _))
      (pss_one (ps_ret (pe_callTy call_int1 (by rfl) mgInt (by decide +kernel) (pa_cons (pe_ix ix_list (pv 0) (pv 1) (fun _ _ => rfl)) pa_nil)))) pss_nil) (pss_one (ps_ret pe_int)), ?_⟩
    obtain ⟨j, rfl⟩ : ∃ j : Nat, k = (j : Int) := ⟨k.toNat, by omega⟩
    refine ⟨_, rfl, _, rfl, a, ns.map V.int, rfl, .inl hS, _, _, rfl, rfl, _, rfl, ite2 (fun e => ?_) (fun e => ?_)⟩
    · have e1 : (j : Int) < ((ns.map V.int).length : Int) := of_decide_eq_true e
      rw [List.length_map] at e1
      have hj : j < ns.length := by omega
      refine ⟨_, rfl, _, rfl, a, _, _, .int ns[j], rfl, rfl, hS, atI_nat (by rw [List.getElem?_map, List.getElem?_eq_getElem hj]; rfl), .inl ⟨_, rfl, ?_⟩⟩
      unfold cell at go
      rw [Int.toNat_natCast, List.getElem?_eq_getElem hj] at go
      exact go
    · have e1 : ¬ (j : Int) < ((ns.map V.int).length : Int) := fun z => e (decide_eq_true z)
      rw [List.length_map] at e1
      unfold cell at go
      rw [Int.toNat_natCast, List.getElem?_eq_none_iff.mpr (by omega)] at go
      exact go
/-! _law_numbers -/
theorem scNum : FnScope ["cell", "many", "found", "rest", "k"] ["cell", "many"] (defScope sNum) := ⟨rfl, rfl, rfl, by decide +kernel, rfl, by decide +kernel, by decide +kernel⟩
def Nums (xs : List Int) : Prop := ∀ x ∈ xs, 0 ≤ x ∧ x < 1048576
def spNum : Sp := fun vs H Q _ => ∃ (c : Int) (m : Nat), vs = [.int c, .int (m : Int)] ∧ m ≤ 1000 ∧ ∀ p H' (xs : List Int), Same H H' → H p = none → H' p = some (.lst (xs.map V.int)) → xs.length = m → Nums xs → Q (.ref p) H'
theorem Nums.snoc {xs : List Int} {x : Int} (h : Nums xs) (a : 0 ≤ x) (b : x < 1048576) : Nums (xs ++ [x]) := fun y hy => by
  rcases List.mem_append.mp hy with z | z
  · exact h y z
  · rw [List.mem_singleton.mp z]
    exact ⟨a, b⟩
theorem ok_numbers {f : Addr} {fd : FuncData} (F : Fun K "_law_numbers" "_law_numbers" sNum f fd) (mgAbs : mg "abs" = none) (mgInt : mg "int" = none) (mgRange : mg "range" = none) : FnOk P w K mg base CX0 1 f fd ["cell", "many"] spNum := by
  refine F.ok scNum (fun vs H Q E h => ?_) (fun cdv A outer s H vs Q E hr h => ?_)
  · obtain ⟨c, m, rfl, _⟩ := h
    rfl
  · obtain ⟨c, m, rfl, hm, go⟩ := h
    refine ⟨_, pss_cons (ps_set (i := 2) scNum.nd rfl (.inl rfl) (pe_lst pa_nil))
      (pss_cons (ps_set (i := 3) scNum.nd rfl (.inl rfl) (pe_callB call_abs (by rfl) mgAbs (by decide +kernel) (pa_cons (pv 0) pa_nil)))
      (pss_cons (ps_if (pt_cmpR op_ge (pv 3) pe_int (nomark _))
        (pss_cons (ps_for PassesOwn.never rfl (pi_range1 rfl mgRange (pa_cons (pv 1) pa_nil)) (pg_name (i := 4) scNum.nd rfl (.inl rfl))
          (pss_cons (ps_expr (pe_bm PySem.F.plainAttrs_list PySem.F.slot_list_append PySem.F.type_list_append mt_append (pv 2) (pa_cons (pe_op op_mod (pe_callTy call_int1 (by rfl) mgInt (by decide +kernel) (pa_cons (pv 3) pa_nil)) pe_int) pa_nil)))
          (pss_one (ps_set (i := 3) scNum.nd rfl (.inl rfl) (pe_op op_fdiv (pv 3) pe_int)))))
        (pss_one (ps_ret (pv 2)))) pss_nil)
      (pss_cons (ps_for PassesOwn.never rfl (pi_range1 rfl mgRange (pa_cons (pv 1) pa_nil)) (pg_name (i := 4) scNum.nd rfl (.inl rfl))
        (pss_cons (ps_set (i := 3) scNum.nd rfl (.inl rfl) (pe_op op_mod (pe_callTy call_int1 (by rfl) mgInt (by decide +kernel) (pa_cons (pe_op op_add (pe_op op_add (pe_op op_mul (pv 3) pe_int) (pe_op op_mul (pv 4) pe_int)) pe_int) pa_nil)) pe_int))
        (pss_one (ps_expr (pe_bm PySem.F.plainAttrs_list PySem.F.slot_list_append PySem.F.type_list_append mt_append (pv 2) (pa_cons (pe_op op_mod (pe_op op_mod (pe_callTy call_int1 (by rfl) mgInt (by decide +kernel) (pa_cons (pe_op op_mul (pv 3) pe_int) pa_nil)) pe_int) pe_int) pa_nil))))))
      (pss_one (ps_ret (pv 2)))))), ?_⟩
    refine ⟨Nat.zero_le _, fun p np => ⟨_, rfl, _, rfl, ?_⟩⟩
    generalize ea : (if c < 0 then -c else c) = r0
    have r00 : 0 ≤ r0 := by
      rw [← ea]
      split <;> omega
    have keep (Hx : Hp) (xs : List V) : (∀ b o, H b = some o → b ≠ p → Hx b = some o) → ∀ b o, H b = some o → b ≠ p → upd Hx p (.lst xs) b = some o := fun h b o hb hbp => by
      rw [upd_ne hbp]
      exact h b o hb hbp
    refine ⟨_, rfl, _, _, rfl, rfl, _, rfl, ite2 (fun e => ?_) (fun e => ?_)⟩
    · refine ⟨_, rfl, (m : Int), rfl, by omega, by omega, ?_⟩
      rw [Int.toNat_natCast]
      refine for_range (lo := 0) (n := m) (fun i σ Hx => ∃ (xs : List Int) (r : Int) (y : Option V), σ = [some (.int c), some (.int (m : Int)), some (.ref p), some (.int r), y] ∧ (∀ b o, H b = some o → b ≠ p → Hx b = some o) ∧ Hx p = some (.lst (xs.map V.int)) ∧ xs.length = i ∧ Nums xs)
        ⟨[], r0, none, rfl, fun b o hb hbp => by rw [upd_ne hbp]; exact hb, upd_same, rfl, fun x hx => by cases hx⟩ ?_ ?_
      · rintro i σ Hx hi ⟨xs, r, y, rfl, kp, hp, hl, hn⟩
        refine ⟨.ref p, rfl, .inl ⟨rfl, _, SqL.of hp⟩, _, rfl, .inl ⟨_, rfl, _, _, rfl, rfl, (by show (0 : Int) < 1048576; decide), p, _, _, rfl, rfl, hp, by rw [List.length_map]; exact small1000 (by omega), ?_⟩⟩
        refine ⟨_, rfl, _, _, rfl, rfl, ⟨by decide, by decide⟩, xs ++ [r % 1048576], r / 1048576, some (.int (0 + (i : Int))), rfl, keep _ _ kp, ?_, by rw [List.length_append, hl]; rfl, hn.snoc (Int.emod_nonneg _ (by decide)) (Int.emod_lt_of_pos _ (by decide))⟩
        rw [upd_same, List.map_append]
        rfl
      · rintro σ Hx ⟨xs, r, y, rfl, kp, hp, hl, hn⟩
        exact ⟨_, rfl, go p Hx xs (fun b o hb => kp b o hb (ne_of_none hb np)) np hp hl hn⟩
    · have e1 : r0 < 1000000000000000000 := Int.not_le.mp fun z => e (decide_eq_true z)
      refine ⟨_, rfl, (m : Int), rfl, by omega, by omega, ?_⟩
      rw [Int.toNat_natCast]
      refine for_range (lo := 0) (n := m) (fun i σ Hx => ∃ (xs : List Int) (r : Int) (y : Option V), σ = [some (.int c), some (.int (m : Int)), some (.ref p), some (.int r), y] ∧ (∀ b o, H b = some o → b ≠ p → Hx b = some o) ∧ Hx p = some (.lst (xs.map V.int)) ∧ xs.length = i ∧ Nums xs ∧ 0 ≤ r ∧ r < 1000000000000000000)
        ⟨[], r0, none, rfl, fun b o hb hbp => by rw [upd_ne hbp]; exact hb, upd_same, rfl, (fun x hx => by cases hx), r00, e1⟩ ?_ ?_
      · rintro i σ Hx hi ⟨xs, r, y, rfl, kp, hp, hl, hn, b0, b1⟩
        refine ⟨_, rfl, _, _, rfl, rfl, .inl ⟨by omega, by omega⟩, _, rfl, _, _, rfl, rfl, .inl ⟨by omega, by omega⟩, _, _, rfl, rfl, _, _, rfl, rfl, .inl ⟨_, rfl, _, _, rfl, rfl, (by show (0 : Int) < 2147483647; decide), ?_⟩⟩
        have c0 := Int.emod_nonneg (r * 48271 + (0 + (i : Int)) * 7919 + 11) (b := 2147483647) (by decide)
        have c1 := Int.emod_lt_of_pos (r * 48271 + (0 + (i : Int)) * 7919 + 11) (b := 2147483647) (by decide)
        refine ⟨.ref p, rfl, .inl ⟨rfl, _, SqL.of hp⟩, _, rfl, _, _, rfl, rfl, .inl ⟨Int.lt_of_lt_of_le (by decide) c0, Int.lt_trans c1 (by decide)⟩, .inl ⟨_, rfl, _, _, rfl, rfl, (by show (0 : Int) < 2147483629; decide), _, _, rfl, rfl, (by show (0 : Int) < 1048576; decide), p, _, _, rfl, rfl, hp, by rw [List.length_map]; exact small1000 (by omega), ?_⟩⟩
        refine ⟨xs ++ [(r * 48271 + (0 + (i : Int)) * 7919 + 11) % 2147483647 * 69621 % 2147483629 % 1048576], (r * 48271 + (0 + (i : Int)) * 7919 + 11) % 2147483647, some (.int (0 + (i : Int))), rfl, keep _ _ kp, ?_, by rw [List.length_append, hl]; rfl, hn.snoc (Int.emod_nonneg _ (by decide)) (Int.emod_lt_of_pos _ (by decide)), c0, by omega⟩
        rw [upd_same, List.map_append]
        rfl
      · rintro σ Hx ⟨xs, r, y, rfl, kp, hp, hl, hn, b0, b1⟩
        exact ⟨_, rfl, go p Hx xs (fun b o hb => kp b o hb (ne_of_none hb np)) np hp hl hn⟩
end
end K0
namespace K0
open PySem L2 PyProof.Rows PySem.Spec
/-! Euclid's turns -/
theorem half_mod {x y : Nat} (h : y < x) (hy : 0 < y) : y * (x % y) * 2 ≤ x * y := by
  have a : x % y + y ≤ x := by
    have e := Nat.div_add_mod x y
    have d : 1 ≤ x / y := (Nat.one_le_div_iff hy).mpr (Nat.le_of_lt h)
    have := Nat.mul_le_mul_left y d
    omega
  have b : x % y < y := Nat.mod_lt _ hy
  have c : (x % y) * 2 ≤ x := by omega
  calc y * (x % y) * 2 = y * ((x % y) * 2) := Nat.mul_assoc _ _ _
    _ ≤ y * x := Nat.mul_le_mul_left y c
    _ = x * y := Nat.mul_comm _ _
/-- what holds ahead of the i-th turn -/
structure Eu (G : Nat) (i x y : Nat) : Prop where
  g : Nat.gcd x y = G
  b : y < 2 ^ 64
  s : i = 0 ∨ (y < x ∧ x * y * 2 ^ (i - 1) < 2 ^ 128)
theorem Eu.next {G i x y : Nat} (e : Eu G i x y) (hy : 0 < y) : Eu G (i + 1) y (x % y) := by
  have m : x % y < y := Nat.mod_lt _ hy
  refine ⟨?_, Nat.lt_trans m e.b, .inr ⟨m, ?_⟩⟩
  · rw [← e.g, Nat.gcd_comm x y, Nat.gcd_rec y x, Nat.gcd_comm]
  · rw [Nat.add_sub_cancel]
    have one : y * (x % y) < 2 ^ 128 := Nat.lt_of_lt_of_eq (Nat.mul_lt_mul'' e.b (Nat.lt_trans m e.b)) (by rw [← Nat.pow_add])
    rcases e.s with rfl | ⟨lt, sz⟩
    · rw [Nat.pow_zero, Nat.mul_one]
      exact one
    · cases i with
      | zero =>
        rw [Nat.pow_zero, Nat.mul_one]
        exact one
      | succ i =>
        rw [Nat.add_sub_cancel] at sz
        refine Nat.lt_of_le_of_lt ?_ sz
        rw [Nat.pow_succ, Nat.mul_comm (2 ^ i) 2, ← Nat.mul_assoc]
        exact Nat.mul_le_mul_right _ (half_mod lt hy)
theorem Eu.last {G x y : Nat} (e : Eu G 4000 x y) : y = 0 := by
  rcases e.s with z | ⟨lt, sz⟩
  · cases z
  · rcases Nat.eq_zero_or_pos y with h | h
    · exact h
    · have p : 1 ≤ x * y := Nat.mul_pos (by omega) h
      have q : 2 ^ 128 ≤ 2 ^ (4000 - 1) := Nat.pow_le_pow_right (by decide) (by decide)
      have r := Nat.le_trans q (Nat.le_trans (Nat.le_of_eq (Nat.one_mul _).symm) (Nat.mul_le_mul_right _ p))
      exact absurd sz (Nat.not_lt.mpr r)
section
variable {P : Program} {w : World} {K : PySem.W.Frag} {mg : Str → Option Value} {base : Heap}
theorem scEuc : FnScope ["one", "two", "k"] ["one", "two"] (defScope sEuc) := ⟨rfl, rfl, rfl, by decide +kernel, rfl, by decide +kernel, by decide +kernel⟩
def spEuc : Sp := fun vs H Q _ => ∃ x y : Nat, vs = [.int (x : Int), .int (y : Int)] ∧ y < 2 ^ 64 ∧ Q (.int ((Nat.gcd x y : Nat) : Int)) H
theorem ok_euclid {f : Addr} {fd : FuncData} (F : Fun K "_law_common" "_law_common" sEuc f fd) (mgInt : mg "int" = none) (mgRange : mg "range" = none) : FnOk P w K mg base CX0 1 f fd ["one", "two"] spEuc := by
  refine F.ok scEuc (fun vs H Q E h => ?_) (fun cdv A outer s H vs Q E hr h => ?_)
  · obtain ⟨x, y, rfl, _⟩ := h
    rfl
  · obtain ⟨x0, y0, rfl, hb, go⟩ := h
    refine ⟨_, pss_cons (ps_for PassesOwn.never rfl (pi_range1 rfl mgRange (pa_cons pe_int pa_nil)) (pg_name (i := 2) scEuc.nd rfl (.inl rfl))
        (pss_cons (ps_if (pt_cmpR op_eq (pv 1) pe_int (nomark _)) (pss_one (ps_ret (pv 0))) pss_nil)
        (pss_one (ps_par (i := 0) (j := 1) (by rfl) scEuc.nd rfl rfl (by decide) rfl rfl (pa_cons (pv 1) (pa_cons (pe_op op_mod (pe_callTy call_int1 (by rfl) mgInt (by decide +kernel) (pa_cons (pv 0) pa_nil)) (pv 1)) pa_nil)) (by rfl)))))
      (pss_one (ps_ret (pv 0))), ?_⟩
    refine ⟨4000, rfl, by decide, by decide, ?_⟩
    refine for_range (lo := 0) (n := 4000) (fun i σ Hx => ∃ (x y : Nat) (z : Option V), σ = [some (.int (x : Int)), some (.int (y : Int)), z] ∧ Hx = H ∧ Eu (Nat.gcd x0 y0) i x y)
      ⟨x0, y0, none, rfl, rfl, rfl, hb, .inl rfl⟩ ?_ ?_
    · rintro i σ Hx hi ⟨x, y, z, rfl, rfl, e⟩
      refine ⟨_, rfl, rfl, _, rfl, ite2 (fun h0 => ?_) (fun h0 => ?_)⟩
      · have y0' : y = 0 := by
          have := V.int.inj (of_decide_eq_true h0)
          omega
        subst y0'
        have g := e.g
        rw [Nat.gcd_zero_right] at g
        rw [← g] at go
        exact ⟨_, rfl, go⟩
      · have yp : 0 < y := Nat.pos_of_ne_zero fun z => h0 (decide_eq_true (by rw [z]; rfl))
        refine ⟨_, rfl, _, rfl, .inl ⟨_, rfl, _, rfl, _, _, rfl, rfl, by show (0 : Int) < (y : Int); omega, _, _, rfl, y, x % y, some (.int (0 + (i : Int))), ?_, rfl, e.next yp⟩⟩
        rw [Int.natCast_emod]
        rfl
    · rintro σ Hx ⟨x, y, z, rfl, rfl, e⟩
      have y0' := e.last
      subst y0'
      have g := e.g
      rw [Nat.gcd_zero_right] at g
      rw [← g] at go
      exact ⟨_, rfl, go⟩
/-! _law_low -/
theorem scLow : FnScope ["top", "bottom", "common"] ["top", "bottom"] (defScope sLow) := ⟨rfl, rfl, rfl, by decide +kernel, rfl, by decide +kernel, by decide +kernel⟩
def spLow : Sp := fun vs H Q _ => ∃ t b : Int, vs = [.int t, .int b] ∧ b ≠ 0 ∧ b.natAbs < 2 ^ 64 ∧ ∀ p, H p = none → Q (.ref p) (upd H p (.tup (fv (Rat.divInt t b))))
theorem ok_low {f : Addr} {fd : FuncData} (F : Fun K "_law_low" "_law_low" sLow f fd) (TE : Has P w K mg base "_law_common" ["one", "two"] 1 spEuc) (mgAbs : mg "abs" = none) : FnOk P w K mg base CX0 2 f fd ["top", "bottom"] spLow := by
  obtain ⟨fE, fdE, mE, kE, bE, GE⟩ := TE.ok
  refine F.ok scLow (fun vs H Q E h => ?_) (fun cdv A outer s H vs Q E hr h => ?_)
  · obtain ⟨t, b, rfl, _⟩ := h
    rfl
  · obtain ⟨t, b, rfl, hb, h64, go⟩ := h
    refine ⟨_, pss_cons (ps_if (pt_cmpR op_lt (pv 1) pe_int (nomark _)) (pss_cons (ps_set (i := 0) scLow.nd rfl (.inl rfl) (pe_op op_sub pe_int (pv 0))) (pss_one (ps_set (i := 1) scLow.nd rfl (.inl rfl) (pe_op op_sub pe_int (pv 1))))) pss_nil)
      (pss_cons (ps_set (i := 2) scLow.nd rfl (.inl rfl) (pe_call GE hr (by rfl) mE kE bE .nil pass0 (pa_cons (pe_callB call_abs (by rfl) mgAbs (by decide +kernel) (pa_cons (pv 0) pa_nil)) (pa_cons (pv 1) pa_nil))))
      (pss_one (ps_ret (pe_tup (pa_cons (pe_op op_fdivW (pv 0) (pv 2)) (pa_cons (pe_op op_fdivW (pv 1) (pv 2)) pa_nil)))))), ?_⟩
    have g0 := gd_pos (t := t) hb
    have gl := gd_le (t := t) hb
    have fin : ∀ t' b' g : Int, t' = (if b < 0 then -t else t) → b' = (b.natAbs : Int) → g = gd t b → ∀ p, H p = none → Q (.ref p) (upd H p (.tup [.int (t' / g), .int (b' / g)])) := fun t' b' g e1 e2 e3 p hp => by
      rw [e1, e2, e3, low_num hb, ← den_int hb]
      exact go p hp
    have cd : ∀ x g : Int, g = gd t b → CDivW x g := fun x g e => by
      rw [e]
      exact wide_div (b := 64) g0 (Nat.lt_of_le_of_lt gl h64) (by decide) (by decide)
    refine ⟨_, rfl, _, _, rfl, rfl, _, rfl, ite2 (fun e => ?_) (fun e => ?_)⟩
    · have e' : b < 0 := of_decide_eq_true e
      have eabs : (if 0 - t < 0 then -(0 - t) else 0 - t) = ((t.natAbs : Nat) : Int) := by split <;> omega
      have eb : 0 - b = ((b.natAbs : Nat) : Int) := by omega
      have et : 0 - t = (if b < 0 then -t else t) := by
        rw [if_pos e']
        omega
      refine ⟨_, rfl, _, _, rfl, rfl, _, rfl, _, _, rfl, rfl, _, rfl, _, rfl, _, rfl, t.natAbs, b.natAbs, ?_, h64, ?_⟩
      · rw [← eabs, ← eb]
        rfl
      · exact ⟨_, rfl, _, rfl, _, _, rfl, rfl, cd _ _ rfl, _, rfl, _, rfl, _, _, rfl, rfl, cd _ _ rfl, (by show 2 ≤ sizeLine; decide), fun p hp => fin _ _ _ et eb rfl p hp⟩
    · have e' : ¬ b < 0 := fun z => e (decide_eq_true z)
      have eabs : (if t < 0 then -t else t) = ((t.natAbs : Nat) : Int) := by split <;> omega
      have eb : b = ((b.natAbs : Nat) : Int) := by omega
      have et : t = (if b < 0 then -t else t) := by rw [if_neg e']
      refine ⟨_, rfl, _, rfl, _, rfl, t.natAbs, b.natAbs, ?_, h64, ?_⟩
      · rw [← eabs, ← eb]
        rfl
      · exact ⟨_, rfl, _, rfl, _, _, rfl, rfl, cd _ _ rfl, _, rfl, _, rfl, _, _, rfl, rfl, cd _ _ rfl, (by show 2 ≤ sizeLine; decide), fun p hp => fin _ _ _ et eb rfl p hp⟩
end
end K0
namespace K0
open PySem L2 PyProof.Rows PySem.Spec
/-! the keys of the drawn shares -/
def dig (i : Int) : Str := toString i
def mk (a j : Int) : Str := ((("k" : Str) ++ dig a) ++ ("x" : Str)) ++ dig j
theorem len_app (a b : Str) : (a ++ b).length = a.length + b.length := by
  show (a.cps ++ b.cps).size = _
  rw [Array.size_append]
  rfl
theorem cps_app (a b : Str) : (a ++ b).cps.toList = a.cps.toList ++ b.cps.toList := by
  show (a.cps ++ b.cps).toList = _
  rw [Array.toList_append]
theorem dig_fin : ∀ i : _root_.Fin 50, (dig ((i.val : Nat) : Int)).length ≤ 2 := by decide +kernel
theorem dig_len {i : Int} (h0 : 0 ≤ i) (h : i < 50) : (dig i).length ≤ 2 := by
  have := dig_fin ⟨i.toNat, by omega⟩
  rw [show i = ((i.toNat : Nat) : Int) by omega]
  exact this
theorem end_fin : ∀ i j : _root_.Fin 20, ((dig ((i.val : Nat) : Int)).cps.toList.reverse ++ [120]).take 2 = ((dig ((j.val : Nat) : Int)).cps.toList.reverse ++ [120]).take 2 → i = j := by decide +kernel
theorem dig_pos : ∀ i : _root_.Fin 20, 1 ≤ (dig ((i.val : Nat) : Int)).cps.toList.length := by decide +kernel
theorem mk_end (a : Int) (j : _root_.Fin 20) : (mk a ((j.val : Nat) : Int)).cps.toList.reverse.take 2 = ((dig ((j.val : Nat) : Int)).cps.toList.reverse ++ [120]).take 2 := by
  unfold mk
  rw [cps_app, cps_app, List.reverse_append, List.reverse_append, ← List.append_assoc]
  rw [List.take_append_of_le_length]
  · rfl
  · have := dig_pos j
    rw [List.length_append, List.length_reverse]
    show 2 ≤ _ + 1
    omega
theorem mk_inj {a b i j : Int} (i0 : 0 ≤ i) (i1 : i < 20) (j0 : 0 ≤ j) (j1 : j < 20) (h : mk a i = mk b j) : i = j := by
  have e1 := mk_end a ⟨i.toNat, by omega⟩
  have e2 := mk_end b ⟨j.toNat, by omega⟩
  rw [show (((⟨i.toNat, by omega⟩ : _root_.Fin 20).val : Nat) : Int) = i from Int.toNat_of_nonneg i0] at e1
  rw [show (((⟨j.toNat, by omega⟩ : _root_.Fin 20).val : Nat) : Int) = j from Int.toNat_of_nonneg j0] at e2
  rw [h] at e1
  have e3 := end_fin ⟨i.toNat, by omega⟩ ⟨j.toNat, by omega⟩ (by
    show List.take 2 ((dig ((i.toNat : Nat) : Int)).cps.toList.reverse ++ [120]) = List.take 2 ((dig ((j.toNat : Nat) : Int)).cps.toList.reverse ++ [120])
    rw [Int.toNat_of_nonneg i0, Int.toNat_of_nonneg j0]
    exact e1.symm.trans e2)
  have e4 : i.toNat = j.toNat := congrArg _root_.Fin.val e3
  omega
theorem mk_z (a i : Int) : mk a i ≠ ("z" : Str) := fun h => by
  have e : (mk a i).cps.toList.head? = ("z" : Str).cps.toList.head? := by rw [h]
  unfold mk at e
  rw [cps_app, cps_app, cps_app] at e
  have f : (("k" : Str).cps.toList ++ (dig a).cps.toList ++ ("x" : Str).cps.toList ++ (dig i).cps.toList).head? = some 107 := rfl
  rw [f] at e
  exact absurd e (by decide +kernel)
theorem sqT_keep {K : PySem.W.Frag} {H H' : Hp} {t d : Addr} {xs : List V} {kvs : List (Key × V)} (h : SqT K H t xs) (hd : H d = some (.dK kvs)) (kp : ∀ b o, H b = some o → b ≠ d → H' b = some o) : SqT K H' t xs := by
  rcases h with (h | ⟨z, h⟩) | h
  · exact .inl (.inl (kp _ _ h (ne_of h hd (by intro e; cases e))))
  · exact .inl (.inr ⟨z, kp _ _ h (ne_of h hd (by intro e; cases e))⟩)
  · exact .inr h
theorem ShAt.snoc {K : PySem.W.Frag} {H H' : Hp} {d t : Addr} {kvs : List (Key × V)} {L : List (Str × Rat)} {k : Str} {q : Rat} (S : ShAt K H d kvs L) (hk : k ∉ L.map (·.1)) (kp : ∀ b o, H b = some o → b ≠ d → H' b = some o)
    (hd : H' d = some (.dK (putK kvs (Sum.inr k) (.ref t)))) (ht : SqT K H' t (fv q)) : ShAt K H' d (putK kvs (Sum.inr k) (.ref t)) (L ++ [(k, q)]) := by
  have nov : valV kvs (Sum.inr k : Key) = none := by
    cases e : valV kvs (Sum.inr k : Key) with
    | none => rfl
    | some v =>
      have m := valV_in e
      rw [S.ks] at m
      obtain ⟨y, hy, e2⟩ := List.mem_map.mp m
      exact absurd (List.mem_map.mpr ⟨y, hy, Sum.inr.inj e2⟩) hk
  have ep := putK_new (V.ref t) nov
  refine ⟨hd, ?_, ?_, ?_⟩
  · rw [ep, List.map_append, List.map_append, S.ks]
    rfl
  · rw [ep, List.map_append, List.map_append]
    refine ⟨by rw [List.length_append, List.length_append, S.vs.1]; rfl, fun i v r h1 h2 => ?_⟩
    have hl := S.vs.1
    by_cases hi : i < (kvs.map (·.2)).length
    · rw [List.getElem?_append_left hi] at h1
      rw [List.getElem?_append_left (by omega)] at h2
      obtain ⟨t2, e2, g2⟩ := S.vs.2 i v r h1 h2
      exact ⟨t2, e2, sqT_keep g2 S.dk kp⟩
    · have hi0 : i = (kvs.map (·.2)).length := by
        have := (List.getElem?_eq_some_iff.mp h1).1
        rw [List.length_append] at this
        have e1 : (List.map (fun x : Key × V => x.2) [((Sum.inr k : Key), V.ref t)]).length = 1 := rfl
        omega
      rw [List.getElem?_append_right (by omega), hi0, Nat.sub_self] at h1
      rw [List.getElem?_append_right (by omega), hi0, hl, Nat.sub_self] at h2
      have e1 : V.ref t = v := Option.some.inj h1
      have e2 : q = r := Option.some.inj h2
      subst e1 e2
      exact ⟨t, rfl, ht⟩
  · rw [List.map_append]
    refine List.nodup_append.mpr ⟨S.nd, List.pairwise_singleton _ _, fun a ha b hb e => ?_⟩
    rw [List.mem_singleton.mp hb] at e
    have e3 : a = k := e
    exact hk (by rw [← e3]; exact ha)
end K0
namespace K0
open PySem L2 PyProof.Rows PySem.Spec
theorem pick7 {x : Int} : ∃ B : Int, atI [V.int 1, .int 2, .int 3, .int 6, .int 7, .int 60, .int 1001] (x % 7) = some (.int B) ∧ 0 < B ∧ B ≤ 1001 := by
  have h0 := Int.emod_nonneg x (b := 7) (by decide)
  have h1 := Int.emod_lt_of_pos x (b := 7) (by decide)
  generalize x % 7 = z at *
  have c : z = 0 ∨ z = 1 ∨ z = 2 ∨ z = 3 ∨ z = 4 ∨ z = 5 ∨ z = 6 := by omega
  rcases c with rfl | rfl | rfl | rfl | rfl | rfl | rfl <;> exact ⟨_, rfl, by decide, by decide⟩
theorem pick3 {x : Int} : ∃ B : Int, atI [V.int 4, .int 200, .int 100000] (x % 3) = some (.int B) ∧ 0 < B ∧ B ≤ 100000 := by
  have h0 := Int.emod_nonneg x (b := 3) (by decide)
  have h1 := Int.emod_lt_of_pos x (b := 3) (by decide)
  generalize x % 3 = z at *
  have c : z = 0 ∨ z = 1 ∨ z = 2 := by omega
  rcases c with rfl | rfl | rfl <;> exact ⟨_, rfl, by decide, by decide⟩
/-- what is drawn: tops over one bottom -/
structure Drawn (L : List (Str × Rat)) (B : Int) (ts : List Int) (n : Nat) : Prop where
  fr : L.map (·.2) = ts.map fun t => Rat.divInt t B
  ps : ∀ t ∈ ts, 0 ≤ t ∧ t < 100000
  ln : ts.length = n
theorem Drawn.len {L : List (Str × Rat)} {B : Int} {ts : List Int} {n : Nat} (D : Drawn L B ts n) : L.length = n := by
  have e := congrArg List.length D.fr
  rw [List.length_map, List.length_map] at e
  rw [e, D.ln]
theorem Drawn.snoc {L : List (Str × Rat)} {B t : Int} {ts : List Int} {n : Nat} {k : Str} (D : Drawn L B ts n) (a : 0 ≤ t) (b : t < 100000) : Drawn (L ++ [(k, Rat.divInt t B)]) B (ts ++ [t]) (n + 1) := by
  refine ⟨by rw [List.map_append, List.map_append, D.fr]; rfl, fun x hx => ?_, by rw [List.length_append, D.ln]; rfl⟩
  rcases List.mem_append.mp hx with z | z
  · exact D.ps x z
  · rw [List.mem_singleton.mp z]
    exact ⟨a, b⟩
theorem nat_num {xs : List Int} {i : Nat} (h : i < xs.length) : atI (xs.map V.int) ((i : Nat) : Int) = some (.int xs[i]) := atI_nat (by rw [List.getElem?_map, List.getElem?_eq_getElem h]; rfl)
theorem dig_ok_fin : ∀ i : _root_.Fin 50, PyData.strOk (dig ((i.val : Nat) : Int)) = true := by decide +kernel
theorem dig_ok {i : Int} (h0 : 0 ≤ i) (h : i < 50) : PyData.strOk (dig i) = true := by
  have := dig_ok_fin ⟨i.toNat, by omega⟩
  rw [show i = ((i.toNat : Nat) : Int) by omega]
  exact this
theorem ok_app {a b : Str} (h : PyData.strOk a = true) (g : PyData.strOk b = true) : PyData.strOk (a ++ b) = true := by
  show (a.cps ++ b.cps).all (· < 0x110000) = true
  rw [Array.all_append]
  exact Bool.and_eq_true_iff.mpr ⟨h, g⟩
theorem mk_ok {a i : Int} (a0 : 0 ≤ a) (a1 : a < 50) (i0 : 0 ≤ i) (i1 : i < 50) : PyData.strOk (mk a i) = true :=
  ok_app (ok_app (ok_app (by decide +kernel) (dig_ok a0 a1)) (by decide +kernel)) (dig_ok i0 i1)
theorem lg {x : Int} (h0 : 0 ≤ x) (h1 : x < 1000) : x.natAbs.log2 < 1920 := Nat.lt_trans ((Bt.small (x := x) (by omega) (by omega)).log (by decide)) (by decide)
theorem z_sum {S B : Int} (hB : 0 < B) : S + (0 - S) % B = B * ((S + (0 - S) % B) / B) := by
  refine (Int.mul_ediv_cancel' ?_).symm
  refine ⟨-((0 - S) / B), ?_⟩
  have e := Int.mul_ediv_add_emod (0 - S) B
  rw [Int.mul_neg]
  omega
section
variable {P : Program} {w : World} {K : PySem.W.Frag} {mg : Str → Option Value} {base : Heap}
abbrev nSha : List Str := ["cell", "numbers", "bottom", "shares", "sum_top", "k", "top"]
theorem scSha : FnScope nSha ["cell"] (defScope sSha) := ⟨rfl, rfl, rfl, by decide +kernel, rfl, by decide +kernel, by decide +kernel⟩
def spSha (K : PySem.W.Frag) : Sp := fun vs H Q _ => ∃ c : Int, vs = [.int c] ∧ ∀ p H' d (kvs : List (Key × V)) (L : List (Str × Rat)) (B due : Int) (ts : List Int) (n : Nat), Same H H' → H' p = some (.lst [.ref d, .int due]) → ShAt K H' d kvs L → 0 < B → B ≤ 1001 → Drawn L B ts n → n ≤ 21 → ts.sum = B * due → (∀ k ∈ L.map (·.1), PyData.strOk k = true) → Q (.ref p) H'
theorem ok_shares {f : Addr} {fd : FuncData} (F : Fun K "_law_shares" "_law_shares" sSha f fd) (TN : Has P w K mg base "_law_numbers" ["cell", "many"] 1 spNum) (TL : Has P w K mg base "_law_low" ["top", "bottom"] 2 spLow)
    (mgInt : mg "int" = none) (mgRange : mg "range" = none) (mgStr : mg "str" = none) : FnOk P w K mg base CX0 3 f fd ["cell"] (spSha K) := by
  obtain ⟨fN, fdN, mN, kN, bN, GN⟩ := TN.ok
  obtain ⟨fL, fdL, mL, kL, bL, GL⟩ := TL.ok
  refine F.ok scSha (fun vs H Q E h => ?_) (fun cdv A outer s H vs Q E hr h => ?_)
  · obtain ⟨c, rfl, _⟩ := h
    rfl
  · obtain ⟨c, rfl, go⟩ := h
    have hu := hu_of hr
    refine ⟨_, pss_cons (ps_set (i := 1) scSha.nd rfl (.inl rfl) (pe_call GN (hr.mono (by decide)) (by rfl) mN kN bN .nil pass0 (pa_cons (pv 0) (pa_cons pe_int pa_nil))))
      (pss_cons (ps_set (i := 2) scSha.nd rfl (.inl rfl) (pe_ix ix_list (pe_lst (pa_cons pe_int (pa_cons pe_int (pa_cons pe_int (pa_cons pe_int (pa_cons pe_int (pa_cons pe_int (pa_cons pe_int pa_nil)))))))) (pe_op op_mod (pe_callTy call_int1 (by rfl) mgInt (by decide +kernel) (pa_cons (pe_ix ix_list (pv 1) pe_int (fun _ _ => rfl)) pa_nil)) pe_int) (fun _ _ => rfl)))
      (pss_cons (ps_set (i := 3) scSha.nd rfl (.inl rfl) pe_dnewK)
      (pss_cons (ps_set (i := 4) scSha.nd rfl (.inl rfl) pe_int)
      (pss_cons (ps_for PassesOwn.never rfl (pi_range1 rfl mgRange (pa_cons (pe_op op_mod (pe_callTy call_int1 (by rfl) mgInt (by decide +kernel) (pa_cons (pe_ix ix_list (pv 1) pe_int (fun _ _ => rfl)) pa_nil)) pe_int) pa_nil)) (pg_name (i := 5) scSha.nd rfl (.inl rfl))
        (pss_cons (ps_set (i := 6) scSha.nd rfl (.inl rfl) (pe_op op_mod (pe_callTy call_int1 (by rfl) mgInt (by decide +kernel) (pa_cons (pe_ix ix_list (pv 1) (pe_op op_add pe_int (pv 5)) (fun _ _ => rfl)) pa_nil))
          (pe_ix ix_list (pe_lst (pa_cons pe_int (pa_cons pe_int (pa_cons pe_int pa_nil)))) (pe_op op_mod (pe_callTy call_int1 (by rfl) mgInt (by decide +kernel) (pa_cons (pe_op op_fdiv (pe_ix ix_list (pv 1) pe_int (fun _ _ => rfl)) pe_int) pa_nil)) pe_int) (fun _ _ => rfl))))
        (pss_cons (ps_dput hu (pv 3) (pe_op op_add_str (pe_op op_add_str (pe_op op_add_str pe_str (pe_callTy call_str_int (by rfl) mgStr (by decide +kernel) (pa_cons (pe_op op_mod (pe_callTy call_int1 (by rfl) mgInt (by decide +kernel) (pa_cons (pe_op op_fdiv (pe_ix ix_list (pv 1) (pe_op op_add pe_int (pv 5)) (fun _ _ => rfl)) pe_int) pa_nil)) pe_int) pa_nil))) pe_str) (pe_callTy call_str_int (by rfl) mgStr (by decide +kernel) (pa_cons (pv 5) pa_nil)))
          (pe_call GL hr (by rfl) mL kL bL .nil pass0 (pa_cons (pv 6) (pa_cons (pv 2) pa_nil))) rfl)
        (pss_one (ps_set (i := 4) scSha.nd rfl (.inl rfl) (pe_op op_add (pv 4) (pv 6)))))))
      (pss_cons (ps_dput hu (pv 3) pe_str (pe_call GL hr (by rfl) mL kL bL .nil pass0 (pa_cons (pe_op op_mod (pe_callTy call_int1 (by rfl) mgInt (by decide +kernel) (pa_cons (pe_op op_sub pe_int (pv 4)) pa_nil)) (pv 2)) (pa_cons (pv 2) pa_nil))) rfl)
      (pss_one (ps_ret (pe_lst (pa_cons (pv 3) (pa_cons (pe_op op_fdivW (pe_op op_add (pv 4) (pe_op op_mod (pe_callTy call_int1 (by rfl) mgInt (by decide +kernel) (pa_cons (pe_op op_sub pe_int (pv 4)) pa_nil)) (pv 2))) (pv 2)) pa_nil)))))))))), ?_⟩
    refine ⟨_, rfl, c, 24, rfl, by decide, fun nl H1 xs sm1 nnl e1 xl xn => ?_⟩
    have sl : ∀ (Hx : Hp), Hx nl = some (.lst (xs.map V.int)) → SqL K Hx nl (xs.map V.int) := fun Hx h => SqL.of h
    refine ⟨by show 7 ≤ sizeLine; decide, fun l hl => ?_⟩
    have nll : nl ≠ l := ne_of_none e1 hl
    have e2 : ∀ o, upd H1 l o nl = some (.lst (xs.map V.int)) := fun o => by
      rw [upd_ne nll]
      exact e1
    have at0 : atI (xs.map V.int) 0 = some (.int xs[0]) := nat_num (i := 0) (by omega)
    have at1 : atI (xs.map V.int) 1 = some (.int xs[1]) := nat_num (i := 1) (by omega)
    obtain ⟨B, hB, B0, B1⟩ := pick7 (x := xs[0])
    refine ⟨_, rfl, nl, _, 0, _, rfl, rfl, sl _ (e2 _), at0, .inl ⟨_, rfl, _, _, rfl, rfl, (by show (0 : Int) < 7; decide), l, _, _, .int B, rfl, rfl, SqL.of upd_same, hB, ?_⟩⟩
    intro d hd
    have nld : nl ≠ d := ne_of_none (e2 _) hd
    generalize eH : upd (upd H1 l (.lst [V.int 1, .int 2, .int 3, .int 6, .int 7, .int 60, .int 1001])) d (.dK []) = H2
    have d2 : H2 d = some (.dK []) := by rw [← eH, upd_same]
    have n2 : H2 nl = some (.lst (xs.map V.int)) := by rw [← eH, upd_ne nld]; exact e2 _
    have hdn : H d = none := (sm1.trans (same_upd hl)).free hd
    have sm2 : ∀ b o, H b = some o → H2 b = some o := fun b o hb => by
      have z := sm1 b o hb
      rw [← eH, upd_ne (ne_of_none hb hdn), upd_ne (ne_of_none z hl)]
      exact z
    refine ⟨_, rfl, nl, _, 1, _, rfl, rfl, sl _ n2, at1, .inl ⟨_, rfl, _, _, rfl, rfl, (by show (0 : Int) < 20; decide), xs[1] % 20, rfl, ?_, ?_, ?_⟩⟩
    · have := Int.emod_nonneg xs[1] (b := 20) (by decide)
      omega
    · have := Int.emod_lt_of_pos xs[1] (b := 20) (by decide)
      omega
    have hn20 : (xs[1] % 20).toNat < 20 := by
      have := Int.emod_lt_of_pos xs[1] (b := 20) (by decide)
      omega
    generalize (xs[1] % 20).toNat = n at hn20 ⊢
    have hB0 : B ≠ 0 := by omega
    have hB64 : B.natAbs < 2 ^ 64 := Nat.lt_of_lt_of_le (show B.natAbs < 1002 by omega) (by decide)
    refine for_range (lo := 0) (n := n) (fun i σ Hx => ∃ (kvs : List (Key × V)) (L : List (Str × Rat)) (ts : List Int) (y5 y6 : Option V), σ = [some (.int c), some (.ref nl), some (.int B), some (.ref d), some (.int ts.sum), y5, y6] ∧ (∀ b o, H2 b = some o → b ≠ d → Hx b = some o) ∧
      ShAt K Hx d kvs L ∧ Drawn L B ts i ∧ ∀ (j : Nat) k, (L.map (·.1))[j]? = some k → ∃ a, k = mk a (j : Int) ∧ 0 ≤ a ∧ a < 50) ⟨[], [], [], none, none, rfl, ?_, ?_, ⟨rfl, (fun t ht => by cases ht), rfl⟩, fun j k hk => by cases hk⟩ ?_ ?_
    · intro b o hb _
      exact hb
    · exact ⟨d2, rfl, ⟨rfl, fun i v q h => by cases h⟩, List.nodup_nil⟩
    · rintro i σ Hx hi ⟨kvs, L, ts, y5, y6, rfl, kp, S, D, hk⟩
      have nx : Hx nl = some (.lst (xs.map V.int)) := kp nl _ n2 nld
      have ei : (2 : Int) + (0 + (i : Int)) = ((2 + i : Nat) : Int) := by omega
      have hi2 : 2 + i < xs.length := by omega
      have at2 : atI (xs.map V.int) (2 + (0 + (i : Int))) = some (.int xs[2 + i]) := by
        rw [ei]
        exact nat_num hi2
      refine ⟨_, rfl, _, rfl, _, _, rfl, rfl, nl, _, _, _, rfl, rfl, sl _ nx, at2, .inl ⟨_, rfl, by show 3 ≤ sizeLine; decide, fun l2 nl2 => ?_⟩⟩
      have nx2 : ∀ o, upd Hx l2 o nl = some (.lst (xs.map V.int)) := fun o => by
        rw [upd_ne (ne_of_none nx nl2)]
        exact nx
      obtain ⟨m, hm, m0, m1⟩ := pick3 (x := xs[0] / 7)
      refine ⟨_, rfl, nl, _, 0, _, rfl, rfl, sl _ (nx2 _), at0, _, _, rfl, rfl, ⟨by decide, by decide⟩, .inl ⟨_, rfl, _, _, rfl, rfl, (by show (0 : Int) < 3; decide), l2, _, _, .int m, rfl, rfl, SqL.of upd_same, hm, _, _, rfl, rfl, m0, ?_⟩⟩
      have t0 : 0 ≤ xs[2 + i] % m := Int.emod_nonneg _ (by omega)
      have t1 : xs[2 + i] % m < 100000 := Int.lt_of_lt_of_le (Int.emod_lt_of_pos _ m0) m1
      refine ⟨_, rfl, _, rfl, xs[2 + i] % m, B, rfl, hB0, hB64, fun p np => ?_⟩
      have nx3 : ∀ o, upd (upd Hx l2 (.lst [V.int 4, .int 200, .int 100000])) p o nl = some (.lst (xs.map V.int)) := fun o => by
        rw [upd_ne (ne_of_none (nx2 _) np)]
        exact nx2 _
      have a0 := Int.emod_nonneg (xs[2 + i] / 3) (b := 50) (by decide)
      have a1 := Int.emod_lt_of_pos (xs[2 + i] / 3) (b := 50) (by decide)
      have g1 := dig_len a0 a1
      have g2 : (dig (0 + (i : Int))).length ≤ 2 := dig_len (by omega) (by omega)
      have lk : ("k" : Str).length = 1 := by decide +kernel
      have lx : ("x" : Str).length = 1 := by decide +kernel
      have sz1 : ("k" : Str).length + (dig (xs[2 + i] / 3 % 50)).length ≤ sizeLine := Nat.le_of_lt (small1000 (by omega))
      have sz2 : (("k" : Str) ++ dig (xs[2 + i] / 3 % 50)).length + ("x" : Str).length ≤ sizeLine := Nat.le_of_lt (small1000 (by rw [len_app]; omega))
      have sz3 : ((("k" : Str) ++ dig (xs[2 + i] / 3 % 50)) ++ ("x" : Str)).length + (dig (0 + (i : Int))).length ≤ sizeLine := Nat.le_of_lt (small1000 (by rw [len_app, len_app]; omega))
      have dx : upd (upd Hx l2 (.lst [V.int 4, .int 200, .int 100000])) p (.tup (fv (Rat.divInt (xs[2 + i] % m) B))) d = some (.dK kvs) := by
        rw [upd_ne (ne_of_none (by rw [upd_ne (ne_of_none S.dk nl2)]; exact S.dk) np), upd_ne (ne_of_none S.dk nl2)]
        exact S.dk
      have hlen : kvs.length < sizeLine := by
        have := D.len
        rw [S.len]
        exact small1000 (by omega)
      refine ⟨_, rfl, _, rfl, _, rfl, _, _, rfl, rfl, nl, _, _, _, rfl, rfl, sl _ (nx3 _), at2, _, _, rfl, rfl, ⟨by decide, by decide⟩, .inl ⟨_, rfl, _, _, rfl, rfl, (by show (0 : Int) < 50; decide), _, rfl, lg a0 (by omega), _, _, rfl, rfl, sz1, _, _, rfl, rfl, sz2, _, rfl, _, rfl, lg (by omega) (by omega), _, _, rfl, rfl, sz3, d, _, rfl, DPut.k (k := Sum.inr (mk (xs[2 + i] / 3 % 50) (0 + (i : Int)))) dx hlen, ?_⟩⟩
      refine ⟨_, rfl, _, rfl, _, _, rfl, rfl, ?_⟩
      have hnew : mk (xs[2 + i] / 3 % 50) (0 + (i : Int)) ∉ L.map (·.1) := fun hmem => by
        obtain ⟨j, hj⟩ := List.mem_iff_getElem?.mp hmem
        obtain ⟨a, ea, _⟩ := hk j _ hj
        have hjl := (List.getElem?_eq_some_iff.mp hj).1
        rw [List.length_map, D.len] at hjl
        have := mk_inj (by omega) (by omega) (by omega) (by omega) ea
        omega
      have kp2 : ∀ b o, Hx b = some o → b ≠ d → upd (upd (upd Hx l2 (.lst [V.int 4, .int 200, .int 100000])) p (.tup (fv (Rat.divInt (xs[2 + i] % m) B)))) d (.dK (putK kvs (Sum.inr (mk (xs[2 + i] / 3 % 50) (0 + (i : Int)))) (.ref p))) b = some o := fun b o hb hbd => by
        have z : upd Hx l2 (.lst [V.int 4, .int 200, .int 100000]) b = some o := by
          rw [upd_ne (ne_of_none hb nl2)]
          exact hb
        rw [upd_ne hbd, upd_ne (ne_of_none z np)]
        exact z
      have pd : p ≠ d := fun e => by
        rw [e, upd_ne (ne_of_none S.dk nl2), S.dk] at np
        cases np
      refine ⟨_, _, ts ++ [xs[2 + i] % m], some (.int (0 + (i : Int))), some (.int (xs[2 + i] % m)), ?_, fun b o hb hbd => kp2 b o (kp b o hb hbd) hbd, S.snoc hnew kp2 upd_same (SqT.of (by rw [upd_ne pd, upd_same])), D.snoc t0 t1, fun j k hj => ?_⟩
      · rw [List.sum_append]
        simp only [List.sum_cons, List.sum_nil, Int.add_zero]
        rfl
      · rw [List.map_append] at hj
        by_cases hjl : j < (L.map (·.1)).length
        · rw [List.getElem?_append_left hjl] at hj
          exact hk j k hj
        · have hl1 := (List.getElem?_eq_some_iff.mp hj).1
          rw [List.length_append, List.length_map, D.len] at hl1
          rw [List.length_map, D.len] at hjl
          have ej : j = i := by
            have : (List.map (fun x : Str × Rat => x.1) [(mk (xs[2 + i] / 3 % 50) (0 + (i : Int)), Rat.divInt (xs[2 + i] % m) B)]).length = 1 := rfl
            omega
          rw [List.getElem?_append_right (by rw [List.length_map, D.len]; omega), List.length_map, D.len, ej, Nat.sub_self] at hj
          refine ⟨xs[2 + i] / 3 % 50, ?_, a0, a1⟩
          rw [ej, ← Int.zero_add (i : Int)]
          exact (Option.some.inj hj).symm
    · rintro σ Hx ⟨kvs, L, ts, y5, y6, rfl, kp, S, D, hk⟩
      have z0 : 0 ≤ (0 - ts.sum) % B := Int.emod_nonneg _ hB0
      have z1 : (0 - ts.sum) % B < 100000 := Int.lt_trans (Int.emod_lt_of_pos _ B0) (by omega)
      refine ⟨_, rfl, _, _, rfl, rfl, .inl ⟨_, rfl, _, rfl, _, _, rfl, rfl, B0, _, rfl, (0 - ts.sum) % B, B, rfl, hB0, hB64, fun p np => ?_⟩⟩
      have dx : upd Hx p (.tup (fv (Rat.divInt ((0 - ts.sum) % B) B))) d = some (.dK kvs) := by
        rw [upd_ne (ne_of_none S.dk np)]
        exact S.dk
      have hlen : kvs.length < sizeLine := by
        have := D.len
        rw [S.len]
        exact small1000 (by omega)
      refine ⟨_, rfl, d, _, rfl, DPut.k (k := Sum.inr ("z" : Str)) dx hlen, ?_⟩
      have pd : p ≠ d := ne_of_none S.dk np |>.symm
      have hnew : ("z" : Str) ∉ L.map (·.1) := fun hmem => by
        obtain ⟨j, hj⟩ := List.mem_iff_getElem?.mp hmem
        obtain ⟨a, ea, _⟩ := hk j _ hj
        exact mk_z a _ ea.symm
      have kp2 : ∀ b o, Hx b = some o → b ≠ d → upd (upd Hx p (.tup (fv (Rat.divInt ((0 - ts.sum) % B) B)))) d (.dK (putK kvs (Sum.inr ("z" : Str)) (.ref p))) b = some o := fun b o hb hbd => by
        rw [upd_ne hbd, upd_ne (ne_of_none hb np)]
        exact hb
      have S2 := S.snoc hnew kp2 upd_same (SqT.of (by rw [upd_ne pd, upd_same]) : SqT K _ p (fv (Rat.divInt ((0 - ts.sum) % B) B)))
      have D2 := D.snoc (k := ("z" : Str)) z0 z1
      refine ⟨_, rfl, _, rfl, _, rfl, _, _, rfl, rfl, .inl ⟨_, rfl, _, rfl, _, _, rfl, rfl, B0, _, _, rfl, rfl, _, rfl, _, _, rfl, rfl, wide_div (b := 64) B0 hB64 (by decide) (by decide), by show 2 ≤ sizeLine; decide, fun q nq => ?_⟩⟩
      refine go q _ d _ _ B ((ts.sum + (0 - ts.sum) % B) / B) _ _ (fun b o hb => ?_) upd_same (S2.same (same_upd nq)) B0 B1 D2 (by omega) ?_ fun k hk2 => ?_
      · have hbd : b ≠ d := ne_of_none hb hdn
        have z := kp2 b o (kp b o (sm2 b o hb) hbd) hbd
        rw [upd_ne (ne_of_none z nq)]
        exact z
      · rw [List.sum_append]
        simp only [List.sum_cons, List.sum_nil, Int.add_zero]
        exact z_sum B0
      · rw [List.map_append] at hk2
        rcases List.mem_append.mp hk2 with m | m
        · obtain ⟨j, hj⟩ := List.mem_iff_getElem?.mp m
          obtain ⟨a, rfl, q0, q1⟩ := hk j k hj
          have hjl := (List.getElem?_eq_some_iff.mp hj).1
          rw [List.length_map, D.len] at hjl
          exact mk_ok q0 q1 (by omega) (by omega)
        · rw [List.mem_singleton.mp m]
          exact (show PyData.strOk ("z" : Str) = true by decide +kernel)
end
end K0
namespace K0
open PySem L2 PyProof.Rows PySem.Spec SrtO
/-! sizes of what is drawn -/
theorem divInt_sum {B : Int} (hB : B ≠ 0) : ∀ (ts : List Int) (z : Int), (ts.map fun t => Rat.divInt t B).foldl (· + ·) (Rat.divInt z B) = Rat.divInt (z + ts.sum) B
  | [], z => by
    rw [List.sum_nil, Int.add_zero]
    rfl
  | t :: ts, z => by
    rw [List.map_cons, List.foldl_cons, Rat.divInt_add_divInt _ _ hB hB, ← Int.add_mul, Rat.divInt_mul_right hB, divInt_sum hB ts (z + t), List.sum_cons, Int.add_assoc]
theorem qsum_div {B : Int} (hB : B ≠ 0) (ts : List Int) : qsum (ts.map fun t => Rat.divInt t B) = Rat.divInt ts.sum B := by
  have e := divInt_sum hB ts 0
  rw [Rat.zero_divInt, Int.zero_add] at e
  exact e
theorem den_dvd {t B : Int} (hB : B ≠ 0) : (Rat.divInt t B).den ∣ B.natAbs := by
  rw [Rat.den_divInt, if_neg hB]
  exact Nat.div_dvd_of_dvd (Nat.gcd_dvd_left _ _)
theorem den_le {t B : Int} (hB : B ≠ 0) : (Rat.divInt t B).den ≤ B.natAbs := Nat.le_of_dvd (Int.natAbs_pos.mpr hB) (den_dvd hB)
theorem num_le {t B : Int} (hB : B ≠ 0) : (Rat.divInt t B).num.natAbs ≤ t.natAbs := by
  rw [← low_num hB]
  refine Nat.le_trans (Int.natAbs_ediv_le_natAbs _ _) ?_
  split <;> omega
theorem FSz.div {t B : Int} {k : Nat} (hB : B ≠ 0) (h : Bt k t) (k0 : 0 < k) (k1 : k ≤ 40000000) (g : B.natAbs < 2 ^ 64) : FSz (Rat.divInt t B) :=
  ⟨⟨k, k0, k1, h.le (num_le hB)⟩, Bt.mono (k := 64) ⟨by rw [Int.natAbs_natCast]; exact Nat.lt_of_le_of_lt (den_le hB) g⟩ (by decide)⟩
theorem qlcm_dvd {M : Nat} : ∀ (l : List Rat) (b : Nat), b ∣ M → (∀ q ∈ l, q.den ∣ M) → l.foldl (fun b q => Nat.lcm b q.den) b ∣ M
  | [], b, h, _ => h
  | q :: l, b, h, g => qlcm_dvd l _ (Nat.lcm_dvd h (g q List.mem_cons_self)) fun x hx => g x (List.mem_cons_of_mem _ hx)
theorem sum_le {ts : List Int} {c : Int} (hc : 0 ≤ c) (h : ∀ t ∈ ts, 0 ≤ t ∧ t < c) : 0 ≤ ts.sum ∧ ts.sum ≤ ts.length * c := by
  induction ts with
  | nil => exact ⟨Int.le_refl _, by simp⟩
  | cons t ts ih =>
    obtain ⟨a, b⟩ := ih fun x hx => h x (List.mem_cons_of_mem _ hx)
    obtain ⟨a2, b2⟩ := h t List.mem_cons_self
    rw [List.sum_cons, List.length_cons, Int.natCast_add, Int.add_mul]
    constructor
    · omega
    · have : ((1 : Nat) : Int) * c = c := by simp
      omega
theorem Drawn.sz {L : List (Str × Rat)} {B : Int} {ts : List Int} {n : Nat} (D : Drawn L B ts n) (B0 : 0 < B) (B1 : B ≤ 1001) (hn : n ≤ 21) : ShSz L := by
  have hB : B ≠ 0 := by omega
  have h64 : B.natAbs < 2 ^ 64 := Nat.lt_of_lt_of_le (show B.natAbs < 1002 by omega) (by decide)
  have dv : ∀ q ∈ L.map (·.2), q.den ∣ B.natAbs := fun q hq => by
    rw [D.fr] at hq
    obtain ⟨t, _, rfl⟩ := List.mem_map.mp hq
    exact den_dvd hB
  have small (x : Int) (a : 0 ≤ x) (b : x < 1073741824) : FSz (Rat.divInt x B) := FSz.div hB (Bt.small (by omega) b) (by decide) (by decide) h64
  refine ⟨by rw [D.len]; omega, fun i => ?_, fun q hq => ⟨?_, ?_⟩, fun i => ?_⟩
  · have := Nat.le_of_dvd (Int.natAbs_pos.mpr hB) (qlcm_dvd ((L.map (·.2)).take i) 1 (Nat.one_dvd _) fun q hq => dv q (List.mem_of_mem_take hq))
    exact Nat.lt_of_le_of_lt this h64
  · exact Nat.lt_of_le_of_lt (Nat.le_of_dvd (Int.natAbs_pos.mpr hB) (dv q hq)) h64
  · rw [D.fr] at hq
    obtain ⟨t, ht, rfl⟩ := List.mem_map.mp hq
    obtain ⟨a, b⟩ := D.ps t ht
    exact small t a (by omega)
  · rw [D.fr, ← List.map_take, qsum_div hB]
    have hb : ∀ t ∈ ts.take i, 0 ≤ t ∧ t < 100000 := fun t ht => D.ps t (List.mem_of_mem_take ht)
    obtain ⟨a, b⟩ := sum_le (by decide) hb
    refine small _ a ?_
    have hl : (ts.take i).length ≤ 21 := by
      rw [List.length_take, D.ln]
      omega
    omega
theorem Drawn.due {L : List (Str × Rat)} {B due : Int} {ts : List Int} {n : Nat} (D : Drawn L B ts n) (B0 : 0 < B) (h : ts.sum = B * due) : qsum (L.map (·.2)) = (due : Rat) := by
  have hB : B ≠ 0 := by omega
  rw [D.fr, qsum_div hB, h]
  have e : Rat.divInt (B * due) B = Rat.divInt (B * due) (B * 1) := by rw [Int.mul_one]
  rw [e, Rat.divInt_mul_left hB, Rat.divInt_eq_div, Rat.intCast_one, Rat.div_def]
  have : (1 : Rat)⁻¹ = 1 := Rat.inv_eq_of_mul_eq_one (Rat.mul_one 1)
  rw [this, Rat.mul_one]
/-! sorted texts -/
theorem rising_pw : ∀ (l : List Str) (p : Str), risingS p l = true → (p :: l).Pairwise fun a b => ¬ b.cps.toList < a.cps.toList
  | [], p, _ => List.pairwise_singleton _ _
  | x :: r, p, h => by
    unfold risingS at h
    rw [Bool.and_eq_true, ltCps_eq] at h
    have h1 : ¬ x.cps.toList < p.cps.toList := by
      have := h.1
      simpa using this
    have ih := rising_pw r x h.2
    refine List.pairwise_cons.mpr ⟨fun y hy => ?_, ih⟩
    rcases List.mem_cons.mp hy with e | hy
    · rw [e]
      exact h1
    · have h2 := (List.pairwise_cons.mp ih).1 y hy
      exact List.not_lt.mpr (List.le_trans (List.not_lt.mp h1) (List.not_lt.mp h2))
theorem sortedS_pw {l : List Str} (h : sortedS l = true) : l.Pairwise fun a b => ¬ b.cps.toList < a.cps.toList := by
  cases l with
  | nil => exact .nil
  | cons x r => exact rising_pw r x h
theorem str_ext {a b : Str} (h : a.cps.toList = b.cps.toList) : a = b := by
  cases a
  cases b
  exact congrArg PySem.Str.mk (Array.toList_inj.mp h)
theorem sortedS_one {l m : List Str} (h : sortedS l = true) (g : sortedS m = true) (p : l.Perm m) : l = m :=
  p.eq_of_pairwise (fun a b _ _ h1 h2 => str_ext (List.le_antisymm (List.not_lt.mp h1) (List.not_lt.mp h2))) (sortedS_pw h) (sortedS_pw g)
/-! the coins' sum -/
theorem flo_gt : ∀ (l : List Rat) (z : Rat), l.foldl (· + ·) z ≤ (((l.map Rat.floor).sum + l.length : Int) : Rat) + z
  | [], z => by
    show z ≤ (((([] : List Rat).map Rat.floor).sum + (([] : List Rat).length : Int) : Int) : Rat) + z
    rw [List.map_nil, List.sum_nil, List.length_nil, show ((0 : Int) + ((0 : Nat) : Int)) = 0 from rfl, Rat.intCast_zero, Rat.zero_add]
    exact Rat.le_refl
  | q :: l, z => by
    have ih := flo_gt l (z + q)
    refine Rat.le_trans ih ?_
    have fq : q ≤ ((q.floor + 1 : Int) : Rat) := Rat.le_of_lt (Rat.lt_floor_add_one q)
    have e : ((((q :: l).map Rat.floor).sum + (q :: l).length : Int) : Rat) = (((l.map Rat.floor).sum + l.length : Int) : Rat) + ((q.floor + 1 : Int) : Rat) := by
      rw [← Rat.intCast_add]
      refine congrArg _ ?_
      rw [List.map_cons, List.sum_cons, List.length_cons]
      omega
    rw [e, Rat.add_assoc, Rat.add_comm z q]
    exact Rat.add_le_add_left.mpr (Rat.add_le_add_right.mpr fq)
theorem flo_top {L : List (Str × Rat)} {n : Int} (h : qsum (L.map (·.2)) = (n : Rat)) : n - flo L ≤ L.length := by
  have a := flo_gt (L.map (·.2)) 0
  have e : (L.map (·.2)).foldl (· + ·) 0 = (n : Rat) := h
  rw [e, Rat.add_zero, List.map_map, List.length_map] at a
  have b := Rat.intCast_le_intCast.mp a
  have c : flo L = (L.map (Rat.floor ∘ fun x => x.2)).sum := rfl
  omega
theorem count_sum {zs : List Str} (nz : zs.Nodup) : ∀ {ys : List Str}, ys.Nodup → (∀ z ∈ zs, z ∈ ys) → (ys.map fun k => if k ∈ zs then (1 : Int) else 0).sum = zs.length := by
  induction zs with
  | nil =>
    intro ys _ _
    have : ∀ l : List Str, (l.map fun k => if k ∈ ([] : List Str) then (1 : Int) else 0).sum = 0 := fun l => by
      induction l with
      | nil => rfl
      | cons x l ih => rw [List.map_cons, List.sum_cons, ih]; simp
    exact this ys
  | cons z zs ih =>
    intro ys ny hz
    have hzy := hz z List.mem_cons_self
    obtain ⟨nz1, nz2⟩ := List.nodup_cons.mp nz
    have p := List.perm_cons_erase hzy
    rw [perm_sum (p.map _), List.map_cons, List.sum_cons, if_pos List.mem_cons_self]
    have ny2 := (p.nodup_iff.mp ny)
    obtain ⟨n1, n2⟩ := List.nodup_cons.mp ny2
    have ih2 := ih nz2 n2 (fun x hx => by
      have m := p.mem_iff.mp (hz x (List.mem_cons_of_mem _ hx))
      exact (List.mem_cons.mp m).elim (fun e => absurd (by rw [← e]; exact hx) nz1) id)
    have e : ((ys.erase z).map fun k => if k ∈ z :: zs then (1 : Int) else 0) = (ys.erase z).map fun k => if k ∈ zs then (1 : Int) else 0 := List.map_congr_left fun k hk => by
      have kz : k ≠ z := fun q => by
        subst q
        exact n1 hk
      by_cases m : k ∈ zs
      · rw [if_pos m, if_pos (List.mem_cons_of_mem _ m)]
      · rw [if_neg m, if_neg fun q => (List.mem_cons.mp q).elim kz m]
    rw [e, ih2, List.length_cons]
    omega
theorem coin_sum {L : List (Str × Rat)} {ys zs : List Str} (nd : (L.map (·.1)).Nodup) (pe : ys.Perm (L.map (·.1))) (nz : zs.Nodup) (hz : ∀ z ∈ zs, z ∈ ys) : (ys.map (coin L zs)).sum = flo L + zs.length := by
  have ny := pe.nodup_iff.mpr nd
  have e : (ys.map (coin L zs)).sum = (ys.map (coin L [])).sum + (ys.map fun k => if k ∈ zs then (1 : Int) else 0).sum := by
    have : ∀ l : List Str, (l.map (coin L zs)).sum = (l.map (coin L [])).sum + (l.map fun k => if k ∈ zs then (1 : Int) else 0).sum := fun l => by
      induction l with
      | nil => rfl
      | cons x l ih =>
        rw [List.map_cons, List.map_cons, List.map_cons, List.sum_cons, List.sum_cons, List.sum_cons, ih]
        have : coin L zs x = coin L [] x + if x ∈ zs then 1 else 0 := by
          unfold coin
          simp
        omega
    exact this ys
  have esum : (ys.map (coin L [])).sum = flo L := by
    rw [perm_sum (pe.map (coin L [])), List.map_map]
    unfold flo
    refine congrArg List.sum (List.map_congr_left fun x hx => ?_)
    obtain ⟨i, hi⟩ := List.mem_iff_getElem?.mp hx
    show coin L [] x.1 = x.2.floor
    unfold coin
    rw [vq_at nd hi]
    simp
  rw [e, esum, count_sum nz ny hz]
end K0
namespace K0
open PySem L2 PyProof.Rows PySem.Spec SrtO
section
variable {X : Cx}
/-- != of two tuples that hold the same fraction -/
def rNeFr (K : PySem.W.Frag) : R2 := fun x y H Q => ∃ a b q, x = .ref a ∧ y = .ref b ∧ SqT K H a (fv q) ∧ SqT K H b (fv q) ∧ Q (.bl false) H
theorem dp_fr {K : PySem.W.Frag} {H : Hp} {a : Addr} {q : Rat} (h : SqT K H a (fv q)) : Dp K H (.ref a) (.tuple [.int q.num, .int (q.den : Int)]) := .tup h (.cons (.int _) (.cons (.int _) .nil))
theorem op_neFr (hu : X.A.units + 64 < cLine) : OpR X (compareOp .NotEq) (rNeFr X.K) := by
  intro pins s σ H x y v u Q I rx ry h
  obtain ⟨a, b, q, rfl, rfl, ha, hb, go⟩ := h
  have sh : SeqAt.shaped (.tuple [.int q.num, .int (q.den : Int)]) = true := rfl
  refine op_neD hu pins s σ H _ _ _ _ Q I rx ry ⟨_, _, dp_fr ha, dp_fr hb, sh, sh, ?_⟩
  rw [SeqAt.eqv_refl _ rfl]
  exact go
/-- != of two lists of the same texts -/
def rNeTx (K : PySem.W.Frag) : R2 := fun x y H Q => ∃ a b, ∃ ys : List Str, x = .ref a ∧ y = .ref b ∧ SqL K H a (ys.map V.str) ∧ SqL K H b (ys.map V.str) ∧ (∀ k ∈ ys, PyData.strOk k = true) ∧ Q (.bl false) H
theorem dp_tx {K : PySem.W.Frag} {H : Hp} : ∀ ys : List Str, DpAll K H (ys.map V.str) (ys.map PyData.str)
  | [] => .nil
  | y :: ys => .cons (.str y) (dp_tx ys)
theorem lay_tx : ∀ {ys : List Str}, (∀ k ∈ ys, PyData.strOk k = true) → PyData.canLayAll0 (ys.map PyData.str) = true
  | [], _ => rfl
  | y :: ys, h => by
    show (PyData.canLay0 (.str y) && PyData.canLayAll0 (ys.map PyData.str)) = true
    rw [lay_tx fun k hk => h k (List.mem_cons_of_mem _ hk), Bool.and_true]
    exact h y List.mem_cons_self
theorem depth_tx (ys : List Str) : PyData.depth (.list (ys.map PyData.str)) ≤ 2 := by
  have h : ∀ l : List Str, PyData.depthAll (l.map PyData.str) ≤ 1 := fun l => by
    induction l with
    | nil => simp [PyData.depthAll]
    | cons x l ih => simp [PyData.depthAll, PyData.depth]; omega
  have := h ys
  simp [PyData.depth]
  omega
theorem op_neTx (hu : X.A.units + 64 < cLine) : OpR X (compareOp .NotEq) (rNeTx X.K) := by
  intro pins s σ H x y v u Q I rx ry h
  obtain ⟨a, b, ys, rfl, rfl, ha, hb, ok, go⟩ := h
  have lay : PyData.canLay0 (.list (ys.map PyData.str)) = true := lay_tx ok
  have sh : SeqAt.shaped (.list (ys.map PyData.str)) = true := Bool.and_eq_true_iff.mpr ⟨lay, decide_eq_true (Nat.le_trans (depth_tx ys) (by decide))⟩
  refine op_neD hu pins s σ H _ _ _ _ Q I rx ry ⟨_, _, .lst ha (dp_tx ys), .lst hb (dp_tx ys), sh, sh, ?_⟩
  rw [SeqAt.eqv_refl _ lay]
  exact go
/-- != of two dicts that hold the same objects -/
def rNeSm : R2 := fun x y H Q => ∃ a b kvs, x = .ref a ∧ y = .ref b ∧ H a = some (.dK kvs) ∧ H b = some (.dK kvs) ∧ (kvs.map (·.1)).Nodup ∧ (∀ p ∈ kvs, ∃ t, p.2 = .ref t) ∧ Q (.bl false) H
theorem hitsRef {A : Around} {s : Shared} {ls : List (Key × V)} {vb : List (Key × Value)} (rb : KV ls vb) {ks : List (Key × V)} {va : List (Key × Value)} (ra : KV ks va) :
    (∀ p ∈ ks, valV ls p.1 = some p.2 ∧ ∃ t, p.2 = .ref t) → PySem.W.KeqHits A s vb va true := by
  unfold KV at ra
  induction ra with
  | nil => exact fun _ => .nil
  | @cons p q ps qs one _ ih =>
    intro hp
    obtain ⟨e, t, et⟩ := hp p List.mem_cons_self
    have rel : RelO (some p.2) (valueAt vb p.1) := by
      rw [← e]
      exact rb.val p.1
    obtain ⟨y, hy, ry⟩ := rel.some_of
    obtain ⟨k, v⟩ := q
    rw [show p.1 = k from one.1] at hy
    have r2 : RelV p.2 v := one.2
    rw [et] at ry r2
    have ev : v = Value.ref t := r2
    have ey : y = Value.ref t := ry
    subst ev ey
    show PySem.W.KeqHits A s vb ((k, _) :: qs) (true && true)
    exact .hit hy (SeqAt.EqAt.same _) (ih fun p' hm => hp p' (List.mem_cons_of_mem _ hm))
theorem op_neSm (hu : X.A.units < cLine) : OpR X (compareOp .NotEq) rNeSm := by
  intro pins s σ H x y v u Q I rx ry h
  obtain ⟨a, b, kvs, rfl, rfl, ea, eb, nd, rf, go⟩ := h
  obtain rfl : v = Value.ref a := rx
  obtain rfl : u = Value.ref b := ry
  obtain ⟨_, ya, va, ra, da⟩ := (show ObjOk X.prog X.w H s.heap a (.dK kvs) from I.hok a _ ea)
  obtain ⟨_, yb, vb, rb, db⟩ := (show ObjOk X.prog X.w H s.heap b (.dK kvs) from I.hok b _ eb)
  exact PySem.W.keq_ne (knd := mixKind X.prog X.w) (r := true) ya yb da db hu (fun _ => hitsRef rb ra fun p hp => ⟨val_nodup nd p hp, rf p hp⟩) (fin_bl I go (by simp [ra.length.symm.trans rb.length]))
end
/-! the order of the remainders -/
/-- what is over a share's whole part -/
def frq (q : Rat) : Int := q.num - q.floor * (q.den : Int)
theorem rk_frq {M : Nat} {q : Rat} (h : q.den ∣ M) (hM : 0 < M) : rk M q = -(frq q * ((M : Int) / (q.den : Int))) := by
  obtain ⟨e, he⟩ := h
  have d0 := den_pos q
  have e0 : 0 < (e : Int) := by
    rcases Nat.eq_zero_or_pos e with z | z
    · rw [z, Nat.mul_zero] at he
      omega
    · omega
  have eM : (M : Int) = (q.den : Int) * (e : Int) := by rw [he, Int.natCast_mul]
  have ed : (M : Int) / (q.den : Int) = (e : Int) := by rw [eM, Int.mul_ediv_cancel_left _ (den_ne q)]
  unfold rk frq
  rw [ed, eM, Int.mul_comm (q.den : Int), Int.mul_comm q.num, Int.mul_emod_mul_of_pos _ _ e0, Rat.floor_def]
  have m := Int.emod_def q.num (q.den : Int)
  rw [m, Int.mul_comm (q.den : Int) (q.num / (q.den : Int)), Int.mul_comm (e : Int)]
theorem rk_cmp {M : Nat} {p q : Rat} (hp : p.den ∣ M) (hq : q.den ∣ M) (hM : 0 < M) (h : rk M p ≤ rk M q) :
    frq q * (p.den : Int) ≤ frq p * (q.den : Int) ∧ (frq p * (q.den : Int) = frq q * (p.den : Int) → rk M p = rk M q) := by
  have rp := rk_frq hp hM
  have rq := rk_frq hq hM
  have ep : (M : Int) = ((M : Int) / (p.den : Int)) * (p.den : Int) := (Int.ediv_mul_cancel (Int.natCast_dvd_natCast.mpr hp)).symm
  have eq : (M : Int) = ((M : Int) / (q.den : Int)) * (q.den : Int) := (Int.ediv_mul_cancel (Int.natCast_dvd_natCast.mpr hq)).symm
  have m0 : 0 < (M : Int) := by omega
  have p0 := den_pos p
  have q0 := den_pos q
  generalize (M : Int) / (p.den : Int) = u at *
  generalize (M : Int) / (q.den : Int) = v at *
  generalize (p.den : Int) = a at *
  generalize (q.den : Int) = b at *
  generalize frq p = x at *
  generalize frq q = y at *
  have k1 : (x * b) * (M : Int) = (x * u) * (a * b) := by
    rw [ep, Int.mul_assoc x b, Int.mul_comm b, Int.mul_assoc u, ← Int.mul_assoc x u]
  have k2 : (y * a) * (M : Int) = (y * v) * (a * b) := by
    rw [eq, Int.mul_assoc y a, Int.mul_comm a (v * b), Int.mul_assoc v, ← Int.mul_assoc y v, Int.mul_comm b a]
  have ab : 0 < a * b := Int.mul_pos p0 q0
  constructor
  · have h1 : y * v ≤ x * u := by omega
    have h2 := Int.mul_le_mul_of_nonneg_right h1 (Int.le_of_lt ab)
    rw [← k1, ← k2] at h2
    exact Int.le_of_mul_le_mul_right h2 m0
  · intro e
    rw [e] at k1
    have h3 : (x * u) * (a * b) = (y * v) * (a * b) := k1.symm.trans k2
    have h4 := Int.eq_of_mul_eq_mul_right (Int.ne_of_gt ab) h3
    rw [rp, rq, h4]
theorem lcm_dvd_all : ∀ (l : List Rat) (b : Nat), b ∣ l.foldl (fun b q => Nat.lcm b q.den) b ∧ ∀ q ∈ l, q.den ∣ l.foldl (fun b q => Nat.lcm b q.den) b
  | [], b => ⟨Nat.dvd_refl _, fun q h => by cases h⟩
  | q :: l, b => by
    obtain ⟨h1, h2⟩ := lcm_dvd_all l (Nat.lcm b q.den)
    refine ⟨Nat.dvd_trans (Nat.dvd_lcm_left _ _) h1, fun r hr => ?_⟩
    rcases List.mem_cons.mp hr with e | hr
    · rw [e]
      exact Nat.dvd_trans (Nat.dvd_lcm_right _ _) h1
    · exact h2 r hr
/-- the law's own look at two keys -/
theorem look {L : List (Str × Rat)} (nd : (L.map (·.1)).Nodup) {Y : List (Int × Str)} (pY : Y.Perm (rkL L)) (sY : Srtd (fun x y => ltIS x y) Y) {lf : Nat} {k n : Str} (hk : k ∈ (Y.map (·.2)).take lf) (hn : n ∉ (Y.map (·.2)).take lf) (hnL : n ∈ L.map (·.1)) :
    frq (vq L n) * ((vq L k).den : Int) ≤ frq (vq L k) * ((vq L n).den : Int) ∧ (frq (vq L k) * ((vq L n).den : Int) = frq (vq L n) * ((vq L k).den : Int) → ¬ n.cps.toList < k.cps.toList) := by
  obtain ⟨i, hi⟩ := List.mem_iff_getElem?.mp hk
  have hil : i < lf := by
    have := (List.getElem?_eq_some_iff.mp hi).1
    rw [List.length_take] at this
    omega
  rw [List.getElem?_take_of_lt hil] at hi
  have kp : (Y.map (·.2)).Perm (L.map (·.1)) := by
    rw [← rkL_keys]
    exact pY.map _
  obtain ⟨j, hj⟩ := List.mem_iff_getElem?.mp (kp.mem_iff.mpr hnL)
  have hjl : lf ≤ j := Nat.le_of_not_lt fun z => hn (List.mem_iff_getElem?.mpr ⟨j, by rw [List.getElem?_take_of_lt z]; exact hj⟩)
  have at' : ∀ (i : Nat) (k : Str), (Y.map (·.2))[i]? = some k → Y[i]? = some (rk (qlcm (L.map (·.2))) (vq L k), k) ∧ vq L k ∈ L.map (·.2) := fun i k h => by
    rw [List.getElem?_map] at h
    obtain ⟨y, hy, ey⟩ := Option.map_eq_some_iff.mp h
    have m := pY.mem_iff.mp (List.mem_of_getElem? hy)
    unfold rkL at m
    obtain ⟨p, hp, e⟩ := List.mem_map.mp m
    obtain ⟨z, hz⟩ := List.mem_iff_getElem?.mp hp
    have ek : p.1 = k := by rw [← ey, ← e]
    have ev : vq L k = p.2 := by
      rw [← ek]
      exact vq_at nd hz
    refine ⟨?_, ?_⟩
    · rw [hy, ← e, ev, ek]
    · rw [ev]
      exact List.mem_map.mpr ⟨p, hp, rfl⟩
  obtain ⟨yi, mi⟩ := at' i k hi
  obtain ⟨yj, mj⟩ := at' j n hj
  have hii := (List.getElem?_eq_some_iff.mp yi).1
  have hjj := (List.getElem?_eq_some_iff.mp yj).1
  have pw := (List.pairwise_iff_getElem.mp sY) i j hii hjj (by omega)
  rw [(List.getElem?_eq_some_iff.mp yi).2, (List.getElem?_eq_some_iff.mp yj).2] at pw
  have no := ltIS_no.mp pw
  have le : rk (qlcm (L.map (·.2))) (vq L k) ≤ rk (qlcm (L.map (·.2))) (vq L n) := Int.not_lt.mp fun z => no (.inl z)
  have dv := (lcm_dvd_all (L.map (·.2)) 1).2
  obtain ⟨c1, c2⟩ := rk_cmp (dv _ mi) (dv _ mj) (qlcm_pos _) le
  exact ⟨c1, fun e z => no (.inr ⟨(c2 e).symm, z⟩)⟩
end K0
namespace K0
open PySem L2 PyProof.Rows PySem.Spec SrtO
/-- a fraction of a numerator of k bits and a denominator of e bits -/
structure Sz (k e : Nat) (q : Rat) : Prop where
  n : Bt k q.num
  d : q.den < 2 ^ e
theorem Sz.fsz {k e : Nat} {q : Rat} (h : Sz k e q) (k0 : 0 < k) (k1 : k ≤ 40000000) (e1 : e ≤ 4000) : FSz q := ⟨⟨k, k0, k1, h.n⟩, Bt.mono (k := e) ⟨by rw [Int.natAbs_natCast]; exact h.d⟩ e1⟩
theorem Sz.mono {k m e : Nat} {q : Rat} (h : Sz k e q) (l : k ≤ m) : Sz m e q := ⟨h.n.mono l, h.d⟩
theorem Sz.div {t B : Int} {k e : Nat} (hB : B ≠ 0) (h : Bt k t) (g : B.natAbs < 2 ^ e) : Sz k e (Rat.divInt t B) := ⟨h.le (num_le hB), Nat.lt_of_le_of_lt (den_le hB) g⟩
theorem Sz.db {k e : Nat} {q : Rat} (h : Sz k e q) : Bt e (q.den : Int) := ⟨by rw [Int.natAbs_natCast]; exact h.d⟩
theorem Sz.add {k e f : Nat} {p q : Rat} (h : Sz k e p) (g : Sz k f q) : Sz (k + e + f + 1) (e + f) (p + q) := by
  rw [← q_add]
  refine Sz.div (FSz.ne p q) ?_ (h.db.mul g.db).lt
  exact ((h.n.mul g.db).mono (by omega)).add ((g.n.mul h.db).mono (by omega))
theorem cell_bt {ns : List Int} {k : Nat} (h : ∀ z ∈ ns, Builtin.Int.intBits z ≤ k) (j : Int) : Bt k (cell ns j) := by
  unfold cell
  cases e : ns[j.toNat]? with
  | none => exact ⟨Nat.two_pow_pos _⟩
  | some z => exact Bt.of_bits (h z (List.mem_of_getElem? e))
theorem pick2 {x : Int} : ∃ s : Int, atI [V.int 1, V.int (0 - 1)] (x % 2) = some (.int s) ∧ (s = 1 ∨ s = -1) := by
  have h0 := Int.emod_nonneg x (b := 2) (by decide)
  have h1 := Int.emod_lt_of_pos x (b := 2) (by decide)
  generalize x % 2 = z at *
  have c : z = 0 ∨ z = 1 := by omega
  rcases c with rfl | rfl
  · exact ⟨1, rfl, .inl rfl⟩
  · exact ⟨-1, rfl, .inr rfl⟩
theorem qsum3 (p q : Rat) : qsum [p, q, p] = p + (p + q) := by
  show ((0 + p) + q) + p = p + (p + q)
  rw [Rat.zero_add, Rat.add_comm]
theorem FSz.zero : FSz 0 := ⟨⟨1, by decide, by decide, ⟨by decide⟩⟩, ⟨by show 1 < 2 ^ 4000; exact Nat.one_lt_two_pow (by decide)⟩⟩
/-- an entry of the law's two lists -/
structure Ent (L : List (Str × Rat)) (H : Hp) (t : Addr) (k : Str) : Prop where
  at' : ∃ r, H t = some (.tup [.ref r, .str k]) ∧ H r = some (.tup [.int (frq (vq L k)), .int ((vq L k).den : Int)])
theorem Ent.keep {L : List (Str × Rat)} {H H' : Hp} {t : Addr} {k : Str} (h : Ent L H t k) (kp : ∀ b xs, H b = some (.tup xs) → H' b = some (.tup xs)) : Ent L H' t k := by
  obtain ⟨r, a, b⟩ := h.at'
  exact ⟨r, kp _ _ a, kp _ _ b⟩
end K0
namespace K0
open PySem L2 PyProof.Rows PySem.Spec SrtO
theorem frq_mod (q : Rat) : frq q = q.num % (q.den : Int) := by
  unfold frq
  rw [Rat.floor_def, Int.emod_def, Int.mul_comm]
theorem frq_bt {q : Rat} (h : q.den < 2 ^ 64) : Bt 64 (frq q) := by
  have a := Int.emod_nonneg q.num (den_ne q)
  have b := Int.emod_lt_of_pos q.num (den_pos q)
  rw [← frq_mod] at a b
  exact ⟨by omega⟩
theorem den_bt {q : Rat} (h : q.den < 2 ^ 64) : Bt 64 (q.den : Int) := ⟨by rw [Int.natAbs_natCast]; exact h⟩
theorem frq_ok {p q : Rat} (h : p.den < 2 ^ 64) (g : q.den < 2 ^ 64) : IntMulOk (frq p) (q.den : Int) := (frq_bt h).ok (den_bt g) (by decide) (by decide) (by decide)
theorem flr_ok {q : Rat} (h : FSz q) : IntMulOk (q.num / (q.den : Int)) (q.den : Int) := by
  obtain ⟨k, k0, k1, b⟩ := h.n
  exact (b.le (Int.natAbs_ediv_le_natAbs _ _)).ok h.d k0 (by decide) (by omega)
theorem frq_eq (q : Rat) : q.num - q.num / (q.den : Int) * (q.den : Int) = frq q := by
  unfold frq
  rw [Rat.floor_def]
end K0
namespace K0
open PySem L2 PyProof.Rows PySem.Spec SrtO
section
variable {P : Program} {w : World} {K : PySem.W.Frag} {mg : Str → Option Value} {base : Heap}
/-! the law -/
def wFr (K : PySem.W.Frag) : Sp := fun vs H Q _ => ∃ t b : Int, vs = [.int t, .int b] ∧ b ≠ 0 ∧ b.natAbs < 2 ^ 64 ∧ ∀ x H', Same H H' → SqT K H' x (fv (Rat.divInt t b)) → Q (.ref x) H'
def wAr (K : PySem.W.Frag) (C : Rat → Rat → Prop) (g : Rat → Rat → Rat) : Sp := fun vs H Q _ => ∃ (a b : Addr) (p q : Rat), vs = [.ref a, .ref b] ∧ SqT K H a (fv p) ∧ SqT K H b (fv q) ∧ C p q ∧ ∀ x H', Same H H' → SqT K H' x (fv (g p q)) → Q (.ref x) H'
structure LT (P : Program) (w : World) (K : PySem.W.Frag) (mg : Str → Option Value) (base : Heap) : Prop where
  C : Has P w K mg base "_law_cell" ["script", "k"] 4 (spCel K)
  S : Has P w K mg base "_law_shares" ["cell"] 4 (spSha K)
  L : Has P w K mg base "_law_low" ["top", "bottom"] 4 (wFr K)
  Fr : Has P w K mg base "fraction" ["top", "bottom"] 4 (wFr K)
  Pl : Has P w K mg base "plus" ["one", "two"] 4 (wAr K C2 fun p q => p + q)
  Mi : Has P w K mg base "minus" ["one", "two"] 4 (wAr K C2 fun p q => p - q)
  Ti : Has P w K mg base "times" ["one", "two"] 4 (wAr K C2m fun p q => p * q)
  Ov : Has P w K mg base "over" ["one", "two"] 4 (wAr K C2o fun p q => p / q)
  Le : Has P w K mg base "is_less" ["one", "two"] 4 (spLes K)
  Wh : Has P w K mg base "whole_part" ["value"] 4 (spWho K)
  To : Has P w K mg base "total" ["values"] 4 (spTot K)
  In : Has P w K mg base "in_coins" ["shares"] 4 (spInc K)
  zero : ∃ a : Addr, mg "ZERO" = some (.ref a) ∧ ∀ H, SqT K H a (fv 0)
  one : ∃ a : Addr, mg "ONE" = some (.ref a) ∧ ∀ H, SqT K H a (fv 1)
  abs : mg "abs" = none
  len : mg "len" = none
  min : mg "min" = none
  range : mg "range" = none
  sorted : mg "sorted" = none
  list : mg "list" = none
  dict : mg "dict" = none
  sum : mg "sum" = none
abbrev nL : List Str := ["script", "a", "b", "c", "d", "one", "two", "k", "shares", "due", "kept", "coins", "more", "less", "key", "whole", "rest", "other", "name"]
theorem scL : FnScope nL ["script"] (defScope sLaw) := ⟨rfl, rfl, rfl, by decide +kernel, rfl, by decide +kernel, by decide +kernel⟩
def spLaw (K : PySem.W.Frag) : Sp := fun vs H Q _ => ∃ (a : Addr) (ns : List Int), vs = [.ref a] ∧ SqL K H a (ns.map V.int) ∧ ns.length ≤ 63 ∧ (∀ z ∈ ns, Builtin.Int.intBits z ≤ 1048576) ∧ ∀ H', Q (.bl true) H'
abbrev LX (P : Program) (w : World) (K : PySem.W.Frag) (mg : Str → Option Value) (base : Heap) (f : Addr) (cdv : Value) (A : Around) (outer : List Env) (s : Shared) (H : Hp) (E : XK) : Cx := (cxOf CX0 P w K mg base nL "law" (defScope sLaw) f cdv A outer s H E).nox
theorem law_for (T : LT P w K mg base) (f : Addr) (cdv : Value) (A : Around) (outer : List Env) (s : Shared) (H : Hp) (E : XK) (hr : Room 4 (A.deeper (envOfC "law" (defScope sLaw) s.heap.objs.size f cdv))) :
    ∃ t, PSs (LX P w K mg base f cdv A outer s H E) ((defBody sLaw).drop 13) t ∧ ∀ (Q : VK) (a0 : Addr) (ns : List Int) (va vb vc vd v1 v2 : Option V) (Hx : Hp), SqL K Hx a0 (ns.map V.int) → ns.length ≤ 63 → (∀ H', Q (.bl true) H') → t { nx := fun _ H' => Q .non H', rt := Q } [some (.ref a0), va, vb, vc, vd, v1, v2, none, none, none, none, none, none, none, none, none, none, none, none] Hx := by
  obtain ⟨fC, fdC, mC, kC, bC, GC⟩ := T.C.ok
  obtain ⟨fS, fdS, mS, kS, bS, GS⟩ := T.S.ok
  obtain ⟨fL, fdL, mL, kL, bL, GL⟩ := T.L.ok
  obtain ⟨fFr, fdFr, mFr, kFr, bFr, GFr⟩ := T.Fr.ok
  obtain ⟨fPl, fdPl, mPl, kPl, bPl, GPl⟩ := T.Pl.ok
  obtain ⟨fMi, fdMi, mMi, kMi, bMi, GMi⟩ := T.Mi.ok
  obtain ⟨fTi, fdTi, mTi, kTi, bTi, GTi⟩ := T.Ti.ok
  obtain ⟨fOv, fdOv, mOv, kOv, bOv, GOv⟩ := T.Ov.ok
  obtain ⟨fLe, fdLe, mLe, kLe, bLe, GLe⟩ := T.Le.ok
  obtain ⟨fWh, fdWh, mWh, kWh, bWh, GWh⟩ := T.Wh.ok
  obtain ⟨fTo, fdTo, mTo, kTo, bTo, GTo⟩ := T.To.ok
  obtain ⟨fIn, fdIn, mIn, kIn, bIn, GIn⟩ := T.In.ok
  obtain ⟨aZ, mZ, hZ⟩ := T.zero
  obtain ⟨aO, mO, hO⟩ := T.one
  have hu := hu_of hr
  have hu64 := hr.units
  have hu0 := hr.units0
  refine ⟨_, pss_cons
      (ps_for PassesOwn.never rfl (pi_range2 rfl T.range (pa_cons pe_int (pa_cons (pe_callB (call_min2 rfl) (by rfl) T.min (by decide +kernel) (pa_cons (pe_callB call_len_seq (by rfl) T.len PySem.boot_len (pa_cons (pv 0) pa_nil)) (pa_cons pe_int pa_nil))) pa_nil))) (pg_name (i := 7) scL.nd rfl (.inl rfl))
      (pss_cons (ps_asg (pe_call GS hr (by rfl) mS kS bS .nil pass0 (pa_cons (pe_call GC hr (by rfl) mC kC bC .nil pass0 (pa_cons (pv 0) (pa_cons (pv 7) pa_nil))) pa_nil)) (pg_unl (n := 2) rfl (pgs_cons (pg_name (i := 8) scL.nd rfl (.inl rfl)) (pgs_cons (pg_name (i := 9) scL.nd rfl (.inl rfl)) pgs_nil)))) (pss_cons (ps_set (i := 10) scL.nd rfl (.inl rfl) (pe_callTy call_dictD (by rfl) T.dict (by decide +kernel) (pa_cons (pv 8) pa_nil))) (pss_cons (ps_set (i := 11) scL.nd rfl (.inr rfl) (pe_call GIn hr (by rfl) mIn kIn bIn .nil pass0 (pa_cons (pv 8) pa_nil))) (pss_cons (ps_if (PW.pt (pw_or (pt_cmpR (op_neTx hu64) (pe_callTy (call_listD rfl) (by rfl) T.list (by decide +kernel) (pa_cons (pv 11) pa_nil)) (pe_callB (call_sortedD rfl) (by rfl) T.sorted (by decide +kernel) (pa_cons (pv 8) pa_nil)) (nomark _)) (pw_or (pt_cmpR op_ne (pe_callB (cr_sum rfl) (by rfl) T.sum (by decide +kernel) (pa_cons (pe_lock (pe_lc (own := [("key", 14)]) (g := gName 14) (tt := tYes) rfl scL.nd (pi_keys (pv 11)) (blkOk_by (N := nL) (sc := defScope sLaw) (by decide +kernel)) (fun _ _ _ _ _ => pg_name (i := 14) scL.nd rfl (.inl rfl) (.inr rfl)) (fun _ _ _ _ _ => pts_nil) (fun _ _ _ _ _ => pe_dget hu (pv 11) (pv 14) (fun _ _ => rfl)))) pa_nil)) (pv 9) (nomark _)) (pw_or1 (pt_cmpR (op_neSm hu0) (pv 8) (pv 10) (nomark _)))))) (pss_one (ps_ret pe_bl)) pss_nil) (pss_cons (ps_set (i := 12) scL.nd rfl (.inl rfl) (pe_lst pa_nil)) (pss_cons (ps_set (i := 13) scL.nd rfl (.inl rfl) (pe_lst pa_nil)) (pss_cons (ps_for PassesOwn.never rfl (pi_list (pe_callB (call_sortedD rfl) (by rfl) T.sorted (by decide +kernel) (pa_cons (pv 8) pa_nil))) (pg_name (i := 14) scL.nd rfl (.inl rfl)) (pss_cons (ps_set (i := 15) scL.nd rfl (.inl rfl) (pe_op op_fdivW (pe_ix ix_tup (pe_dget hu (pv 8) (pv 14) (fun _ _ => rfl)) pe_int (fun _ _ => rfl)) (pe_ix ix_tup (pe_dget hu (pv 8) (pv 14) (fun _ _ => rfl)) pe_int (fun _ _ => rfl)))) (pss_cons (ps_set (i := 16) scL.nd rfl (.inl rfl) (pe_tup (pa_cons (pe_op op_sub (pe_ix ix_tup (pe_dget hu (pv 8) (pv 14) (fun _ _ => rfl)) pe_int (fun _ _ => rfl)) (pe_op op_mulG (pv 15) (pe_ix ix_tup (pe_dget hu (pv 8) (pv 14) (fun _ _ => rfl)) pe_int (fun _ _ => rfl)))) (pa_cons (pe_ix ix_tup (pe_dget hu (pv 8) (pv 14) (fun _ _ => rfl)) pe_int (fun _ _ => rfl)) pa_nil)))) (pss_one (ps_if (pt_cmpR op_eq (pe_dget hu (pv 11) (pv 14) (fun _ _ => rfl)) (pv 15) (nomark _)) (pss_one (ps_expr (pe_bm PySem.F.plainAttrs_list PySem.F.slot_list_append PySem.F.type_list_append mt_append (pv 13) (pa_cons (pe_tup (pa_cons (pv 16) (pa_cons (pv 14) pa_nil))) pa_nil)))) (pss_one (ps_if (pt_cmpR op_eq (pe_dget hu (pv 11) (pv 14) (fun _ _ => rfl)) (pe_op op_add (pv 15) pe_int) (nomark _)) (pss_one (ps_expr (pe_bm PySem.F.plainAttrs_list PySem.F.slot_list_append PySem.F.type_list_append mt_append (pv 12) (pa_cons (pe_tup (pa_cons (pv 16) (pa_cons (pv 14) pa_nil))) pa_nil)))) (pss_one (ps_ret pe_bl))))))))) (pss_one (ps_for PassesOwn.never rfl (pi_list (pv 12)) (pg_tup (n := 2) rfl (pgs_cons (pg_name (i := 16) scL.nd rfl (.inl rfl)) (pgs_cons (pg_name (i := 14) scL.nd rfl (.inl rfl)) pgs_nil))) (pss_one (ps_for PassesOwn.never rfl (pi_list (pv 13)) (pg_tup (n := 2) rfl (pgs_cons (pg_name (i := 17) scL.nd rfl (.inl rfl)) (pgs_cons (pg_name (i := 18) scL.nd rfl (.inl rfl)) pgs_nil))) (pss_one (ps_if (PW.pt (pw_or (pt_cmpR op_lt (pe_op op_mulG (pe_ix ix_tup (pv 16) pe_int (fun _ _ => rfl)) (pe_ix ix_tup (pv 17) pe_int (fun _ _ => rfl))) (pe_op op_mulG (pe_ix ix_tup (pv 17) pe_int (fun _ _ => rfl)) (pe_ix ix_tup (pv 16) pe_int (fun _ _ => rfl))) (nomark _)) (pw_or1 (PW.pt (pw_and (pt_cmpR op_eq (pe_op op_mulG (pe_ix ix_tup (pv 16) pe_int (fun _ _ => rfl)) (pe_ix ix_tup (pv 17) pe_int (fun _ _ => rfl))) (pe_op op_mulG (pe_ix ix_tup (pv 17) pe_int (fun _ _ => rfl)) (pe_ix ix_tup (pv 16) pe_int (fun _ _ => rfl))) (nomark _)) (pw_and1 (pt_cmpR op_gt_str (pv 14) (pv 18) (nomark _)))))))) (pss_one (ps_ret pe_bl)) pss_nil))))))))))))))
      (pss_one (ps_ret pe_bl)), fun Q a0 ns va vb vc vd v1 v2 Hx hS hlen go => ?_⟩
  generalize ehi : (if (10 : Int) < ((ns.map V.int).length : Int) then (10 : Int) else ((ns.map V.int).length : Int)) = hi
  have hi10 : hi ≤ 63 ∧ 0 ≤ hi := by
    rw [List.length_map] at ehi
    rw [← ehi]
    split <;> omega
  refine ⟨_, rfl, a0, _, rfl, .inl hS, _, _, rfl, 4, hi, by rw [← ehi], ⟨by decide, by decide, by omega, by omega⟩, ?_⟩
  refine for_range (lo := 4) (n := (hi - 4).toNat) (fun i σ H' => ∃ y7 y8 y9 y10 y11 y12 y13 y14 y15 y16 y17 y18, σ = [some (.ref a0), va, vb, vc, vd, v1, v2, y7, y8, y9, y10, y11, y12, y13, y14, y15, y16, y17, y18] ∧ Same Hx H')
    ⟨none, none, none, none, none, none, none, none, none, none, none, none, rfl, Same.refl _⟩ ?_ (fun σ H' _ => go H')
  rintro i σ H0 hi ⟨y7, y8, y9, y10, y11, y12, y13, y14, y15, y16, y17, y18, rfl, sm0⟩
  refine ⟨_, rfl, _, rfl, a0, ns, 4 + (i : Int), rfl, sm0.seq hS, by omega, cell ns (4 + (i : Int)), rfl, fun p H1 d kvs L B due ts n sm1 ep S B0 B1 D hn hsum hok => ⟨p, _, rfl, SqL.of ep, rfl, _, _, rfl, _, _, rfl, rfl, ?_⟩⟩
  have Z := D.sz B0 B1 hn
  have hdue := D.due B0 hsum
  refine ⟨_, rfl, d, kvs, rfl, .inl S.dk, fun dk ndk => ?_⟩
  have S2 := S.same (same_upd (o := .dK kvs) ndk)
  refine ⟨_, rfl, d, kvs, L, due, rfl, S2, Z, hdue, fun cp H3 ys Y lf sm3 ncp elf pe so pY sY eC => ?_⟩
  have S3 := S2.same sm3
  have k3 : H3 dk = some (.dK kvs) := sm3 _ _ upd_same
  generalize ez : (Y.map (·.2)).take lf = zs at eC
  have zy : (Y.map (·.2)).Perm (L.map (·.1)) := by
    rw [← rkL_keys]
    exact pY.map _
  have ndz : zs.Nodup := by
    rw [← ez]
    exact List.Sublist.nodup (List.take_sublist _ _) (zy.nodup_iff.mpr S.nd)
  have memz : ∀ k ∈ zs, k ∈ ys := fun k hk => by
    rw [← ez] at hk
    exact pe.mem_iff.mpr (zy.mem_iff.mp ((List.take_sublist _ _).subset hk))
  have ylen : ys.length = L.length := by rw [pe.length_eq, List.length_map]
  have y64 : ys.length < 64 := by
    have := Z.len
    omega
  have ks2 : kvs.map (·.1) = (L.map (·.1)).map Sum.inr := by
    rw [S.ks, List.map_map]
    rfl
  have l64 : (L.map (·.1)).length < 64 := by
    rw [List.length_map]
    exact Z.len
  have oky : ∀ k ∈ ys, PyData.strOk k = true := fun k hk => hok k (pe.mem_iff.mp hk)
  have ekeys : (coinsK L zs ys).map (fun kv => kV kv.1) = ys.map V.str := by
    unfold coinsK
    rw [List.map_map]
    rfl
  -- list(coins) != sorted(shares)
  refine ⟨_, rfl, cp, _, rfl, .inl eC, fun l4 nl4 => ?_⟩
  rw [ekeys]
  have S4 := S3.same (same_upd (o := .lst (ys.map V.str)) nl4)
  refine ⟨_, rfl, d, kvs, L.map (·.1), rfl, .inl S4.dk, ks2, l64, fun ys5 p5 pe5 so5 np5 => ?_⟩
  have e5 : ys5 = ys := sortedS_one so5 so (pe5.trans pe.symm)
  rw [e5]
  refine ⟨l4, p5, ys, rfl, rfl, SqL.of (by rw [upd_ne (ne_of_none upd_same np5), upd_same]), SqL.of upd_same, oky, _, rfl, iteF ?_⟩
  generalize eH5 : upd (upd H3 l4 (.lst (ys.map V.str))) p5 (.lst (ys.map V.str)) = H5
  have sm5 : Same H3 H5 := by
    rw [← eH5]
    exact (same_upd nl4).trans (same_upd np5)
  have c5 : H5 cp = some (.dK (coinsK L zs ys)) := sm5 _ _ eC
  -- sum([coins[key] for key in coins]) != due
  refine ⟨cp, .dK (coinsK L zs ys), c5, trivial, fun od => ⟨_, rfl, cp, od, rfl, .inl ⟨coinsK L zs ys, upd_same, fun D6 hD6 => ?_⟩⟩⟩
  have cD : cp ≠ D6 := ne_of_none upd_same hD6
  have clen : (coinsK L zs ys).length = ys.length := by
    unfold coinsK
    rw [List.length_map]
  have cat (j : Nat) (k : Str) (h : ys[j]? = some k) : (coinsK L zs ys)[j]? = some (Sum.inr k, V.int (coin L zs k)) := by
    unfold coinsK
    rw [List.getElem?_map, h]
    rfl
  refine lc_it walk_keys (fun j Hy => (∀ b o, H5 b = some o → b ≠ cp → Hy b = some o) ∧ Hy cp = some (.frz od (.dK (coinsK L zs ys))) ∧ Hy D6 = some (.lst (((ys.take j).map (coin L zs)).map V.int))) ⟨fun b o hb hbc => ?_, ?_, upd_same⟩ (fun j Hy _ h => h.2.1) ?_ ?_
  · rw [upd_ne (ne_of_none (by rw [upd_ne hbc]; exact hb) hD6), upd_ne hbc]
    exact hb
  · rw [upd_ne cD, upd_same]
  · rintro j x Hy H' hj ⟨g1, g2, g3⟩ ⟨rfl, key, v, ek, rfl⟩
    rw [clen] at hj
    have ejk : ys[j]? = some ys[j] := List.getElem?_eq_getElem hj
    rw [cat j _ ejk] at ek
    obtain ⟨rfl, rfl⟩ : Sum.inr ys[j] = key ∧ V.int (coin L zs ys[j]) = v := by
      have z := Option.some.inj ek
      exact ⟨congrArg Prod.fst z, congrArg Prod.snd z⟩
    refine ⟨rfl, _, rfl, _, rfl, cp, _, rfl, .inl ⟨_, Sum.inr ys[j], .inr ⟨od, g2⟩, rfl, (valV_map (f := fun k => V.int (coin L zs k)) (List.getElem_mem hj)).symm⟩, _, g3, ?_, ?_, ?_, ?_⟩
    · rw [List.length_map, List.length_map, List.length_take]
      exact small1000 (by omega)
    · intro b o hb hbc
      have hD5 : b ≠ D6 := fun e => by
        rw [e] at hb hbc
        rw [upd_ne hbc, hb] at hD6
        cases hD6
      rw [upd_ne hD5]
      exact g1 b o hb hbc
    · rw [upd_ne cD]
      exact g2
    · rw [upd_same, List.take_add_one, ejk, List.map_append, List.map_append]
      rfl
  rintro Hy ⟨g1, g2, g3⟩
  rw [clen, List.take_length] at g3
  refine ⟨g2, ?_⟩
  generalize eH6 : upd Hy cp (.dK (coinsK L zs ys)) = H6
  have sm6 : Same H5 H6 := fun b o hb => by
    rw [← eH6]
    by_cases hbc : b = cp
    · rw [hbc] at hb ⊢
      rw [c5] at hb
      rw [upd_same]
      exact hb
    · rw [upd_ne hbc]
      exact g1 b o hb hbc
  have e6 : H6 D6 = some (.lst ((ys.map (coin L zs)).map V.int)) := by
    rw [← eH6, upd_ne cD.symm]
    exact g3
  have zl : zs.length = lf := by
    have t := flo_top hdue
    have yl : (Y.map (·.2)).length = L.length := by rw [zy.length_eq, List.length_map]
    rw [← ez, List.length_take, yl]
    omega
  have esum : (ys.map (coin L zs)).sum = due := by
    rw [coin_sum S.nd pe ndz memz, zl]
    omega
  refine ⟨D6, _, rfl, SqL.of e6, _, rfl, rfl, _, rfl, iteNS (congrArg V.int esum) ?_⟩
  -- shares != kept
  have S6 := (S3.same sm5).same sm6
  have k6 : H6 dk = some (.dK kvs) := sm6 _ _ (sm5 _ _ k3)
  have refs : ∀ x ∈ kvs, ∃ t, x.2 = .ref t := fun x hx => by
    obtain ⟨j, hj⟩ := List.mem_iff_getElem?.mp hx
    have hjl : j < L.length := by
      rw [← S.len]
      exact (List.getElem?_eq_some_iff.mp hj).1
    obtain ⟨t, et, _⟩ := S.at (show L[j]? = some (L[j].1, L[j].2) from List.getElem?_eq_getElem hjl)
    rw [hj] at et
    exact ⟨t, congrArg Prod.snd (Option.some.inj et)⟩
  refine ⟨_, rfl, _, rfl, d, dk, kvs, rfl, rfl, S6.dk, k6, S.ndk, refs, _, rfl, iteF ?_⟩
  -- more = []; less = []
  refine ⟨Nat.zero_le _, fun m nm => ⟨Nat.zero_le _, fun l nl => ?_⟩⟩
  have ml : m ≠ l := ne_of_none upd_same nl
  have S8 := (S6.same (same_upd (o := .lst []) nm)).same (same_upd (o := .lst []) nl)
  refine ⟨_, rfl, d, kvs, L.map (·.1), rfl, .inl S8.dk, ks2, l64, fun ys9 p9 pe9 so9 np9 => ?_⟩
  have e9 : ys9 = ys := sortedS_one so9 so (pe9.trans pe.symm)
  rw [e9]
  generalize eH9 : upd (upd (upd H6 m (.lst [])) l (.lst [])) p9 (.lst (ys.map V.str)) = H9
  have sm9 : Same H6 H9 := by
    rw [← eH9]
    exact ((same_upd nm).trans (same_upd nl)).trans (same_upd np9)
  have m9 : H9 m = some (.lst []) := by
    rw [← eH9, upd_ne (ne_of_none (by rw [upd_ne ml, upd_same]) np9), upd_ne ml, upd_same]
  have l9 : H9 l = some (.lst []) := by
    rw [← eH9, upd_ne (ne_of_none upd_same np9), upd_same]
  have q9 : H9 p9 = some (.lst (ys.map V.str)) := by
    rw [← eH9, upd_same]
  have pm : p9 ≠ m := fun e => by
    rw [e, upd_ne ml, upd_same] at np9
    cases np9
  have pl : p9 ≠ l := fun e => by
    rw [e, upd_same] at np9
    cases np9
  have S9 := S6.same sm9
  have c9 : H9 cp = some (.dK (coinsK L zs ys)) := sm9 _ _ (sm6 _ _ c5)
  have dm : d ≠ m := ne_of S9.dk m9 (by intro e; cases e)
  have dl : d ≠ l := ne_of S9.dk l9 (by intro e; cases e)
  have cm : cp ≠ m := ne_of c9 m9 (by intro e; cases e)
  have cl : cp ≠ l := ne_of c9 l9 (by intro e; cases e)
  refine ⟨p9, rfl, ⟨_, SqL.of q9⟩, for_list (K := K) (a := p9) (xs := ys.map V.str) (fun j σ Hy => ∃ y14 y15 y16 y17 y18, ∃ ms ls : List Addr, σ = [some (.ref a0), va, vb, vc, vd, v1, v2, some (.int (4 + (i : Int))), some (.ref d), some (.int due), some (.ref dk), some (.ref cp), some (.ref m), some (.ref l), y14, y15, y16, y17, y18] ∧
    (∀ b o, H9 b = some o → b ≠ m → b ≠ l → Hy b = some o) ∧ Hy m = some (.lst (ms.map V.ref)) ∧ Hy l = some (.lst (ls.map V.ref)) ∧ ms.length ≤ j ∧ ls.length ≤ j ∧ (∀ t ∈ ms, ∃ k, k ∈ zs ∧ Ent L Hy t k) ∧ ∀ t ∈ ls, ∃ k, k ∉ zs ∧ k ∈ ys ∧ Ent L Hy t k)
    ⟨y14, y15, y16, y17, y18, [], [], rfl, fun b o hb _ _ => hb, m9, l9, Nat.le_refl _, Nat.le_refl _, (fun t ht => by cases ht), fun t ht => by cases ht⟩ (fun j σ Hy _ ⟨_, _, _, _, _, _, _, _, g, _⟩ => SqL.of (g p9 _ q9 pm pl)) ?_ ?_⟩
  · rintro j x σ Hy hj ⟨y14, y15, y16, y17, y18, ms, ls, rfl, g, gm, gl, lm, ll, em, el⟩
    obtain ⟨k, ek, rfl⟩ : ∃ k, ys[j]? = some k ∧ x = .str k := by
      rw [List.getElem?_map] at hj
      obtain ⟨k, h1, h2⟩ := Option.map_eq_some_iff.mp hj
      exact ⟨k, h1, h2.symm⟩
    have hky : k ∈ ys := List.mem_of_getElem? ek
    have hjl : j < 64 := by
      have := (List.getElem?_eq_some_iff.mp ek).1
      omega
    obtain ⟨z, q, hz⟩ := key_at (pe.mem_iff.mp hky)
    obtain ⟨t, _, ev, ht⟩ := S9.at hz
    have evq : vq L k = q := vq_at S.nd hz
    obtain ⟨q64, qsz⟩ := Z.each q (List.mem_map.mpr ⟨(k, q), List.mem_of_getElem? hz, rfl⟩)
    have hty : SqT K Hy t (fv q) := by
      rcases ht with (h | ⟨o, h⟩) | h
      · exact .inl (.inl (g _ _ h (ne_of h m9 (by intro e; cases e)) (ne_of h l9 (by intro e; cases e))))
      · exact .inl (.inr ⟨o, g _ _ h (ne_of h m9 (by intro e; cases e)) (ne_of h l9 (by intro e; cases e))⟩)
      · exact .inr h
    have G1 : DGet Hy d (.str k) (some (.ref t)) := .inl ⟨kvs, Sum.inr k, .inl (g _ _ S9.dk dm dl), rfl, ev.symm⟩
    have cy : Hy cp = some (.dK (coinsK L zs ys)) := g _ _ c9 cm cl
    have cdv : CDivW q.num (q.den : Int) := wide_div (b := 4000) (den_pos q) qsz.d.lt (by decide) (by decide)
    refine ⟨_, rfl, _, rfl, d, .ref t, rfl, G1, t, _, 0, _, rfl, rfl, hty, atI_nat (j := 0) rfl, _, rfl, _, rfl, d, .ref t, rfl, G1, t, _, 1, _, rfl, rfl, hty, atI_nat (j := 1) rfl, _, _, rfl, rfl, cdv, ?_⟩
    refine ⟨_, rfl, _, rfl, d, .ref t, rfl, G1, t, _, 0, _, rfl, rfl, hty, atI_nat (j := 0) rfl, _, rfl, _, rfl, _, rfl, d, .ref t, rfl, G1, t, _, 1, _, rfl, rfl, hty, atI_nat (j := 1) rfl, _, _, rfl, rfl, flr_ok qsz, _, _, rfl, rfl, _, rfl, _, rfl, d, .ref t, rfl, G1, t, _, 1, _, rfl, rfl, hty, atI_nat (j := 1) rfl, by show 2 ≤ sizeLine; decide, fun r nr => ?_⟩
    have er : upd Hy r (.tup [.int (q.num - q.num / (q.den : Int) * (q.den : Int)), .int (q.den : Int)]) r = some (.tup [.int (frq (vq L k)), .int ((vq L k).den : Int)]) := by
      rw [upd_same, frq_eq, evq]
    have cr : ∀ o, upd Hy r o cp = some (.dK (coinsK L zs ys)) := fun o => by
      rw [upd_ne (ne_of_none cy nr)]
      exact cy
    have G2 : ∀ o, DGet (upd Hy r o) cp (.str k) (some (.int (coin L zs k))) := fun o => .inl ⟨_, Sum.inr k, .inl (cr o), rfl, (valV_map (f := fun k => V.int (coin L zs k)) hky).symm⟩
    have mr : m ≠ r := ne_of_none gm nr
    have lr : l ≠ r := ne_of_none gl nr
    -- how an entry goes on
    have ent (T : Addr) (nT : upd Hy r (.tup [.int (q.num - q.num / (q.den : Int) * (q.den : Int)), .int (q.den : Int)]) T = none) (w : Addr) (lw : List V) (hw : Hy w = some (.lst lw)) (o : HO) :
        Ent L (upd (upd (upd Hy r (.tup [.int (q.num - q.num / (q.den : Int) * (q.den : Int)), .int (q.den : Int)])) T (.tup [.ref r, .str k])) w o) T k := by
      have rT : r ≠ T := ne_of_none upd_same nT
      have wr : w ≠ r := ne_of_none hw nr
      have wT : w ≠ T := ne_of_none (by rw [upd_ne wr]; exact hw) nT
      refine ⟨r, ?_, ?_⟩
      · rw [upd_ne wT.symm, upd_same]
      · rw [upd_ne wr.symm, upd_ne rT]
        exact er
    have old (T : Addr) (nT : upd Hy r (.tup [.int (q.num - q.num / (q.den : Int) * (q.den : Int)), .int (q.den : Int)]) T = none) (w : Addr) (lw : List V) (hw : Hy w = some (.lst lw)) (o : HO) :
        ∀ b u, Hy b = some u → b ≠ w → upd (upd (upd Hy r (.tup [.int (q.num - q.num / (q.den : Int) * (q.den : Int)), .int (q.den : Int)])) T (.tup [.ref r, .str k])) w o b = some u := fun b u hb hbw => by
      have br : b ≠ r := ne_of_none hb nr
      have bT : b ≠ T := ne_of_none (by rw [upd_ne br]; exact hb) nT
      rw [upd_ne hbw, upd_ne bT, upd_ne br]
      exact hb
    have ewf : q.num / (q.den : Int) = (vq L k).floor := by rw [evq, Rat.floor_def]
    by_cases hkz : k ∈ zs
    · have ec : coin L zs k = (vq L k).floor + 1 := by
        unfold coin
        rw [if_pos hkz]
      refine ⟨_, rfl, _, rfl, cp, _, rfl, G2 _, _, rfl, rfl, _, rfl, ite2 (fun e => ?_) (fun _ => ?_)⟩
      · have e' := V.int.inj (of_decide_eq_true e)
        omega
      refine ⟨_, rfl, _, rfl, cp, _, rfl, G2 _, _, rfl, _, _, rfl, rfl, rfl, _, rfl, ite2 (fun _ => ?_) (fun e => ?_)⟩
      · refine ⟨.ref m, rfl, .inl ⟨rfl, _, SqL.of (by rw [upd_ne mr]; exact gm)⟩, _, rfl, _, rfl, by show 2 ≤ sizeLine; decide, fun T nT => ?_⟩
        have mT : m ≠ T := ne_of_none (by rw [upd_ne mr]; exact gm) nT
        refine ⟨m, _, _, rfl, rfl, by rw [upd_ne mT, upd_ne mr]; exact gm, by rw [List.length_map]; exact small1000 (by omega), ?_⟩
        have od := old T nT m _ gm (.lst (ms.map V.ref ++ [V.ref T]))
        refine ⟨some (.str k), some (.int (q.num / (q.den : Int))), some (.ref r), y17, y18, ms ++ [T], ls, rfl, fun b o hb hbm hbl => od b o (g b o hb hbm hbl) hbm, ?_, ?_, ?_, Nat.le_succ_of_le ll, fun u hu => ?_, fun u hu => ?_⟩
        · rw [upd_same, List.map_append]
          rfl
        · exact od l _ gl ml.symm
        · rw [List.length_append, List.length_singleton]
          omega
        · rcases List.mem_append.mp hu with hu | hu
          · obtain ⟨k', h1, h2⟩ := em u hu
            exact ⟨k', h1, h2.keep fun b xs hb => od b _ hb (ne_of hb gm (by intro e; cases e))⟩
          · rw [List.mem_singleton.mp hu]
            exact ⟨k, hkz, ent T nT m _ gm _⟩
        · obtain ⟨k', h1, h2, h3⟩ := el u hu
          exact ⟨k', h1, h2, h3.keep fun b xs hb => od b _ hb (ne_of hb gm (by intro e; cases e))⟩
      · exact absurd (decide_eq_true (congrArg V.int (by rw [ec, ewf]))) e
    · have ec : coin L zs k = (vq L k).floor := by
        unfold coin
        rw [if_neg hkz, Int.add_zero]
      refine ⟨_, rfl, _, rfl, cp, _, rfl, G2 _, _, rfl, rfl, _, rfl, ite2 (fun _ => ?_) (fun e => ?_)⟩
      · refine ⟨.ref l, rfl, .inl ⟨rfl, _, SqL.of (by rw [upd_ne lr]; exact gl)⟩, _, rfl, _, rfl, by show 2 ≤ sizeLine; decide, fun T nT => ?_⟩
        have lT : l ≠ T := ne_of_none (by rw [upd_ne lr]; exact gl) nT
        refine ⟨l, _, _, rfl, rfl, by rw [upd_ne lT, upd_ne lr]; exact gl, by rw [List.length_map]; exact small1000 (by omega), ?_⟩
        have od := old T nT l _ gl (.lst (ls.map V.ref ++ [V.ref T]))
        refine ⟨some (.str k), some (.int (q.num / (q.den : Int))), some (.ref r), y17, y18, ms, ls ++ [T], rfl, fun b o hb hbm hbl => od b o (g b o hb hbm hbl) hbl, ?_, ?_, Nat.le_succ_of_le lm, ?_, fun u hu => ?_, fun u hu => ?_⟩
        · exact od m _ gm ml
        · rw [upd_same, List.map_append]
          rfl
        · rw [List.length_append, List.length_singleton]
          omega
        · obtain ⟨k', h1, h2⟩ := em u hu
          exact ⟨k', h1, h2.keep fun b xs hb => od b _ hb (ne_of hb gl (by intro e; cases e))⟩
        · rcases List.mem_append.mp hu with hu | hu
          · obtain ⟨k', h1, h2, h3⟩ := el u hu
            exact ⟨k', h1, h2, h3.keep fun b xs hb => od b _ hb (ne_of hb gl (by intro e; cases e))⟩
          · rw [List.mem_singleton.mp hu]
            exact ⟨k, hkz, hky, ent T nT l _ gl _⟩
      · exact absurd (decide_eq_true (congrArg V.int (by rw [ec, ewf]))) e
  · rintro σ Hf ⟨y14, y15, y16, y17, y18, ms, ls, rfl, g, gm, gl, lm, ll, em, el⟩
    have v64 : ∀ k, k ∈ ys → (vq L k).den < 2 ^ 64 := fun k hk => by
      obtain ⟨z, q, hz⟩ := key_at (pe.mem_iff.mp hk)
      rw [vq_at S.nd hz]
      exact (Z.each q (List.mem_map.mpr ⟨(k, q), List.mem_of_getElem? hz, rfl⟩)).1
    have nmx : Hx m = none := (((sm0.trans (sm1.trans (same_upd ndk))).trans sm3).trans (sm5.trans sm6)).free nm
    have nlx : Hx l = none := ((((sm0.trans (sm1.trans (same_upd ndk))).trans sm3).trans (sm5.trans sm6)).trans (same_upd nm)).free nl
    have smF : Same Hx Hf := fun b o hb => g b o (sm9 _ _ ((((sm0.trans (sm1.trans (same_upd ndk))).trans sm3).trans (sm5.trans sm6)) b o hb)) (ne_of_none hb nmx) (ne_of_none hb nlx)
    refine ⟨_, rfl, m, rfl, ⟨_, SqL.of gm⟩, for_list (K := K) (a := m) (xs := ms.map V.ref) (fun j σ Hz => ∃ y14 y16 y17 y18, σ = [some (.ref a0), va, vb, vc, vd, v1, v2, some (.int (4 + (i : Int))), some (.ref d), some (.int due), some (.ref dk), some (.ref cp), some (.ref m), some (.ref l), y14, y15, y16, y17, y18] ∧ Hz = Hf)
      ⟨y14, y16, y17, y18, rfl, rfl⟩ (fun j σ Hz _ ⟨_, _, _, _, _, e⟩ => by rw [e]; exact SqL.of gm) ?_ ?_⟩
    · rintro j x σ Hz hj ⟨y14, y16, y17, y18, rfl, rfl⟩
      obtain ⟨t, ht, rfl⟩ := List.mem_map.mp (List.mem_of_getElem? hj)
      obtain ⟨k, hkz, E⟩ := em t ht
      obtain ⟨r, t1, r1⟩ := E.at'
      have kd := v64 k (memz k hkz)
      refine ⟨t, _, rfl, SqT.of t1, rfl, _, _, rfl, _, _, rfl, rfl, ?_⟩
      refine ⟨_, rfl, l, rfl, ⟨_, SqL.of gl⟩, for_list (K := K) (a := l) (xs := ls.map V.ref) (fun j σ Hw => ∃ y17 y18, σ = [some (.ref a0), va, vb, vc, vd, v1, v2, some (.int (4 + (i : Int))), some (.ref d), some (.int due), some (.ref dk), some (.ref cp), some (.ref m), some (.ref l), some (.str k), y15, some (.ref r), y17, y18] ∧ Hw = Hz)
        ⟨y17, y18, rfl, rfl⟩ (fun j σ Hw _ ⟨_, _, _, e⟩ => by rw [e]; exact SqL.of gl) ?_ ?_⟩
      · rintro j2 x σ Hw hj2 ⟨y17, y18, rfl, rfl⟩
        obtain ⟨t', ht', rfl⟩ := List.mem_map.mp (List.mem_of_getElem? hj2)
        obtain ⟨n', hnz, hny, E'⟩ := el t' ht'
        obtain ⟨r', t2, r2⟩ := E'.at'
        have nd' := v64 n' hny
        have o1 : IntMulOk (frq (vq L k)) ((vq L n').den : Int) := frq_ok kd nd'
        have o2 : IntMulOk (frq (vq L n')) ((vq L k).den : Int) := frq_ok nd' kd
        obtain ⟨w1, w2⟩ := look S.nd pY sY (lf := lf) (k := k) (n := n') (by rw [ez]; exact hkz) (by rw [ez]; exact hnz) (pe.mem_iff.mp hny)
        refine ⟨t', _, rfl, SqT.of t2, rfl, _, _, rfl, _, _, rfl, rfl, ?_⟩
        refine ⟨_, rfl, r, _, 0, _, rfl, rfl, SqT.of r1, atI_nat (j := 0) rfl, _, rfl, r', _, 1, _, rfl, rfl, SqT.of r2, atI_nat (j := 1) rfl, _, _, rfl, rfl, o1, _, rfl, r', _, 0, _, rfl, rfl, SqT.of r2, atI_nat (j := 0) rfl, _, rfl, r, _, 1, _, rfl, rfl, SqT.of r1, atI_nat (j := 1) rfl, _, _, rfl, rfl, o2, _, _, rfl, rfl, _, rfl, ite2 (fun e => ?_) (fun _ => ?_)⟩
        · exact absurd (of_decide_eq_true e) (Int.not_lt.mpr w1)
        refine ⟨_, rfl, r, _, 0, _, rfl, rfl, SqT.of r1, atI_nat (j := 0) rfl, _, rfl, r', _, 1, _, rfl, rfl, SqT.of r2, atI_nat (j := 1) rfl, _, _, rfl, rfl, o1, _, rfl, r', _, 0, _, rfl, rfl, SqT.of r2, atI_nat (j := 0) rfl, _, rfl, r, _, 1, _, rfl, rfl, SqT.of r1, atI_nat (j := 1) rfl, _, _, rfl, rfl, o2, rfl, _, rfl, ite2 (fun e => ?_) (fun _ => ?_)⟩
        · have e' : frq (vq L k) * ((vq L n').den : Int) = frq (vq L n') * ((vq L k).den : Int) := V.int.inj (of_decide_eq_true e)
          refine ⟨_, rfl, _, rfl, _, _, rfl, rfl, _, rfl, ite2 (fun e2 => ?_) (fun _ => ?_)⟩
          · exact absurd (of_decide_eq_true e2) (w2 e')
          · exact ⟨_, _, rfl, rfl⟩
        · exact ⟨_, _, rfl, rfl⟩
      · rintro σ Hw ⟨y17, y18, rfl, rfl⟩
        exact ⟨_, _, _, _, rfl, rfl⟩
    · rintro σ Hz ⟨y14, y16, y17, y18, rfl, rfl⟩
      exact ⟨_, _, _, _, _, _, _, _, _, _, _, _, rfl, smF⟩
end
end K0
namespace K0
open PySem L2 PyProof.Rows PySem.Spec SrtO
section
variable {P : Program} {w : World} {K : PySem.W.Frag} {mg : Str → Option Value} {base : Heap}
theorem law_tail (T : LT P w K mg base) (f : Addr) (cdv : Value) (A : Around) (outer : List Env) (s : Shared) (H : Hp) (E : XK) (hr : Room 4 (A.deeper (envOfC "law" (defScope sLaw) s.heap.objs.size f cdv))) :
    ∃ t, PSs (LX P w K mg base f cdv A outer s H E) ((defBody sLaw).drop 11) t ∧ ∀ (Q : VK) (a0 : Addr) (ns : List Int) (va vb vc vd : Option V) (p1 p2 : Addr) (q1 q2 : Rat) (Hx : Hp), SqL K Hx a0 (ns.map V.int) → ns.length ≤ 63 → SqT K Hx p1 (fv q1) → SqT K Hx p2 (fv q2) → Sz 1048576 14 q1 → Sz 1048576 10 q2 → (∀ H', Q (.bl true) H') → t { nx := fun _ H' => Q .non H', rt := Q } [some (.ref a0), va, vb, vc, vd, some (.ref p1), some (.ref p2), none, none, none, none, none, none, none, none, none, none, none, none] Hx := by
  obtain ⟨tF, hF, rF⟩ := law_for T f cdv A outer s H E hr
  obtain ⟨fC, fdC, mC, kC, bC, GC⟩ := T.C.ok
  obtain ⟨fS, fdS, mS, kS, bS, GS⟩ := T.S.ok
  obtain ⟨fL, fdL, mL, kL, bL, GL⟩ := T.L.ok
  obtain ⟨fFr, fdFr, mFr, kFr, bFr, GFr⟩ := T.Fr.ok
  obtain ⟨fPl, fdPl, mPl, kPl, bPl, GPl⟩ := T.Pl.ok
  obtain ⟨fMi, fdMi, mMi, kMi, bMi, GMi⟩ := T.Mi.ok
  obtain ⟨fTi, fdTi, mTi, kTi, bTi, GTi⟩ := T.Ti.ok
  obtain ⟨fOv, fdOv, mOv, kOv, bOv, GOv⟩ := T.Ov.ok
  obtain ⟨fLe, fdLe, mLe, kLe, bLe, GLe⟩ := T.Le.ok
  obtain ⟨fWh, fdWh, mWh, kWh, bWh, GWh⟩ := T.Wh.ok
  obtain ⟨fTo, fdTo, mTo, kTo, bTo, GTo⟩ := T.To.ok
  obtain ⟨fIn, fdIn, mIn, kIn, bIn, GIn⟩ := T.In.ok
  obtain ⟨aZ, mZ, hZ⟩ := T.zero
  obtain ⟨aO, mO, hO⟩ := T.one
  have hu := hu_of hr
  have hu64 := hr.units
  have hu0 := hr.units0
  refine ⟨_, pss_cons
      (ps_if (PW.pt (pw_or (pt_cmpR op_ne (pe_call GLe hr (by rfl) mLe kLe bLe .nil pass0 (pa_cons (pv 5) (pa_cons (pv 6) pa_nil))) (pe_cmpR op_lt (pe_op op_mulG (pe_ix ix_tup (pv 5) pe_int (fun _ _ => rfl)) (pe_ix ix_tup (pv 6) pe_int (fun _ _ => rfl))) (pe_op op_mulG (pe_ix ix_tup (pv 6) pe_int (fun _ _ => rfl)) (pe_ix ix_tup (pv 5) pe_int (fun _ _ => rfl))) (nomark _)) (nomark _)) (pw_or1 (pt_cmpR op_isnot_bl (pe_call GLe hr (by rfl) mLe kLe bLe .nil pass0 (pa_cons (pv 5) (pa_cons (pv 5) pa_nil))) pe_bl (nomark _))))) (pss_one (ps_ret pe_bl)) pss_nil)
      (pss_cons
      (ps_if (PW.pt (pw_or (pt_cmpR op_ne (pe_call GWh hr (by rfl) mWh kWh bWh .nil pass0 (pa_cons (pv 6) pa_nil)) (pe_op op_fdivW (pe_ix ix_tup (pv 6) pe_int (fun _ _ => rfl)) (pe_ix ix_tup (pv 6) pe_int (fun _ _ => rfl))) (nomark _)) (pw_or (pt_cmpR (op_neFr hu64) (pe_call GTo hr (by rfl) mTo kTo bTo .nil pass0 (pa_cons (pe_lst (pa_cons (pv 5) (pa_cons (pv 6) (pa_cons (pv 5) pa_nil)))) pa_nil)) (pe_call GPl hr (by rfl) mPl kPl bPl .nil pass0 (pa_cons (pv 5) (pa_cons (pe_call GPl hr (by rfl) mPl kPl bPl .nil pass0 (pa_cons (pv 5) (pa_cons (pv 6) pa_nil))) pa_nil))) (nomark _)) (pw_or1 (pt_cmpR (op_neFr hu64) (pe_call GTo hr (by rfl) mTo kTo bTo .nil pass0 (pa_cons (pe_lst pa_nil) pa_nil)) (pe_tup (pa_cons pe_int (pa_cons pe_int pa_nil))) (nomark _)))))) (pss_one (ps_ret pe_bl)) pss_nil)
      (hF)), fun Q a0 ns va vb vc vd p1 p2 q1 q2 Hx hS hlen f1 f2 z1 z2 go => ?_⟩
  have g1 := z1.fsz (by decide) (by decide) (by decide)
  have g2 := z2.fsz (by decide) (by decide) (by decide)
  have z12 : Sz 1048601 24 (q1 + q2) := z1.add z2
  have g12 : FSz (q1 + q2) := z12.fsz (by decide) (by decide) (by decide)
  have g121 : FSz (q1 + q2 + q1) := (z12.add (z1.mono (by decide))).fsz (by decide) (by decide) (by decide)
  -- is_less
  refine ⟨_, rfl, _, rfl, p1, p2, q1, q2, rfl, f1, f2, g1, g2, _, rfl, p1, _, 0, _, rfl, rfl, f1, atI_nat (j := 0) rfl, _, rfl, p2, _, 1, _, rfl, rfl, f2, atI_nat (j := 1) rfl, _, _, rfl, rfl, g1.nd g2, _, rfl, p2, _, 0, _, rfl, rfl, f2, atI_nat (j := 0) rfl, _, rfl, p1, _, 1, _, rfl, rfl, f1, atI_nat (j := 1) rfl, _, _, rfl, rfl, g2.nd g1, _, _, rfl, rfl, rfl, _, rfl, iteNS rfl ?_⟩
  refine ⟨_, rfl, _, rfl, p1, p1, q1, q1, rfl, f1, f1, g1, g1, _, _, rfl, rfl, _, rfl, iteNS (decide_eq_false (Int.lt_irrefl _)) ?_⟩
  -- whole_part, total
  refine ⟨_, rfl, p2, q2, rfl, f2, g2.d9, _, rfl, p2, _, 0, _, rfl, rfl, f2, atI_nat (j := 0) rfl, _, rfl, p2, _, 1, _, rfl, rfl, f2, atI_nat (j := 1) rfl, _, _, rfl, rfl, wide_div (b := 4000) (den_pos q2) g2.d.lt (by decide) (by decide), rfl, _, rfl, iteNS (congrArg V.int (Rat.floor_def q2)) ?_⟩
  refine ⟨_, rfl, _, rfl, _, rfl, by show 3 ≤ sizeLine; decide, fun l nl => ?_⟩
  have k1 : ∀ o, SqT K (upd Hx l o) p1 (fv q1) := fun o => sameT (same_upd nl) f1
  have k2 : ∀ o, SqT K (upd Hx l o) p2 (fv q2) := fun o => sameT (same_upd nl) f2
  refine ⟨l, _, [q1, q2, q1], rfl, SqL.of upd_same, ⟨rfl, fun i v q h1 h2 => ?_⟩, fun i => ?_, fun q hq => ?_, fun x H1 sm1 e1 => ?_⟩
  · match i, h1, h2 with
    | 0, h1, h2 => cases h1; cases h2; exact ⟨p1, rfl, k1 _⟩
    | 1, h1, h2 => cases h1; cases h2; exact ⟨p2, rfl, k2 _⟩
    | 2, h1, h2 => cases h1; cases h2; exact ⟨p1, rfl, k1 _⟩
    | n + 3, h1, h2 => cases h1
  · match i with
    | 0 => exact FSz.zero
    | 1 =>
      show FSz (0 + q1)
      rw [Rat.zero_add]
      exact g1
    | 2 =>
      show FSz (0 + q1 + q2)
      rw [Rat.zero_add]
      exact g12
    | n + 3 =>
      show FSz (qsum (q1 :: q2 :: q1 :: List.take n []))
      rw [List.take_nil]
      show FSz (0 + q1 + q2 + q1)
      rw [Rat.zero_add]
      exact g121
  · rcases List.mem_cons.mp hq with e | hq
    · rw [e]; exact g1
    · rcases List.mem_cons.mp hq with e | hq
      · rw [e]; exact g2
      · rw [List.mem_singleton.mp hq]; exact g1
  rw [qsum3] at e1
  have j1 := sameT sm1 (k1 _)
  have j2 := sameT sm1 (k2 _)
  refine ⟨_, rfl, _, rfl, _, rfl, p1, p2, q1, q2, rfl, j1, j2, ⟨g1, g2, trivial⟩, fun y H2 sm2 e2 => ?_⟩
  refine ⟨p1, y, q1, q1 + q2, rfl, sameT sm2 j1, e2, ⟨g1, g12, trivial⟩, fun z H3 sm3 e3 => ?_⟩
  refine ⟨x, z, _, rfl, rfl, sameT sm3 (sameT sm2 e1), e3, _, rfl, iteF ?_⟩
  refine ⟨Nat.zero_le _, fun l2 nl2 => ⟨l2, [], [], rfl, SqL.of upd_same, ⟨rfl, (fun i v q h1 _ => by cases h1)⟩, fun i => by rw [List.take_nil]; exact FSz.zero, (fun q hq => by cases hq), fun x4 H4 sm4 e4 => ?_⟩⟩
  refine ⟨by show 2 ≤ sizeLine; decide, fun t nt => ⟨x4, t, 0, rfl, rfl, sameT (same_upd nt) e4, SqT.of upd_same, _, rfl, iteF ?_⟩⟩
  refine rF Q a0 ns va vb vc vd _ _ _ ?_ hlen go
  exact ((((((same_upd nl).trans sm1).trans sm2).trans sm3).trans (same_upd nl2)).trans sm4 |>.trans (same_upd nt)).seq hS
end
end K0
namespace K0
open PySem L2 PyProof.Rows PySem.Spec SrtO
section
variable {P : Program} {w : World} {K : PySem.W.Frag} {mg : Str → Option Value} {base : Heap}
theorem ok_law {f : Addr} {fd : FuncData} (F : Fun K "law" "law" sLaw f fd) (T : LT P w K mg base) : FnOk P w K mg base CX0 5 f fd ["script"] (spLaw K) := by
  obtain ⟨fC, fdC, mC, kC, bC, GC⟩ := T.C.ok
  obtain ⟨fS, fdS, mS, kS, bS, GS⟩ := T.S.ok
  obtain ⟨fL, fdL, mL, kL, bL, GL⟩ := T.L.ok
  obtain ⟨fFr, fdFr, mFr, kFr, bFr, GFr⟩ := T.Fr.ok
  obtain ⟨fPl, fdPl, mPl, kPl, bPl, GPl⟩ := T.Pl.ok
  obtain ⟨fMi, fdMi, mMi, kMi, bMi, GMi⟩ := T.Mi.ok
  obtain ⟨fTi, fdTi, mTi, kTi, bTi, GTi⟩ := T.Ti.ok
  obtain ⟨fOv, fdOv, mOv, kOv, bOv, GOv⟩ := T.Ov.ok
  obtain ⟨fLe, fdLe, mLe, kLe, bLe, GLe⟩ := T.Le.ok
  obtain ⟨fWh, fdWh, mWh, kWh, bWh, GWh⟩ := T.Wh.ok
  obtain ⟨fTo, fdTo, mTo, kTo, bTo, GTo⟩ := T.To.ok
  obtain ⟨fIn, fdIn, mIn, kIn, bIn, GIn⟩ := T.In.ok
  obtain ⟨aZ, mZ, hZ⟩ := T.zero
  obtain ⟨aO, mO, hO⟩ := T.one
  refine F.ok scL (fun vs H Q E h => ?_) (fun cdv A outer s H vs Q E hr h => ?_)
  · obtain ⟨a, ns, rfl, _⟩ := h
    rfl
  · obtain ⟨a0, ns, rfl, hS, hlen, hbits, go⟩ := h
    have hu := hu_of hr
    have hu64 := hr.units
    have hu0 := hr.units0
    obtain ⟨tT, hT, rT⟩ := law_tail T f cdv A outer s H E hr
    refine ⟨_, pss_cons
      (ps_set (i := 1) scL.nd rfl (.inl rfl) (pe_call GC hr (by rfl) mC kC bC .nil pass0 (pa_cons (pv 0) (pa_cons pe_int pa_nil))))
      (pss_cons
      (ps_set (i := 2) scL.nd rfl (.inl rfl) (pe_op op_add pe_int (pe_op op_mod (pe_callB call_abs (by rfl) T.abs (by decide +kernel) (pa_cons (pe_call GC hr (by rfl) mC kC bC .nil pass0 (pa_cons (pv 0) (pa_cons pe_int pa_nil))) pa_nil)) pe_int)))
      (pss_cons
      (ps_set (i := 3) scL.nd rfl (.inl rfl) (pe_op op_sub (pe_op op_mod (pe_call GC hr (by rfl) mC kC bC .nil pass0 (pa_cons (pv 0) (pa_cons pe_int pa_nil))) pe_int) pe_int))
      (pss_cons
      (ps_set (i := 4) scL.nd rfl (.inl rfl) (pe_op op_mulG (pe_ix ix_list (pe_lst (pa_cons pe_int (pa_cons (pe_op op_sub pe_int pe_int) pa_nil))) (pe_op op_mod (pe_callB call_abs (by rfl) T.abs (by decide +kernel) (pa_cons (pe_call GC hr (by rfl) mC kC bC .nil pass0 (pa_cons (pv 0) (pa_cons pe_int pa_nil))) pa_nil)) pe_int) (fun _ _ => rfl)) (pe_op op_add pe_int (pe_op op_mod (pe_callB call_abs (by rfl) T.abs (by decide +kernel) (pa_cons (pe_call GC hr (by rfl) mC kC bC .nil pass0 (pa_cons (pv 0) (pa_cons pe_int pa_nil))) pa_nil)) pe_int))))
      (pss_cons
      (ps_set (i := 5) scL.nd rfl (.inl rfl) (pe_call GL hr (by rfl) mL kL bL .nil pass0 (pa_cons (pv 1) (pa_cons (pv 2) pa_nil))))
      (pss_cons
      (ps_set (i := 6) scL.nd rfl (.inl rfl) (pe_call GL hr (by rfl) mL kL bL .nil pass0 (pa_cons (pv 3) (pa_cons (pv 4) pa_nil))))
      (pss_cons
      (ps_if (PW.pt (pw_or (pt_cmpR (op_neFr hu64) (pe_call GFr hr (by rfl) mFr kFr bFr .nil pass0 (pa_cons (pv 1) (pa_cons (pv 2) pa_nil))) (pv 5) (nomark _)) (pw_or (pt_cmpR (op_neFr hu64) (pe_call GFr hr (by rfl) mFr kFr bFr .nil pass0 (pa_cons (pv 3) (pa_cons (pv 4) pa_nil))) (pv 6) (nomark _)) (pw_or (pt_cmpR (op_neFr hu64) (pe_glob (v := .ref aZ) (by rfl) mZ rfl) (pe_tup (pa_cons pe_int (pa_cons pe_int pa_nil))) (nomark _)) (pw_or1 (pt_cmpR (op_neFr hu64) (pe_glob (v := .ref aO) (by rfl) mO rfl) (pe_tup (pa_cons pe_int (pa_cons pe_int pa_nil))) (nomark _))))))) (pss_one (ps_ret pe_bl)) pss_nil)
      (pss_cons
      (ps_if (pt_cmpR (op_neFr hu64) (pe_call GPl hr (by rfl) mPl kPl bPl .nil pass0 (pa_cons (pv 5) (pa_cons (pv 6) pa_nil))) (pe_call GL hr (by rfl) mL kL bL .nil pass0 (pa_cons (pe_op op_add (pe_op op_mulG (pe_ix ix_tup (pv 5) pe_int (fun _ _ => rfl)) (pe_ix ix_tup (pv 6) pe_int (fun _ _ => rfl))) (pe_op op_mulG (pe_ix ix_tup (pv 6) pe_int (fun _ _ => rfl)) (pe_ix ix_tup (pv 5) pe_int (fun _ _ => rfl)))) (pa_cons (pe_op op_mulG (pe_ix ix_tup (pv 5) pe_int (fun _ _ => rfl)) (pe_ix ix_tup (pv 6) pe_int (fun _ _ => rfl))) pa_nil))) (nomark _)) (pss_one (ps_ret pe_bl)) pss_nil)
      (pss_cons
      (ps_if (pt_cmpR (op_neFr hu64) (pe_call GMi hr (by rfl) mMi kMi bMi .nil pass0 (pa_cons (pv 5) (pa_cons (pv 6) pa_nil))) (pe_call GL hr (by rfl) mL kL bL .nil pass0 (pa_cons (pe_op op_sub (pe_op op_mulG (pe_ix ix_tup (pv 5) pe_int (fun _ _ => rfl)) (pe_ix ix_tup (pv 6) pe_int (fun _ _ => rfl))) (pe_op op_mulG (pe_ix ix_tup (pv 6) pe_int (fun _ _ => rfl)) (pe_ix ix_tup (pv 5) pe_int (fun _ _ => rfl)))) (pa_cons (pe_op op_mulG (pe_ix ix_tup (pv 5) pe_int (fun _ _ => rfl)) (pe_ix ix_tup (pv 6) pe_int (fun _ _ => rfl))) pa_nil))) (nomark _)) (pss_one (ps_ret pe_bl)) pss_nil)
      (pss_cons
      (ps_if (pt_cmpR (op_neFr hu64) (pe_call GTi hr (by rfl) mTi kTi bTi .nil pass0 (pa_cons (pv 5) (pa_cons (pv 6) pa_nil))) (pe_call GL hr (by rfl) mL kL bL .nil pass0 (pa_cons (pe_op op_mulG (pe_ix ix_tup (pv 5) pe_int (fun _ _ => rfl)) (pe_ix ix_tup (pv 6) pe_int (fun _ _ => rfl))) (pa_cons (pe_op op_mulG (pe_ix ix_tup (pv 5) pe_int (fun _ _ => rfl)) (pe_ix ix_tup (pv 6) pe_int (fun _ _ => rfl))) pa_nil))) (nomark _)) (pss_one (ps_ret pe_bl)) pss_nil)
      (pss_cons
      (ps_if (PW.pt (pw_and (pt_cmpR op_ne (pv 3) pe_int (nomark _)) (pw_and1 (pt_cmpR (op_neFr hu64) (pe_call GOv hr (by rfl) mOv kOv bOv .nil pass0 (pa_cons (pv 5) (pa_cons (pv 6) pa_nil))) (pe_call GL hr (by rfl) mL kL bL .nil pass0 (pa_cons (pe_op op_mulG (pe_ix ix_tup (pv 5) pe_int (fun _ _ => rfl)) (pe_ix ix_tup (pv 6) pe_int (fun _ _ => rfl))) (pa_cons (pe_op op_mulG (pe_ix ix_tup (pv 5) pe_int (fun _ _ => rfl)) (pe_ix ix_tup (pv 6) pe_int (fun _ _ => rfl))) pa_nil))) (nomark _))))) (pss_one (ps_ret pe_bl)) pss_nil)
      (hT))))))))))), ?_⟩
    have hA : Bt 1048576 (cell ns 0) := cell_bt hbits 0
    refine ⟨_, rfl, a0, ns, 0, rfl, hS, Int.le_refl _, ?_⟩
    refine ⟨_, rfl, a0, ns, 1, rfl, hS, by decide, _, rfl, _, _, rfl, rfl, (by show (0 : Int) < 10000; decide), _, _, rfl, rfl, ?_⟩
    refine ⟨_, rfl, a0, ns, 2, rfl, hS, by decide, _, _, rfl, rfl, (by show (0 : Int) < 100000; decide), _, _, rfl, rfl, ?_⟩
    refine ⟨_, _, rfl, rfl, by show 2 ≤ sizeLine; decide, fun l nl => ?_⟩
    have hS1 : SqL K (upd H l (.lst [V.int 1, V.int (0 - 1)])) a0 (ns.map V.int) := (same_upd nl).seq hS
    obtain ⟨s1, hs1, s1c⟩ := pick2 (x := if cell ns 1 < 0 then -cell ns 1 else cell ns 1)
    have d0 := Int.emod_nonneg (if cell ns 3 < 0 then -cell ns 3 else cell ns 3) (b := 900) (by decide)
    have d1 := Int.emod_lt_of_pos (if cell ns 3 < 0 then -cell ns 3 else cell ns 3) (b := 900) (by decide)
    refine ⟨_, rfl, a0, ns, 1, rfl, hS1, by decide, _, rfl, _, _, rfl, rfl, (by show (0 : Int) < 2; decide), l, _, _, .int s1, rfl, rfl, SqL.of upd_same, hs1, _, rfl, a0, ns, 3, rfl, hS1, by decide, _, rfl, _, _, rfl, rfl, (by show (0 : Int) < 900; decide), _, _, rfl, rfl, _, _, rfl, rfl, (Bt.small (by omega) (by omega)).ok (Bt.small (by omega) (by omega)) (by decide) (by decide) (by decide), ?_⟩
    have b0 := Int.emod_nonneg (if cell ns 1 < 0 then -cell ns 1 else cell ns 1) (b := 10000) (by decide)
    have b1 := Int.emod_lt_of_pos (if cell ns 1 < 0 then -cell ns 1 else cell ns 1) (b := 10000) (by decide)
    have c0 := Int.emod_nonneg (cell ns 2) (b := 100000) (by decide)
    have c1 := Int.emod_lt_of_pos (cell ns 2) (b := 100000) (by decide)
    generalize eA : cell ns 0 = A at *
    generalize eB : (if cell ns 1 < 0 then -cell ns 1 else cell ns 1) % 10000 = B' at *
    generalize eC : cell ns 2 % 100000 = C' at *
    generalize eD : (if cell ns 3 < 0 then -cell ns 3 else cell ns 3) % 900 = D' at *
    have hDv : s1 * (1 + D') ≠ 0 ∧ (s1 * (1 + D')).natAbs < 2 ^ 10 := by
      rcases s1c with rfl | rfl
      · rw [Int.one_mul]
        constructor
        · omega
        · show _ < 1024
          omega
      · rw [Int.neg_one_mul]
        constructor
        · omega
        · show _ < 1024
          omega
    have hBv : (1 + B' : Int) ≠ 0 ∧ (1 + B' : Int).natAbs < 2 ^ 14 := ⟨by omega, by show _ < 16384; omega⟩
    have hCv : Bt 16 (C' - 50000) := ⟨by show _ < 65536; omega⟩
    have z1 : Sz 1048576 14 (Rat.divInt A (1 + B')) := Sz.div hBv.1 hA hBv.2
    have z2' : Sz 16 10 (Rat.divInt (C' - 50000) (s1 * (1 + D'))) := Sz.div hDv.1 hCv hDv.2
    have c2n : C' - 50000 ≠ 0 → Rat.divInt (C' - 50000) (s1 * (1 + D')) ≠ 0 := fun hc hz => by
      have := (Rat.divInt_eq_divInt_iff (n₁ := C' - 50000) (n₂ := 0) hDv.1 (show (1 : Int) ≠ 0 by decide)).mp (by rw [hz, Rat.zero_divInt])
      omega
    have g1 : FSz (Rat.divInt A (1 + B')) := z1.fsz (by decide) (by decide) (by decide)
    have g2 : FSz (Rat.divInt (C' - 50000) (s1 * (1 + D'))) := z2'.fsz (by decide) (by decide) (by decide)
    have lt64 {e : Nat} (he : e ≤ 64) {x : Nat} (h : x < 2 ^ e) : x < 2 ^ 64 := Nat.lt_of_lt_of_le h (Nat.pow_le_pow_right (by decide) he)
    refine ⟨_, rfl, _, rfl, A, 1 + B', rfl, hBv.1, lt64 (by decide) hBv.2, fun p1 H1 sm1 e1 => ?_⟩
    refine ⟨_, rfl, _, rfl, C' - 50000, s1 * (1 + D'), rfl, hDv.1, lt64 (by decide) hDv.2, fun p2 H2 sm2 e2 => ?_⟩
    have e1' := sameT sm2 e1
    have hS2 := sm2.seq (sm1.seq hS1)
    -- fraction(a, b) != one or ..
    refine ⟨_, rfl, _, rfl, A, 1 + B', rfl, hBv.1, lt64 (by decide) hBv.2, fun x3 H3 sm3 e3 => ⟨_, rfl, x3, p1, _, rfl, rfl, e3, sameT sm3 e1', _, rfl, iteF ?_⟩⟩
    refine ⟨_, rfl, _, rfl, C' - 50000, s1 * (1 + D'), rfl, hDv.1, lt64 (by decide) hDv.2, fun x4 H4 sm4 e4 => ⟨_, rfl, x4, p2, _, rfl, rfl, e4, sameT (sm3.trans sm4) e2, _, rfl, iteF ?_⟩⟩
    refine ⟨by show 2 ≤ sizeLine; decide, fun t5 n5 => ⟨aZ, t5, 0, rfl, rfl, hZ _, SqT.of upd_same, _, rfl, iteF ?_⟩⟩
    refine ⟨by show 2 ≤ sizeLine; decide, fun t6 n6 => ⟨aO, t6, 1, rfl, rfl, hO _, SqT.of upd_same, _, rfl, iteF ?_⟩⟩
    have sm6 := ((sm3.trans sm4).trans (same_upd n5)).trans (same_upd (o := .tup [.int 1, .int 1]) n6)
    have f1 := sameT (K := K) sm6 e1'
    have f2 := sameT (K := K) sm6 e2
    have hS6 := sm6.seq hS2
    generalize eH6 : upd (upd H4 t5 (.tup [.int 0, .int 1])) t6 (.tup [.int 1, .int 1]) = H6 at sm6 f1 f2 hS6 ⊢
    generalize eq1 : Rat.divInt A (1 + B') = q1 at *
    generalize eq2 : Rat.divInt (C' - 50000) (s1 * (1 + D')) = q2 at *
    have z2 : Sz 1048576 10 q2 := z2'.mono (by decide)
    have d12 : ((q1.den : Int) * (q2.den : Int)).natAbs < 2 ^ 64 := lt64 (by decide) (z1.db.mul z2.db).lt
    have dn12 : ((q1.den : Int) * q2.num).natAbs < 2 ^ 64 := lt64 (by decide) (z1.db.mul z2'.n).lt
    have mnn : IntMulOk q1.num q2.num := z1.n.ok z2'.n (by decide) (by decide) (by decide)
    have n2b : Bt 4000 q2.num := z2'.n.mono (by decide)
    -- plus
    refine ⟨_, rfl, _, rfl, p1, p2, q1, q2, rfl, f1, f2, ⟨g1, g2, trivial⟩, fun x7 H7 sm7 e7 => ?_⟩
    have k1 := sameT sm7 f1
    have k2 := sameT sm7 f2
    refine ⟨_, rfl, p1, _, 0, _, rfl, rfl, k1, atI_nat (j := 0) rfl, _, rfl, p2, _, 1, _, rfl, rfl, k2, atI_nat (j := 1) rfl, _, _, rfl, rfl, g1.nd g2, _, rfl, p2, _, 0, _, rfl, rfl, k2, atI_nat (j := 0) rfl, _, rfl, p1, _, 1, _, rfl, rfl, k1, atI_nat (j := 1) rfl, _, _, rfl, rfl, g2.nd g1, _, _, rfl, rfl,
      _, rfl, p1, _, 1, _, rfl, rfl, k1, atI_nat (j := 1) rfl, _, rfl, p2, _, 1, _, rfl, rfl, k2, atI_nat (j := 1) rfl, _, _, rfl, rfl, g1.dd g2, _, _, rfl, FSz.ne q1 q2, d12, fun x8 H8 sm8 e8 => ?_⟩
    rw [q_add] at e8
    refine ⟨x7, x8, _, rfl, rfl, sameT sm8 e7, e8, _, rfl, iteF ?_⟩
    -- minus
    have k1 := sameT sm8 k1
    have k2 := sameT sm8 k2
    refine ⟨_, rfl, _, rfl, p1, p2, q1, q2, rfl, k1, k2, ⟨g1, g2, trivial⟩, fun x9 H9 sm9 e9 => ?_⟩
    have k1 := sameT sm9 k1
    have k2 := sameT sm9 k2
    refine ⟨_, rfl, p1, _, 0, _, rfl, rfl, k1, atI_nat (j := 0) rfl, _, rfl, p2, _, 1, _, rfl, rfl, k2, atI_nat (j := 1) rfl, _, _, rfl, rfl, g1.nd g2, _, rfl, p2, _, 0, _, rfl, rfl, k2, atI_nat (j := 0) rfl, _, rfl, p1, _, 1, _, rfl, rfl, k1, atI_nat (j := 1) rfl, _, _, rfl, rfl, g2.nd g1, _, _, rfl, rfl,
      _, rfl, p1, _, 1, _, rfl, rfl, k1, atI_nat (j := 1) rfl, _, rfl, p2, _, 1, _, rfl, rfl, k2, atI_nat (j := 1) rfl, _, _, rfl, rfl, g1.dd g2, _, _, rfl, FSz.ne q1 q2, d12, fun x10 H10 sm10 e10 => ?_⟩
    rw [q_sub] at e10
    refine ⟨x9, x10, _, rfl, rfl, sameT sm10 e9, e10, _, rfl, iteF ?_⟩
    -- times
    have k1 := sameT sm10 k1
    have k2 := sameT sm10 k2
    refine ⟨_, rfl, _, rfl, p1, p2, q1, q2, rfl, k1, k2, ⟨g1, g2, mnn⟩, fun x11 H11 sm11 e11 => ?_⟩
    have k1 := sameT sm11 k1
    have k2 := sameT sm11 k2
    refine ⟨_, rfl, p1, _, 0, _, rfl, rfl, k1, atI_nat (j := 0) rfl, _, rfl, p2, _, 0, _, rfl, rfl, k2, atI_nat (j := 0) rfl, _, _, rfl, rfl, mnn, _, rfl, p1, _, 1, _, rfl, rfl, k1, atI_nat (j := 1) rfl, _, rfl, p2, _, 1, _, rfl, rfl, k2, atI_nat (j := 1) rfl, _, _, rfl, rfl, g1.dd g2, _, _, rfl, FSz.ne q1 q2, d12, fun x12 H12 sm12 e12 => ?_⟩
    rw [q_mul] at e12
    refine ⟨x11, x12, _, rfl, rfl, sameT sm12 e11, e12, _, rfl, iteF ?_⟩
    have k1 := sameT sm12 k1
    have k2 := sameT sm12 k2
    have hS12 := (((((sm7.trans sm8).trans sm9).trans sm10).trans sm11).trans sm12).seq hS6
    -- over
    have kp (Hx : Hp) (sm : Same H12 Hx) := rT Q a0 ns (some (.int A)) (some (.int (1 + B'))) (some (.int (C' - 50000))) (some (.int (s1 * (1 + D')))) p1 p2 q1 q2 Hx (sm.seq hS12) hlen (sameT sm k1) (sameT sm k2) z1 z2 go
    refine ⟨_, rfl, rfl, _, rfl, ite2 (fun e => ?_) (fun e => ?_)⟩
    · have hc : C' - 50000 ≠ 0 := fun z => by
        have e' : (!decide (V.int (C' - 50000) = V.int 0)) = true := e
        rw [z] at e'
        simp at e'
      refine ⟨_, rfl, _, rfl, p1, p2, q1, q2, rfl, k1, k2, ⟨g1, g2, c2n hc, n2b⟩, fun x13 H13 sm13 e13 => ?_⟩
      have k1' := sameT sm13 k1
      have k2' := sameT sm13 k2
      refine ⟨_, rfl, p1, _, 0, _, rfl, rfl, k1', atI_nat (j := 0) rfl, _, rfl, p2, _, 1, _, rfl, rfl, k2', atI_nat (j := 1) rfl, _, _, rfl, rfl, g1.nd g2, _, rfl, p1, _, 1, _, rfl, rfl, k1', atI_nat (j := 1) rfl, _, rfl, p2, _, 0, _, rfl, rfl, k2', atI_nat (j := 0) rfl, _, _, rfl, rfl, g1.dn g2, _, _, rfl, ne_over ⟨c2n hc, n2b⟩, dn12, fun x14 H14 sm14 e14 => ?_⟩
      rw [q_over] at e14
      refine ⟨x13, x14, _, rfl, rfl, sameT sm14 e13, e14, _, rfl, iteF ?_⟩
      exact kp H14 (sm13.trans sm14)
    · exact kp H12 (Same.refl _)
end
end K0
namespace K0
open PySem L2 PyProof.Rows PySem.Spec
/-! what the top has written -/
theorem tup2 {K : PySem.W.Frag} {a : Addr} {x y : Int} {od : Option Addr} {t u : Tok} {n : Nat} {sl : Array (Option Value)} (l : K.lookup a = some ⟨.type "tuple", od, .seq #[.int x t, .int y u] n, sl⟩) : ∀ H, SqT K H a [.int x, .int y] := fun H =>
  .inr ⟨_, _, n, l, rfl, rfl, (show 2 ≤ sizeLine by decide), .cons ⟨t, rfl⟩ (.cons ⟨u, rfl⟩ .nil)⟩
theorem wFr_of {vs : List V} {H : Hp} {Q : VK} {E : XK} {K : PySem.W.Frag} (h : wFr K vs H Q E) : spFra vs H Q E := by
  obtain ⟨t, b, e, hb, h64, go⟩ := h
  exact ⟨t, b, e, hb, Bt.mono (k := 64) ⟨h64⟩ (by decide), fun p hp => go p _ (same_upd hp) (SqT.of upd_same)⟩
theorem wLo_of {vs : List V} {H : Hp} {Q : VK} {E : XK} {K : PySem.W.Frag} (h : wFr K vs H Q E) : spLow vs H Q E := by
  obtain ⟨t, b, e, hb, h64, go⟩ := h
  exact ⟨t, b, e, hb, h64, fun p hp => go p _ (same_upd hp) (SqT.of upd_same)⟩
theorem wAr_of {vs : List V} {H : Hp} {Q : VK} {E : XK} {K : PySem.W.Frag} {C : Rat → Rat → Prop} {g : Rat → Rat → Rat} (h : wAr K C g vs H Q E) : spAr K C g vs H Q E := by
  obtain ⟨a, b, p, q, e, ha, hb, hc, go⟩ := h
  exact ⟨a, b, p, q, e, ha, hb, hc, fun x hx => go x _ (same_upd hx) (SqT.of upd_same)⟩
theorem all_mk {l : PySem.W.OpenLaw} {w : World} {K : PySem.W.Frag} {h : Heap} {mg : Str → Option Value} {fa aZ aO fFra fPlu fMin fTim fOve fLes fTot fWho fCom fByr fInc fCel fNum fEuc fLow fSha fLaw : Addr} (X : K.In h) (G : h.Ns mainGlobals mg) (hfa : mg "law" = some (.ref fa))
    {odFra anFra odPlu anPlu odMin anMin odTim anTim odOve anOve odLes anLes odTot anTot odWho anWho odCom anCom odByr anByr odInc anInc odCel anCel odNum anNum odEuc anEuc odLow anLow odSha anSha odLaw anLaw odZ odO : Option Addr} {slFra slPlu slMin slTim slOve slLes slTot slWho slCom slByr slInc slCel slNum slEuc slLow slSha slLaw slZ slO : Array (Option Value)} {ocFra kVFra dcFra pmFra cdFra ctFra ocPlu kVPlu dcPlu pmPlu cdPlu ctPlu ocMin kVMin dcMin pmMin cdMin ctMin ocTim kVTim dcTim pmTim cdTim ctTim ocOve kVOve dcOve pmOve cdOve ctOve ocLes kVLes dcLes pmLes cdLes ctLes ocTot kVTot dcTot pmTot cdTot ctTot ocWho kVWho dcWho pmWho cdWho ctWho ocCom kVCom dcCom pmCom cdCom ctCom ocByr kVByr dcByr pmByr cdByr ctByr ocInc kVInc dcInc pmInc cdInc ctInc ocCel kVCel dcCel pmCel cdCel ctCel ocNum kVNum dcNum pmNum cdNum ctNum ocEuc kVEuc dcEuc pmEuc cdEuc ctEuc ocLow kVLow dcLow pmLow cdLow ctLow ocSha kVSha dcSha pmSha cdSha ctSha ocLaw kVLaw dcLaw pmLaw cdLaw ctLaw : Value} {tZ uZ tO uO : Tok} {nZ nO : Nat}
    (aFra : PySem.W.nsIn K mainGlobals "fraction" = some (some (.ref fFra))) (lFra : K.lookup fFra = some ⟨ocFra, odFra, .func (PySem.W.fnOf "fraction" "fraction" (defArgs sFra) (defBody sFra) (defScope sFra) .none kVFra dcFra pmFra anFra cdFra ctFra), slFra⟩) (cFra : PySem.W.codeIn K cdFra "fraction" = true) (kFra : PySem.W.keepIn K (.ref fFra) = true)
    (aPlu : PySem.W.nsIn K mainGlobals "plus" = some (some (.ref fPlu))) (lPlu : K.lookup fPlu = some ⟨ocPlu, odPlu, .func (PySem.W.fnOf "plus" "plus" (defArgs sPlu) (defBody sPlu) (defScope sPlu) .none kVPlu dcPlu pmPlu anPlu cdPlu ctPlu), slPlu⟩) (cPlu : PySem.W.codeIn K cdPlu "plus" = true) (kPlu : PySem.W.keepIn K (.ref fPlu) = true)
    (aMin : PySem.W.nsIn K mainGlobals "minus" = some (some (.ref fMin))) (lMin : K.lookup fMin = some ⟨ocMin, odMin, .func (PySem.W.fnOf "minus" "minus" (defArgs sMin) (defBody sMin) (defScope sMin) .none kVMin dcMin pmMin anMin cdMin ctMin), slMin⟩) (cMin : PySem.W.codeIn K cdMin "minus" = true) (kMin : PySem.W.keepIn K (.ref fMin) = true)
    (aTim : PySem.W.nsIn K mainGlobals "times" = some (some (.ref fTim))) (lTim : K.lookup fTim = some ⟨ocTim, odTim, .func (PySem.W.fnOf "times" "times" (defArgs sTim) (defBody sTim) (defScope sTim) .none kVTim dcTim pmTim anTim cdTim ctTim), slTim⟩) (cTim : PySem.W.codeIn K cdTim "times" = true) (kTim : PySem.W.keepIn K (.ref fTim) = true)
    (aOve : PySem.W.nsIn K mainGlobals "over" = some (some (.ref fOve))) (lOve : K.lookup fOve = some ⟨ocOve, odOve, .func (PySem.W.fnOf "over" "over" (defArgs sOve) (defBody sOve) (defScope sOve) .none kVOve dcOve pmOve anOve cdOve ctOve), slOve⟩) (cOve : PySem.W.codeIn K cdOve "over" = true) (kOve : PySem.W.keepIn K (.ref fOve) = true)
    (aLes : PySem.W.nsIn K mainGlobals "is_less" = some (some (.ref fLes))) (lLes : K.lookup fLes = some ⟨ocLes, odLes, .func (PySem.W.fnOf "is_less" "is_less" (defArgs sLes) (defBody sLes) (defScope sLes) .none kVLes dcLes pmLes anLes cdLes ctLes), slLes⟩) (cLes : PySem.W.codeIn K cdLes "is_less" = true) (kLes : PySem.W.keepIn K (.ref fLes) = true)
    (aTot : PySem.W.nsIn K mainGlobals "total" = some (some (.ref fTot))) (lTot : K.lookup fTot = some ⟨ocTot, odTot, .func (PySem.W.fnOf "total" "total" (defArgs sTot) (defBody sTot) (defScope sTot) .none kVTot dcTot pmTot anTot cdTot ctTot), slTot⟩) (cTot : PySem.W.codeIn K cdTot "total" = true) (kTot : PySem.W.keepIn K (.ref fTot) = true)
    (aWho : PySem.W.nsIn K mainGlobals "whole_part" = some (some (.ref fWho))) (lWho : K.lookup fWho = some ⟨ocWho, odWho, .func (PySem.W.fnOf "whole_part" "whole_part" (defArgs sWho) (defBody sWho) (defScope sWho) .none kVWho dcWho pmWho anWho cdWho ctWho), slWho⟩) (cWho : PySem.W.codeIn K cdWho "whole_part" = true) (kWho : PySem.W.keepIn K (.ref fWho) = true)
    (aCom : PySem.W.nsIn K mainGlobals "_common_bottom" = some (some (.ref fCom))) (lCom : K.lookup fCom = some ⟨ocCom, odCom, .func (PySem.W.fnOf "_common_bottom" "_common_bottom" (defArgs sCom) (defBody sCom) (defScope sCom) .none kVCom dcCom pmCom anCom cdCom ctCom), slCom⟩) (cCom : PySem.W.codeIn K cdCom "_common_bottom" = true) (kCom : PySem.W.keepIn K (.ref fCom) = true)
    (aByr : PySem.W.nsIn K mainGlobals "_by_remainder" = some (some (.ref fByr))) (lByr : K.lookup fByr = some ⟨ocByr, odByr, .func (PySem.W.fnOf "_by_remainder" "_by_remainder" (defArgs sByr) (defBody sByr) (defScope sByr) .none kVByr dcByr pmByr anByr cdByr ctByr), slByr⟩) (cByr : PySem.W.codeIn K cdByr "_by_remainder" = true) (kByr : PySem.W.keepIn K (.ref fByr) = true)
    (aInc : PySem.W.nsIn K mainGlobals "in_coins" = some (some (.ref fInc))) (lInc : K.lookup fInc = some ⟨ocInc, odInc, .func (PySem.W.fnOf "in_coins" "in_coins" (defArgs sInc) (defBody sInc) (defScope sInc) .none kVInc dcInc pmInc anInc cdInc ctInc), slInc⟩) (cInc : PySem.W.codeIn K cdInc "in_coins" = true) (kInc : PySem.W.keepIn K (.ref fInc) = true)
    (aCel : PySem.W.nsIn K mainGlobals "_law_cell" = some (some (.ref fCel))) (lCel : K.lookup fCel = some ⟨ocCel, odCel, .func (PySem.W.fnOf "_law_cell" "_law_cell" (defArgs sCel) (defBody sCel) (defScope sCel) .none kVCel dcCel pmCel anCel cdCel ctCel), slCel⟩) (cCel : PySem.W.codeIn K cdCel "_law_cell" = true) (kCel : PySem.W.keepIn K (.ref fCel) = true)
    (aNum : PySem.W.nsIn K mainGlobals "_law_numbers" = some (some (.ref fNum))) (lNum : K.lookup fNum = some ⟨ocNum, odNum, .func (PySem.W.fnOf "_law_numbers" "_law_numbers" (defArgs sNum) (defBody sNum) (defScope sNum) .none kVNum dcNum pmNum anNum cdNum ctNum), slNum⟩) (cNum : PySem.W.codeIn K cdNum "_law_numbers" = true) (kNum : PySem.W.keepIn K (.ref fNum) = true)
    (aEuc : PySem.W.nsIn K mainGlobals "_law_common" = some (some (.ref fEuc))) (lEuc : K.lookup fEuc = some ⟨ocEuc, odEuc, .func (PySem.W.fnOf "_law_common" "_law_common" (defArgs sEuc) (defBody sEuc) (defScope sEuc) .none kVEuc dcEuc pmEuc anEuc cdEuc ctEuc), slEuc⟩) (cEuc : PySem.W.codeIn K cdEuc "_law_common" = true) (kEuc : PySem.W.keepIn K (.ref fEuc) = true)
    (aLow : PySem.W.nsIn K mainGlobals "_law_low" = some (some (.ref fLow))) (lLow : K.lookup fLow = some ⟨ocLow, odLow, .func (PySem.W.fnOf "_law_low" "_law_low" (defArgs sLow) (defBody sLow) (defScope sLow) .none kVLow dcLow pmLow anLow cdLow ctLow), slLow⟩) (cLow : PySem.W.codeIn K cdLow "_law_low" = true) (kLow : PySem.W.keepIn K (.ref fLow) = true)
    (aSha : PySem.W.nsIn K mainGlobals "_law_shares" = some (some (.ref fSha))) (lSha : K.lookup fSha = some ⟨ocSha, odSha, .func (PySem.W.fnOf "_law_shares" "_law_shares" (defArgs sSha) (defBody sSha) (defScope sSha) .none kVSha dcSha pmSha anSha cdSha ctSha), slSha⟩) (cSha : PySem.W.codeIn K cdSha "_law_shares" = true) (kSha : PySem.W.keepIn K (.ref fSha) = true)
    (aLaw : PySem.W.nsIn K mainGlobals "law" = some (some (.ref fLaw))) (lLaw : K.lookup fLaw = some ⟨ocLaw, odLaw, .func (PySem.W.fnOf "law" "law" (defArgs sLaw) (defBody sLaw) (defScope sLaw) .none kVLaw dcLaw pmLaw anLaw cdLaw ctLaw), slLaw⟩) (cLaw : PySem.W.codeIn K cdLaw "law" = true) (kLaw : PySem.W.keepIn K (.ref fLaw) = true)
    (zabs : PySem.W.nsIn K mainGlobals "abs" = some none)
    (zlen : PySem.W.nsIn K mainGlobals "len" = some none)
    (zmin : PySem.W.nsIn K mainGlobals "min" = some none)
    (zrange : PySem.W.nsIn K mainGlobals "range" = some none)
    (zsorted : PySem.W.nsIn K mainGlobals "sorted" = some none)
    (zlist : PySem.W.nsIn K mainGlobals "list" = some none)
    (zdict : PySem.W.nsIn K mainGlobals "dict" = some none)
    (zsum : PySem.W.nsIn K mainGlobals "sum" = some none)
    (zint : PySem.W.nsIn K mainGlobals "int" = some none)
    (zstr : PySem.W.nsIn K mainGlobals "str" = some none)
    (gcd : PySem.W.nsIn K mainGlobals "gcd" = some (some (.builtin "math.gcd"))) (lcm : PySem.W.nsIn K mainGlobals "lcm" = some (some (.builtin "math.lcm")))
    (aZe : PySem.W.nsIn K mainGlobals "ZERO" = some (some (.ref aZ))) (lZ : K.lookup aZ = some ⟨.type "tuple", odZ, .seq #[.int 0 tZ, .int 1 uZ] nZ, slZ⟩)
    (aOn : PySem.W.nsIn K mainGlobals "ONE" = some (some (.ref aO))) (lO : K.lookup aO = some ⟨.type "tuple", odO, .seq #[.int 1 tO, .int 1 uO] nO, slO⟩) :
    ∃ fd : FuncData, (∀ (s : Shared) (v : Value), BindsTo s fd ⟨[v], []⟩ [("script", v)]) ∧ ∀ base : Heap, K.In base → base.Ns mainGlobals mg → FnOk l.prog w K mg base CX0 5 fa fd ["script"] (spLaw K) := by
  cases hfa.symm.trans (PySem.W.mg_of X G aLaw)
  have FFra := fun_mk (st := sFra) lFra cFra kFra
  have FPlu := fun_mk (st := sPlu) lPlu cPlu kPlu
  have FMin := fun_mk (st := sMin) lMin cMin kMin
  have FTim := fun_mk (st := sTim) lTim cTim kTim
  have FOve := fun_mk (st := sOve) lOve cOve kOve
  have FLes := fun_mk (st := sLes) lLes cLes kLes
  have FTot := fun_mk (st := sTot) lTot cTot kTot
  have FWho := fun_mk (st := sWho) lWho cWho kWho
  have FCom := fun_mk (st := sCom) lCom cCom kCom
  have FByr := fun_mk (st := sByr) lByr cByr kByr
  have FInc := fun_mk (st := sInc) lInc cInc kInc
  have FCel := fun_mk (st := sCel) lCel cCel kCel
  have FNum := fun_mk (st := sNum) lNum cNum kNum
  have FEuc := fun_mk (st := sEuc) lEuc cEuc kEuc
  have FLow := fun_mk (st := sLow) lLow cLow kLow
  have FSha := fun_mk (st := sSha) lSha cSha kSha
  have FLaw := fun_mk (st := sLaw) lLaw cLaw kLaw
  have bFra := FFra.binds (ps := ["top", "bottom"]) fun _ _ _ _ _ _ us hl => match us, hl with | [_, _], _ => rfl
  have bPlu := FPlu.binds (ps := ["one", "two"]) fun _ _ _ _ _ _ us hl => match us, hl with | [_, _], _ => rfl
  have bMin := FMin.binds (ps := ["one", "two"]) fun _ _ _ _ _ _ us hl => match us, hl with | [_, _], _ => rfl
  have bTim := FTim.binds (ps := ["one", "two"]) fun _ _ _ _ _ _ us hl => match us, hl with | [_, _], _ => rfl
  have bOve := FOve.binds (ps := ["one", "two"]) fun _ _ _ _ _ _ us hl => match us, hl with | [_, _], _ => rfl
  have bLes := FLes.binds (ps := ["one", "two"]) fun _ _ _ _ _ _ us hl => match us, hl with | [_, _], _ => rfl
  have bTot := FTot.binds (ps := ["values"]) fun _ _ _ _ _ _ us hl => match us, hl with | [_], _ => rfl
  have bWho := FWho.binds (ps := ["value"]) fun _ _ _ _ _ _ us hl => match us, hl with | [_], _ => rfl
  have bCom := FCom.binds (ps := ["values"]) fun _ _ _ _ _ _ us hl => match us, hl with | [_], _ => rfl
  have bByr := FByr.binds (ps := ["shares"]) fun _ _ _ _ _ _ us hl => match us, hl with | [_], _ => rfl
  have bInc := FInc.binds (ps := ["shares"]) fun _ _ _ _ _ _ us hl => match us, hl with | [_], _ => rfl
  have bCel := FCel.binds (ps := ["script", "k"]) fun _ _ _ _ _ _ us hl => match us, hl with | [_, _], _ => rfl
  have bNum := FNum.binds (ps := ["cell", "many"]) fun _ _ _ _ _ _ us hl => match us, hl with | [_, _], _ => rfl
  have bEuc := FEuc.binds (ps := ["one", "two"]) fun _ _ _ _ _ _ us hl => match us, hl with | [_, _], _ => rfl
  have bLow := FLow.binds (ps := ["top", "bottom"]) fun _ _ _ _ _ _ us hl => match us, hl with | [_, _], _ => rfl
  have bSha := FSha.binds (ps := ["cell"]) fun _ _ _ _ _ _ us hl => match us, hl with | [_], _ => rfl
  have mabs := PySem.W.mg_none_of X G zabs
  have mlen := PySem.W.mg_none_of X G zlen
  have mmin := PySem.W.mg_none_of X G zmin
  have mrange := PySem.W.mg_none_of X G zrange
  have msorted := PySem.W.mg_none_of X G zsorted
  have mlist := PySem.W.mg_none_of X G zlist
  have mdict := PySem.W.mg_none_of X G zdict
  have msum := PySem.W.mg_none_of X G zsum
  have mint := PySem.W.mg_none_of X G zint
  have mstr := PySem.W.mg_none_of X G zstr
  refine ⟨PySem.W.fnOf "law" "law" (defArgs sLaw) (defBody sLaw) (defScope sLaw) .none kVLaw dcLaw pmLaw anLaw cdLaw ctLaw, fun s v => .of_eq rfl, fun base _ _ => ?_⟩
  have tF : TFra l.prog w K mg base := ⟨_, _, PySem.W.mg_of X G aFra, kFra, bFra, ok_fra FFra (PySem.W.mg_of X G gcd)⟩
  have tP : TPlu l.prog w K mg base := ⟨_, _, PySem.W.mg_of X G aPlu, kPlu, bPlu, ok_plus FPlu tF⟩
  have tC : TCom l.prog w K mg base := ⟨_, _, PySem.W.mg_of X G aCom, kCom, bCom, ok_common FCom (PySem.W.mg_of X G lcm)⟩
  have tZ : TZero K mg := ⟨aZ, PySem.W.mg_of X G aZe, tup2 lZ⟩
  have hWho : Has l.prog w K mg base "whole_part" ["value"] 1 (spWho K) := ⟨_, _, PySem.W.mg_of X G aWho, kWho, bWho, ok_whole FWho⟩
  have hTot : Has l.prog w K mg base "total" ["values"] 3 (spTot K) := ⟨_, _, PySem.W.mg_of X G aTot, kTot, bTot, ok_total FTot tP tZ⟩
  have hByr : Has l.prog w K mg base "_by_remainder" ["shares"] 2 (spByr K) := ⟨_, _, PySem.W.mg_of X G aByr, kByr, bByr, ok_by FByr tC mlist msorted⟩
  have hEuc : Has l.prog w K mg base "_law_common" ["one", "two"] 1 (spEuc) := ⟨_, _, PySem.W.mg_of X G aEuc, kEuc, bEuc, ok_euclid FEuc mint mrange⟩
  have hLow : Has l.prog w K mg base "_law_low" ["top", "bottom"] 2 (spLow) := ⟨_, _, PySem.W.mg_of X G aLow, kLow, bLow, ok_low FLow hEuc mabs⟩
  have hNum : Has l.prog w K mg base "_law_numbers" ["cell", "many"] 1 (spNum) := ⟨_, _, PySem.W.mg_of X G aNum, kNum, bNum, ok_numbers FNum mabs mint mrange⟩
  have hInc : Has l.prog w K mg base "in_coins" ["shares"] 4 (spInc K) := ⟨_, _, PySem.W.mg_of X G aInc, kInc, bInc, ok_inc FInc hWho hTot hByr mlist msorted msum⟩
  have gC : Has l.prog w K mg base "_law_cell" ["script", "k"] 4 (spCel K) := ⟨_, _, PySem.W.mg_of X G aCel, kCel, bCel, (ok_cell FCel mlen mint).mono (by decide)⟩
  have gS : Has l.prog w K mg base "_law_shares" ["cell"] 4 (spSha K) := ⟨_, _, PySem.W.mg_of X G aSha, kSha, bSha, (ok_shares FSha hNum hLow mint mrange mstr).mono (by decide)⟩
  have gL : Has l.prog w K mg base "_law_low" ["top", "bottom"] 4 (wFr K) := ⟨_, _, PySem.W.mg_of X G aLow, kLow, bLow, ((ok_low FLow hEuc mabs).mono (by decide)).imp fun _ _ _ _ => wLo_of⟩
  have gFr : Has l.prog w K mg base "fraction" ["top", "bottom"] 4 (wFr K) := ⟨_, _, PySem.W.mg_of X G aFra, kFra, bFra, ((ok_fra FFra (PySem.W.mg_of X G gcd)).mono (by decide)).imp fun _ _ _ _ => wFr_of⟩
  have gPl : Has l.prog w K mg base "plus" ["one", "two"] 4 (wAr K C2 fun p q => p + q) := ⟨_, _, PySem.W.mg_of X G aPlu, kPlu, bPlu, ((ok_plus FPlu tF).mono (by decide)).imp fun _ _ _ _ => wAr_of⟩
  have gMi : Has l.prog w K mg base "minus" ["one", "two"] 4 (wAr K C2 fun p q => p - q) := ⟨_, _, PySem.W.mg_of X G aMin, kMin, bMin, ((ok_minus FMin tF).mono (by decide)).imp fun _ _ _ _ => wAr_of⟩
  have gTi : Has l.prog w K mg base "times" ["one", "two"] 4 (wAr K C2m fun p q => p * q) := ⟨_, _, PySem.W.mg_of X G aTim, kTim, bTim, ((ok_times FTim tF).mono (by decide)).imp fun _ _ _ _ => wAr_of⟩
  have gOv : Has l.prog w K mg base "over" ["one", "two"] 4 (wAr K C2o fun p q => p / q) := ⟨_, _, PySem.W.mg_of X G aOve, kOve, bOve, ((ok_over FOve tF).mono (by decide)).imp fun _ _ _ _ => wAr_of⟩
  have gLe : Has l.prog w K mg base "is_less" ["one", "two"] 4 (spLes K) := ⟨_, _, PySem.W.mg_of X G aLes, kLes, bLes, (ok_less FLes).mono (by decide)⟩
  have gWh : Has l.prog w K mg base "whole_part" ["value"] 4 (spWho K) := ⟨_, _, PySem.W.mg_of X G aWho, kWho, bWho, (ok_whole FWho).mono (by decide)⟩
  have gTo : Has l.prog w K mg base "total" ["values"] 4 (spTot K) := ⟨_, _, PySem.W.mg_of X G aTot, kTot, bTot, (ok_total FTot tP tZ).mono (by decide)⟩
  exact ok_law FLaw ⟨gC, gS, gL, gFr, gPl, gMi, gTi, gOv, gLe, gWh, gTo, hInc, ⟨aZ, PySem.W.mg_of X G aZe, tup2 lZ⟩, ⟨aO, PySem.W.mg_of X G aOn, tup2 lO⟩, mabs, mlen, mmin, mrange, msorted, mlist, mdict, msum⟩
end K0
open PySem PySem.W PyProof.Rows
set_option maxRecDepth 100000 in
set_option maxHeartbeats 0 in
theorem PySem.Challenge.cw_parcener_k00_fractions_and_coins_holds : PySem.Challenge.rw_parcener_k00_fractions_and_coins.Holds := by
  w_on; o_law; k_head; (case hw => w_witness2)
  k_fill
  refine L2.walk_ofB (l := PySem.Challenge.rw_parcener_k00_fractions_and_coins) (n := 63) (k := 5) (x := "script") (CX := fun _ => L2.CX0) (sp := fun w => K0.spLaw _) rfl (by decide) rfl ⟨rfl, by decide, by decide⟩ (fun w h Y => PySem.W.kIn_of Y) ?F (fun _ _ a ns hl hb _ hS => ⟨a, ns, rfl, hS, hl, hb, fun _ => rfl⟩) (fun _ _ _ _ _ h => h)
  case F =>
    intro w mg fa h KX G hmg
    refine' K0.all_mk KX G hmg ?aFra ?lFra ?cFra ?kFra ?aPlu ?lPlu ?cPlu ?kPlu ?aMin ?lMin ?cMin ?kMin ?aTim ?lTim ?cTim ?kTim ?aOve ?lOve ?cOve ?kOve ?aLes ?lLes ?cLes ?kLes ?aTot ?lTot ?cTot ?kTot ?aWho ?lWho ?cWho ?kWho ?aCom ?lCom ?cCom ?kCom ?aByr ?lByr ?cByr ?kByr ?aInc ?lInc ?cInc ?kInc ?aCel ?lCel ?cCel ?kCel ?aNum ?lNum ?cNum ?kNum ?aEuc ?lEuc ?cEuc ?kEuc ?aLow ?lLow ?cLow ?kLow ?aSha ?lSha ?cSha ?kSha ?aLaw ?lLaw ?cLaw ?kLaw ?zabs ?zlen ?zmin ?zrange ?zsorted ?zlist ?zdict ?zsum ?zint ?zstr ?gcd ?lcm ?aZe ?lZ ?aOn ?lO
    (case aFra => k_is)
    (case lFra => k_is)
    (case cFra => k_is)
    (case kFra => k_is)
    (case aPlu => k_is)
    (case lPlu => k_is)
    (case cPlu => k_is)
    (case kPlu => k_is)
    (case aMin => k_is)
    (case lMin => k_is)
    (case cMin => k_is)
    (case kMin => k_is)
    (case aTim => k_is)
    (case lTim => k_is)
    (case cTim => k_is)
    (case kTim => k_is)
    (case aOve => k_is)
    (case lOve => k_is)
    (case cOve => k_is)
    (case kOve => k_is)
    (case aLes => k_is)
    (case lLes => k_is)
    (case cLes => k_is)
    (case kLes => k_is)
    (case aTot => k_is)
    (case lTot => k_is)
    (case cTot => k_is)
    (case kTot => k_is)
    (case aWho => k_is)
    (case lWho => k_is)
    (case cWho => k_is)
    (case kWho => k_is)
    (case aCom => k_is)
    (case lCom => k_is)
    (case cCom => k_is)
    (case kCom => k_is)
    (case aByr => k_is)
    (case lByr => k_is)
    (case cByr => k_is)
    (case kByr => k_is)
    (case aInc => k_is)
    (case lInc => k_is)
    (case cInc => k_is)
    (case kInc => k_is)
    (case aCel => k_is)
    (case lCel => k_is)
    (case cCel => k_is)
    (case kCel => k_is)
    (case aNum => k_is)
    (case lNum => k_is)
    (case cNum => k_is)
    (case kNum => k_is)
    (case aEuc => k_is)
    (case lEuc => k_is)
    (case cEuc => k_is)
    (case kEuc => k_is)
    (case aLow => k_is)
    (case lLow => k_is)
    (case cLow => k_is)
    (case kLow => k_is)
    (case aSha => k_is)
    (case lSha => k_is)
    (case cSha => k_is)
    (case kSha => k_is)
    (case aLaw => k_is)
    (case lLaw => k_is)
    (case cLaw => k_is)
    (case kLaw => k_is)
    (case zabs => k_is)
    (case zlen => k_is)
    (case zmin => k_is)
    (case zrange => k_is)
    (case zsorted => k_is)
    (case zlist => k_is)
    (case zdict => k_is)
    (case zsum => k_is)
    (case zint => k_is)
    (case zstr => k_is)
    (case gcd => k_is)
    (case lcm => k_is)
    (case aZe => k_is)
    (case lZ => k_is)
    (case aOn => k_is)
    (case lO => k_is)
