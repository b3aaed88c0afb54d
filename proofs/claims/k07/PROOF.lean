import PyProof.Rows.All
import Wide.All
import OpenK.AllK
import Wide.FinOn
import HandS.ForExc
import HandS.Comp
import HandS.More
import HandS.Star
import HandS.Gcd
import HandS.Defaults
import HandS.IsInst
import HandS.Wide
import HandS.ClsMeth
import HandS.Flow
import HandS.Style
import HandS.SortInts
import HandS.OwnEq
import HandS.FStr
import PyProof.Rows.ReprR
import HandS.MakeKw
import PySem.Challenge.RW_allzooms_k07_roundings_made_and_called
set_option Elab.async false
set_option maxRecDepth 100000
set_option maxHeartbeats 4000000
set_option linter.all false
namespace AZ
open PySem L2
/-! ## fractions -/
theorem num_di (a b : Int) (hb : b ≠ 0) : (Rat.divInt a b).num = a.fdiv (if b < 0 then -(Int.gcd a b : Int) else (Int.gcd a b : Int)) := by
  rw [Rat.num_divInt, Int.gcd_comm]
  obtain ⟨x, hx⟩ : (Int.gcd a b : Int) ∣ a := Int.gcd_dvd_left ..
  have hg : (Int.gcd a b : Int) ≠ 0 := by
    intro h
    have h2 : Int.gcd a b = 0 := by omega
    exact hb (Int.gcd_eq_zero_iff.mp h2).2
  generalize (Int.gcd a b : Int) = g at hx hg
  subst hx
  by_cases h : b < 0
  · rw [if_pos h, Int.sign_eq_neg_one_of_neg h, show -1 * (g * x) = g * -x by grind, Int.mul_ediv_cancel_left _ hg, show g * x = -g * -x by grind, Int.mul_fdiv_cancel_left _ (by omega)]
  · have hp : 0 < b := by omega
    rw [if_neg h, Int.sign_eq_one_of_pos hp, Int.one_mul, Int.mul_ediv_cancel_left _ hg, Int.mul_fdiv_cancel_left _ hg]
theorem den_di (a b : Int) (hb : b ≠ 0) : ((Rat.divInt a b).den : Int) = b.fdiv (if b < 0 then -(Int.gcd a b : Int) else (Int.gcd a b : Int)) := by
  rw [Rat.den_divInt, if_neg hb, Int.gcd_comm, Int.natCast_ediv]
  obtain ⟨x, hx⟩ : (Int.gcd a b : Int) ∣ b := Int.gcd_dvd_right ..
  have hg : (Int.gcd a b : Int) ≠ 0 := by
    intro h
    have h2 : Int.gcd a b = 0 := by omega
    exact hb (Int.gcd_eq_zero_iff.mp h2).2
  generalize hgd : (Int.gcd a b : Int) = g at hx hg
  by_cases h : b < 0
  · rw [if_pos h, show (b.natAbs : Int) = -b by omega, hx, show -(g * x) = g * -x by grind, Int.mul_ediv_cancel_left _ hg, show g * x = -g * -x by grind, Int.mul_fdiv_cancel_left _ (by omega)]
  · rw [if_neg h, show (b.natAbs : Int) = b by omega, hx, Int.mul_ediv_cancel_left _ hg, Int.mul_fdiv_cancel_left _ hg]
theorem dpos (q : Rat) : (0:Int) < q.den := Int.natCast_pos.mpr q.den_pos
theorem dne (q : Rat) : (q.den : Int) ≠ 0 := Int.ne_of_gt (dpos q)
theorem rdq (q : Rat) : Rat.divInt q.num q.den = q := Rat.num_divInt_den q
theorem r_add (x y : Rat) : Rat.divInt (x.num * y.den + y.num * x.den) (x.den * y.den) = x + y := by
  rw [← Rat.divInt_add_divInt _ _ (dne x) (dne y), rdq, rdq]
theorem r_sub (x y : Rat) : Rat.divInt (x.num * y.den - y.num * x.den) (x.den * y.den) = x - y := by
  rw [← Rat.divInt_sub_divInt _ _ (dne x) (dne y), rdq, rdq]
theorem r_mul (x y : Rat) : Rat.divInt (x.num * y.num) (x.den * y.den) = x * y := by
  rw [← Rat.divInt_mul_divInt, rdq, rdq]
theorem r_neg (x : Rat) : Rat.divInt (-x.num) x.den = -x := by
  rw [← Rat.neg_divInt, rdq]
theorem r_div (x y : Rat) : Rat.divInt (x.num * y.den) (x.den * y.num) = x / y := by
  rw [← Rat.divInt_mul_divInt, rdq, Rat.div_def, ← Rat.inv_divInt, rdq]
theorem r_floor (q : Rat) : q.num.fdiv q.den = q.floor := by
  rw [Rat.floor_def, Int.fdiv_eq_ediv_of_nonneg _ (Int.le_of_lt (dpos q))]
theorem r_ceil (q : Rat) : -((-q.num).fdiv q.den) = q.ceil := by
  rw [Rat.ceil_eq_neg_floor_neg, ← r_floor, Rat.neg_num, Rat.neg_den]
theorem r_int (n : Int) : Rat.divInt n 1 = (n : Rat) := by
  rw [Rat.divInt_eq_div]; show (n : Rat) / ((1 : Int) : Rat) = n; rw [Rat.intCast_one]; grind
theorem gcd_pos (a b : Int) (hb : b ≠ 0) : 0 < Int.gcd a b := Nat.pos_of_ne_zero fun h => hb (Int.gcd_eq_zero_iff.mp h).2
theorem gcd_le (a b : Int) (hb : b ≠ 0) : Int.gcd a b ≤ b.natAbs := Nat.le_of_dvd (by omega) (Nat.gcd_dvd_right _ _)
/-- sizes -/
def Sz (n : Nat) (q : Rat) : Prop := q.num.natAbs < 2 ^ n ∧ q.den < 2 ^ n
theorem sz_di {a b : Int} {n : Nat} (hb : b ≠ 0) (h1 : a.natAbs < 2 ^ n) (h2 : b.natAbs < 2 ^ n) : Sz n (Rat.divInt a b) := by
  constructor
  · rw [Rat.num_divInt]
    refine Nat.lt_of_le_of_lt (Int.natAbs_ediv_le_natAbs _ _) ?_
    rw [Int.natAbs_mul, Int.natAbs_sign_of_ne_zero hb, Nat.one_mul]
    exact h1
  · rw [Rat.den_divInt, if_neg hb]
    exact Nat.lt_of_le_of_lt (Nat.div_le_self _ _) h2
theorem Sz.mono {n m : Nat} {q : Rat} (h : Sz n q) (e : n ≤ m) : Sz m q :=
  ⟨Nat.lt_of_lt_of_le h.1 (Nat.pow_le_pow_right (by decide) e), Nat.lt_of_lt_of_le h.2 (Nat.pow_le_pow_right (by decide) e)⟩
theorem mul_lt2 {x y a b : Nat} (h1 : x < 2 ^ a) (h2 : y < 2 ^ b) : x * y < 2 ^ (a + b) := by
  rw [Nat.pow_add]; exact Nat.mul_lt_mul'' h1 h2

/-! ## operators of own classes, by promises -/
section
variable {X : Cx}
/-- what binary operators ask of the class at C: the def at f -/
structure BinM (K : PySem.W.Frag) (C : Addr) (op : Operator) (f : Addr) : Prop where
  hs : PySem.W.findIn K (.ref C) (PySem.dunder op.info.2) = some (some (.ref f))
  hf : PySem.W.isFn K (.ref f) = true
  hc : PySem.W.selfFirst K C = true
  hr : ∃ rc, PySem.W.findIn K (.ref C) (dunderR op.info.2) = some rc ∧ (rc = none ∨ ∃ g : Addr, rc = some (.ref g))
  ht : ∃ fo ro, PySem.W.findIn K (.type "int") (PySem.dunder op.info.2) = some fo ∧ PySem.W.findIn K (.type "int") (dunderR op.info.2) = some ro
  hu : PySem.W.subIn K (.type "int") (.ref C) = some false
/-- the right side: an int or another one of C -/
def RightI (C : Addr) (H : Hp) (y : V) : Prop := (∃ j, y = .int j) ∨ ∃ b dy gs, y = .ref b ∧ H b = some (.ins C dy gs)
def rOwn (X : Cx) (op : Operator) : R2 := fun x y H Q => ∃ (a C dx : Addr) (fs : List (Str × V)) (f : Addr) (CX : CXT) (k : Nat) (sp : Sp) (E : XK),
  x = .ref a ∧ H a = some (.ins C dx fs) ∧ RightI C H y ∧ BinM X.K C op f ∧ FnR X.prog X.w X.K X.mg X.base CX k f sp ∧ Room k X.A ∧ Passes CX X E ∧ sp [x, y] H Q E
theorem cmpBack_of {pins : List (Addr × Obj)} {σ : St} {Q : VK} {v : Value} {s : Shared} (h : EP X pins σ Q v s) : PySem.W.CmpBack (EP X pins σ Q) v s := by
  cases v <;> first
  | exact h
  | (obtain ⟨z, _, _, rz, _⟩ := h
     exfalso
     cases z <;> simp [RelV] at rz)
theorem op_ownB (op : Operator) : OpR X (binaryOp op) (rOwn X op) := by
  intro pins s σ H x y v u Q I rx ry h
  obtain ⟨a, C, dx, fs, f, CX, k, sp, E, rfl, ha, hR, hM, F, hr, hx, hs⟩ := h
  obtain rfl : v = Value.ref a := rx
  have hc : wpAny (model X.prog X.w) X.A (call (.ref f) [.ref a, u]) (PySem.W.CmpBack (EP X pins σ Q)) X.xe s :=
    thn (wpAny_call (run_fnR (us := [.ref a, u]) (vs := [.ref a, y]) F hr hx I (.cons rfl (.cons ry .nil)) hs)) fun _ _ z => cmpBack_of z
  obtain ⟨mA, J, _⟩ := ins_get I.hok ha
  obtain ⟨od, J, _⟩ := J.look
  obtain ⟨m, hF⟩ := I.fr
  rcases hR with ⟨j, rfl⟩ | ⟨b, dy, gs, rfl, hb⟩
  · obtain ⟨t, rfl⟩ := ry
    obtain ⟨rc, hrc, hp⟩ := hM.hr
    obtain ⟨fo, ro, h1, h2⟩ := hM.ht
    exact PySem.W.ksp_binT hF I.ok.mod.kin J rfl hM.hc hM.hs hM.hf hrc hp h1 h2 hM.hu hc
  · obtain rfl : u = Value.ref b := ry
    obtain ⟨mB, J2, _⟩ := ins_get I.hok hb
    obtain ⟨od2, J2, _⟩ := J2.look
    exact PySem.W.binop_K hF I.ok.mod.kin J J2.type hM.hc hM.hs hM.hf hc
/-- comparisons -/
structure CmpM (K : PySem.W.Frag) (C : Addr) (op : CmpOp) (f : Addr) : Prop where
  hs : PySem.W.findIn K (.ref C) (cmpInfo op).2.1 = some (some (.ref f))
  hf : PySem.W.isFn K (.ref f) = true
  hn : PySem.W.notFirst K C (.type "int") = true
def rOwnC (X : Cx) (op : CmpOp) : R2 := fun x y H Q => ∃ (a C dx : Addr) (fs : List (Str × V)) (f : Addr) (CX : CXT) (k : Nat) (sp : Sp) (E : XK),
  x = .ref a ∧ H a = some (.ins C dx fs) ∧ RightI C H y ∧ CmpM X.K C op f ∧ FnR X.prog X.w X.K X.mg X.base CX k f sp ∧ Room k X.A ∧ Passes CX X E ∧ sp [x, y] H Q E
theorem op_ownC (op : CmpOp) (hop : ∀ a b, compareOp op a b = richCompare op a b := by intro _ _; rfl) : OpR X (compareOp op) (rOwnC X op) := by
  intro pins s σ H x y v u Q I rx ry h
  obtain ⟨a, C, dx, fs, f, CX, k, sp, E, rfl, ha, hR, hM, F, hr, hx, hs⟩ := h
  obtain rfl : v = Value.ref a := rx
  have hc : wpAny (model X.prog X.w) X.A (call (.ref f) [.ref a, u]) (PySem.W.CmpBack (EP X pins σ Q)) X.xe s :=
    thn (wpAny_call (run_fnR (us := [.ref a, u]) (vs := [.ref a, y]) F hr hx I (.cons rfl (.cons ry .nil)) hs)) fun _ _ z => cmpBack_of z
  obtain ⟨mA, J, _⟩ := ins_get I.hok ha
  obtain ⟨od, J, _⟩ := J.look
  obtain ⟨m, hF⟩ := I.fr
  rw [hop]
  rcases hR with ⟨j, rfl⟩ | ⟨b, dy, gs, rfl, hb⟩
  · obtain ⟨t, rfl⟩ := ry
    exact PySem.W.cmp_K (tb := .type "int") hr.units0 hF I.ok.mod.kin J (PySem.W.Looks.of_pure rfl) hM.hn hM.hs hM.hf hc
  · obtain rfl : u = Value.ref b := ry
    obtain ⟨mB, J2, _⟩ := ins_get I.hok hb
    obtain ⟨od2, J2, _⟩ := J2.look
    exact PySem.W.cmp_K (tb := .ref C) hr.units0 hF I.ok.mod.kin J J2.type (by simp [PySem.W.notFirst]) hM.hs hM.hf hc
/-- one-place operators -/
structure UnM (K : PySem.W.Frag) (C : Addr) (nm : Str) (f : Addr) : Prop where
  hs : PySem.W.findIn K (.ref C) nm = some (some (.ref f))
  hf : PySem.W.isFn K (.ref f) = true
def rOwnU (X : Cx) (nm : Str) : V → Hp → VK → Prop := fun x H Q => ∃ (a C dx : Addr) (fs : List (Str × V)) (f : Addr) (CX : CXT) (k : Nat) (sp : Sp) (E : XK),
  x = .ref a ∧ H a = some (.ins C dx fs) ∧ UnM X.K C nm f ∧ FnR X.prog X.w X.K X.mg X.base CX k f sp ∧ Room k X.A ∧ Passes CX X E ∧ sp [x] H Q E
theorem un_ownNeg : UnR X (unaryOp .USub) (rOwnU X "__neg__") := by
  intro pins s σ H x v Q I rx h
  obtain ⟨a, C, dx, fs, f, CX, k, sp, E, rfl, ha, hM, F, hr, hx, hs⟩ := h
  obtain rfl : v = Value.ref a := rx
  obtain ⟨mA, J, _⟩ := ins_get I.hok ha
  obtain ⟨od, J, _⟩ := J.look
  obtain ⟨m, hF⟩ := I.fr
  exact PySem.W.ksp_neg hF I.ok.mod.kin J hM.hs hM.hf (wpAny_call (run_fnR (us := [.ref a]) (vs := [.ref a]) F hr hx I (.cons rfl .nil) hs))
theorem un_ownInv : UnR X (unaryOp .Invert) (rOwnU X "__invert__") := by
  intro pins s σ H x v Q I rx h
  obtain ⟨a, C, dx, fs, f, CX, k, sp, E, rfl, ha, hM, F, hr, hx, hs⟩ := h
  obtain rfl : v = Value.ref a := rx
  obtain ⟨mA, J, _⟩ := ins_get I.hok ha
  obtain ⟨od, J, _⟩ := J.look
  obtain ⟨m, hF⟩ := I.fr
  exact PySem.W.ksp_inv hF I.ok.mod.kin J hM.hs hM.hf (wpAny_call (run_fnR (us := [.ref a]) (vs := [.ref a]) F hr hx I (.cons rfl .nil) hs))
/-! ## static methods, methods, defs by positional promises -/
structure SMet (K : PySem.W.Frag) (C : Addr) (m : Str) (g : Addr) : Prop where
  ex : ∃ (mc : Value) (p : Addr) (rest : List Value), ClX.CRead K C mc ∧ PySem.W.findCls K (.ref C) mc m = some (.get (.builtin "staticmethod.__get__") (.ref p) .none (.ref C)) ∧ PySem.W.recIn K p "staticmethod" = some (.ref g :: rest)
  kp : PySem.W.keepIn K (.ref g) = true
variable {CX : CXT} {k : Nat} {C g : Addr} {sp : Sp} {E : XK} {o e : Expr} {es : List Expr} {m x : Str} {p pos apos : Pos} {ta : TE} {t : TA}
def tSM (C : Addr) (sp : Sp) (E : XK) (ta : TE) (t : TA) : TE := fun σ H Q => ta σ H fun x H1 => x = .ref C ∧ t σ H1 fun vs H2 => sp vs H2 Q E
theorem pe_smeth {pl : Sem Bool} (he : PE X o ta) (c : SMet X.K C m g) (F : FnR X.prog X.w X.K X.mg X.base CX k g sp) (hr : Room k X.A) (hx : Passes CX X E) (ha : PA X (e :: es) t)
    (hst : starEach (e :: es) X.env = (false, eval e X.env) :: starEach es X.env := by rfl) (hpl : (backTo pos (starEach es X.env)).any (·.1) = false := by rfl)
    (ht : eval (.Call (.Attribute o m apos) (e :: es) [] pos) X.env = (eval o X.env >>= fun ov => standAt apos.atName >>= fun _ => holding [ov] (getMethod ov m pl) >>= fun r =>
      callWith pos r.1 r.2 (backTo pos (starEach (e :: es) X.env)) (backToKw pos (keywordEach [] X.env))) := by rfl) :
    PE X (.Call (.Attribute o m apos) (e :: es) [] pos) (tSM C sp E ta t) := by
  refine ⟨fun pins s σ H Q I h => ?_⟩
  refine PySem.W.methodCall_KW (pl := pl) (thn (he.run pins s σ H _ I h) fun u s1 ⟨x, H1, I1, rx, ex, q⟩ => ?_) ht
  subst ex
  obtain rfl : u = Value.ref C := rx
  obtain ⟨mc, p, rest, r, at_, rc⟩ := c.ex
  refine PySem.W.method_cls I1.kIn r.ga ?_
  refine PySem.W.cls_bind I1.kIn r.rd at_ (wpAny_call (PySem.W.sm_get (s := { s1 with toks := s1.toks + 1 }) I1.kIn rc (PySem.W.handed_on rfl ?_)))
  refine PySem.W.callWith_K (first := []) (h₀ := X.base) I1.ok.mod.kin c.kp (thn (ha.run pos pins _ σ H1 _ (I1.tok _) q) fun us s2 ⟨vs, H2, I2, r2, q2⟩ => ⟨I2.kIn, ?_⟩) hst hpl
  exact wpAny_call (run_fnR F hr hx I2 r2 q2)
/-- x(e, ..), x a def of the module -/
theorem pe_fnR (F : FnR X.prog X.w X.K X.mg X.base CX k g sp) (hr : Room k X.A) (hk : PySem.W.keepIn X.K (.ref g) = true) (hm : X.mg x = some (.ref g)) (hx : Passes CX X E) (ha : PA X (e :: es) t) (hg : Gl X x := by rfl) (hd : (x == ("__debug__" : Str)) = false := by decide)
    (he : starEach (e :: es) X.env = (false, eval e X.env) :: starEach es X.env := by rfl) (hst : (backTo pos (starEach es X.env)).any (·.1) = false := by rfl) :
    PE X (.Call (.Name x p) (e :: es) [] pos) (fun σ H Q => t σ H fun vs H1 => sp vs H1 Q E) := by
  refine ⟨fun pins s σ H Q I h => ?_⟩
  refine wpAny_Call_Name_kw (ld_glob I hg hm ?_ hd)
  refine PySem.W.callWith_K (h₀ := X.base) I.ok.mod.kin hk (thn (ha.run pos pins s σ H _ I h) fun us s1 ⟨vs, H1, I1, r, q⟩ => ⟨I1.kIn, ?_⟩) he hst
  exact wpAny_call (run_fnR F hr hx I1 r q)
/-- o.m(e, ..) -/
def tMR (C : Addr) (m : Str) (sp : Sp) (E : XK) (ta : TE) (t : TA) : TE := fun σ H Q => ta σ H fun x H1 => ∃ a dx fs, x = .ref a ∧ H1 a = some (.ins C dx fs) ∧ fs.lookup m = none ∧ t σ H1 fun vs H2 => sp (x :: vs) H2 Q E
theorem pe_mR {pl : Sem Bool} (he : PE X o ta) (c : Cls X.K C) (hm : Meth X.K C m g) (F : FnR X.prog X.w X.K X.mg X.base CX k g sp) (hr : Room k X.A) (hx : Passes CX X E) (ha : PA X (e :: es) t)
    (hst : starEach (e :: es) X.env = (false, eval e X.env) :: starEach es X.env := by rfl) (hpl : (backTo pos (starEach es X.env)).any (·.1) = false := by rfl)
    (ht : eval (.Call (.Attribute o m apos) (e :: es) [] pos) X.env = (eval o X.env >>= fun ov => standAt apos.atName >>= fun _ => holding [ov] (getMethod ov m pl) >>= fun r =>
      callWith pos r.1 r.2 (backTo pos (starEach (e :: es) X.env)) (backToKw pos (keywordEach [] X.env))) := by rfl) :
    PE X (.Call (.Attribute o m apos) (e :: es) [] pos) (tMR C m sp E ta t) := by
  refine ⟨fun pins s σ H Q I h => ?_⟩
  refine PySem.W.methodCall_KW (pl := pl) (thn (he.run pins s σ H _ I h) fun u s1 ⟨x, H1, I1, rx, a, dx, fs, ex, ea, l, q⟩ => ?_) ht
  subst ex
  obtain rfl : u = Value.ref a := rx
  refine getmeth_ok I1 ea c hm l ?_
  refine PySem.W.callWith_K (first := [.ref a]) (h₀ := X.base) I.ok.mod.kin hm.kp (thn (ha.run pos pins s1 σ H1 _ I1 q) fun us s2 ⟨vs, H2, I2, r, q2⟩ => ⟨I2.kIn, ?_⟩) hst hpl
  exact wpAny_call (run_fnR (us := .ref a :: us) (vs := .ref a :: vs) F hr hx I2 (.cons rfl r) q2)
/-- o.m() -/
theorem pe_mR0 {pl : Sem Bool} (he : PE X o ta) (c : Cls X.K C) (hm : Meth X.K C m g) (F : FnR X.prog X.w X.K X.mg X.base CX k g sp) (hr : Room k X.A) (hx : Passes CX X E)
    (ht : eval (.Call (.Attribute o m apos) [] [] pos) X.env = (eval o X.env >>= fun ov => standAt apos.atName >>= fun _ => holding [ov] (getMethod ov m pl) >>= fun r =>
      callWith pos r.1 r.2 (backTo pos (starEach [] X.env)) (backToKw pos (keywordEach [] X.env))) := by rfl) :
    PE X (.Call (.Attribute o m apos) [] [] pos) (tMR C m sp E ta tNil) := by
  refine ⟨fun pins s σ H Q I h => ?_⟩
  refine PySem.W.methodCall_KW (pl := pl) (thn (he.run pins s σ H _ I h) fun u s1 ⟨x, H1, I1, rx, a, dx, fs, ex, ea, l, q⟩ => ?_) ht
  subst ex
  obtain rfl : u = Value.ref a := rx
  refine getmeth_ok I1 ea c hm l ?_
  exact PySem.W.callWith_K0 (first := [.ref a]) I1.kIn hm.kp (wpAny_call (run_fnR (us := [.ref a]) (vs := [.ref a]) F hr hx I1 (.cons rfl .nil) q))
/-- // by a divisor of any sign below 2 ^ 9000 -/
def CDivZ (_ j : Int) : Prop := j ≠ 0 ∧ j.natAbs.log2 < 9000
theorem op_fdivZ : OpR X (binaryOp .FloorDiv) (rI CDivZ fun i j => .int (i.fdiv j)) := opI fun _ _ _ _ _ _ _ hc q => PyProof.Rows.floordiv_int hc.1 q (.inl (PyProof.noPylong_of_log2 hc.2))
theorem divZ {i j : Int} {b : Nat} (h : j ≠ 0) (hb : j.natAbs < 2 ^ b) (h0 : 0 < b) (h9 : b ≤ 9000) : CDivZ i j := ⟨h, Nat.lt_of_lt_of_le (PySem.Flt.log2_lt_of h0 hb) h9⟩
/-- what isinstance asks of an own class -/
structure TyC (K : PySem.W.Frag) (C : Addr) : Prop where
  ha : PySem.W.findIn K (.ref C) "__class__" = some (some (.builtin "object.__class__"))
  hn : PySem.W.specialIn K (.builtin "object.__class__") "__get__" = some (some (.builtin "getset_descriptor.__get__"))
  htk : PySem.W.takesIn K (.builtin "object.__class__") = some true
  hm : PySem.W.mroIn K C (.type "object") = some true
theorem TyC.ty {K : PySem.W.Frag} {C a dx : Addr} {H : Hp} {fs : List (Str × V)} (y : TyC K C) (c : Cls K C) (e : H a = some (.ins C dx fs)) : TyX K H (.ref a) (.ref C) := .base (.ins e c y.ha y.hn y.htk y.hm)
theorem kit_rt {K : PySem.W.Frag} {C : Addr} {S : String} {b : Bool} (m : PySem.W.kitMeta S = true) (h : PySem.W.subIn K (.ref C) (.type S) = some b) : PySem.W.kitOne K (.ref C) (.type S) = some b := by
  unfold PySem.W.kitOne PySem.W.kitCls
  rw [if_neg (by intro e; cases (beq_iff_eq.mp e))]
  dsimp only
  rw [if_pos m]
  exact h
theorem kit_tr {K : PySem.W.Frag} {C : Addr} {S : String} {b : Bool} (c : PySem.W.isClsIn K C = true) (t : PySem.W.typeIn K (.ref C) = some (.type "type")) (h : PySem.W.subIn K (.type S) (.ref C) = some b) : PySem.W.kitOne K (.type S) (.ref C) = some b := by
  unfold PySem.W.kitOne PySem.W.kitCls
  rw [if_neg (by intro e; cases (beq_iff_eq.mp e))]
  dsimp only
  rw [if_pos (by rw [show (PySem.W.clsIn K C).isSome = true from c, t]; rfl)]
  exact h
theorem kit_rr {K : PySem.W.Frag} {C : Addr} : PySem.W.kitOne K (.ref C) (.ref C) = some true := by simp [PySem.W.kitOne]
theorem ifF {c : Bool} {A B : Prop} (hc : c = false) (h : B) : if c = true then A else B := by subst hc; exact iteF h
theorem ifT {c : Bool} {A B : Prop} (hc : c = true) (h : A) : if c = true then A else B := by subst hc; exact iteT h
theorem if2 {c : Bool} {A B : Prop} (h1 : c = true → A) (h2 : c = false → B) : if c = true then A else B := by
  cases c with
  | true => exact iteT (h1 rfl)
  | false => exact iteF (h2 rfl)
/-! ## what stays beside a pen -/
def isL : HO → Bool
  | .lst _ => true
  | _ => false
/-- all but the list at p stays -/
def Up (p : Addr) (H H' : Hp) : Prop := ∀ b o, H b = some o → (b = p → isL o = false) → H' b = some o
theorem Up.refl (p : Addr) (H : Hp) : Up p H H := fun _ _ h _ => h
theorem Up.trans {p : Addr} {H H1 H2 : Hp} (a : Up p H H1) (b : Up p H1 H2) : Up p H H2 := fun c o h n => b c o (a c o h n) n
theorem Up.same {p : Addr} {H H' : Hp} (e : Same H H') : Up p H H' := fun b o h _ => e b o h
theorem Up.new {p q : Addr} {H : Hp} {o : HO} (h : H q = none) : Up p H (upd H q o) := fun b u e _ => by rw [upd_ne (ne_of_none e h)]; exact e
theorem Up.new' {p q : Addr} {H H1 : Hp} {o : HO} (e : Up p H H1) (h : H1 q = none) : Up p H (upd H1 q o) := e.trans (Up.new h)
theorem Up.put {p : Addr} {H : Hp} {xs : List V} {o : HO} (h : H p = some (.lst xs)) : Up p H (upd H p o) := fun b u e n => by
  by_cases hb : b = p
  · subst hb
    rw [h] at e
    cases e
    exact absurd (n rfl) (by simp [isL])
  · rw [upd_ne hb]; exact e
theorem Up.tup {p a : Addr} {H H' : Hp} {xs : List V} (e : Up p H H') (h : H a = some (.tup xs)) : H' a = some (.tup xs) := e _ _ h fun _ => rfl
theorem Up.ins {p a C dx : Addr} {H H' : Hp} {fs : List (Str × V)} (e : Up p H H') (h : H a = some (.ins C dx fs)) : H' a = some (.ins C dx fs) := e _ _ h fun _ => rfl
theorem Up.lst {p a : Addr} {H H' : Hp} {xs : List V} (e : Up p H H') (h : H a = some (.lst xs)) (n : a ≠ p) : H' a = some (.lst xs) := e _ _ h fun z => absurd z n
/-! ## rules by alternatives -/
theorem CallR.or' {f : Value} {r r' : List V → Hp → VK → Prop} (h : CallR X f r) (h' : CallR X f r') : CallR X f (fun xs H Q => r xs H Q ∨ r' xs H Q) := by
  intro pins s σ H xs us Q I rv q
  rcases q with q | q
  · exact h pins s σ H xs us Q I rv q
  · exact h' pins s σ H xs us Q I rv q
theorem UnR.or' {f : Value → Sem Value} {r r' : V → Hp → VK → Prop} (h : UnR X f r) (h' : UnR X f r') : UnR X f (fun x H Q => r x H Q ∨ r' x H Q) := by
  intro pins s σ H x v Q I rv q
  rcases q with q | q
  · exact h pins s σ H x v Q I rv q
  · exact h' pins s σ H x v Q I rv q
def orR (r r' : R2) : R2 := fun x y H Q => r x y H Q ∨ r' x y H Q
theorem op_or2 {f : Value → Value → Sem Value} {r r' : R2} (h : OpR X f r) (h' : OpR X f r') : OpR X f (orR r r') := OpR.or h h'
theorem uAdd : OpR X (binaryOp .Add) (orR (rI0 fun i j => .int (i + j)) (orR (rOwn X .Add) (orR rCat (rCatT X.K)))) := op_or2 op_add (op_or2 (op_ownB _) (op_or2 op_cat op_catT))
theorem uSub : OpR X (binaryOp .Sub) (orR (rI0 fun i j => .int (i - j)) (rOwn X .Sub)) := op_or2 op_sub (op_ownB _)
/-- * of two factors, one small or both together below a million bits -/
def CMulU (i j : Int) : Prop := CMul i j ∨ CMulW i j
theorem op_mulU : OpR X (binaryOp .Mult) (rI CMulU fun i j => .int (i * j)) := opI fun _ _ _ _ _ _ _ hc q => PyProof.Rows.mul_int q (hc.elim (fun h => h.ok) fun h => h.ok)
theorem mulL {i j : Int} (h : -(2 ^ 64) < i ∧ i < 2 ^ 64) : CMulU i j := .inl (.inl h)
theorem mulR {i j : Int} (h : -(2 ^ 64) < j ∧ j < 2 ^ 64) : CMulU i j := .inl (.inr h)
theorem uMul : OpR X (binaryOp .Mult) (orR (rI CMulU fun i j => .int (i * j)) (rOwn X .Mult)) := op_or2 op_mulU (op_ownB _)
/-! ## numbers that stir a pen -/
theorem fm0 {a b : Int} (h : 0 < b) : 0 ≤ a.fmod b ∧ a.fmod b < b := by
  rw [Int.fmod_eq_emod_of_nonneg _ (by omega)]
  exact ⟨Int.emod_nonneg _ (by omega), Int.emod_lt_of_pos _ h⟩
theorem stir1 {x m a b s : Int} (hm : 0 < m) (hm1 : m ≤ 2147483648) (ha : 0 ≤ a) (ha1 : a ≤ 1000000) (hb : 0 ≤ b) (hb1 : b ≤ 10000000) (h0 : 0 ≤ s) (h1 : s ≤ 100000) : (x.fmod m + a * s + b).natAbs < 2 ^ 64 := by
  obtain ⟨h2, h3⟩ := fm0 (a := x) hm
  have h4 : 0 ≤ a * s := Int.mul_nonneg ha h0
  have h5 : a * s ≤ 1000000 * 100000 := Int.mul_le_mul ha1 h1 h0 (by decide)
  omega
theorem stir2 {x m u a b s : Int} (hm : 0 < m) (hm1 : m ≤ 2147483648) (hu : 0 ≤ u) (hu1 : u ≤ 100000) (ha : 0 ≤ a) (ha1 : a ≤ 1000000) (hb : 0 ≤ b) (hb1 : b ≤ 10000000) (h0 : 0 ≤ s) (h1 : s ≤ 100000) : (x.fmod m * (2 * s + u) + a * s * s + b).natAbs < 2 ^ 64 := by
  obtain ⟨h2, h3⟩ := fm0 (a := x) hm
  have h4 : 0 ≤ a * s := Int.mul_nonneg ha h0
  have h5 : a * s ≤ 1000000 * 100000 := Int.mul_le_mul ha1 h1 h0 (by decide)
  have h6 : 0 ≤ a * s * s := Int.mul_nonneg h4 h0
  have h7 : a * s * s ≤ 1000000 * 100000 * 100000 := Int.mul_le_mul h5 h1 h0 (by decide)
  have h8 : 0 ≤ x.fmod m * (2 * s + u) := Int.mul_nonneg h2 (by omega)
  have h9 : x.fmod m * (2 * s + u) ≤ 2147483648 * 300000 := Int.mul_le_mul (by omega) (by omega) (by omega) (by decide)
  omega
theorem stir3 {x m : Int} (hm : 0 < m) (hm1 : m ≤ 2147483648) : ∀ y, CMulU (x.fmod m) y := fun y => by
  obtain ⟨h2, h3⟩ := fm0 (a := x) hm
  exact mulL (by omega)
theorem stir4 {a s : Int} (ha : 0 ≤ a) (ha1 : a ≤ 1000000) (h0 : 0 ≤ s) (h1 : s ≤ 100000) : ∀ y, CMulU (a * s) y := fun y => by
  have h4 : 0 ≤ a * s := Int.mul_nonneg ha h0
  have h5 : a * s ≤ 1000000 * 100000 := Int.mul_le_mul ha1 h1 h0 (by decide)
  exact mulL (by omega)
theorem nz {j : Int} (h : j ≠ 0) : j ≠ 0 := h
theorem small_div {i j : Int} (h0 : 0 < j) (h1 : j ≤ 100000000000) : CDivZ i j := divZ (b := 40) (by omega) (by omega) (by decide) (by decide)
theorem szN {n : Nat} {q : Rat} (h : Sz n q) : q.num.natAbs < 2 ^ n := h.1
theorem szD {n : Nat} {q : Rat} (h : Sz n q) : (q.den : Int).natAbs < 2 ^ n := h.2
theorem mul2 {i j : Int} (h1 : i.natAbs < 2 ^ 2000) (h2 : j.natAbs < 2 ^ 2000) : CMulU i j := .inr (wide_mul h1 h2 (by decide) (by decide) (by decide))
theorem den2 {x y : Rat} (h1 : Sz 2000 x) (h2 : Sz 2000 y) : ((x.den : Int) * (y.den : Int)).natAbs < 2 ^ 8000 := by
  rw [Int.natAbs_mul]
  exact Nat.lt_of_lt_of_le (mul_lt2 (szD h1) (szD h2)) (Nat.pow_le_pow_right (by decide) (by decide))
theorem den0 (x y : Rat) : (x.den : Int) * (y.den : Int) ≠ 0 := Int.mul_ne_zero (dne x) (dne y)
/-! ## menus: displays of tuples of constants -/
def tcs (c : List V) : TA := c.foldr (fun v t => tCons (tC v) t) tNil
theorem tcs_ok {σ : St} : ∀ {c : List V} {H : Hp} {Q : List V → Hp → Prop}, Q c H → tcs c σ H Q
  | [], _, _, q => q
  | v :: c, H, Q, q => tcs_ok (c := c) (H := H) (Q := fun xs H2 => Q (v :: xs) H2) q
def tMenu (cs : List (List V)) : TA := cs.foldr (fun c t => tCons (tTup (tcs c)) t) tNil
theorem tMenu_ok {σ : St} : ∀ {cs : List (List V)} {H : Hp} {Q : List V → Hp → Prop}, (∀ c ∈ cs, c.length ≤ 1000) →
    (∀ ps H', Same H H' → Paired (fun p c => H' p = some (.tup c)) ps cs → Q (ps.map V.ref) H') → tMenu cs σ H Q
  | [], H, Q, _, q => q [] H (Same.refl H) .nil
  | c :: cs, H, Q, hc, q => by
    show tTup (tcs c) σ H (fun x H1 => tMenu cs σ H1 fun xs H2 => Q (x :: xs) H2)
    refine tcs_ok (c := c) ⟨Nat.le_of_lt (small1000 (hc c (List.mem_cons_self ..))), fun p hp => ?_⟩
    refine tMenu_ok (fun c' h => hc c' (List.mem_cons_of_mem _ h)) fun ps H' e pr => ?_
    refine q (p :: ps) H' (fun b o h => e _ _ (by rw [upd_ne (ne_of_none h hp)]; exact h)) (.cons (e _ _ upd_same) pr)
theorem sameNew {H : Hp} {a : Addr} {o : HO} (h : H a = none) : Same H (upd H a o) := fun b u e => by rw [upd_ne (ne_of_none e h)]; exact e
theorem go_sa {te : TE} {g : TG} {u : TS} {D : Ends} {σ : St} {H : Hp} (h : te σ H fun x H1 => g x σ H1 (u D)) : tSeq (tAsg te g) u D σ H := h
theorem qb {Q : Bool → Hp → Prop} {b c : Bool} {H : Hp} (e : b = c) (h : Q c H) : Q b H := e ▸ h
theorem vb {Q : VK} {b c : Bool} {H : Hp} (e : b = c) (h : Q (.bl c) H) : Q (.bl b) H := e ▸ h
/-- an if whose test is false, whatever is wanted of it -/
theorem sif {tc : TT} {t w : TS} {D : Ends} {σ : St} {H : Hp} (h : ∀ Q : Bool → Hp → Prop, (∀ H2, Same H H2 → Q false H2) → tc σ H Q) (k : ∀ H2, Same H H2 → w D σ H2) : tSeq (tIfS tc t tNext) w D σ H :=
  h _ fun H2 e => iteF (k H2 e)
theorem lMenu_ok {σ : St} {cs : List (List V)} {H : Hp} {Q : VK} (hc : ∀ c ∈ cs, c.length ≤ 1000) (hl : cs.length ≤ 1000)
    (q : ∀ ps H1 a, Same H H1 → Paired (fun p c => H1 p = some (.tup c)) ps cs → H1 a = none → Q (.ref a) (upd H1 a (.lst (ps.map V.ref)))) : tLst (tMenu cs) σ H Q :=
  tMenu_ok hc fun ps H1 e pr => ⟨by rw [List.length_map, pr.length]; exact Nat.le_of_lt (small1000 hl), fun a ha => q ps H1 a e pr ha⟩
theorem paired_mem {α β : Type} {F : α → β → Prop} : ∀ {l : List α} {m : List β} {x : α}, Paired F l m → x ∈ l → ∃ y ∈ m, F x y
  | _, _, _, .nil, h => by cases h
  | _, _, x, .cons r t, h => by
    rcases List.mem_cons.mp h with e | h
    · subst e; exact ⟨_, List.mem_cons_self .., r⟩
    · obtain ⟨y, hy, f⟩ := paired_mem t h
      exact ⟨y, List.mem_cons_of_mem _ hy, f⟩
/-! ## lists of ints as data -/
theorem dp_ints {K : PySem.W.Frag} {H : Hp} : ∀ ns : List Int, DpAll K H (ns.map V.int) (ns.map PyData.int)
  | [] => .nil
  | n :: ns => .cons (.int n) (dp_ints ns)
theorem canAll_ints : ∀ ns : List Int, PyData.canLayAll0 (ns.map PyData.int) = true
  | [] => by simp [PyData.canLayAll0]
  | n :: ns => by simp [PyData.canLayAll0, PyData.canLay0, canAll_ints ns]
theorem depthAll_ints : ∀ ns : List Int, PyData.depthAll (ns.map PyData.int) ≤ 1
  | [] => by simp [PyData.depthAll]
  | n :: ns => by
    have h := depthAll_ints ns
    simp [PyData.depthAll, PyData.depth] at *
    omega
theorem shaped_ints (ns : List Int) : SeqAt.shaped (.list (ns.map PyData.int)) = true := by
  have h := depthAll_ints ns
  simp [SeqAt.shaped, PyData.canLay0, PyData.depth, canAll_ints]
  omega
theorem eqv_same : ∀ ns : List Int, PyData.eqv (.list (ns.map PyData.int)) (.list (ns.map PyData.int)) = true
  | [] => by simp [PyData.eqv, PyData.eqvAll]
  | n :: ns => by
    have h := eqv_same ns
    simp [PyData.eqv, PyData.eqvAll] at *
    exact h
theorem eqv_nil (ns : List Int) : PyData.eqv (.list (ns.map PyData.int)) (.list []) = ns.isEmpty := by
  cases ns <;> simp [PyData.eqv, PyData.eqvAll]
theorem uDiv : OpR X (binaryOp .FloorDiv) (orR (rI CDivZ fun i j => .int (i.fdiv j)) (rOwn X .FloorDiv)) := op_or2 op_fdivZ (op_ownB _)
theorem uMod : OpR X (binaryOp .Mod) (orR (rI (fun _ j => j ≠ 0) fun i j => .int (i.fmod j)) (rOwn X .Mod)) := op_or2 op_modN (op_ownB _)
theorem uLt : OpR X (compareOp .Lt) (orR (rI0 fun i j => .bl (decide (i < j))) (rOwnC X .Lt)) := op_or2 op_lt (op_ownC _)
theorem uLe : OpR X (compareOp .LtE) (orR (rI0 fun i j => .bl (decide (i ≤ j))) (rOwnC X .LtE)) := op_or2 op_le (op_ownC _)
theorem uGt : OpR X (compareOp .Gt) (orR (rI0 fun i j => .bl (decide (j < i))) (rOwnC X .Gt)) := op_or2 op_gt (op_ownC _)
theorem uGe : OpR X (compareOp .GtE) (orR (rI0 fun i j => .bl (decide (j ≤ i))) (rOwnC X .GtE)) := op_or2 op_ge (op_ownC _)
theorem uEq (hu : X.A.units + 64 < cLine) : OpR X (compareOp .Eq) (orR rEq (orR (rOwnC X .Eq) (rEqD X.K))) := op_or2 op_eq (op_or2 (op_ownC _) (op_eqD hu))
theorem uNe (hu : X.A.units + 64 < cLine) : OpR X (compareOp .NotEq) (orR rNe (rNeD X.K)) := op_or2 op_ne (op_neD hu)
theorem uNeg : UnR X (unaryOp .USub) (fun x H Q => rU (fun i => .int (-i)) x H Q ∨ rOwnU X "__neg__" x H Q) := UnR.or' un_neg un_ownNeg
/-- two promises of one def -/
theorem FnR.or {P : Program} {w : World} {K : PySem.W.Frag} {mg : Str → Option Value} {base : Heap} {CX : CXT} {k : Nat} {f : Addr} {sp sp' : Sp} (h : FnR P w K mg base CX k f sp) (h' : FnR P w K mg base CX k f sp') :
    FnR P w K mg base CX k f (fun vs H Q E => sp vs H Q E ∨ sp' vs H Q E) := fun A outer s H us vs Q E hr e0 r hs =>
  hs.elim (fun q => h A outer s H us vs Q E hr e0 r q) fun q => h' A outer s H us vs Q E hr e0 r q
theorem uIsi : CallR X (.builtin "isinstance") (fun xs H Q => rIsi X.K xs H Q ∨ rIsiT X.K xs H Q) := CallR.or' call_isi call_isiT
end
end AZ

set_option Elab.async false
set_option maxRecDepth 100000
set_option maxHeartbeats 4000000
set_option linter.all false
namespace AZ
open PySem PySem.Spec PySem.W PySem.Calls PyProof.Rows
section
variable {prog : Program} {w : World} {A : Around} {E : Value → Shared → Prop} {s : Shared} {K : Frag} {x C L f : Addr} {h₀ : Heap} {m : Str → Option Value} {ox : Obj} {od : Option Obj} {name : Str} {b tb : Value}
theorem ifBound_B {M : Model} {id : String} {args : List Value} {Q : Option Value → Shared → Prop} (X : K.In s.heap) (I : InstAt s.heap x ox C od) (hs : findIn K (.ref C) name = some (some (.builtin id)))
    (hb : ∀ self, bindSpecial (.builtin id) self = pure (.builtin id, [self])) (h : wpAny M A (call (.builtin id) (.ref x :: args)) (fun v => Q (some v)) E s) : wpAny M A (callSpecialIfBound? (.ref x) name args) Q E s := by
  simp only [callSpecialIfBound?, bindSpecialIfBound?]
  refine wpAny_holding (wpAny_bind (wpAny_bind (wpAny_bind (I.type.here ((looks_findIn X hs).here ?_)))))
  refine wpAny_bind (wpAny_askSetting (wpAny_ite ?_))
  have fin : wpAny M A (call (.builtin id) ([.ref x] ++ args) >>= fun v => pure (some v)) Q E s := wpAny_bind (wpAny_mono h (fun v s' h' => wpAny_pure h') fun _ _ h' => h')
  split
  · exact wpAny_bind ((Looks.of_pure (hb _)).here (wpAny_pure (by exact fin)))
  · exact wpAny_tryCatch (wpAny_bind ((Looks.of_pure (hb _)).here (wpAny_pure (by exact fin))))
theorem one_ne {Q : Value → Shared → Prop} (hu : A.units + 1 < cLine) (X : K.In s.heap) (I : InstAt s.heap x ox C od)
    (hne : findIn K (.ref C) "__ne__" = some (some (.builtin "object.__ne__"))) (hs : findIn K (.ref C) "__eq__" = some (some (.ref f))) (hf : isFn K (.ref f) = true) (hm : mroIn K C (.type "object") = some true)
    (h : wpAny (model prog w) A.in1 (call (.ref f) [.ref x, b]) (fun v s' => ∃ r, v = .bool r ∧ Q (.bool (!r)) s') E s) :
    wpAny (model prog w) A (tryCompare (.ref x) "__ne__" b) (fun r s' => ∃ v, r = some v ∧ Q v s') E s := by
  have hu' : A.in1.units < cLine := by
    show A.units + 1 < cLine
    exact hu
  unfold tryCompare
  refine wpAny_bind (ifBound_B X I hne PySem.F.cmp_object.ne.bind (wpAny_call (codeAny_call_builtin PySem.F.cmp_object.ne.plain PySem.F.cmpEntry_ne (check_slot PySem.F.cmpKind_ne PySem.F.cmpSplit_ne (I.type.andThen (looks_mroIn X hm)) (PySem.F.cmpArgs_ne _ _) ?_))))
  unfold Builtin.«object.__ne__»
  refine wpAny_bind (m := slotArgs "__ne__" 1 _) (wpAny_pure ?_)
  refine wpAny_bind (m := cRoomFor _ _) (wpAny_cRoomFor hu' ?_)
  refine wpAny_bind (m := callSpecialIfBound? (.ref x) (Str.ofString "__eq__") _) (ifBound_K X I hs hf (wpAny_mono h (fun r s' hr => ?_) fun _ _ y => y))
  obtain ⟨q, rfl, hq⟩ := hr
  refine wpAny_bind (wpAny_truthy_bool (wpAny_pure ?_))
  exact wpAny_pure ⟨_, rfl, hq⟩
theorem ne_K {Q : Value → Shared → Prop} (hu : A.units + 1 < cLine) (F : Fr h₀ L s.heap m) (X₀ : K.In h₀) (I : InstAt s.heap x ox C od) (hb : Looks (model prog w) s.heap (typeOf b) tb) (hn : notFirst K C tb = true)
    (hne : findIn K (.ref C) "__ne__" = some (some (.builtin "object.__ne__"))) (hs : findIn K (.ref C) "__eq__" = some (some (.ref f))) (hf : isFn K (.ref f) = true) (hm : mroIn K C (.type "object") = some true)
    (h : wpAny (model prog w) A.in1 (call (.ref f) [.ref x, b]) (fun v s' => ∃ r, v = .bool r ∧ Q (.bool (!r)) s') E s) : wpAny (model prog w) A (richCompare .NotEq (.ref x) b) Q E s := by
  have X := X₀.keeps F.keep
  have one := one_ne hu X I hne hs hf hm h
  unfold richCompare
  simp only [oneThing_ref]
  refine wpAny_holding (wpAny_bind (wpAny_cRoomFor (by omega) ?_))
  refine wpAny_bind (I.type.here (wpAny_bind (hb.here ?_)))
  split
  · rename_i q
    have e : subIn K tb (.ref C) = some false := by
      rcases Bool.or_eq_true_iff.mp hn with e | e
      · rw [beq_iff_eq.mp e] at q; simp at q
      · exact beq_iff_eq.mp e
    refine wpAny_bind ((looks_subIn X e).here ?_)
    simp only [Bool.false_eq_true, if_false]
    refine wpAny_bind (wpAny_mono one (fun r s' z => ?_) fun _ _ e => e)
    obtain ⟨v, rfl, hq⟩ := z
    exact wpAny_pure hq
  · refine wpAny_bind (wpAny_pure ?_)
    simp only [Bool.false_eq_true, if_false]
    refine wpAny_bind (wpAny_mono one (fun r s' z => ?_) fun _ _ e => e)
    obtain ⟨v, rfl, hq⟩ := z
    exact wpAny_pure hq
end
end AZ
namespace GQ
open PySem PySem.SeqAt
open AutoSeq1 (wpAny_loadPart')
open MeetsSeq MeetsSeq2 MeetsSeq3 SeqRoads2
section
variable {prog : Program} {w : World} {A : Around} {R : Result → Shared → Prop}
/-- where the walk over two tuples stands -/
def PairsAt (as bs : Array Value) (J : Nat → Shared → Prop) (left : List (Value × Value)) (z : Shared) : Prop := ∃ k, left = (as.toList.zip bs.toList).drop k ∧ k ≤ as.size ∧ J k z
theorem pairs_next {as bs : Array Value} {J : Nat → Shared → Prop} (e : as.size = bs.size) {p q : Value} {left : List (Value × Value)} {z : Shared} (h : PairsAt as bs J ((p, q) :: left) z) :
    ∃ k, ∃ (k1 : k < as.size) (k2 : k < bs.size), p = as[k] ∧ q = bs[k] ∧ left = (as.toList.zip bs.toList).drop (k + 1) ∧ J k z := by
  obtain ⟨k, el, _, hJ⟩ := h
  have len : (as.toList.zip bs.toList).length = as.size := by simp [e]
  by_cases hk : k < (as.toList.zip bs.toList).length
  · have k1 : k < as.size := len ▸ hk
    rw [List.drop_eq_getElem_cons hk] at el
    obtain ⟨e1, e2⟩ := List.cons.inj el
    have e3 := Prod.mk.inj (e1.trans (show _ = (as[k], bs[k]'(e ▸ k1)) by simp))
    exact ⟨k, k1, e ▸ k1, e3.1, e3.2, e2, hJ⟩
  · rw [List.drop_of_length_le (Nat.le_of_not_lt hk)] at el
    cases el
theorem pairs_done {as bs : Array Value} {J : Nat → Shared → Prop} (e : as.size = bs.size) {z : Shared} (h : PairsAt as bs J [] z) : J as.size z := by
  obtain ⟨k, el, hk, hJ⟩ := h
  have len : (as.toList.zip bs.toList).length = as.size := by simp [e]
  have : (as.toList.zip bs.toList).length ≤ k := by simpa using el.symm
  have hke : k = as.size := by omega
  exact hke ▸ hJ
theorem tup_ne {u v : Addr} {as bs : Array Value} {n1 n2 : Nat} {d1 d2 : Option Addr} {s1 s2 : Array (Option Value)} (e : as.size = bs.size) (J : Nat → Shared → Prop)
    (step : ∀ k (k1 : k < as.size) (k2 : k < bs.size) z, J k z → wpAny (model prog w) A.in1 (eqBool as[k] bs[k]) (fun r z' => r = true ∧ J (k + 1) z') (fun x z' => R (.error x) z') z)
    (last : ∀ z, J as.size z → R (.ok (.ret (.bool false))) z) {z : Shared} (hu : z.heap.get? u = some { cls := .type "tuple", dict := d1, data := .seq as n1, slots := s1 }) (hv : z.heap.get? v = some { cls := .type "tuple", dict := d2, data := .seq bs n2, slots := s2 }) (h : J 0 z) :
    wpAny (model prog w) A.in1 (Builtin.«tuple.__ne__» ⟨[.ref u, .ref v], []⟩) (FinOf prog w A R) (fun x z' => R (.error x) z') z := by
  have isTup := AutoSeq1.sub_tuple_tuple
  have start : PairsAt as bs J (as.toList.zip bs.toList) z := ⟨0, rfl, Nat.zero_le _, h⟩
  obtain ⟨hp, gs, dr, tk, os⟩ := z
  wp_walk using wpAny_loadPart' hu, wpAny_loadPart' hv, wpAny_forIn_list _ (fun left b z' => b.1 = none ∧ PairsAt as bs J left z') _
  case turn =>
    rintro ⟨p, q⟩ left b z' ⟨_, at_⟩
    obtain ⟨k, k1, k2, rfl, rfl, el, hJ⟩ := pairs_next e at_
    refine wpAny_bind (wpAny_mono (step k k1 k2 z' hJ) (fun r z2 hz => ?_) fun _ _ x => x)
    obtain ⟨rfl, hJ2⟩ := hz
    wp_walk
    exact ⟨rfl, k + 1, el, k1, hJ2⟩
  case fin =>
    rintro ⟨b1, b2⟩ z' ⟨hb, at_⟩
    obtain rfl : b1 = none := hb
    have hl := last z' (pairs_done e at_)
    wp_walk
    simpa [Builtin.Tuple.tupleCompareSizes, e] using hl
  case h => exact ⟨rfl, start⟩
end
section
variable {prog : Program} {w : World} {A : Around} {X : Value → Shared → Prop} {z : Shared}
theorem ne_tups {u v : Addr} {as bs : Array Value} {Q : Value → Shared → Prop} (e : as.size = bs.size) (room : A.units < cLine) (J : Nat → Shared → Prop) (hu : z.heap.IsTuple u as) (hv : z.heap.IsTuple v bs)
    (step : ∀ k (k1 : k < as.size) (k2 : k < bs.size) z, J k z → wpAny (model prog w) A.in1 (eqBool as[k] bs[k]) (fun r z' => r = true ∧ J (k + 1) z') X z)
    (last : ∀ z, J as.size z → Q (.bool false) z) (h : J 0 z) : wpAny (model prog w) A (richCompare .NotEq (.ref u) (.ref v)) Q X z := by
  obtain ⟨⟨c1, d1, a1, s1⟩, g1, rfl, n1, rfl⟩ := id hu
  obtain ⟨⟨c2, d2, a2, s2⟩, g2, rfl, n2, rfl⟩ := id hv
  exact wpAny_richCompare_same_room (op := .NotEq) ⟨_, g1, rfl⟩ ⟨_, g2, rfl⟩ F.slot_tuple_ne (call_here F.slot_tuple_ne ⟨_, g1, rfl⟩ F.entry_tuple_ne (F.args_tuple_ne_2 _ _)
    (tup_ne (R := wants (fun v s' => v ≠ .notImplemented ∧ Q v s') X) e J step (fun z' q => ⟨(fun x => nomatch x), last z' q⟩) g1 g2 h)) room
end
end GQ
namespace AZ
open PySem L2
section
variable {X : Cx} {n m : Nat} {D D' : Eqv}
/-- the callee of X, somewhere below X's running body -/
theorem run_fnS {CX : CXT} {f : Addr} {sp : Sp} {E : XK} {Q : VK} {us : List Value} {vs : List V} {A : Around} {pins : List (Addr × Obj)} {σ : St} {H : Hp} {s : Shared} (sb : Sub X n A) (F : FnR X.prog X.w X.K X.mg X.base CX n f sp) (hx : Passes CX X E) (I : Inv X pins σ H s) (r : Vals vs us) (h : sp vs H Q E) :
    codeAny (model X.prog X.w) A (.call (.ref f) ⟨us, []⟩) (fun r s' => match r with | .ok (.ret v) => EP X pins σ Q v s' | .ok _ => False | .error e => X.xe e s') s := by
  have e0 : Env0 X.prog X.w X.K X.mg X.base A X.stack s H := by
    have e := I.env0
    exact ⟨by rw [sb.fr]; exact e.frames, e.mod, e.bs, e.bsz, e.funs, e.frf, e.hok, e.bare⟩
  refine codeAny_mono (F A X.stack s H us vs Q E sb.room e0 r h) fun r s' hq => ?_
  cases r with
  | error e => exact hx pins σ H s e s' I hq
  | ok fl =>
    cases fl with
    | ret u => exact I.after hq
    | next => exact False.elim hq
    | brk => exact False.elim hq
    | cont => exact False.elim hq
/-- != of own classes that have == alone -/
structure NeM (K : PySem.W.Frag) (C f : Addr) : Prop where
  hne : PySem.W.findIn K (.ref C) "__ne__" = some (some (.builtin "object.__ne__"))
  hs : PySem.W.findIn K (.ref C) "__eq__" = some (some (.ref f))
  hf : PySem.W.isFn K (.ref f) = true
  hm : PySem.W.mroIn K C (.type "object") = some true
  hn : PySem.W.notFirst K C (.type "int") = true
def rOwnN (X : Cx) : R2 := fun x y H Q => ∃ (a C dx : Addr) (fs : List (Str × V)) (f : Addr) (CX : CXT) (k : Nat) (sp : Sp) (E : XK),
  x = .ref a ∧ H a = some (.ins C dx fs) ∧ RightI C H y ∧ NeM X.K C f ∧ FnR X.prog X.w X.K X.mg X.base CX k f sp ∧ Room (k + 1) X.A ∧ Passes CX X E ∧ sp [x, y] H (fun v H1 => ∃ r, v = .bl r ∧ Q (.bl (!r)) H1) E
theorem op_ownN : OpR X (compareOp .NotEq) (rOwnN X) := by
  intro pins s σ H x y v u Q I rx ry h
  obtain ⟨a, C, dx, fs, f, CX, k, sp, E, rfl, ha, hR, hM, F, hr, hx, hs⟩ := h
  obtain rfl : v = Value.ref a := rx
  have hc : wpAny (model X.prog X.w) X.A.in1 (call (.ref f) [.ref a, u]) (fun v s' => ∃ r, v = .bool r ∧ EP X pins σ Q (.bool (!r)) s') X.xe s :=
    thn (wpAny_call (run_fnS (us := [.ref a, u]) (vs := [.ref a, y]) ⟨hr.in1, rfl⟩ F hx I (.cons rfl (.cons ry .nil)) hs)) fun v s1 z => by
      obtain ⟨z, H1, I1, rz, r, rfl, q⟩ := z
      obtain rfl : v = Value.bool r := rz
      exact ⟨r, rfl, .bl (!r), H1, I1, rfl, q⟩
  obtain ⟨mA, J, _⟩ := ins_get I.hok ha
  obtain ⟨od, J, _⟩ := J.look
  obtain ⟨m, hF⟩ := I.fr
  have hu : X.A.units + 1 < cLine := by have := hr.units; omega
  show wpAny (model X.prog X.w) X.A (richCompare .NotEq (.ref a) u) (EP X pins σ Q) X.xe s
  rcases hR with ⟨j, rfl⟩ | ⟨b, dy, gs, rfl, hb⟩
  · obtain ⟨t, rfl⟩ := ry
    exact ne_K (tb := .type "int") hu hF I.ok.mod.kin J (PySem.W.Looks.of_pure rfl) hM.hn hM.hne hM.hs hM.hf hM.hm hc
  · obtain rfl : u = Value.ref b := ry
    obtain ⟨mB, J2, _⟩ := ins_get I.hok hb
    obtain ⟨od2, J2, _⟩ := J2.look
    exact ne_K (tb := .ref C) hu hF I.ok.mod.kin J J2.type (by simp [PySem.W.notFirst]) hM.hne hM.hs hM.hf hM.hm hc
/-- != of two tuples that are equal, item by item -/
def NcG (X : Cx) (n : Nat) (D : Eqv) : Prop :=
  ∀ (A : Around) (pins : List (Addr × Obj)) (s : Shared) (σ : St) (H : Hp) (x y : V) (u v : Value), Sub X n A → Inv X pins σ H s → RelV x u → RelV y v → D x y H →
    wpAny (model X.prog X.w) A (richCompare .NotEq u v) (fun r s' => r = .bool false ∧ ∃ H', Inv X pins σ H' s' ∧ Ext H H') X.xe s
theorem ncG_tup (hD : Mon D) (h : EqG X n D) : NcG X (n + 1) (DTup X.K D) := by
  intro A pins s σ H x y u v sb I rx ry d
  obtain ⟨a, b, xs, ys, rfl, rfl, ha, hb, p⟩ := d
  cases rx
  cases ry
  obtain ⟨its, r, e, z⟩ := I.tuple ha
  obtain ⟨its2, r2, e2, z2⟩ := I.tuple hb
  have hsz : its.toArray.size = its2.toArray.size := by rw [List.size_toArray, List.size_toArray, ← r.length, ← r2.length]; exact p.1
  exact GQ.ne_tups hsz sb.room.units0 (fun _ s' => LoopI X pins σ H s') e e2 (fun k k1 k2 z q => turnG hD h sb p r r2 k k1 k2 z q) (fun z q => ⟨rfl, q⟩) ⟨H, I, Ext.rfl'⟩
def rNeG (D : Eqv) : R2 := fun x y H Q => D x y H ∧ ∀ H', Ext H H' → Q (.bl false) H'
theorem op_neG (h : NcG X n D) (hr : Room n X.A) : OpR X (compareOp .NotEq) (rNeG D) := by
  intro pins s σ H x y v u Q I rx ry hq
  obtain ⟨d, q⟩ := hq
  show wpAny (model X.prog X.w) X.A (richCompare .NotEq v u) (EP X pins σ Q) X.xe s
  refine wpAny_mono (h X.A pins s σ H x y v u ⟨hr, rfl⟩ I rx ry d) (fun r s' z => ?_) fun _ _ x => x
  obtain ⟨hr', H', I', e⟩ := z
  subst hr'
  exact ⟨.bl false, H', I', rfl, q H' e⟩
/-- an own == promised by a comparison, as a way two values are equal -/
def DOwn (C : Addr) (R : Addr → V → Hp → Prop) : Eqv := fun x y H => ∃ a dx fs, x = .ref a ∧ H a = some (.ins C dx fs) ∧ RightI C H y ∧ R a y H
def spEqV (R : Addr → V → Hp → Prop) : Sp := fun vs H Q _ => ∃ a y, vs = [.ref a, y] ∧ R a y H ∧ ∀ H', Ext H H' → Q (.bl true) H'
theorem mon_own {C : Addr} {R : Addr → V → Hp → Prop} (hR : ∀ a b H H', Ext H H' → R a b H → R a b H') : Mon (DOwn C R) := fun x y H H' e d => by
  obtain ⟨a, dx, fs, hx, h1, h2, r⟩ := d
  exact ⟨a, dx, fs, hx, e _ _ h1, h2.elim .inl fun ⟨b, dy, gs, hy, h⟩ => .inr ⟨b, dy, gs, hy, e _ _ h⟩, hR a y H H' e r⟩
theorem eqBool_refV {prog : Program} {w : World} {A : Around} {E : Value → Shared → Prop} {s : Shared} {l : Addr} {y : Value} {Q : Bool → Shared → Prop} (hne : Value.ref l ≠ y) (h : wpAny (model prog w) A (richCompare .Eq (.ref l) y) (fun v s' => ∃ r, v = .bool r ∧ Q r s') E s) : wpAny (model prog w) A (eqBool (.ref l) y) Q E s := by
  unfold eqBool
  refine wpAny_holding ?_
  refine wpAny_ite_split (fun hab => absurd (eq_of_beq hab) hne) (fun _ => ?_)
  refine wpAny_bind (wpAny_mono h (fun v s' hv => ?_) fun _ _ x => x)
  obtain ⟨r, rfl, q⟩ := hv
  exact wpAny_truthy_bool q
theorem eqG_own {CX : CXT} {C f : Addr} {R : Addr → V → Hp → Prop} {E : XK} (F : FnR X.prog X.w X.K X.mg X.base CX n f (spEqV R)) (M : CmpM X.K C .Eq f) (hx : Passes CX X E) : EqG X n (DOwn C R) := by
  intro A pins s σ H x y u v sb I rx ry d
  obtain ⟨a, dx, fs, rfl, ha, hR, r⟩ := d
  obtain rfl : u = Value.ref a := rx
  have hsp : spEqV R [.ref a, y] H (fun v H' => v = .bl true ∧ Ext H H') E := ⟨a, y, rfl, r, fun H' e => ⟨rfl, e⟩⟩
  have hc : wpAny (model X.prog X.w) A (call (.ref f) [.ref a, v]) (PySem.W.CmpBack (fun v s' => ∃ r, v = .bool r ∧ (fun r s' => r = true ∧ ∃ H', Inv X pins σ H' s' ∧ Ext H H') r s')) X.xe s :=
    thn (wpAny_call (run_fnS (us := [.ref a, v]) (vs := [.ref a, y]) sb F hx I (.cons rfl (.cons ry .nil)) hsp)) fun v s1 z => by
      obtain ⟨z, H1, I1, rz, rfl, e⟩ := z
      obtain rfl : v = Value.bool true := rz
      exact ⟨true, rfl, rfl, H1, I1, e⟩
  by_cases hab : Value.ref a = v
  · subst hab
    exact SeqAt.EqAt.same (A := A) (s := s) (.ref a) X.prog X.w X.xe _ ⟨rfl, H, I, Ext.rfl'⟩
  refine eqBool_refV hab ?_
  obtain ⟨mA, J, _⟩ := ins_get I.hok ha
  obtain ⟨od, J, _⟩ := J.look
  obtain ⟨m, hF⟩ := I.fr
  rcases hR with ⟨j, rfl⟩ | ⟨b, dy, gs, rfl, hb⟩
  · obtain ⟨t, rfl⟩ := ry
    exact PySem.W.cmp_K (op := .Eq) (tb := .type "int") sb.room.units0 hF I.ok.mod.kin J (PySem.W.Looks.of_pure rfl) M.hn M.hs M.hf hc
  · obtain rfl : v = Value.ref b := ry
    obtain ⟨mB, J2, _⟩ := ins_get I.hok hb
    obtain ⟨od2, J2, _⟩ := J2.look
    exact PySem.W.cmp_K (op := .Eq) (tb := .ref C) sb.room.units0 hF I.ok.mod.kin J J2.type (by simp [PySem.W.notFirst]) M.hs M.hf hc
end
end AZ

set_option Elab.async false
set_option maxRecDepth 100000
set_option maxHeartbeats 4000000
set_option linter.all false
namespace AZ
open PySem PySem.Spec PySem.W PySem.Calls PyProof.Rows
section
variable {prog : Program} {w : World} {A : Around} {E : Value → Shared → Prop} {s : Shared} {K : Frag} {x C L f g dx : Addr} {h₀ : Heap} {m : Str → Option Value} {ox : Obj} {od : Option Obj} {name : Str} {b tb : Value} {i : Int} {t : Tok}
theorem intBin_dec {M : Model} {name : String} {fn : Int → Int → Sem Fin} {Q : Fin → Shared → Prop} (hx : s.heap.get? x = some (instObj C dx)) (q : Q (.done (.ret .notImplemented)) s) :
    wpAny M A (Builtin.Int.intBinary name fn false ⟨[.int i t, .ref x], []⟩) Q E s := by
  unfold Builtin.Int.intBinary
  refine wpAny_bind (m := slotArgs name 1 _) (wpAny_pure ?_)
  refine wpAny_bind (m := Builtin.Int.intOfSelf _) (wpAny_pure ?_)
  obtain ⟨hp, gs, d, tk, os⟩ := s
  have hx' : hp.get? x = some (instObj C dx) := hx
  unfold instObj at hx'
  wp_walk using AutoSeq1.wpAny_loadPart' hx'
  exact q
/-- what an int does beside an instance: it declines -/
structure IntDec (nm : String) : Prop where
  fills : fillsNumberSlot (.type "int") nm = pure true
  dec : ∀ {prog : Program} {w : World} {A : Around} {E : Value → Shared → Prop} {s : Shared} {x C dx : Addr} {i : Int} {t : Tok} {Q : Option Value → Shared → Prop}, s.heap.get? x = some (instObj C dx) → Q none s →
    wpAny (model prog w) A (tryMethod (.int i t) (PySem.dunder nm) (.ref x)) Q E s
theorem int_dec_sub : IntDec "sub" := by
  refine ⟨PyProof.Rows.fills_int_sub, fun {prog w A E s x C dx i t Q} hx q => ?_⟩
  refine wpAny_tryMethod_declines (T := "int") (id := "int.__sub__") (name := PySem.dunder "sub") (typeIs_int s i t) ?_ ?_
  · exact PyProof.Rows.slot_int_sub
  · refine wpAny_call_entry PyProof.Rows.slot_int_sub (typeIs_int s i t) PyProof.Rows.entry_int_sub ?_ (PyProof.Rows.args_int_sub _ _)
    unfold Builtin.«int.__sub__»
    exact intBin_dec hx ⟨_, rfl, rfl, q⟩
theorem int_dec_add : IntDec "add" := by
  refine ⟨PySem.F.fills_int_add, fun {prog w A E s x C dx i t Q} hx q => ?_⟩
  refine wpAny_tryMethod_declines (T := "int") (id := "int.__add__") (name := PySem.dunder "add") (typeIs_int s i t) ?_ ?_
  · exact PySem.F.slot_int_add
  · refine wpAny_call_entry PySem.F.slot_int_add (typeIs_int s i t) PySem.F.entry_int_add ?_ (PySem.F.args_int_add_2 _ _)
    unfold Builtin.«int.__add__»
    exact intBin_dec hx ⟨_, rfl, rfl, q⟩
theorem int_dec_mul : IntDec "mul" := by
  refine ⟨PySem.F.fills_int_mul, fun {prog w A E s x C dx i t Q} hx q => ?_⟩
  refine wpAny_tryMethod_declines (T := "int") (id := "int.__mul__") (name := PySem.dunder "mul") (typeIs_int s i t) ?_ ?_
  · exact PySem.F.slot_int_mul
  · refine wpAny_call_entry PySem.F.slot_int_mul (typeIs_int s i t) PySem.F.entry_int_mul ?_ (PySem.F.args_int_mul_2 _ _)
    unfold Builtin.«int.__mul__»
    exact intBin_dec hx ⟨_, rfl, rfl, q⟩
theorem refl1 {nm : String} {Q : Value → Shared → Prop} (D : IntDec nm) (X : K.In s.heap) (I : InstAt s.heap x ox C od) (hx : s.heap.get? x = some (instObj C dx)) (hc : selfFirst K C = true)
    (hs : findIn K (.ref C) (PySem.dunder nm) = some (some (.ref g))) (hr : findIn K (.ref C) (dunderR nm) = some (some (.ref f))) (hf : isFn K (.ref f) = true) (hu : subIn K (.ref C) (.type "int") = some false)
    (h : wpAny (model prog w) A (call (.ref f) [.ref x, .int i t]) (PySem.W.CmpBack Q) E s) : wpAny (model prog w) A (binaryOp1 nm (.int i t) (.ref x)) (fun r s' => ∃ v, r = some v ∧ Q v s') E s := by
  obtain ⟨cd, rest, hcd, hm⟩ := ksp_first hc
  have back := ksp_try X I hr hf h
  have dec : ∀ {Q : Option Value → Shared → Prop}, Q none s → wpAny (model prog w) A (tryMethod (.int i t) (PySem.dunder nm) (.ref x)) Q E s := fun q => D.dec hx q
  have L1 : Looks (model prog w) s.heap (typeOf (.int i t)) (.type "int") := Looks.of_pure rfl
  have L2 : Looks (model prog w) s.heap (typeOf (.ref x)) (.ref C) := I.type
  have L3 : Looks (model prog w) s.heap (fillsNumberSlot (.type "int") nm) true := Looks.of_pure D.fills
  have L4 : Looks (model prog w) s.heap (fillsNumberSlot (.ref C) nm) true := fills_K X hcd hm hs
  have L5 : Looks (model prog w) s.heap (isSubtype (.ref C) (.type "int")) false := looks_subIn X hu
  have L6 : Looks (model prog w) s.heap (numberSlotInPython (.type "int") nm) false := Looks.of_pure rfl
  generalize hR : (fun (r : Option Value) s' => ∃ v, r = some v ∧ Q v s') = R at back ⊢
  have hne : (Value.type "int" == Value.ref C) = false := Bool.eq_false_iff.mpr fun q => by cases beq_iff_eq.mp q
  generalize (fun (r : Option Value) s' => ∃ v, r = some v ∧ Q v s') = R at back ⊢
  unfold binaryOp1
  refine wpAny_bind (L1.here (wpAny_bind (L2.here (wpAny_bind (L3.here ?_)))))
  simp only [hne, Bool.false_eq_true, if_false]
  refine wpAny_bind (L4.here ?_)
  refine wpAny_bind (m := isSubtype (.ref C) (.type "int")) (L5.here ?_)
  refine wpAny_bind (m := numberSlotInPython (.type "int") nm) (L6.here ?_)
  refine wpAny_bind (m := tryMethod (.int i t) (PySem.dunder nm) (.ref x)) (dec ?_)
  refine wpAny_bind (m := tryMethod (.ref x) (dunderR nm) (.int i t)) (wpAny_mono back (fun r s' hr' => ?_) fun _ _ e => e)
  have hr2 := hr'
  rw [← hR] at hr2
  obtain ⟨v, rfl, hq⟩ := hr2
  exact wpAny_bind (m := rule "binop.reflected") (wpAny_rule (wpAny_pure hr'))
theorem refl_K {op : Operator} {sym : String} {nm : String} {Q : Value → Shared → Prop} (hi : op.info = (sym, nm)) (D : IntDec nm) (F : Fr h₀ L s.heap m) (X₀ : K.In h₀) (I : InstAt s.heap x ox C od) (hx : s.heap.get? x = some (instObj C dx)) (hc : selfFirst K C = true)
    (hs : findIn K (.ref C) (PySem.dunder nm) = some (some (.ref g))) (hr : findIn K (.ref C) (dunderR nm) = some (some (.ref f))) (hf : isFn K (.ref f) = true) (hu : subIn K (.ref C) (.type "int") = some false)
    (h : wpAny (model prog w) A (call (.ref f) [.ref x, .int i t]) (PySem.W.CmpBack Q) E s) : wpAny (model prog w) A (binaryOp op (.int i t) (.ref x)) Q E s := by
  have b1 := refl1 D (X₀.keeps F.keep) I hx hc hs hr hf hu h
  generalize hR : (fun (r : Option Value) s' => ∃ v, r = some v ∧ Q v s') = R at b1
  unfold binaryOp
  refine wpAny_holding ?_
  rw [hi]
  refine wpAny_bind (m := binaryOp1 nm (.int i t) (.ref x)) (wpAny_mono b1 (fun r s' hr' => ?_) fun _ _ e => e)
  rw [← hR] at hr'
  obtain ⟨v, rfl, hq⟩ := hr'
  exact wpAny_pure hq
end
end AZ
namespace AZ
open PySem L2
section
variable {X : Cx}
/-- an int, then the operator, then an instance: its own reflected one -/
structure ReflM (K : PySem.W.Frag) (C : Addr) (nm : Str) (rn : Str) (g f : Addr) : Prop where
  hs : PySem.W.findIn K (.ref C) nm = some (some (.ref g))
  hr : PySem.W.findIn K (.ref C) rn = some (some (.ref f))
  hf : PySem.W.isFn K (.ref f) = true
  hc : PySem.W.selfFirst K C = true
  hu : PySem.W.subIn K (.ref C) (.type "int") = some false
def rRefl (X : Cx) (nm : String) : R2 := fun x y H Q => ∃ (j : Int) (a C dx : Addr) (fs : List (Str × V)) (g f : Addr) (CX : CXT) (k : Nat) (sp : Sp) (E : XK),
  x = .int j ∧ y = .ref a ∧ H a = some (.ins C dx fs) ∧ ReflM X.K C (PySem.dunder nm) (dunderR nm) g f ∧ FnR X.prog X.w X.K X.mg X.base CX k f sp ∧ Room k X.A ∧ Passes CX X E ∧ sp [y, x] H Q E
theorem op_refl {op : Operator} {sym nm : String} (hi : op.info = (sym, nm)) (D : IntDec nm) : OpR X (binaryOp op) (rRefl X nm) := by
  intro pins s σ H x y v u Q I rx ry h
  obtain ⟨j, a, C, dx, fs, g, f, CX, k, sp, E, rfl, rfl, ha, hM, F, hr, hx, hs⟩ := h
  obtain ⟨t, rfl⟩ := id rx
  obtain rfl : u = Value.ref a := ry
  have hc : wpAny (model X.prog X.w) X.A (call (.ref f) [.ref a, .int j t]) (PySem.W.CmpBack (EP X pins σ Q)) X.xe s :=
    thn (wpAny_call (run_fnR (us := [.ref a, .int j t]) (vs := [.ref a, .int j]) F hr hx I (.cons rfl (.cons rx .nil)) hs)) fun _ _ z => cmpBack_of z
  obtain ⟨mA, J, _⟩ := ins_get I.hok ha
  have hobj := J.obj
  obtain ⟨od, J, _⟩ := J.look
  obtain ⟨m, hF⟩ := I.fr
  exact refl_K hi D hF I.ok.mod.kin J hobj hM.hc hM.hs hM.hr hM.hf hM.hu hc
end
end AZ

set_option Elab.async false
set_option maxRecDepth 100000
set_option maxHeartbeats 4000000
set_option linter.all false
namespace AZ
open PySem L2
section
variable {X : Cx}
/-- what str(x) and f'{x}' ask of the class at C: its own __str__ at f -/
structure StrM (K : PySem.W.Frag) (C f : Addr) : Prop where
  hs : PySem.W.findIn K (.ref C) "__str__" = some (some (.ref f))
  hf : PySem.W.isFn K (.ref f) = true
  hfm : PySem.W.findIn K (.ref C) "__format__" = some (some (.builtin "object.__format__"))
  hm : PySem.W.mroIn K C (.type "object") = some true
def rStrO (X : Cx) (d : Nat) (x : V) (H : Hp) (Q : VK) : Prop := ∃ (a C dx : Addr) (fs : List (Str × V)) (f : Addr) (CX : CXT) (k : Nat) (sp : Sp) (E : XK),
  x = .ref a ∧ H a = some (.ins C dx fs) ∧ StrM X.K C f ∧ FnR X.prog X.w X.K X.mg X.base CX k f sp ∧ Room (k + d) X.A ∧ Passes CX X E ∧ sp [x] H (fun v H1 => ∃ z, v = .str z ∧ Q (.str z) H1) E
theorem strBack_of {pins : List (Addr × Obj)} {σ : St} {Q : VK} {v : Value} {s : Shared} (h : EP X pins σ (fun v H1 => ∃ z, v = .str z ∧ Q (.str z) H1) v s) : PySem.W.StrBack (EP X pins σ Q) v s := by
  obtain ⟨z, H1, I1, rz, y, rfl, q⟩ := h
  obtain ⟨t, rfl⟩ := id rz
  exact ⟨.str y, H1, I1, rz, q⟩
theorem call_strO : CallR X (.type "str") (fun xs H Q => ∃ x, xs = [x] ∧ rStrO X 2 x H Q) := by
  intro pins s σ H xs us Q I rv q
  obtain ⟨x, rfl, a, C, dx, fs, f, CX, k, sp, E, rfl, ha, hM, F, hr, hx, hs⟩ := q
  cases rv with
  | cons r1 r2 =>
    cases r2
    cases r1
    have hc : wpAny (model X.prog X.w) X.A.in1.in1 (call (.ref f) [.ref a]) (PySem.W.StrBack (EP X pins σ Q)) X.xe s :=
      thn (wpAny_call (run_fnS (us := [.ref a]) (vs := [.ref a]) ⟨hr.in1.in1, rfl⟩ F hx I (.cons rfl .nil) hs)) fun v s3 z => strBack_of z
    obtain ⟨mA, J, _⟩ := ins_get I.hok ha
    obtain ⟨od, J, _⟩ := J.look
    exact PySem.W.kso_call hr.in1.in1.units0 I.kIn J hM.hs hM.hf hc
theorem uStr : CallR X (.type "str") (fun xs H Q => (∃ i, xs = [.int i] ∧ i.natAbs.log2 < 1920 ∧ Q (.str (toString i)) H) ∨ ∃ x, xs = [x] ∧ rStrO X 2 x H Q) := CallR.or' call_str_int call_strO
/-- {x}: a text, an int, an own one -/
def tFmtU (X : Cx) (te : TE) : TE := fun σ H Q => te σ H fun x H1 => ((∃ y : Str, x = .str y ∧ y.length ≤ sizeLine ∧ Q (.str y) H1) ∨ ∃ i : Int, x = .int i ∧ i.natAbs.log2 < 1920 ∧ Q (.str (toString i)) H1) ∨ rStrO X 1 x H1 Q
theorem pe_fmtU {e : Expr} {te : TE} {pos : Pos} (he : PE X e te) : PE X (.FormattedValue e (-1) none pos) (tFmtU X te) := by
  refine ⟨fun pins s σ H Q I h => ?_⟩
  refine wpAny_FormattedValue_plain (thn (he.run pins s σ H _ I h) fun v s1 hv => ?_)
  obtain ⟨x, H1, I1, r1, q⟩ := hv
  rcases q with (⟨y, rfl, hz, q⟩ | ⟨i, rfl, hz, q⟩) | ⟨a, C, dx, fs, f, CX, k, sp, E, rfl, ha, hM, F, hr, hx, hs⟩
  · obtain ⟨t, rfl⟩ := r1
    exact wpAny_formatField_str ⟨.str y, H1, I1, ⟨t, rfl⟩, q⟩ ⟨.str y, H1, I1.tok _, ⟨_, rfl⟩, q⟩ hz
  · obtain ⟨t, rfl⟩ := r1
    exact wpAny_formatField_int hz ⟨.str (toString i), H1, I1.tok _, ⟨_, rfl⟩, q⟩
  · obtain rfl : v = Value.ref a := r1
    have I2 := I1.tok (s1.toks + 1)
    have hc : wpAny (model X.prog X.w) X.A.in1 (call (.ref f) [.ref a]) (PySem.W.StrBack (EP X pins σ Q)) X.xe { s1 with toks := s1.toks + 1 } :=
      thn (wpAny_call (run_fnS (us := [.ref a]) (vs := [.ref a]) ⟨hr.in1, rfl⟩ F hx I2 (.cons rfl .nil) hs)) fun v s3 z => strBack_of z
    obtain ⟨mA, J, _⟩ := ins_get I1.hok ha
    obtain ⟨od, J, _⟩ := J.look
    exact PySem.W.kfo_fieldS hr.in1.units0 I1.kIn J hM.hfm hM.hm hM.hs hM.hf hc
end
end AZ

set_option Elab.async false
set_option maxRecDepth 100000
set_option maxHeartbeats 4000000
set_option linter.all false
namespace AZ
open PySem L2
/-- a def's promise where the last arguments are told by their names -/
def FnRk (P : Program) (w : World) (K : PySem.W.Frag) (mg : Str → Option Value) (base : Heap) (CX : CXT) (k : Nat) (f : Addr) (ks : List Str) (gV : List V → List V → List V) (sp : Sp) : Prop :=
  ∀ (A : Around) (outer : List Env) (s : Shared) (H : Hp) (us ws : List Value) (vs zs : List V) (Q : VK) (E : XK), Room k A → Env0 P w K mg base A outer s H → Vals vs us → Vals zs ws → sp (gV vs zs) H Q E →
    codeAny (model P w) A (.call (.ref f) ⟨us, ks.zip ws⟩) (CR CX outer P w H s Q E) s
theorem FnOk.rawk {P : Program} {w : World} {K : PySem.W.Frag} {mg : Str → Option Value} {base : Heap} {CX : CXT} {k : Nat} {f : Addr} {fd : FuncData} {ps ks : List Str} {sp : Sp} {g : List Value → List Value → List Value} {gV : List V → List V → List V}
    (F : FnOk P w K mg base CX k f fd ps sp) (hb : KBinds K fd ps ks g gV) (hK : ∀ {A : Around} {outer : List Env} {s : Shared} {H : Hp}, Env0 P w K mg base A outer s H → K.In s.heap) : FnRk P w K mg base CX k f ks gV sp := by
  intro A outer s H us ws vs zs Q E hr e0 r rz h
  have r2 := hb.rel r rz
  have hl : (g us ws).length = ps.length := by rw [← r2.length]; exact F.len _ _ _ _ h
  exact F.run A outer s H ⟨us, ks.zip ws⟩ (g us ws) (gV vs zs) Q E hr e0 (hb.to s us ws (hK e0) hl) r2 h
section
variable {X : Cx} {CX : CXT} {k : Nat} {C g : Addr} {sp : Sp} {E : XK} {o : Expr} {kws : List Keyword} {m : Str} {ks : List Str} {pos apos : Pos} {ta : TE} {t : TA} {gV : List V → List V → List V}
/-- o.m(k = e, ..) -/
def tMRk (C : Addr) (m : Str) (gV : List V → List V → List V) (sp : Sp) (E : XK) (ta : TE) (t : TA) : TE := fun σ H Q => ta σ H fun x H1 => ∃ a dx fs, x = .ref a ∧ H1 a = some (.ins C dx fs) ∧ fs.lookup m = none ∧ t σ H1 fun zs H2 => sp (gV [x] zs) H2 Q E
theorem pe_mRk {pl : Sem Bool} (he : PE X o ta) (c : Cls X.K C) (hm : Meth X.K C m g) (F : FnRk X.prog X.w X.K X.mg X.base CX k g ks gV sp) (hr : Room k X.A) (hx : Passes CX X E) (hkw : PK X kws t)
    (hall : (backToKw pos (keywordEach kws X.env)).all (·.1.isSome) = true := by rfl) (hks : (backToKw pos (keywordEach kws X.env)).filterMap (·.1) = ks := by rfl)
    (hpl : ((backTo pos (starEach [] X.env)).any (·.1) || (backToKw pos (keywordEach kws X.env)).any (·.1.isNone)) = false := by rfl)
    (ht : eval (.Call (.Attribute o m apos) [] kws pos) X.env = (eval o X.env >>= fun ov => standAt apos.atName >>= fun _ => holding [ov] (getMethod ov m pl) >>= fun r =>
      callWith pos r.1 r.2 (backTo pos (starEach [] X.env)) (backToKw pos (keywordEach kws X.env))) := by rfl) :
    PE X (.Call (.Attribute o m apos) [] kws pos) (tMRk C m gV sp E ta t) := by
  refine ⟨fun pins s σ H Q I h => ?_⟩
  refine PySem.W.methodCall_KW (pl := pl) (thn (he.run pins s σ H _ I h) fun u s1 ⟨x, H1, I1, rx, a, dx, fs, ex, ea, l, q⟩ => ?_) ht
  subst ex
  obtain rfl : u = Value.ref a := rx
  refine getmeth_ok I1 ea c hm l ?_
  refine PySem.W.callWith_KW0 (first := [.ref a]) (h₀ := X.base) I.ok.mod.kin hm.kp hall (thn (hkw.run pos pins s1 σ H1 _ I1 q) fun ws s2 ⟨zs, H2, I2, rz, q2⟩ => ⟨I2.kIn, ?_⟩) hpl
  rw [hks]
  refine wpAny_call (codeAny_mono (F X.A X.stack s2 H2 [.ref a] ws [.ref a] zs Q E hr I2.env0 (.cons rfl .nil) rz q2) fun r s' hq => ?_)
  cases r with
  | error e => exact hx pins σ H2 s2 e s' I2 hq
  | ok fl =>
    cases fl with
    | ret u => exact I2.after hq
    | next => exact False.elim hq
    | brk => exact False.elim hq
    | cont => exact False.elim hq
theorem uSubR : OpR X (binaryOp .Sub) (orR (rI0 fun i j => .int (i - j)) (orR (rOwn X .Sub) (rRefl X "sub"))) := op_or2 op_sub (op_or2 (op_ownB _) (op_refl rfl int_dec_sub))
theorem uNeR (hu : X.A.units + 64 < cLine) : OpR X (compareOp .NotEq) (orR rNe (orR (rOwnN X) (rNeD X.K))) := op_or2 op_ne (op_or2 op_ownN (op_neD hu))
theorem un_inv : UnR X (unaryOp .Invert) (rOwnU X "__invert__") := un_ownInv
end
end AZ

set_option Elab.async false
set_option maxRecDepth 100000
set_option maxHeartbeats 4000000
set_option linter.all false
/-! Own work: promises that know that no repr is under way (needed by repr of lists). -/
namespace AZ
open PySem L2 PyProof.Rows
abbrev NoG (A : Around) : Prop := A.guards = some []
theorem NoG.deeper {A : Around} (h : NoG A) (env : Env) : NoG (A.deeper env) := by
  obtain ⟨hd, d, fr, gs, u⟩ := A
  exact h
/-- a def's promise where no repr is under way -/
def FnG (P : Program) (w : World) (K : PySem.W.Frag) (mg : Str → Option Value) (base : Heap) (CX : CXT) (k : Nat) (f : Addr) (sp : Sp) : Prop :=
  ∀ (A : Around) (out : List Env) (z : Shared) (Hp0 : Hp) (us : List Value) (vs : List V) (Q : VK) (E : XK), NoG A → Room k A → Env0 P w K mg base A out z Hp0 → Vals vs us → sp vs Hp0 Q E →
    codeAny (model P w) A (.call (.ref f) ⟨us, []⟩) (CR CX out P w Hp0 z Q E) z
section
variable {P : Program} {w : World} {K : PySem.W.Frag} {mg : Str → Option Value} {base : Heap} {CX : CXT} {k : Nat} {f : Addr} {sp sp' : Sp}
theorem FnG.imp (F : FnG P w K mg base CX k f sp) (h : ∀ vs H Q E, sp' vs H Q E → sp vs H Q E) : FnG P w K mg base CX k f sp' :=
  fun A out z G us vs Q E ng room env vals prom => F A out z G us vs Q E ng room env vals (h _ _ _ _ prom)
theorem FnG.of (F : FnR P w K mg base CX k f sp) : FnG P w K mg base CX k f sp := fun A out z G us vs Q E _ => F A out z G us vs Q E
def valOf : Flow → Value
  | .ret v => v
  | _ => .none
/-- its end, from the end of its body -/
theorem ends_CR {N : List Str} {qual : Str} {scope : Scope} {cdv : Value} {A : Around} {out : List Env} {z : Shared} {G : Hp} {Q : VK} {E : XK} {fl : Flow} {z' : Shared}
    (q : SP (cxOf CX P w K mg base N qual scope f cdv A out z G E) [] { nx := fun _ H' => Q .non H', rt := Q } fl z') :
    CR CX out P w G z Q E (.ok (.ret (valOf fl))) z' := by
  cases fl with
  | ret v => obtain ⟨x, σ, G2, J, rel, q⟩ := q; exact ⟨x, G2, J.os, J.bare, J.base, J.hok, rel, q⟩
  | next => obtain ⟨σ, G2, J, q⟩ := q; exact ⟨.non, G2, J.os, J.bare, J.base, J.hok, rfl, q⟩
  | brk => obtain ⟨σ, G2, J, q⟩ := q; exact q.elim
  | cont => obtain ⟨σ, G2, J, q⟩ := q; exact q.elim
end
section
variable {P : Program} {w : World} {K : PySem.W.Frag} {mg : Str → Option Value} {base : Heap} {k : Nat} {f : Addr} {sp : Sp} {x qual : Str} {st : Stmt} {fd : FuncData} {N ps : List Str}
/-- a def by its body, known to run where no repr is under way -/
theorem fnG_of (F : Fun K x qual st f fd) (S : FnScope N ps (defScope st)) (len : ∀ vs H Q E, sp vs H Q E → vs.length = ps.length)
    (bd : ∀ (cdv : Value) (A : Around) (out : List Env) (z : Shared) (G : Hp) (vs : List V) (Q : VK) (E : XK), NoG (A.deeper (envOfC qual (defScope st) z.heap.objs.size f cdv)) →
      Room k (A.deeper (envOfC qual (defScope st) z.heap.objs.size f cdv)) → sp vs G Q E →
      ∃ t, PSs (cxOf CX0 P w K mg base N qual (defScope st) f cdv A out z G E).nox (defBody st) t ∧ t { nx := fun _ H' => Q .non H', rt := Q } (start N vs) G)
    (hb : Binds K fd ps []) : FnG P w K mg base CX0 (k + 1) f sp := by
  obtain ⟨oc, od, kV, doc, pm, an, cdv, ct, osl, rfl, look, rec⟩ := F.ex
  intro A out z G us vs Q E ng room env vals prom
  have keep : ∀ b o, base.get? b = some o → z.heap.get? b = some o := fun b o e => (env.bs b o e).1
  have kin := env.mod.kin.keeps keep
  have many : us.length = ps.length := vals.length.symm.trans (len _ _ _ _ prom)
  have bnd := hb z us kin (by rw [List.append_nil]; exact many)
  rw [List.append_nil] at bnd
  have kinds : ∀ y ∈ ps.zip us, (defScope st).names.lookup y.1 = some .local ∨
      ((defScope st).names.lookup y.1 = some .cell ∧ ((cellsFrom (z.heap.objs.size + 1) (defScope st).names []).lookup y.1).isSome = true) := by
    rintro ⟨n, v⟩ there
    exact (S.par n (List.of_mem_zip there).1).imp id fun c => ⟨c, PySem.W.cellsFrom_some _ _ _ (.inl c)⟩
  refine codeAny_call_function room.depth (kin _ _ look) rfl S.co S.gen rfl (PySem.W.codeRec_of kin rec) (bnd _ _ _ _ (wpAny_newFunctionEnv_cells S.kind kinds ?_))
  rintro env2 rfl z1 made
  refine ⟨(env.mod.nolimit.keeps keep).keeps made.toInCall.keep, codeAny_func ?_⟩
  obtain ⟨t, body, run⟩ := bd cdv A out z G vs Q E (ng.deeper _) (room.deeper _) prom
  exact wpAny_mono (body.nox.run [] z1 (start N vs) G _ (inv_start S room.hd env (len _ _ _ _ prom) vals made) run) (fun fl z2 q => ends_CR q) fun e z2 q => q
end
section
variable {X : Cx} {CX : CXT} {k : Nat} {g : Addr} {sp : Sp} {E : XK} {e : Expr} {es : List Expr} {x : Str} {p pos : Pos} {t : TA}
theorem run_fnG {pins : List (Addr × Obj)} {σ : L2.St} {H : Hp} {s : Shared} {Q : VK} {us : List Value} {vs : List V} (F : FnG X.prog X.w X.K X.mg X.base CX k g sp) (ng : NoG X.A) (hr : Room k X.A) (hx : Passes CX X E) (I : Inv X pins σ H s) (r : Vals vs us) (h : sp vs H Q E) :
    codeAny (model X.prog X.w) X.A (.call (.ref g) ⟨us, []⟩) (fun r s' => match r with | .ok (.ret v) => EP X pins σ Q v s' | .ok _ => False | .error e => X.xe e s') s :=
  codeAny_mono (F X.A X.stack s H us vs Q E ng hr I.env0 r h) fun r s' hq => match r, hq with
    | .error e, hq => hx pins σ H s e s' I hq
    | .ok (.ret _), hq => I.after hq
    | .ok .next, hq => hq.elim
    | .ok .brk, hq => hq.elim
    | .ok .cont, hq => hq.elim
/-- x(e, ..), x a def of the module that wants no repr under way -/
theorem pe_fnG (F : FnG X.prog X.w X.K X.mg X.base CX k g sp) (ng : NoG X.A) (hr : Room k X.A) (hk : PySem.W.keepIn X.K (.ref g) = true) (hm : X.mg x = some (.ref g)) (hx : Passes CX X E) (ha : PA X (e :: es) t) (hg : Gl X x := by rfl) (hd : (x == ("__debug__" : Str)) = false := by decide)
    (he : starEach (e :: es) X.env = (false, eval e X.env) :: starEach es X.env := by rfl) (hst : (backTo pos (starEach es X.env)).any (·.1) = false := by rfl) :
    PE X (.Call (.Name x p) (e :: es) [] pos) (fun σ H Q => t σ H fun vs H1 => sp vs H1 Q E) :=
  ⟨fun pins s σ H Q I h => wpAny_Call_Name_kw (ld_glob I hg hm (PySem.W.callWith_K (h₀ := X.base) I.ok.mod.kin hk
    (thn (ha.run pos pins s σ H _ I h) fun us s1 ⟨vs, H1, I1, r, q⟩ => ⟨I1.kIn, wpAny_call (run_fnG F ng hr hx I1 r q)⟩) he hst) hd)⟩
end
/-! ## the head: the law's promise at the heap behind the top -/
theorem guards_caller : NoG callerA := rfl
section
variable {P : Program} {w : World} {K : PySem.W.Frag} {mg mb : Str → Option Value} {k : Nat} {fa a : Addr} {sp : Sp} {z : Shared} {vs : List Value} {ns : List Int}
/-- what the law's end leaves -/
def EndsTrue (z : Shared) (r : Result) (z' : Shared) : Prop := r = .ok (.ret (.bool true)) ∧ OldK z.heap z'.heap ∧ z'.os = z.os ∧ AllBare z'.gens
/-- from one abstract heap that tracks at most the script -/
theorem headG (kin : K.In z.heap) (hns : z.heap.Ns mainGlobals mg) (hmb : z.heap.Ns builtinsNs mb) (boot : ∀ x : Str, x ≠ "__name__" → mb x = bootBuiltins x) (lim : z.heap.NoLimit) (nogen : z.gens = #[])
    (room : Room k callerA) (F : ∀ base : Heap, K.In base → base.Ns mainGlobals mg → FnG P w K mg base CX0 k fa sp) (prom : ∀ H : Hp, Only H → SqL K H a (ns.map V.int) → sp [.ref a] H (fun v _ => v = .bl true) E0)
    (H : Hp) (only : Only H) (seq : SqL K H a (ns.map V.int)) (hok : HOk P w H z.heap) (just : ∀ b, H b ≠ none → b = a ∧ K.lookup a = none) (obj : z.heap.get? a = some { cls := .type "list", data := .seq vs.toArray }) :
    codeAny (model P w) callerA (.call (.ref fa) ⟨[.ref a], []⟩) (EndsTrue z) z := by
  have free : ∀ b o, z.heap.get? b = some o → (b = a → K.lookup a ≠ none ∨ (∃ es ep, o.data = .dict es ep)) → (hidT z.heap H).get? b = some o := fun b o e n => hidT_get e (by
    cases q : H b with
    | none => rfl
    | some u =>
      obtain ⟨rfl, nk⟩ := just b (by rw [q]; exact fun t => nomatch t)
      rcases n rfl with n | ⟨es, ep, d⟩
      · exact absurd nk n
      · rw [obj] at e; cases e; cases d)
  have names : ∀ b m, z.heap.Ns b m → (hidT z.heap H).Ns b m := fun b m ⟨o, es, ep, e, d, r⟩ => ⟨o, es, ep, free b o e fun _ => .inr ⟨es, ep, d⟩, d, r⟩
  have kinB : K.In (hidT z.heap H) := fun b o e => free b o (kin b o e) fun eq => .inl (by rw [← eq, e]; exact fun t => nomatch t)
  obtain ⟨m2, l1, l2⟩ := lim
  have env : Env0 P w K mg (hidT z.heap H) callerA [] z H := {
    frames := rfl
    mod := ⟨kinB, names _ _ hns, ⟨mb, names _ _ hmb, boot⟩, ⟨m2, names _ _ l1, l2⟩⟩
    bs := fun _ _ e => of_hidT e
    bsz := Nat.le_of_eq (hidT_size ..)
    funs := trivial
    frf := fun _ t => nomatch t
    hok := hok
    bare := .of_eq nogen }
  refine codeAny_mono (F _ kinB (names _ _ hns) callerA [] z H [.ref a] [.ref a] _ _ guards_caller room env (.cons rfl .nil) (prom H only seq)) fun r z' q => ?_
  match r, q with
  | .error _, q => exact q.elim
  | .ok .next, q => exact q.elim
  | .ok .brk, q => exact q.elim
  | .ok .cont, q => exact q.elim
  | .ok (.ret u), ⟨v, H2, os, bare, un, hok2, rel, tr⟩ =>
    subst tr
    obtain rfl : u = Value.bool true := rel
    refine ⟨rfl, OldK.of_keep fun b o e => ?_, os, bare⟩
    rcases only b with n | ⟨ob, xs, n⟩
    · exact un.keep b o e n (fun t => nomatch t) (fun t => nomatch t)
    · have g1 := (hok b _ n).1
      rw [e] at g1
      cases g1
      exact (hok2 b _ (un.frzs b _ _ n)).1
theorem lawG (kin : K.In z.heap) (hns : z.heap.Ns mainGlobals mg) (hmb : z.heap.Ns builtinsNs mb) (boot : ∀ x : Str, x ≠ "__name__" → mb x = bootBuiltins x) (lim : z.heap.NoLimit) (nogen : z.gens = #[])
    (obj : z.heap.get? a = some { cls := .type "list", data := .seq vs.toArray }) (isI : IntsAre vs ns) (few : ns.length ≤ sizeLine)
    (room : Room k callerA) (F : ∀ base : Heap, K.In base → base.Ns mainGlobals mg → FnG P w K mg base CX0 k fa sp) (prom : ∀ H : Hp, Only H → SqL K H a (ns.map V.int) → sp [.ref a] H (fun v _ => v = .bl true) E0) :
    codeAny (model P w) callerA (.call (.ref fa) ⟨[.ref a], []⟩) (EndsTrue z) z := by
  cases own : K.lookup a with
  | some o =>
    have same := kin a o own
    rw [obj] at same
    cases same
    refine headG kin hns hmb boot lim nogen room F prom (fun _ => none) (fun _ => .inl rfl) (.inr ⟨_, vs.toArray, _, own, rfl, rfl, rfl, ?_, vals_ints isI⟩) (fun _ _ t => nomatch t) (fun _ t => absurd rfl t) obj
    rw [List.size_toArray, isI.length]; exact few
  | none =>
    have at_ : ∀ b u, (if b = a then some (HO.frz { cls := .type "list", data := .seq vs.toArray } (.lst (ns.map V.int))) else none) = some u → b = a ∧ u = .frz { cls := .type "list", data := .seq vs.toArray } (.lst (ns.map V.int)) := fun b u t => by
      split at t
      · rename_i h; exact ⟨h, (Option.some.inj t).symm⟩
      · cases t
    refine headG kin hns hmb boot lim nogen room F prom (fun b => if b = a then some (.frz { cls := .type "list", data := .seq vs.toArray } (.lst (ns.map V.int))) else none) (fun b => ?_) (.inl (.inr ⟨_, if_pos rfl⟩)) (fun b u t => ?_) (fun b t => ?_) obj
    · by_cases h : b = a
      · exact .inr ⟨_, _, if_pos h⟩
      · exact .inl (if_neg h)
    · obtain ⟨rfl, rfl⟩ := at_ b u t
      exact ⟨obj, by rw [List.length_map]; exact few, vs, _, vals_ints isI, obj⟩
    · by_cases h : b = a
      · exact ⟨h, own⟩
      · exact absurd (if_neg h) t
end
/-- the goal of the head, from the law's promise -/
theorem walkG {l : PySem.W.OpenLaw} {n k : Nat} {q : Program} {loose : List Str} {XP : (Str → Option Value) → Heap → Prop} {YP : World → Heap → Prop} {d : DefRec} {K : Params → PySem.W.Frag} {sp : PySem.W.Frag → Sp}
    (hn : l.most = some n) (hn2 : n ≤ sizeLine) (hdf : d.params.defaults = []) (room : Room k callerA) (hY : ∀ (w : World) (h : Heap), YP w h → (K w.params).In h)
    (F : ∀ (w : World) (mg : Str → Option Value) (fa : Addr) (h : Heap), (K w.params).In h → h.Ns mainGlobals mg → mg d.name = some (.ref fa) →
      ∀ base : Heap, (K w.params).In base → base.Ns mainGlobals mg → FnG l.prog w (K w.params) mg base CX0 k fa (sp (K w.params)))
    (prom : ∀ (K : PySem.W.Frag) (H : Hp) (a : Addr) (ns : List Int), ns.length ≤ n → Only H → SqL K H a (ns.map V.int) → sp K [.ref a] H (fun v _ => v = .bl true) E0) :
    PySem.W.WalkO q loose XP YP l.row.toRowW d [] (fun f vs => PySem.call f vs) :=
  Att.attach_call hn hdf fun w _ z mg mb fa o pm cd doc a vs ns G Y _ _ _ hmg obj isI few nogen =>
    lawG (hY w _ Y) G.T.g G.T.b G.T.builtins G.T.nolimit nogen obj isI (Nat.le_trans few hn2) room (fun base => F w mg fa _ (hY w _ Y) G.T.g hmg base) fun H o s => prom _ H a ns few o s
/-! ## static methods without arguments -/
section
variable {X : Cx} {CX : CXT} {k : Nat} {C g : Addr} {sp : Sp} {E : XK} {o : Expr} {m : Str} {pos apos : Pos} {ta : TE}
theorem pe_smeth0 {pl : Sem Bool} (he : PE X o ta) (c : SMet X.K C m g) (F : FnR X.prog X.w X.K X.mg X.base CX k g sp) (hr : Room k X.A) (hx : Passes CX X E)
    (ht : eval (.Call (.Attribute o m apos) [] [] pos) X.env = (eval o X.env >>= fun ov => standAt apos.atName >>= fun _ => holding [ov] (getMethod ov m pl) >>= fun r =>
      callWith pos r.1 r.2 (backTo pos (starEach [] X.env)) (backToKw pos (keywordEach [] X.env))) := by rfl) :
    PE X (.Call (.Attribute o m apos) [] [] pos) (fun σ H Q => ta σ H fun x H1 => x = .ref C ∧ sp [] H1 Q E) := by
  refine ⟨fun pins s σ H Q I h => ?_⟩
  refine PySem.W.methodCall_KW (pl := pl) (thn (he.run pins s σ H _ I h) fun u s1 ⟨x, H1, I1, rx, ex, q⟩ => ?_) ht
  subst ex
  obtain rfl : u = Value.ref C := rx
  obtain ⟨mc, p, rest, r, at_, rc⟩ := c.ex
  refine PySem.W.method_cls I1.kIn r.ga (PySem.W.cls_bind I1.kIn r.rd at_ (wpAny_call (PySem.W.sm_get (s := { s1 with toks := s1.toks + 1 }) I1.kIn rc (PySem.W.handed_on rfl ?_))))
  exact PySem.W.callWith_K0 (first := []) (I1.tok _).kIn c.kp (wpAny_call (run_fnR (us := []) (vs := []) F hr hx (I1.tok _) .nil q))
end
/-! ## repr -/
section
variable {X : Cx}
def rReprD (K : PySem.W.Frag) : List V → Hp → VK → Prop := fun xs H Q => ∃ (a : Addr) (d : PyData), xs = [.ref a] ∧ Dp K H (.ref a) d ∧ d.showable = true ∧ d.hasDict = false ∧ d.depth ≤ 60 ∧ d.shown.length ≤ sizeLine ∧ Q (.str d.shown) H
/-- repr of a list or tuple of data, none under way -/
theorem call_reprD (ng : NoG X.A) (hu : X.A.units + 64 < cLine) : CallR X (.builtin "repr") (rReprD X.K) := by
  intro pins s σ H xs us Q I rv q
  obtain ⟨a, d, rfl, hd, sh, nd, dp, sz, q⟩ := q
  obtain ⟨u, rfl, ru⟩ := vals1 rv
  obtain rfl : u = Value.ref a := ru
  obtain ⟨as, r⟩ := Dp.reads I d (.ref a) (.ref a) hd rfl
  exact repr_of_reads' r sh (PyData.noDict_hsm nd) ng (by omega) (fun _ _ e => e) (fun h' u tk hk => ⟨.str d.shown, H, I.kept hk, ⟨_, rfl⟩, q⟩) sz
theorem call_reprB : CallR X (.builtin "repr") (fun xs H Q => ∃ b, xs = [.bl b] ∧ Q (.str (if b then "True" else "False")) H) := by
  intro pins s σ H xs us Q I rv q
  obtain ⟨b, rfl, q⟩ := q
  obtain ⟨u, rfl, ru⟩ := vals1 rv
  obtain rfl : u = Value.bool b := ru
  exact PySem.P.repr_of_bool ⟨.str (if b then "True" else "False"), H, I.tok _, ⟨_, rfl⟩, q⟩
theorem call_reprI : CallR X (.builtin "repr") (fun xs H Q => ∃ i, xs = [.int i] ∧ i.natAbs.log2 < 1920 ∧ Q (.str (toString i)) H) := by
  intro pins s σ H xs us Q I rv q
  obtain ⟨i, rfl, hz, q⟩ := q
  obtain ⟨u, rfl, t, rfl⟩ := vals1 rv
  exact PySem.P.repr_of_int hz ⟨.str (toString i), H, I.tok _, ⟨_, rfl⟩, q⟩
theorem uRepr (ng : NoG X.A) (hu : X.A.units + 64 < cLine) : CallR X (.builtin "repr") (fun xs H Q => (∃ b, xs = [.bl b] ∧ Q (.str (if b then "True" else "False")) H) ∨ (∃ i, xs = [.int i] ∧ i.natAbs.log2 < 1920 ∧ Q (.str (toString i)) H) ∨ rReprD X.K xs H Q) :=
  CallR.or' call_reprB (CallR.or' call_reprI (call_reprD ng hu))
theorem uIsiK {K : PySem.W.Frag} (h : X.K = K) : CallR X (.builtin "isinstance") (fun xs H Q => rIsi K xs H Q ∨ rIsiT K xs H Q) := by
  subst h
  exact uIsi
/-- != of ints and the like, of own ones, of tuples with own ones, of data -/
theorem uNeX {n : Nat} {D : Eqv} (hD : Mon D) (h : EqG X n D) (hr : Room (n + 1) X.A) (hu : X.A.units + 64 < cLine) : OpR X (compareOp .NotEq) (orR rNe (orR (rOwnN X) (orR (rNeG (DTup X.K D)) (rNeD X.K)))) :=
  op_or2 op_ne (op_or2 op_ownN (op_or2 (op_neG (ncG_tup hD h) hr) (op_neD hu)))
end
/-- how one positional value and one by its name are bound -/
def g11 {α : Type} : List α → List α → List α
  | [a], [b] => [a, b]
  | _, _ => []
theorem kbinds11 {K : PySem.W.Frag} {fd : FuncData} {p q : Str} (h : ∀ a b : Value, bindArgs fd ⟨[a], [(q, b)]⟩ = pure [(p, a), (q, b)]) : KBinds K fd [p, q] [q] g11 g11 where
  to := fun s us ws _ hl => match us, ws, hl with
    | [a], [b], _ => .of_eq (h a b)
    | [], _, hl => by cases hl
    | [_], [], hl => by cases hl
    | [_], _ :: _ :: _, hl => by cases hl
    | _ :: _ :: _, _, hl => by cases hl
  rel := fun {vs us zs ws} r rz => match vs, us, zs, ws, r, rz with
    | [_], [_], [_], [_], .cons a .nil, .cons b .nil => .cons a (.cons b .nil)
    | [], [], _, _, .nil, _ => .nil
    | [_], [_], [], [], .cons _ .nil, .nil => .nil
    | [_], [_], _ :: _ :: _, _ :: _ :: _, .cons _ .nil, .cons _ (.cons _ _) => .nil
    | _ :: _ :: _, _ :: _ :: _, _, _, .cons _ (.cons _ _), _ => .nil
end AZ

set_option Elab.async false
set_option maxRecDepth 100000
set_option maxHeartbeats 4000000
set_option linter.all false
/-! Own work: != of lists with own items; own == beside other types; objects and classes called with keywords. -/
namespace GQ
open PySem PySem.SeqAt
open AutoSeq1 (wpAny_loadPart')
open MeetsSeq MeetsSeq2 MeetsSeq3 SeqRoads2
section
variable {prog : Program} {w : World} {A : Around} {R : Result → Shared → Prop}
theorem list_ne_from (l b : Addr) (N : Nat) (J : Nat → Shared → Prop) (walk : ListI prog w A (fun x z => R (.error x) z) l b N J) (last : ∀ z, J N z → R (.ok (.ret (.bool false))) z) :
    ∀ (m i : Nat), i + m = N → ∀ z, J i z → wpAny (model prog w) A.in1 (Builtin.«list.__eq__.loop» ⟨[.ref l, .ref b, rawInt i, rawInt 3], []⟩) (FinOf prog w A R) (fun x z' => R (.error x) z') z
  | 0, i, e, z, h => by
    obtain ⟨xs, ys, n1, n2, g1, g2, e1, e2, _⟩ := walk _ _ h
    obtain rfl : i = N := by omega
    have done := last z h
    obtain ⟨hp, gs, dr, tk, os⟩ := z
    have none1 : xs[((i : Nat) : Int).toNat]? = none := by simp; omega
    have none2 : ys[((i : Nat) : Int).toNat]? = none := by simp; omega
    wp_walk using wpAny_loadPart' g1, wpAny_loadPart' g2
    rw [none1, none2]
    wp_walk using wpAny_loadPart' g1, wpAny_loadPart' g2
    show R (.ok (.ret (.bool (xs.size != ys.size)))) _
    rw [e1, e2]
    simpa using done
  | m + 1, i, e, z, h => by
    obtain ⟨xs, ys, n1, n2, g1, g2, e1, e2, turn⟩ := walk _ _ h
    have k1 : i < xs.size := by omega
    have k2 : i < ys.size := by omega
    have step := turn k1 k2
    have next := list_ne_from l b N J walk last m (i + 1) (by omega)
    obtain ⟨hp, gs, dr, tk, os⟩ := z
    have some1 : xs[((i : Nat) : Int).toNat]? = some xs[i] := by simp [k1]
    have some2 : ys[((i : Nat) : Int).toNat]? = some ys[i] := by simp [k2]
    have more : ((i : Int) + 1) = ((i + 1 : Nat) : Int) := by omega
    wp_walk using wpAny_loadPart' g1, wpAny_loadPart' g2
    rw [some1, some2]
    refine wpAny_bind (wpAny_mono step (fun r z2 q => ?_) fun _ _ x => x)
    obtain ⟨rfl, q⟩ := q
    have nx := next z2 q
    obtain ⟨hp2, gs2, dr2, tk2, os2⟩ := z2
    wp_walk
    rw [more]
    exact ⟨plainId_quiet plain_eq_loop _, codeAny_builtin entry_eq_loop ((Around.under_plainId plain_eq_loop _).symm ▸ nx)⟩
theorem list_ne_all (l b : Addr) (N : Nat) (J : Nat → Shared → Prop) (walk : ListI prog w A (fun x z => R (.error x) z) l b N J) (last : ∀ z, J N z → R (.ok (.ret (.bool false))) z) {z : Shared} (h : J 0 z) :
    wpAny (model prog w) A.in1 (Builtin.«list.__ne__» ⟨[.ref l, .ref b], []⟩) (FinOf prog w A R) (fun x z' => R (.error x) z') z := by
  obtain ⟨xs, ys, n1, n2, g1, g2, e1, e2, _⟩ := walk _ _ h
  have nx := list_ne_from (A := A) (R := R) l b N J walk last N 0 (Nat.zero_add N) z h
  obtain ⟨hp, gs, dr, tk, os⟩ := z
  have isList := AutoSeq1.sub_list_list
  have same : ¬ (xs.size != ys.size) = true := by simp [e1, e2]
  wp_walk using wpAny_loadPart' g1, wpAny_loadPart' g2
  exact ⟨plainId_quiet plain_eq_loop _, codeAny_builtin entry_eq_loop ((Around.under_plainId plain_eq_loop _).symm ▸ nx)⟩
end
section
variable {prog : Program} {w : World} {A : Around} {X : Value → Shared → Prop} {z : Shared}
theorem ne_lists {l b : Addr} {N : Nat} {Q : Value → Shared → Prop} (room : A.units < cLine) (J : Nat → Shared → Prop) (walk : ListI prog w A X l b N J) (last : ∀ z, J N z → Q (.bool false) z) (h : J 0 z) :
    wpAny (model prog w) A (richCompare .NotEq (.ref l) (.ref b)) Q X z := by
  obtain ⟨xs, ys, n1, n2, g1, g2, _, _, _⟩ := walk _ _ h
  exact wpAny_richCompare_same_room (op := .NotEq) ⟨_, g1, rfl⟩ ⟨_, g2, rfl⟩ F.slot_list_ne (call_here F.slot_list_ne ⟨_, g1, rfl⟩ F.entry_list_ne (F.args_list_ne_2 _ _)
    (list_ne_all (R := wants (fun v s' => v ≠ .notImplemented ∧ Q v s') X) l b N J walk (fun z' q => ⟨(fun x => nomatch x), last z' q⟩) h)) room
end
end GQ
namespace AZ
open PySem L2
section
variable {X : Cx} {n : Nat} {D : Eqv}
theorem ncG_list (hD : Mon D) (h : EqG X n D) : NcG X (n + 1) (DList D) := by
  intro A pins s σ H x y u v sb I rx ry d
  obtain ⟨a, b, xs, ys, rfl, rfl, ha, hb, p⟩ := d
  cases rx
  cases ry
  refine GQ.ne_lists (N := xs.length) sb.room.units0 (fun _ s' => LoopI X pins σ H s') (fun i s' q => ?_) (fun s' q => ⟨rfl, q⟩) ⟨H, I, Ext.rfl'⟩
  obtain ⟨H1, I1, e1⟩ := id q
  obtain ⟨z, its, k, r, e⟩ := I1.hok a _ (e1 _ _ ha)
  obtain ⟨z2, its2, k2, r2, e2⟩ := I1.hok b _ (e1 _ _ hb)
  exact ⟨its.toArray, its2.toArray, k, k2, e, e2, by rw [List.size_toArray, ← r.length], by rw [List.size_toArray, ← r2.length, ← p.1], fun h1 h2 => turnG hD h sb p r r2 i h1 h2 s' q⟩
/-- own == where the right side is of a built-in type -/
def RightT (H : Hp) (y : V) (T : String) : Prop := (T = "str" ∧ ∃ z, y = .str z) ∨ (T = "tuple" ∧ ∃ b xs, y = .ref b ∧ H b = some (.tup xs))
def rOwnT (X : Cx) (op : CmpOp) : R2 := fun x y H Q => ∃ (T : String) (a C dx : Addr) (fs : List (Str × V)) (f : Addr) (CX : CXT) (k : Nat) (sp : Sp) (E : XK),
  x = .ref a ∧ H a = some (.ins C dx fs) ∧ RightT H y T ∧ PySem.W.notFirst X.K C (.type T) = true ∧ CmpM X.K C op f ∧ FnR X.prog X.w X.K X.mg X.base CX k f sp ∧ Room k X.A ∧ Passes CX X E ∧ sp [x, y] H Q E
theorem op_ownT (op : CmpOp) (hop : ∀ a b, compareOp op a b = richCompare op a b := by intro _ _; rfl) : OpR X (compareOp op) (rOwnT X op) := by
  intro pins s σ H x y v u Q I rx ry h
  obtain ⟨T, a, C, dx, fs, f, CX, k, sp, E, rfl, ha, hR, hT, hM, F, hr, hx, hs⟩ := h
  obtain rfl : v = Value.ref a := rx
  have hc : wpAny (model X.prog X.w) X.A (call (.ref f) [.ref a, u]) (PySem.W.CmpBack (EP X pins σ Q)) X.xe s :=
    thn (wpAny_call (run_fnR (us := [.ref a, u]) (vs := [.ref a, y]) F hr hx I (.cons rfl (.cons ry .nil)) hs)) fun _ _ z => cmpBack_of z
  obtain ⟨mA, J, _⟩ := ins_get I.hok ha
  obtain ⟨od, J, _⟩ := J.look
  obtain ⟨m, hF⟩ := I.fr
  rw [hop]
  rcases hR with ⟨rfl, z, rfl⟩ | ⟨rfl, b, xs, rfl, hb⟩
  · obtain ⟨t, rfl⟩ := ry
    exact PySem.W.cmp_K (tb := .type "str") hr.units0 hF I.ok.mod.kin J (PySem.W.Looks.of_pure rfl) hT hM.hs hM.hf hc
  · obtain rfl : u = Value.ref b := ry
    obtain ⟨its, r, e, _⟩ := I.tuple (SqT.of hb)
    obtain ⟨o, g, c, _⟩ := id e
    have look : PySem.W.Looks (model X.prog X.w) s.heap (typeOf (.ref b)) (.type "tuple") := fun A Q E z k q => wpAny_typeOf_ref (k _ _ g) (by rw [c]; exact q)
    exact PySem.W.cmp_K (tb := .type "tuple") hr.units0 hF I.ok.mod.kin J look hT hM.hs hM.hf hc
end
end AZ
namespace AZ
open PySem L2 PyProof.Rows
/-- an object called with keywords -/
theorem callOk_of {M : Model} {A : Around} {E : Value → Shared → Prop} {s : Shared} {a : Addr} {pos : Pos} {Q : Value → Shared → Prop} {args : List (Bool × Sem Value)} {kws : List (Option Str × Sem Value)} (plain : (args.any (·.1) || kws.any (·.1.isNone)) = false)
    (h : wpAny M A (evalArgs (.ref a) true args kws) (fun z s1 => (∃ C ox od, PySem.W.InstAt s1.heap a ox C od ∧ ox.data = .plain) ∧ wpAny M A (call (.ref a) z.pos z.kw) Q E s1) E s) : wpAny M A (callWith pos (.ref a) [] args kws) Q E s := by
  unfold callWith
  refine wpAny_bind (wpAny_holding (wpAny_mono h (fun z s1 q => wpAny_bind (wpAny_standAt ?_)) fun _ _ q => q))
  obtain ⟨⟨C, ox, od, at_, dat⟩, q⟩ := q
  simp only [plain]
  refine wpAny_bind ((PySem.W.kco_keeper (M := M) at_ dat).here (wpAny_bind (wpAny_mono (wpAny_operateT q) (fun r s2 q2 => ?_) fun _ _ q => q)))
  exact wpAny_bind (wpAny_holding (wpAny_point (wpAny_pure q2)))
section
variable {X : Cx} {CX : CXT} {k : Nat} {C g : Addr} {sp : Sp} {E : XK} {fe : Expr} {kws : List Keyword} {ks : List Str} {x : Str} {p pos : Pos} {tf : TE} {t : TA} {gV : List V → List V → List V}
/-- f(k = e, ..), f an expression that gives an instance of C -/
def tCallOk (X : Cx) (C : Addr) (gV : List V → List V → List V) (sp : Sp) (E : XK) (tf : TE) (t : TA) : TE := fun σ H Q => tf σ H fun y H1 => ∃ a, y = V.ref a ∧ t σ H1 fun zs H2 => StX.InsC X H2 a C ∧ sp (gV [V.ref a] zs) H2 Q E
theorem pe_callOk (hf : PE X fe tf) (c : StX.CallO X.K C g) (F : FnRk X.prog X.w X.K X.mg X.base CX k g ks gV sp) (hr : Room k X.A) (hx : Passes CX X E) (hkw : PK X kws t)
    (hall : (backToKw pos (keywordEach kws X.env)).all (·.1.isSome) = true := by rfl) (hks : (backToKw pos (keywordEach kws X.env)).filterMap (·.1) = ks := by rfl)
    (ht : eval (.Call fe [] kws pos) X.env = (do callWith pos (← eval fe X.env) [] (backTo pos (starEach [] X.env)) (backToKw pos (keywordEach kws X.env))) := by rfl)
    (hpl : ((backTo pos (starEach [] X.env)).any (·.1) || (backToKw pos (keywordEach kws X.env)).any (·.1.isNone)) = false := by rfl) : PE X (.Call fe [] kws pos) (tCallOk X C gV sp E tf t) := by
  refine ⟨fun pins s σ H Q I h => ?_⟩
  rw [ht]
  refine wpAny_bind (thn (hf.run pins s σ H _ I h) fun u s1 ⟨y, H1, I1, ry, a, ey, q⟩ => ?_)
  subst ey
  obtain rfl : u = Value.ref a := ry
  refine callOk_of hpl (evalArgs_kw2_nil hall (thn (hkw.run pos pins s1 σ H1 _ I1 q) fun ws s2 ⟨zs, H2, I2, rz, hi, q2⟩ => ?_))
  obtain ⟨ox, od, J, hd⟩ := StX.insC_at I2 hi
  refine ⟨⟨C, ox, od, J, hd⟩, ?_⟩
  rw [hks]
  refine wpAny_call (PySem.W.kco_code I2.kIn J hd c.at_ c.fn c.fi (codeAny_mono (F X.A X.stack s2 H2 [.ref a] ws [.ref a] zs Q E hr I2.env0 (.cons rfl .nil) rz q2) fun r s' hq => ?_))
  match r, hq with
  | .error e, hq => exact hx pins σ H2 s2 e s' I2 hq
  | .ok (.ret _), hq => exact I2.after hq
  | .ok .next, hq => exact hq.elim
  | .ok .brk, hq => exact hq.elim
  | .ok .cont, hq => exact hq.elim
/-- C(k = e, ..): a new instance and its dict, then __init__ -/
def tMakeRk (C : Addr) (gV : List V → List V → List V) (sp : Sp) (E : XK) (t : TA) : TE := fun σ H Q => t σ H fun zs H1 => ∀ x dx, H1 x = none → H1 dx = none → dx ≠ x →
  sp (gV [.ref x] zs) (upd (upd H1 dx (.own x)) x (.ins C dx [])) (fun v H2 => v = .non ∧ Q (.ref x) H2) E
theorem pe_makeRk (M : Mk X.K C g) (F : FnRk X.prog X.w X.K X.mg X.base CX k g ks gV sp) (hr : Room (k + 1) X.A) (hg : Gl X x) (hm : X.mg x = some (.ref C)) (hx : Passes CX X E) (hkw : PK X kws t)
    (hall : (backToKw pos (keywordEach kws X.env)).all (·.1.isSome) = true := by rfl) (hks : (backToKw pos (keywordEach kws X.env)).filterMap (·.1) = ks := by rfl) (hdb : (x == ("__debug__" : Str)) = false := by decide)
    (hpl : ((backTo pos (starEach [] X.env)).any (·.1) || (backToKw pos (keywordEach kws X.env)).any (·.1.isNone)) = false := by rfl) : PE X (.Call (.Name x p) [] kws pos) (tMakeRk C gV sp E t) := by
  refine ⟨fun pins s σ H Q I h => wpAny_Call_Name_kw (ld_glob I hg hm ?_ hdb)⟩
  refine PySem.W.callWith_KW0 (h₀ := X.base) I.ok.mod.kin M.kp hall (thn (hkw.run pos pins s σ H _ I h) fun ws s2 ⟨zs, H2, I2, rz, q⟩ => ⟨I2.kIn, ?_⟩) hpl
  rw [hks]
  have q2 := q (s2.heap.objs.size + 1) s2.heap.objs.size (I2.hok.fresh (Nat.le_succ _)) (I2.hok.fresh (Nat.le_refl _)) (Nat.ne_of_lt (Nat.lt_succ_self _))
  have J := Inv.made (C := C) I2
  refine wpAny_call (make_map (f := g) I2.kIn M.makes M.init (beq_iff_eq.mp M.fn) (codeAny_mono (F _ X.stack _ _ [.ref (s2.heap.objs.size + 1)] ws [.ref (s2.heap.objs.size + 1)] zs _ E (hr.make C [] (ks.zip ws)) (J.env0.make C [] (ks.zip ws)) (.cons rfl .nil) rz q2) fun r s' hq => ?_))
  match r, hq with
  | .error e, hq => exact hx pins σ _ _ e s' J hq
  | .ok (.ret _), hq =>
    obtain ⟨v, H3, J3, rv, ev, q3⟩ := J.after hq
    subst ev
    exact ⟨rv, ⟨V.ref (s2.heap.objs.size + 1), H3, J3, rfl, q3⟩⟩
  | .ok .next, hq => exact hq.elim
  | .ok .brk, hq => exact hq.elim
  | .ok .cont, hq => exact hq.elim
end
/-- how one positional value and two by their names, told the other way round, are bound -/
def g12 {α : Type} : List α → List α → List α
  | [a], [b, c] => [a, c, b]
  | _, _ => []
theorem vals_g12 : ∀ {vs zs : List V} {us ws : List Value}, Vals vs us → Vals zs ws → Vals (g12 vs zs) (g12 us ws)
  | _, _, _, _, .cons a .nil, .cons b (.cons c .nil) => .cons a (.cons c (.cons b .nil))
  | _, _, _, _, .nil, _ => .nil
  | _, _, _, _, .cons _ (.cons _ _), _ => .nil
  | _, _, _, _, .cons _ .nil, .nil => .nil
  | _, _, _, _, .cons _ .nil, .cons _ .nil => .nil
  | _, _, _, _, .cons _ .nil, .cons _ (.cons _ (.cons _ _)) => .nil
theorem FnOk.rawkn {P : Program} {w : World} {K : PySem.W.Frag} {mg : Str → Option Value} {base : Heap} {CX : CXT} {k n : Nat} {f : Addr} {fd : FuncData} {ps ks : List Str} {sp : Sp} {g : List Value → List Value → List Value} {gV : List V → List V → List V}
    (F : FnOk P w K mg base CX k f fd ps sp) (hb : KBn K fd ps n ks g gV) (hl : ∀ vs zs : List V, (gV vs zs).length = ps.length → vs.length = n ∧ zs.length = ks.length) : FnRk P w K mg base CX k f ks gV sp := by
  intro A outer s H us ws vs zs Q E hr e0 r rz h
  obtain ⟨l1, l2⟩ := hl vs zs (F.len _ _ _ _ h)
  exact F.run A outer s H ⟨us, ks.zip ws⟩ (g us ws) (gV vs zs) Q E hr e0 (hb.to s us ws (e0.mod.kin.keeps fun b o e => (e0.bs b o e).1) (r.length.symm.trans l1) (rz.length.symm.trans l2)) (hb.rel r rz) h
section
variable {X : Cx}
theorem uEqT (hu : X.A.units + 64 < cLine) : OpR X (compareOp .Eq) (orR rEq (orR (rOwnC X .Eq) (orR (rOwnT X .Eq) (rEqD X.K)))) := op_or2 op_eq (op_or2 (op_ownC _) (op_or2 (op_ownT _) (op_eqD hu)))
theorem uNeL {n : Nat} {D : Eqv} (hD : Mon D) (h : EqG X n D) (hr : Room (n + 1) X.A) (hu : X.A.units + 64 < cLine) : OpR X (compareOp .NotEq) (orR rNe (orR (rOwnN X) (orR (rNeG (DList D)) (rNeD X.K)))) :=
  op_or2 op_ne (op_or2 op_ownN (op_or2 (op_neG (ncG_list hD h) hr) (op_neD hu)))
end
section
variable {X : Cx} {k : Nat} {C g : Addr} {CX : CXT} {sp : Sp} {E : XK} {fe e : Expr} {es : List Expr} {pos : Pos} {tf : TE} {t : TA}
/-- calling an object, told without the context (for blocks) -/
def tCallOF (C : Addr) (sp : Sp) (E : XK) (tf : TE) (t : TA) : TE := fun σ H Q => tf σ H fun y H1 => ∃ a, y = V.ref a ∧ t σ H1 fun vs H2 => ((∃ dx vs, SlX.Slt H2 a C dx vs) ∨ ∃ dx fs, H2 a = some (.ins C dx fs)) ∧ sp (V.ref a :: vs) H2 Q E
theorem pe_callOF (hf : PE X fe tf) (c : StX.CallO X.K C g) (F : FnR X.prog X.w X.K X.mg X.base CX k g sp) (hr : Room k X.A) (hx : Passes CX X E) (ha : PA X (e :: es) t)
    (ht : eval (.Call fe (e :: es) [] pos) X.env = (do callWith pos (← eval fe X.env) [] (backTo pos (starEach (e :: es) X.env)) (backToKw pos (keywordEach [] X.env))) := by rfl)
    (he : starEach (e :: es) X.env = (false, eval e X.env) :: starEach es X.env := by rfl) (hpl : (backTo pos (starEach es X.env)).any (·.1) = false := by rfl) : PE X (.Call fe (e :: es) [] pos) (tCallOF C sp E tf t) :=
  StX.pe_callO hf c F hr hx ha ht he hpl
end
section
variable {X : Cx} {tg l : Expr} {tl : TE}
theorem pi_listK {K : PySem.W.Frag} (h : X.K = K) (hl : PE X l tl) : PI X tg l (iList K tl) := by
  subst h
  exact pi_list hl
end
end AZ

namespace AZ
open PySem L2
def top (i : Nat) : Stmt := PySem.Challenge.pw_allzooms_k07_roundings_made_and_called.main.body.getD i (.Pass ⟨0, 0, 0, 0⟩)
abbrev s__law_pen : Stmt := top 24
abbrev s__law_draw : Stmt := top 25
abbrev s__law_pick : Stmt := top 26
abbrev s_is_integer : Stmt := top 13
abbrev s_Ratio___init__ : Stmt := inClass (top 18) 0
abbrev s_Ratio_of : Stmt := inClass (top 18) 1
abbrev s_Ratio___add__ : Stmt := inClass (top 18) 6
abbrev s_Ratio___sub__ : Stmt := inClass (top 18) 8
abbrev s_Ratio___mul__ : Stmt := inClass (top 18) 10
abbrev s_Ratio___lt__ : Stmt := inClass (top 18) 18
abbrev s_Ratio___le__ : Stmt := inClass (top 18) 19
abbrev s_Ratio___gt__ : Stmt := inClass (top 18) 20
abbrev s_Ratio___ge__ : Stmt := inClass (top 18) 21
abbrev s_Ratio___eq__ : Stmt := inClass (top 18) 22
abbrev s_Ratio_floor : Stmt := inClass (top 18) 25
abbrev s_Ratio_ceiling : Stmt := inClass (top 18) 26
abbrev s_is_number : Stmt := top 14
abbrev s_fraction_of : Stmt := top 21
abbrev s_Rounding_drawn_at : Stmt := inClass (top 22) 6
abbrev s_Rounding___call__ : Stmt := inClass (top 22) 7
abbrev s_Rounding_before : Stmt := inClass (top 22) 8
abbrev s_Rounding_behind : Stmt := inClass (top 22) 9
abbrev s_Rounding_is_step : Stmt := inClass (top 22) 10
abbrev s_Rounding___init__ : Stmt := inClass (top 22) 0
abbrev s_Ratio___neg__ : Stmt := inClass (top 18) 12
abbrev s_Ratio___rsub__ : Stmt := inClass (top 18) 9
abbrev s_Rounding___eq__ : Stmt := inClass (top 22) 13
abbrev s_Rounding___invert__ : Stmt := inClass (top 22) 12
abbrev s_Ratio___str__ : Stmt := inClass (top 18) 24
abbrev s_Rounding___str__ : Stmt := inClass (top 22) 14
abbrev s_Rounding_all_down : Stmt := inClass (top 22) 1
abbrev s_Rounding_all_up : Stmt := inClass (top 22) 2
abbrev s_Rounding_half_up : Stmt := inClass (top 22) 3
abbrev s__law_frac : Stmt := top 27
abbrev s__law_kind : Stmt := top 32
abbrev s__law_number : Stmt := top 35
abbrev s__law_rounding : Stmt := top 33
abbrev s__law_plus : Stmt := top 28
abbrev s__law_ratio : Stmt := top 31
abbrev s__law_round : Stmt := top 34
abbrev s__law_beside : Stmt := top 37
abbrev s__law_near : Stmt := top 36
abbrev s__law_right : Stmt := top 38
abbrev s_Rounding_half_down : Stmt := inClass (top 22) 4
abbrev s_law : Stmt := top 39
theorem sc__law_pen : FnScope ["_law_script"] ["_law_script"] (defScope s__law_pen) := ⟨rfl, rfl, rfl, by decide +kernel, rfl, by decide +kernel, by decide +kernel⟩
theorem sc__law_draw : FnScope ["_law_pen_here", "_law_many", "_law_digit", "_law_lap", "_law_cell", "_law_great", "_law_stir"] ["_law_pen_here", "_law_many"] (defScope s__law_draw) := ⟨rfl, rfl, rfl, by decide +kernel, rfl, by decide +kernel, by decide +kernel⟩
theorem sc__law_pick : FnScope ["_law_pen_here", "_law_some"] ["_law_pen_here", "_law_some"] (defScope s__law_pick) := ⟨rfl, rfl, rfl, by decide +kernel, rfl, by decide +kernel, by decide +kernel⟩
theorem sc_is_integer : FnScope ["value"] ["value"] (defScope s_is_integer) := ⟨rfl, rfl, rfl, by decide +kernel, rfl, by decide +kernel, by decide +kernel⟩
theorem sc_Ratio___init__ : FnScope ["self", "over", "under", "shared"] ["self", "over", "under"] (defScope s_Ratio___init__) := ⟨rfl, rfl, rfl, by decide +kernel, rfl, by decide +kernel, by decide +kernel⟩
theorem sc_Ratio_of : FnScope ["value"] ["value"] (defScope s_Ratio_of) := ⟨rfl, rfl, rfl, by decide +kernel, rfl, by decide +kernel, by decide +kernel⟩
theorem sc_Ratio___add__ : FnScope ["self", "other", "added"] ["self", "other"] (defScope s_Ratio___add__) := ⟨rfl, rfl, rfl, by decide +kernel, rfl, by decide +kernel, by decide +kernel⟩
theorem sc_Ratio___sub__ : FnScope ["self", "other", "taken"] ["self", "other"] (defScope s_Ratio___sub__) := ⟨rfl, rfl, rfl, by decide +kernel, rfl, by decide +kernel, by decide +kernel⟩
theorem sc_Ratio___mul__ : FnScope ["self", "other", "factor"] ["self", "other"] (defScope s_Ratio___mul__) := ⟨rfl, rfl, rfl, by decide +kernel, rfl, by decide +kernel, by decide +kernel⟩
theorem sc_Ratio___lt__ : FnScope ["self", "other", "against"] ["self", "other"] (defScope s_Ratio___lt__) := ⟨rfl, rfl, rfl, by decide +kernel, rfl, by decide +kernel, by decide +kernel⟩
theorem sc_Ratio___le__ : FnScope ["self", "other", "against"] ["self", "other"] (defScope s_Ratio___le__) := ⟨rfl, rfl, rfl, by decide +kernel, rfl, by decide +kernel, by decide +kernel⟩
theorem sc_Ratio___gt__ : FnScope ["self", "other", "against"] ["self", "other"] (defScope s_Ratio___gt__) := ⟨rfl, rfl, rfl, by decide +kernel, rfl, by decide +kernel, by decide +kernel⟩
theorem sc_Ratio___ge__ : FnScope ["self", "other", "against"] ["self", "other"] (defScope s_Ratio___ge__) := ⟨rfl, rfl, rfl, by decide +kernel, rfl, by decide +kernel, by decide +kernel⟩
theorem sc_Ratio___eq__ : FnScope ["self", "other"] ["self", "other"] (defScope s_Ratio___eq__) := ⟨rfl, rfl, rfl, by decide +kernel, rfl, by decide +kernel, by decide +kernel⟩
theorem sc_Ratio_floor : FnScope ["self"] ["self"] (defScope s_Ratio_floor) := ⟨rfl, rfl, rfl, by decide +kernel, rfl, by decide +kernel, by decide +kernel⟩
theorem sc_Ratio_ceiling : FnScope ["self"] ["self"] (defScope s_Ratio_ceiling) := ⟨rfl, rfl, rfl, by decide +kernel, rfl, by decide +kernel, by decide +kernel⟩
theorem sc_is_number : FnScope ["value"] ["value"] (defScope s_is_number) := ⟨rfl, rfl, rfl, by decide +kernel, rfl, by decide +kernel, by decide +kernel⟩
theorem sc_fraction_of : FnScope ["number"] ["number"] (defScope s_fraction_of) := ⟨rfl, rfl, rfl, by decide +kernel, rfl, by decide +kernel, by decide +kernel⟩
theorem sc_Rounding_drawn_at : FnScope ["self", "number", "place"] ["self", "number"] (defScope s_Rounding_drawn_at) := ⟨rfl, rfl, rfl, by decide +kernel, rfl, by decide +kernel, by decide +kernel⟩
theorem sc_Rounding___call__ : FnScope ["self", "number"] ["self", "number"] (defScope s_Rounding___call__) := ⟨rfl, rfl, rfl, by decide +kernel, rfl, by decide +kernel, by decide +kernel⟩
theorem sc_Rounding_before : FnScope ["self", "number"] ["self", "number"] (defScope s_Rounding_before) := ⟨rfl, rfl, rfl, by decide +kernel, rfl, by decide +kernel, by decide +kernel⟩
theorem sc_Rounding_behind : FnScope ["self", "number"] ["self", "number"] (defScope s_Rounding_behind) := ⟨rfl, rfl, rfl, by decide +kernel, rfl, by decide +kernel, by decide +kernel⟩
theorem sc_Rounding_is_step : FnScope ["self", "number"] ["self", "number"] (defScope s_Rounding_is_step) := ⟨rfl, rfl, rfl, by decide +kernel, rfl, by decide +kernel, by decide +kernel⟩
theorem sc_Rounding___init__ : FnScope ["self", "threshold", "is_from"] ["self", "threshold", "is_from"] (defScope s_Rounding___init__) := ⟨rfl, rfl, rfl, by decide +kernel, rfl, by decide +kernel, by decide +kernel⟩
theorem sc_Ratio___neg__ : FnScope ["self"] ["self"] (defScope s_Ratio___neg__) := ⟨rfl, rfl, rfl, by decide +kernel, rfl, by decide +kernel, by decide +kernel⟩
theorem sc_Ratio___rsub__ : FnScope ["self", "other"] ["self", "other"] (defScope s_Ratio___rsub__) := ⟨rfl, rfl, rfl, by decide +kernel, rfl, by decide +kernel, by decide +kernel⟩
theorem sc_Rounding___eq__ : FnScope ["self", "other"] ["self", "other"] (defScope s_Rounding___eq__) := ⟨rfl, rfl, rfl, by decide +kernel, rfl, by decide +kernel, by decide +kernel⟩
theorem sc_Rounding___invert__ : FnScope ["self"] ["self"] (defScope s_Rounding___invert__) := ⟨rfl, rfl, rfl, by decide +kernel, rfl, by decide +kernel, by decide +kernel⟩
theorem sc_Ratio___str__ : FnScope ["self"] ["self"] (defScope s_Ratio___str__) := ⟨rfl, rfl, rfl, by decide +kernel, rfl, by decide +kernel, by decide +kernel⟩
theorem sc_Rounding___str__ : FnScope ["self"] ["self"] (defScope s_Rounding___str__) := ⟨rfl, rfl, rfl, by decide +kernel, rfl, by decide +kernel, by decide +kernel⟩
theorem sc_Rounding_all_down : FnScope [] [] (defScope s_Rounding_all_down) := ⟨rfl, rfl, rfl, by decide +kernel, rfl, by decide +kernel, by decide +kernel⟩
theorem sc_Rounding_all_up : FnScope [] [] (defScope s_Rounding_all_up) := ⟨rfl, rfl, rfl, by decide +kernel, rfl, by decide +kernel, by decide +kernel⟩
theorem sc_Rounding_half_up : FnScope [] [] (defScope s_Rounding_half_up) := ⟨rfl, rfl, rfl, by decide +kernel, rfl, by decide +kernel, by decide +kernel⟩
theorem sc__law_frac : FnScope ["_law_over", "_law_under", "_law_one", "_law_other", "_law_sign"] ["_law_over", "_law_under"] (defScope s__law_frac) := ⟨rfl, rfl, rfl, by decide +kernel, rfl, by decide +kernel, by decide +kernel⟩
theorem sc__law_kind : FnScope ["_law_pen_here", "_law_some"] ["_law_pen_here"] (defScope s__law_kind) := ⟨rfl, rfl, rfl, by decide +kernel, rfl, by decide +kernel, by decide +kernel⟩
theorem sc__law_number : FnScope ["_law_pen_here", "_law_over"] ["_law_pen_here"] (defScope s__law_number) := ⟨rfl, rfl, rfl, by decide +kernel, rfl, by decide +kernel, by decide +kernel⟩
theorem sc__law_rounding : FnScope ["_law_kind_here"] ["_law_kind_here"] (defScope s__law_rounding) := ⟨rfl, rfl, rfl, by decide +kernel, rfl, by decide +kernel, by decide +kernel⟩
theorem sc__law_plus : FnScope ["_law_one", "_law_other", "_law_times_here"] ["_law_one", "_law_other", "_law_times_here"] (defScope s__law_plus) := ⟨rfl, rfl, rfl, by decide +kernel, rfl, by decide +kernel, by decide +kernel⟩
theorem sc__law_ratio : FnScope ["_law_pen_here", "_law_pair"] ["_law_pen_here", "_law_pair"] (defScope s__law_ratio) := ⟨rfl, rfl, rfl, by decide +kernel, rfl, by decide +kernel, by decide +kernel⟩
theorem sc__law_round : FnScope ["_law_kind_here", "_law_worth", "_law_low", "_law_rest", "_law_bound"] ["_law_kind_here", "_law_worth"] (defScope s__law_round) := ⟨rfl, rfl, rfl, by decide +kernel, rfl, by decide +kernel, by decide +kernel⟩
theorem sc__law_beside : FnScope ["_law_kind_here", "_law_worth", "_law_side"] ["_law_kind_here", "_law_worth", "_law_side"] (defScope s__law_beside) := ⟨rfl, rfl, rfl, by decide +kernel, rfl, by decide +kernel, by decide +kernel⟩
theorem sc__law_near : FnScope ["_law_pen_here", "_law_kind_here", "_law_step"] ["_law_pen_here", "_law_kind_here"] (defScope s__law_near) := ⟨rfl, rfl, rfl, by decide +kernel, rfl, by decide +kernel, by decide +kernel⟩
theorem sc__law_right : FnScope ["_law_pen_here", "_law_kind_here", "_law_worth", "_law_rounding_here", "_law_asked", "_law_due", "_law_told"] ["_law_pen_here", "_law_kind_here"] (defScope s__law_right) := ⟨rfl, rfl, rfl, by decide +kernel, rfl, by decide +kernel, by decide +kernel⟩
theorem sc_Rounding_half_down : FnScope [] [] (defScope s_Rounding_half_down) := ⟨rfl, rfl, rfl, by decide +kernel, rfl, by decide +kernel, by decide +kernel⟩
theorem sc_law : FnScope ["_law_script", "_law_pen_here", "_law_turn", "_law_kind_here", "_law_made", "_law_other", "_law_lap", "_law_some", "_law_told", "_law_one", "_law_over"] ["_law_script"] (defScope s_law) := ⟨rfl, rfl, rfl, by decide +kernel, rfl, by decide +kernel, by decide +kernel⟩
/-- where the defs and classes stand -/
structure Ad where
  (_law_pen _law_draw _law_pick Ratio is_integer Ratio___init__ Ratio_of Ratio___add__ Ratio___sub__ Ratio___mul__ Ratio___lt__ Ratio___le__ Ratio___gt__ Ratio___ge__ Ratio___eq__ Ratio_floor Ratio_ceiling is_number fraction_of Rounding_drawn_at Rounding Ratio___rsub__ Rounding___call__ Rounding_before Rounding_behind Rounding_is_step Rounding___init__ Ratio___neg__ Rounding___eq__ Rounding___invert__ Ratio___str__ Rounding___str__ Rounding_all_down Rounding_all_up Rounding_half_up _law_frac _law_kind _law_number _law_rounding _law_plus _law_ratio _law_round _law_beside _law_near _law_right Rounding_half_down law : Addr)
/-- what the walk asks of the text's top -/
structure Tx (K : PySem.W.Frag) (mg : Str → Option Value) (d : Ad) : Prop where
  F__law_pen : ∃ fd, Fun K "_law_pen" "_law_pen" s__law_pen d._law_pen fd
  n_list : mg "list" = none
  F__law_draw : ∃ fd, Fun K "_law_draw" "_law_draw" s__law_draw d._law_draw fd
  n_int : mg "int" = none
  n_len : mg "len" = none
  n_abs : mg "abs" = none
  F__law_pick : ∃ fd, Fun K "_law_pick" "_law_pick" s__law_pick d._law_pick fd
  k__law_draw : PySem.W.keepIn K (.ref d._law_draw) = true
  m__law_draw : mg "_law_draw" = some (.ref d._law_draw)
  i_int_is_int : PySem.W.kitOne K (.type "int") (.type "int") = some true
  i_int_is_bool : PySem.W.kitOne K (.type "int") (.type "bool") = some false
  y_Ratio : TyC K d.Ratio
  c_Ratio : Cls K d.Ratio
  i_Ratio_is_int : PySem.W.kitOne K (.ref d.Ratio) (.type "int") = some false
  i_Ratio_is_bool : PySem.W.kitOne K (.ref d.Ratio) (.type "bool") = some false
  F_is_integer : ∃ fd, Fun K "is_integer" "is_integer" s_is_integer d.is_integer fd
  n_isinstance : mg "isinstance" = none
  n_bool : mg "bool" = none
  D_Ratio___init__ : ∃ fd, FunD K "__init__" "Ratio.__init__" (defArgs s_Ratio___init__) (defBody s_Ratio___init__) (defScope s_Ratio___init__) [.int 1] [] d.Ratio___init__ fd
  k_is_integer : PySem.W.keepIn K (.ref d.is_integer) = true
  m_is_integer : mg "is_integer" = some (.ref d.is_integer)
  m_gcd : mg "gcd" = some (.builtin "math.gcd")
  a_Ratio_over : NoAttr K d.Ratio "over"
  a_Ratio_under : NoAttr K d.Ratio "under"
  F_Ratio_of : ∃ fd, Fun K "of" "Ratio.of" s_Ratio_of d.Ratio_of fd
  m_Ratio : mg "Ratio" = some (.ref d.Ratio)
  mk_Ratio : Mk K d.Ratio d.Ratio___init__
  i_int_is_Ratio : PySem.W.kitOne K (.type "int") (.ref d.Ratio) = some false
  i_Ratio_is_Ratio : PySem.W.kitOne K (.ref d.Ratio) (.ref d.Ratio) = some true
  F_Ratio___add__ : ∃ fd, Fun K "__add__" "Ratio.__add__" s_Ratio___add__ d.Ratio___add__ fd
  s_Ratio_of : SMet K d.Ratio "of" d.Ratio_of
  F_Ratio___sub__ : ∃ fd, Fun K "__sub__" "Ratio.__sub__" s_Ratio___sub__ d.Ratio___sub__ fd
  F_Ratio___mul__ : ∃ fd, Fun K "__mul__" "Ratio.__mul__" s_Ratio___mul__ d.Ratio___mul__ fd
  F_Ratio___lt__ : ∃ fd, Fun K "__lt__" "Ratio.__lt__" s_Ratio___lt__ d.Ratio___lt__ fd
  F_Ratio___le__ : ∃ fd, Fun K "__le__" "Ratio.__le__" s_Ratio___le__ d.Ratio___le__ fd
  F_Ratio___gt__ : ∃ fd, Fun K "__gt__" "Ratio.__gt__" s_Ratio___gt__ d.Ratio___gt__ fd
  F_Ratio___ge__ : ∃ fd, Fun K "__ge__" "Ratio.__ge__" s_Ratio___ge__ d.Ratio___ge__ fd
  F_Ratio___eq__ : ∃ fd, Fun K "__eq__" "Ratio.__eq__" s_Ratio___eq__ d.Ratio___eq__ fd
  F_Ratio_floor : ∃ fd, Fun K "floor" "Ratio.floor" s_Ratio_floor d.Ratio_floor fd
  F_Ratio_ceiling : ∃ fd, Fun K "ceiling" "Ratio.ceiling" s_Ratio_ceiling d.Ratio_ceiling fd
  F_is_number : ∃ fd, Fun K "is_number" "is_number" s_is_number d.is_number fd
  F_fraction_of : ∃ fd, Fun K "fraction_of" "fraction_of" s_fraction_of d.fraction_of fd
  k_is_number : PySem.W.keepIn K (.ref d.is_number) = true
  m_is_number : mg "is_number" = some (.ref d.is_number)
  F_Rounding_drawn_at : ∃ fd, Fun K "drawn_at" "Rounding.drawn_at" s_Rounding_drawn_at d.Rounding_drawn_at fd
  h_Ratio_floor : Meth K d.Ratio "floor" d.Ratio_floor
  h_Ratio_ceiling : Meth K d.Ratio "ceiling" d.Ratio_ceiling
  c_Rounding : Cls K d.Rounding
  a_Rounding_threshold : NoAttr K d.Rounding "threshold"
  b_Ratio_sub : BinM K d.Ratio .Sub d.Ratio___sub__
  a_Rounding_is_from : NoAttr K d.Rounding "is_from"
  F_Rounding___call__ : ∃ fd, Fun K "__call__" "Rounding.__call__" s_Rounding___call__ d.Rounding___call__ fd
  h_Rounding_drawn_at : Meth K d.Rounding "drawn_at" d.Rounding_drawn_at
  k_fraction_of : PySem.W.keepIn K (.ref d.fraction_of) = true
  m_fraction_of : mg "fraction_of" = some (.ref d.fraction_of)
  F_Rounding_before : ∃ fd, Fun K "before" "Rounding.before" s_Rounding_before d.Rounding_before fd
  F_Rounding_behind : ∃ fd, Fun K "behind" "Rounding.behind" s_Rounding_behind d.Rounding_behind fd
  F_Rounding_is_step : ∃ fd, Fun K "is_step" "Rounding.is_step" s_Rounding_is_step d.Rounding_is_step fd
  D_Rounding___init__ : ∃ fd, FunD K "__init__" "Rounding.__init__" (defArgs s_Rounding___init__) (defBody s_Rounding___init__) (defScope s_Rounding___init__) [.bl true] [] d.Rounding___init__ fd
  q_Ratio_lt : CmpM K d.Ratio .Lt d.Ratio___lt__
  q_Ratio_gt : CmpM K d.Ratio .Gt d.Ratio___gt__
  i_bool_is_bool : PySem.W.kitOne K (.type "bool") (.type "bool") = some true
  q_Ratio_eq : CmpM K d.Ratio .Eq d.Ratio___eq__
  F_Ratio___neg__ : ∃ fd, Fun K "__neg__" "Ratio.__neg__" s_Ratio___neg__ d.Ratio___neg__ fd
  F_Ratio___rsub__ : ∃ fd, Fun K "__rsub__" "Ratio.__rsub__" s_Ratio___rsub__ d.Ratio___rsub__ fd
  F_Rounding___eq__ : ∃ fd, Fun K "__eq__" "Rounding.__eq__" s_Rounding___eq__ d.Rounding___eq__ fd
  m_Rounding : mg "Rounding" = some (.ref d.Rounding)
  y_Rounding : TyC K d.Rounding
  i_Rounding_is_Rounding : PySem.W.kitOne K (.ref d.Rounding) (.ref d.Rounding) = some true
  F_Rounding___invert__ : ∃ fd, Fun K "__invert__" "Rounding.__invert__" s_Rounding___invert__ d.Rounding___invert__ fd
  mk_Rounding : Mk K d.Rounding d.Rounding___init__
  v_Ratio_sub : ReflM K d.Ratio "__sub__" "__rsub__" d.Ratio___sub__ d.Ratio___rsub__
  F_Ratio___str__ : ∃ fd, Fun K "__str__" "Ratio.__str__" s_Ratio___str__ d.Ratio___str__ fd
  n_str : mg "str" = none
  F_Rounding___str__ : ∃ fd, Fun K "__str__" "Rounding.__str__" s_Rounding___str__ d.Rounding___str__ fd
  t_Ratio : StrM K d.Ratio d.Ratio___str__
  F_Rounding_all_down : ∃ fd, Fun K "all_down" "Rounding.all_down" s_Rounding_all_down d.Rounding_all_down fd
  F_Rounding_all_up : ∃ fd, Fun K "all_up" "Rounding.all_up" s_Rounding_all_up d.Rounding_all_up fd
  F_Rounding_half_up : ∃ fd, Fun K "half_up" "Rounding.half_up" s_Rounding_half_up d.Rounding_half_up fd
  F__law_frac : ∃ fd, Fun K "_law_frac" "_law_frac" s__law_frac d._law_frac fd
  F__law_kind : ∃ fd, Fun K "_law_kind" "_law_kind" s__law_kind d._law_kind fd
  k__law_pick : PySem.W.keepIn K (.ref d._law_pick) = true
  m__law_pick : mg "_law_pick" = some (.ref d._law_pick)
  F__law_number : ∃ fd, Fun K "_law_number" "_law_number" s__law_number d._law_number fd
  k__law_frac : PySem.W.keepIn K (.ref d._law_frac) = true
  m__law_frac : mg "_law_frac" = some (.ref d._law_frac)
  F__law_rounding : ∃ fd, Fun K "_law_rounding" "_law_rounding" s__law_rounding d._law_rounding fd
  D__law_plus : ∃ fd, FunD K "_law_plus" "_law_plus" (defArgs s__law_plus) (defBody s__law_plus) (defScope s__law_plus) [.int 1] [] d._law_plus fd
  F__law_ratio : ∃ fd, Fun K "_law_ratio" "_law_ratio" s__law_ratio d._law_ratio fd
  F__law_round : ∃ fd, Fun K "_law_round" "_law_round" s__law_round d._law_round fd
  F__law_beside : ∃ fd, Fun K "_law_beside" "_law_beside" s__law_beside d._law_beside fd
  k__law_round : PySem.W.keepIn K (.ref d._law_round) = true
  m__law_round : mg "_law_round" = some (.ref d._law_round)
  k__law_plus : PySem.W.keepIn K (.ref d._law_plus) = true
  m__law_plus : mg "_law_plus" = some (.ref d._law_plus)
  F__law_near : ∃ fd, Fun K "_law_near" "_law_near" s__law_near d._law_near fd
  k__law_number : PySem.W.keepIn K (.ref d._law_number) = true
  m__law_number : mg "_law_number" = some (.ref d._law_number)
  F__law_right : ∃ fd, Fun K "_law_right" "_law_right" s__law_right d._law_right fd
  k__law_near : PySem.W.keepIn K (.ref d._law_near) = true
  m__law_near : mg "_law_near" = some (.ref d._law_near)
  k__law_rounding : PySem.W.keepIn K (.ref d._law_rounding) = true
  m__law_rounding : mg "_law_rounding" = some (.ref d._law_rounding)
  k__law_ratio : PySem.W.keepIn K (.ref d._law_ratio) = true
  m__law_ratio : mg "_law_ratio" = some (.ref d._law_ratio)
  k__law_beside : PySem.W.keepIn K (.ref d._law_beside) = true
  m__law_beside : mg "_law_beside" = some (.ref d._law_beside)
  o_Rounding : StX.CallO K d.Rounding d.Rounding___call__
  h_Rounding_before : Meth K d.Rounding "before" d.Rounding_before
  h_Rounding_behind : Meth K d.Rounding "behind" d.Rounding_behind
  n_repr : mg "repr" = none
  h_Rounding_is_step : Meth K d.Rounding "is_step" d.Rounding_is_step
  F_Rounding_half_down : ∃ fd, Fun K "half_down" "Rounding.half_down" s_Rounding_half_down d.Rounding_half_down fd
  F_law : ∃ fd, Fun K "law" "law" s_law d.law fd
  k__law_pen : PySem.W.keepIn K (.ref d._law_pen) = true
  m__law_pen : mg "_law_pen" = some (.ref d._law_pen)
  n_range : mg "range" = none
  k__law_kind : PySem.W.keepIn K (.ref d._law_kind) = true
  m__law_kind : mg "_law_kind" = some (.ref d._law_kind)
  q_Rounding_eq : CmpM K d.Rounding .Eq d.Rounding___eq__
  k__law_right : PySem.W.keepIn K (.ref d._law_right) = true
  m__law_right : mg "_law_right" = some (.ref d._law_right)
  s_Rounding_all_down : SMet K d.Rounding "all_down" d.Rounding_all_down
  s_Rounding_all_up : SMet K d.Rounding "all_up" d.Rounding_all_up
  s_Rounding_half_up : SMet K d.Rounding "half_up" d.Rounding_half_up
  s_Rounding_half_down : SMet K d.Rounding "half_down" d.Rounding_half_down
  z_Ratio : NeM K d.Ratio d.Ratio___eq__
  z_Rounding : NeM K d.Rounding d.Rounding___eq__
  w_Rounding_tuple : PySem.W.notFirst K d.Rounding (.type "tuple") = true
  i_tuple_is_Rounding : PySem.W.kitOne K (.type "tuple") (.ref d.Rounding) = some false
  t_Rounding : StrM K d.Rounding d.Rounding___str__
  w_Rounding_str : PySem.W.notFirst K d.Rounding (.type "str") = true
  i_str_is_Rounding : PySem.W.kitOne K (.type "str") (.ref d.Rounding) = some false
  m_law : mg "law" = some (.ref d.law)
end AZ
namespace AZ
open PySem L2
/-- a pen: its list at l, the spot at most n -/
def PenAt (H : Hp) (p : Addr) (n : Nat) : Prop := ∃ (l : Addr) (ns : List Int) (spot great : Int), l ≠ p ∧ H p = some (.lst [.ref l, .int spot, .int great]) ∧ H l = some (.lst (ns.map V.int)) ∧ ns.length ≤ 63 ∧ 0 ≤ spot ∧ spot ≤ n
def spPen (K : PySem.W.Frag) : Sp := fun vs H Q _ => ∃ (a : Addr) (ns : List Int), vs = [.ref a] ∧ SqL K H a (ns.map V.int) ∧ ns.length ≤ 63 ∧ ∀ p H', H p = none → Same H H' → PenAt H' p 0 → Q (.ref p) H'
def spDraw : Sp := fun vs H Q _ => ∃ (p : Addr) (n : Nat) (many : Int), vs = [.ref p, .int many] ∧ PenAt H p n ∧ n < 100000 ∧ 0 < many ∧ many ≤ 1000 ∧
  ∀ d H', 0 ≤ d → d < many → PenAt H' p (n + 1) → Up p H H' → Q (.int d) H'
/-- a list beside the pen, or a tuple, at s -/
def SeqAt' (H : Hp) (p s : Addr) (xs : List V) : Prop := (H s = some (.lst xs) ∧ s ≠ p) ∨ H s = some (.tup xs)
theorem SeqAt'.up {H H' : Hp} {p s : Addr} {xs : List V} (h : SeqAt' H p s xs) (e : Up p H H') : SeqAt' H' p s xs := h.elim (fun h => Or.inl ⟨e.lst h.1 h.2, h.2⟩) fun h => Or.inr (e.tup h)
def spPick : Sp := fun vs H Q _ => ∃ (p s : Addr) (n : Nat) (xs : List V), vs = [.ref p, .ref s] ∧ PenAt H p n ∧ n < 100000 ∧ SeqAt' H p s xs ∧ 0 < xs.length ∧ xs.length ≤ 1000 ∧
  ∀ x H', x ∈ xs → PenAt H' p (n + 1) → Up p H H' → Q x H'
section
variable {P : Program} {w : World} {K : PySem.W.Frag} {mg : Str → Option Value} {base : Heap} {d : Ad}
theorem G__law_pen (T : Tx K mg d) : FnR P w K mg base CX0 1 d._law_pen (spPen K) := by
  obtain ⟨fd, F⟩ := T.F__law_pen
  refine FnR.imp (FnOk.raw (F.ok sc__law_pen (sp := spPen K) (fun vs H Q E h => ?_) (fun cdv A outer s H vs Q E hr h => ?_)) (F.binds fun _ _ _ _ _ _ us hl => match us, hl with | [_], _ => rfl) .nil) fun vs H Q E h => by rw [List.append_nil]; exact h
  · obtain ⟨a, ns, rfl, _⟩ := h
    rfl
  · obtain ⟨a, ns, rfl, hS, hlen, k⟩ := h
    -- slots: 0 _law_script
    refine ⟨_, (pss_one (ps_ret (pe_lst (pa_cons (pe_callTy call_list_of (by rfl) T.n_list (by decide +kernel) (pa_cons (pe_slice sl_list (pv 0) po_none (po_some pe_int)) pa_nil)) (pa_cons pe_int (pa_cons pe_int pa_nil)))))), ?_⟩
    refine ⟨_, rfl, _, rfl, a, _, rfl, hS, fun q hq => ⟨_, _, rfl, .inl (SqL.of upd_same), fun l hl => ⟨(by show 3 ≤ sizeLine; decide), fun p hp => ?_⟩⟩⟩
    have h1 : Same H (upd H q (.lst (cutV (ns.map V.int) none (some 63)))) := fun b o e => by rw [upd_ne (ne_of_none e hq)]; exact e
    have h2 : Same H (upd (upd H q (.lst (cutV (ns.map V.int) none (some 63)))) l (.lst (cutV (ns.map V.int) none (some 63)))) := h1.trans fun b o e => by rw [upd_ne (ne_of_none e hl)]; exact e
    have hlp : l ≠ p := ne_of_none upd_same hp
    refine k p _ ((h2).free hp) (h2.trans fun b o e => by rw [upd_ne (ne_of_none e hp)]; exact e) ⟨l, (ns.drop (HT.sIx ns.length 0 none)).take (HT.sIx ns.length ns.length (some 63) - HT.sIx ns.length 0 none), 0, 0, hlp, upd_same, ?_, ?_, Int.le_refl _, Int.le_refl _⟩
    · rw [upd_ne hlp, upd_same]
      unfold cutV
      rw [List.map_take, List.map_drop, List.length_map]
    · rw [List.length_take, List.length_drop]
      omega
theorem pen_ix0 {K : PySem.W.Frag} {H : Hp} {p : Addr} {a b c : V} (h : H p = some (.lst [a, b, c])) : SqL K H p [a, b, c] := SqL.of h
theorem G__law_draw (T : Tx K mg d) : FnR P w K mg base CX0 1 d._law_draw spDraw := by
  obtain ⟨fd, F⟩ := T.F__law_draw
  refine FnR.imp (FnOk.raw (F.ok sc__law_draw (sp := spDraw) (fun vs H Q E h => ?_) (fun cdv A outer s H vs Q E hr h => ?_)) (F.binds fun _ _ _ _ _ _ us hl => match us, hl with | [_, _], _ => rfl) .nil) fun vs H Q E h => by rw [List.append_nil]; exact h
  · obtain ⟨p, n, many, rfl, _⟩ := h
    rfl
  · obtain ⟨p, n, many, rfl, ⟨l, ns, spot, great, hlp, hp, hl, hlen, hs0, hsn⟩, hn, hm0, hm1, k⟩ := h
    -- slots: 0 _law_pen_here, 1 _law_many, 2 _law_digit, 3 _law_lap, 4 _law_cell, 5 _law_great, 6 _law_stir
    refine ⟨_, (pss_cons (ps_if (pt_cmpR uGt (pe_ix ix_seq (pv 0) pe_int (fun _ _ => rfl)) pe_int (nomark _)) (pss_cons (ps_set (i := 2) sc__law_draw.nd rfl (Or.inl rfl) (pe_op uMod (pe_callTy call_int1 (by rfl) T.n_int (by decide +kernel) (pa_cons (pe_ix ix_seq (pv 0) pe_int (fun _ _ => rfl)) pa_nil)) (pv 1)))
      (pss_cons (ps_asg (pe_op uDiv (pe_callTy call_int1 (by rfl) T.n_int (by decide +kernel) (pa_cons (pe_ix ix_seq (pv 0) pe_int (fun _ _ => rfl)) pa_nil)) (pv 1)) (pg_sub (pv 0) pe_int set_list))
      (pss_one (ps_ret (pv 2))))) pss_nil)
      (pss_cons (ps_set (i := 3) sc__law_draw.nd rfl (Or.inl rfl) (pe_ix ix_seq (pv 0) pe_int (fun _ _ => rfl)))
      (pss_cons (ps_asg (pe_op uAdd (pv 3) pe_int) (pg_sub (pv 0) pe_int set_list))
      (pss_cons (ps_set (i := 4) sc__law_draw.nd rfl (Or.inl rfl) (pe_op uAdd (pe_op uMul pe_int (pv 3)) pe_int))
      (pss_cons (ps_if (pt_cmpR (uNe hr.units) (pe_ix ix_seq (pv 0) pe_int (fun _ _ => rfl)) (pe_lst pa_nil) (nomark _)) (pss_one (ps_set (i := 4) sc__law_draw.nd rfl (Or.inl rfl) (pe_ix ix_seq (pe_ix ix_seq (pv 0) pe_int (fun _ _ => rfl)) (pe_op uMod (pe_callTy call_int1 (by rfl) T.n_int (by decide +kernel) (pa_cons (pv 3) pa_nil)) (pe_callB call_len_seq (by rfl) T.n_len (by decide +kernel) (pa_cons (pe_ix ix_seq (pv 0) pe_int (fun _ _ => rfl)) pa_nil))) (fun _ _ => rfl)))) pss_nil)
      (pss_cons (ps_if (PW.pt (pw_and (pt_cmpR uLt (pv 3) (pe_callB call_len_seq (by rfl) T.n_len (by decide +kernel) (pa_cons (pe_ix ix_seq (pv 0) pe_int (fun _ _ => rfl)) pa_nil)) (nomark _)) (pw_and1 (pt_cmpR uGe (pe_callB call_abs (by rfl) T.n_abs (by decide +kernel) (pa_cons (pv 4) pa_nil)) (pe_op op_pow pe_int pe_int) (nomark _))))) (pss_cons (ps_set (i := 5) sc__law_draw.nd rfl (Or.inl rfl) (pe_op uAdd (pe_op uMul pe_int (pe_op uSub (pe_callB call_abs (by rfl) T.n_abs (by decide +kernel) (pa_cons (pv 4) pa_nil)) (pe_op op_pow pe_int pe_int))) (pe_callTy call_int1 (by rfl) T.n_int (by decide +kernel) (pa_cons (pe_cmpR uLt (pv 4) pe_int (nomark _)) pa_nil))))
      (pss_cons (ps_asg (pe_op uDiv (pe_callTy call_int1 (by rfl) T.n_int (by decide +kernel) (pa_cons (pv 5) pa_nil)) (pv 1)) (pg_sub (pv 0) pe_int set_list))
      (pss_one (ps_ret (pe_op uMod (pe_callTy call_int1 (by rfl) T.n_int (by decide +kernel) (pa_cons (pv 5) pa_nil)) (pv 1)))))) pss_nil)
      (pss_cons (ps_set (i := 6) sc__law_draw.nd rfl (Or.inl rfl) (pe_op uMod (pe_callTy call_int1 (by rfl) T.n_int (by decide +kernel) (pa_cons (pe_op op_pow (pe_op uAdd (pe_op uAdd (pe_op uMod (pe_callTy call_int1 (by rfl) T.n_int (by decide +kernel) (pa_cons (pv 4) pa_nil)) pe_int) (pe_op uMul pe_int (pv 3))) pe_int) pe_int) pa_nil)) pe_int))
      (pss_cons (ps_set (i := 6) sc__law_draw.nd rfl (Or.inl rfl) (pe_op uMod (pe_callTy call_int1 (by rfl) T.n_int (by decide +kernel) (pa_cons (pe_op op_pow (pe_op uAdd (pe_op uAdd (pe_op uMul (pv 6) (pe_op uAdd (pe_op uMul pe_int (pv 3)) pe_int)) (pe_op uMul (pe_op uMul pe_int (pv 3)) (pv 3))) pe_int) pe_int) pa_nil)) pe_int))
      (pss_one (ps_ret (pe_op uMod (pe_callTy call_int1 (by rfl) T.n_int (by decide +kernel) (pa_cons (pe_op uDiv (pv 6) pe_int) pa_nil)) (pv 1)))))))))))), ?_⟩
    refine ⟨_, rfl, Or.inl ⟨p, _, 2, _, rfl, rfl, SqL.of hp, at_of (j := 2) rfl rfl, Or.inl ⟨_, _, rfl, rfl, _, rfl, ite2 (fun hg => ?_) (fun hg => ?_)⟩⟩⟩
    · refine ⟨_, rfl, Or.inl ⟨p, _, 2, _, rfl, rfl, SqL.of hp, at_of (j := 2) rfl rfl, Or.inl ⟨_, rfl, _, rfl, Or.inl ⟨_, _, rfl, rfl, by omega, ?_⟩⟩⟩⟩
      refine ⟨_, rfl, Or.inl ⟨p, _, 2, _, rfl, rfl, SqL.of hp, at_of (j := 2) rfl rfl, Or.inl ⟨_, rfl, _, rfl, Or.inl ⟨_, _, rfl, rfl, small_div hm0 (by omega), ?_⟩⟩⟩⟩
      refine ⟨_, rfl, p, _, _, 2, rfl, rfl, hp, rfl, ?_⟩
      refine ⟨_, rfl, ?_⟩
      exact k _ _ (fm0 hm0).1 (fm0 hm0).2 ⟨l, ns, spot, great.fdiv many, hlp, upd_same, by rw [upd_ne hlp]; exact hl, hlen, hs0, by omega⟩ (Up.put hp)
    · refine ⟨_, rfl, Or.inl ⟨p, _, 1, _, rfl, rfl, SqL.of hp, at_of (j := 1) rfl rfl, ?_⟩⟩
      refine ⟨_, rfl, Or.inl ⟨_, _, rfl, rfl, ?_⟩⟩
      refine ⟨_, rfl, p, _, _, 1, rfl, rfl, hp, rfl, ?_⟩
      refine ⟨_, rfl, Or.inl ⟨_, _, rfl, rfl, mulL (by decide), Or.inl ⟨_, _, rfl, rfl, ?_⟩⟩⟩
      have hl1 : upd H p (.lst [.ref l, .int (spot + 1), .int great]) l = some (.lst (ns.map V.int)) := by rw [upd_ne hlp]; exact hl
      have hp1 : upd H p (.lst [.ref l, .int (spot + 1), .int great]) p = some (.lst [.ref l, .int (spot + 1), .int great]) := upd_same
      refine ⟨_, rfl, Or.inl ⟨p, _, 0, _, rfl, rfl, SqL.of hp1, at_of (j := 0) rfl rfl, (by show 0 ≤ sizeLine; decide), fun e he => ?_⟩⟩
      have hpe : p ≠ e := ne_of_none hp1 he
      have hle : l ≠ e := ne_of_none hl1 he
      have hl2 : upd (upd H p (.lst [.ref l, .int (spot + 1), .int great])) e (.lst []) l = some (.lst (ns.map V.int)) := by rw [upd_ne hle]; exact hl1
      have hp2 : upd (upd H p (.lst [.ref l, .int (spot + 1), .int great])) e (.lst []) p = some (.lst [.ref l, .int (spot + 1), .int great]) := by rw [upd_ne hpe]; exact hp1
      refine Or.inr ⟨.list (ns.map PyData.int), .list [], .lst (SqL.of hl2) (dp_ints ns), .lst (SqL.of upd_same) .nil, shaped_ints ns, shaped_ints [], _, rfl, ite2 (fun hc => ?A) (fun hc => ?B)⟩
      case' A =>
        have hne : 0 < ns.length := by
          rw [eqv_nil] at hc
          cases ns with
          | nil => simp at hc
          | cons a r => simp
        obtain ⟨hj0, hj1⟩ := fm0 (a := spot) (b := (ns.length : Int)) (by omega)
        obtain ⟨j, hj⟩ : ∃ j : Nat, spot.fmod ns.length = (j : Int) := ⟨(spot.fmod ns.length).toNat, by omega⟩
        obtain ⟨c, hcj⟩ : ∃ c, ns[j]? = some c := ⟨ns[j]'(by omega), List.getElem?_eq_getElem _⟩
        refine ⟨_, rfl, Or.inl ⟨p, _, 0, _, rfl, rfl, SqL.of hp2, at_of (j := 0) rfl rfl, ?_⟩⟩
        refine ⟨_, rfl, Or.inl ⟨_, rfl, _, rfl, Or.inl ⟨p, _, 0, _, rfl, rfl, SqL.of hp2, at_of (j := 0) rfl rfl, ⟨_, _, rfl, Or.inl (SqL.of hl2), Or.inl ⟨_, _, rfl, rfl, (by rw [List.length_map]; omega), ?_⟩⟩⟩⟩⟩
        refine Or.inl ⟨l, _, _, .int c, rfl, rfl, SqL.of hl2, at_of (j := j) (by rw [List.length_map]; exact hj) (by rw [List.getElem?_map, hcj]; rfl), ?_⟩
      case' B => generalize 61001 * spot + 2003 = c
      all_goals
        have up1 : Up p H (upd (upd H p (.lst [.ref l, .int (spot + 1), .int great])) e (.lst [])) := (Up.put hp).new' he
        refine ⟨_, rfl, _, rfl, Or.inl ⟨p, _, 0, _, rfl, rfl, SqL.of hp2, at_of (j := 0) rfl rfl, ⟨_, _, rfl, Or.inl (SqL.of hl2), Or.inl ⟨_, _, rfl, rfl, _, rfl, ite2 (fun h1 => ?_) (fun h1 => ?_)⟩⟩⟩⟩
        · refine ⟨_, rfl, ⟨_, rfl, ⟨_, _, rfl, rfl, ⟨by decide, by decide, by decide⟩, Or.inl ⟨_, _, rfl, rfl, _, rfl, ite2 (fun h2 => ?_) (fun h2 => ?_)⟩⟩⟩⟩
          · refine ⟨_, rfl, ⟨_, rfl, ⟨_, _, rfl, rfl, ⟨by decide, by decide, by decide⟩, Or.inl ⟨_, _, rfl, rfl, Or.inl ⟨_, _, rfl, rfl, mulL (by decide), ⟨_, rfl, Or.inl ⟨_, _, rfl, rfl, Or.inr ⟨_, rfl, Or.inl ⟨_, _, rfl, rfl, ?_⟩⟩⟩⟩⟩⟩⟩⟩⟩
            refine ⟨_, rfl, Or.inl ⟨_, rfl, _, rfl, Or.inl ⟨_, _, rfl, rfl, small_div hm0 (by omega), ?_⟩⟩⟩
            refine ⟨_, rfl, p, _, _, 2, rfl, rfl, hp2, rfl, ?_⟩
            refine ⟨_, rfl, Or.inl ⟨_, rfl, _, rfl, Or.inl ⟨_, _, rfl, rfl, by omega, ?_⟩⟩⟩
            exact k _ _ (fm0 hm0).1 (fm0 hm0).2 ⟨l, ns, spot + 1, _, hlp, upd_same, by rw [upd_ne hlp]; exact hl2, hlen, by omega, by omega⟩ (up1.trans (Up.put hp2))
          · refine ⟨_, rfl, Or.inl ⟨_, rfl, Or.inl ⟨_, _, rfl, rfl, nz (by decide), ⟨_, rfl, Or.inl ⟨_, _, rfl, rfl, mulL (by decide), Or.inl ⟨_, _, rfl, rfl, Or.inl ⟨_, _, rfl, rfl, ⟨_, _, rfl, rfl, ⟨by decide, by decide, stir1 (by decide) (by decide) (by decide) (by decide) (by decide) (by decide) hs0 (by omega)⟩, Or.inl ⟨_, rfl, Or.inl ⟨_, _, rfl, rfl, nz (by decide), ?_⟩⟩⟩⟩⟩⟩⟩⟩⟩⟩
            refine ⟨_, rfl, ⟨_, rfl, Or.inl ⟨_, _, rfl, rfl, mulL (by decide), Or.inl ⟨_, _, rfl, rfl, Or.inl ⟨_, _, rfl, rfl, stir3 (by decide) (by decide) _, ⟨_, rfl, Or.inl ⟨_, _, rfl, rfl, mulL (by decide), ⟨_, rfl, Or.inl ⟨_, _, rfl, rfl, stir4 (by decide) (by decide) hs0 (by omega) _, Or.inl ⟨_, _, rfl, rfl, Or.inl ⟨_, _, rfl, rfl, ⟨_, _, rfl, rfl, ⟨by decide, by decide, stir2 (by decide) (by decide) (by decide) (by decide) (by decide) (by decide) (by decide) (by decide) hs0 (by omega)⟩, Or.inl ⟨_, rfl, Or.inl ⟨_, _, rfl, rfl, nz (by decide), ?_⟩⟩⟩⟩⟩⟩⟩⟩⟩⟩⟩⟩⟩⟩
            refine ⟨_, rfl, Or.inl ⟨_, _, rfl, rfl, small_div (by decide) (by decide), Or.inl ⟨_, rfl, ⟨_, rfl, Or.inl ⟨_, _, rfl, rfl, by omega, ?_⟩⟩⟩⟩⟩
            exact k _ _ (fm0 hm0).1 (fm0 hm0).2 ⟨l, ns, spot + 1, great, hlp, hp2, hl2, hlen, by omega, by omega⟩ up1
        · refine ⟨_, rfl, Or.inl ⟨_, rfl, Or.inl ⟨_, _, rfl, rfl, nz (by decide), ⟨_, rfl, Or.inl ⟨_, _, rfl, rfl, mulL (by decide), Or.inl ⟨_, _, rfl, rfl, Or.inl ⟨_, _, rfl, rfl, ⟨_, _, rfl, rfl, ⟨by decide, by decide, stir1 (by decide) (by decide) (by decide) (by decide) (by decide) (by decide) hs0 (by omega)⟩, Or.inl ⟨_, rfl, Or.inl ⟨_, _, rfl, rfl, nz (by decide), ?_⟩⟩⟩⟩⟩⟩⟩⟩⟩⟩
          refine ⟨_, rfl, ⟨_, rfl, Or.inl ⟨_, _, rfl, rfl, mulL (by decide), Or.inl ⟨_, _, rfl, rfl, Or.inl ⟨_, _, rfl, rfl, stir3 (by decide) (by decide) _, ⟨_, rfl, Or.inl ⟨_, _, rfl, rfl, mulL (by decide), ⟨_, rfl, Or.inl ⟨_, _, rfl, rfl, stir4 (by decide) (by decide) hs0 (by omega) _, Or.inl ⟨_, _, rfl, rfl, Or.inl ⟨_, _, rfl, rfl, ⟨_, _, rfl, rfl, ⟨by decide, by decide, stir2 (by decide) (by decide) (by decide) (by decide) (by decide) (by decide) (by decide) (by decide) hs0 (by omega)⟩, Or.inl ⟨_, rfl, Or.inl ⟨_, _, rfl, rfl, nz (by decide), ?_⟩⟩⟩⟩⟩⟩⟩⟩⟩⟩⟩⟩⟩⟩
          refine ⟨_, rfl, Or.inl ⟨_, _, rfl, rfl, small_div (by decide) (by decide), Or.inl ⟨_, rfl, ⟨_, rfl, Or.inl ⟨_, _, rfl, rfl, by omega, ?_⟩⟩⟩⟩⟩
          exact k _ _ (fm0 hm0).1 (fm0 hm0).2 ⟨l, ns, spot + 1, great, hlp, hp2, hl2, hlen, by omega, by omega⟩ up1
theorem G__law_pick (T : Tx K mg d) : FnR P w K mg base CX0 2 d._law_pick spPick := by
  obtain ⟨fd, F⟩ := T.F__law_pick
  have G__law_draw : FnR P w K mg base CX0 1 d._law_draw spDraw := G__law_draw T
  refine FnR.imp (FnOk.raw (F.ok sc__law_pick (sp := spPick) (fun vs H Q E h => ?_) (fun cdv A outer s H vs Q E hr h => ?_)) (F.binds fun _ _ _ _ _ _ us hl => match us, hl with | [_, _], _ => rfl) .nil) fun vs H Q E h => by rw [List.append_nil]; exact h
  · obtain ⟨p, s, n, xs, rfl, _⟩ := h
    rfl
  · obtain ⟨p, a, n, xs, rfl, hp, hn, hs, hx0, hx1, k⟩ := h
    -- slots: 0 _law_pen_here, 1 _law_some
    refine ⟨_, (pss_one (ps_ret (pe_ix ix_seq (pv 1) (pe_fnR G__law_draw (hr.mono (by decide)) T.k__law_draw T.m__law_draw pass0 (pa_cons (pv 0) (pa_cons (pe_callB call_len_seq (by rfl) T.n_len (by decide +kernel) (pa_cons (pv 1) pa_nil)) pa_nil))) (fun _ _ => rfl)))), ?_⟩
    refine ⟨_, rfl, _, rfl, _, rfl, ⟨_, xs, rfl, hs.elim (fun h => Or.inl (SqL.of h.1)) (fun h => Or.inr (SqT.of h)), ⟨p, n, _, rfl, hp, hn, by omega, by omega, fun e H' h0 h1 hp' up => ?_⟩⟩⟩
    obtain ⟨j, rfl⟩ : ∃ j : Nat, e = (j : Int) := ⟨e.toNat, by omega⟩
    have hj : j < xs.length := by omega
    have q := k xs[j] H' (List.getElem_mem hj) hp' up
    rcases hs.up up with h | h
    · exact Or.inl ⟨a, xs, _, _, rfl, rfl, SqL.of h.1, atI_nat (List.getElem?_eq_getElem hj), q⟩
    · exact Or.inr (Or.inl ⟨a, xs, _, _, rfl, rfl, SqT.of h, atI_nat (List.getElem?_eq_getElem hj), q⟩)
end

end AZ
namespace AZ
open PySem L2
/-! ## fractions as objects -/
abbrev ratF (q : Rat) : List (Str × V) := [("over", .int q.num), ("under", .int (q.den : Int))]
def IsRat (C : Addr) (H : Hp) (a : Addr) (q : Rat) : Prop := ∃ dx, H a = some (.ins C dx (ratF q))
theorem IsRat.up {C p a : Addr} {H H' : Hp} {q : Rat} (h : IsRat C H a q) (e : Up p H H') : IsRat C H' a q := let ⟨dx, x⟩ := h; ⟨dx, e.ins x⟩
theorem IsRat.same {C a : Addr} {H H' : Hp} {q : Rat} (h : IsRat C H a q) (e : Same H H') : IsRat C H' a q := let ⟨dx, x⟩ := h; ⟨dx, e _ _ x⟩
/-- an int or a fraction -/
def Num (C : Addr) (H : Hp) (v : V) (q : Rat) : Prop := (∃ i : Int, v = .int i ∧ q = (i : Rat)) ∨ ∃ a, v = .ref a ∧ IsRat C H a q
theorem Num.up {C p : Addr} {H H' : Hp} {v : V} {q : Rat} (h : Num C H v q) (e : Up p H H') : Num C H' v q := h.elim Or.inl fun ⟨a, x, y⟩ => Or.inr ⟨a, x, y.up e⟩
theorem Num.same {C : Addr} {H H' : Hp} {v : V} {q : Rat} (h : Num C H v q) (e : Same H H') : Num C H' v q := h.elim Or.inl fun ⟨a, x, y⟩ => Or.inr ⟨a, x, y.same e⟩
theorem Num.right {C : Addr} {H : Hp} {v : V} {q : Rat} (h : Num C H v q) : RightI C H v := by
  rcases h with ⟨i, rfl, _⟩ | ⟨a, rfl, dx, x⟩
  · exact Or.inl ⟨i, rfl⟩
  · exact Or.inr ⟨a, dx, _, rfl, x⟩
/-- whether x is an integer, by its type -/
def IsI (K : PySem.W.Frag) (H : Hp) (x : V) (b : Bool) : Prop := ∃ (t : Value) (b1 b2 : Bool), TyX K H x t ∧ PySem.W.kitOne K t (.type "int") = some b1 ∧ PySem.W.kitOne K t (.type "bool") = some b2 ∧ (b1 && !b2) = b
def spIsInt (K : PySem.W.Frag) : Sp := fun vs H Q _ => ∃ x b, vs = [x] ∧ IsI K H x b ∧ Q (.bl b) H
def spIsNum (K : PySem.W.Frag) (C : Addr) : Sp := fun vs H Q _ => ∃ x q, vs = [x] ∧ Num C H x q ∧ Q (.bl true) H
def spInit (C : Addr) : Sp := fun vs H Q _ => ∃ (p dx : Addr) (a b : Int), vs = [.ref p, .int a, .int b] ∧ H p = some (.ins C dx []) ∧ b ≠ 0 ∧ b.natAbs < 2 ^ 8000 ∧
  ∀ H', (∀ x o, H x = some o → x ≠ p → H' x = some o) → IsRat C H' p (Rat.divInt a b) → Q .non H'
theorem made {C x dx : Addr} {a b : Int} {H : Hp} {Q : VK} {E : XK} (nx : H x = none) (nd : H dx = none) (hb : b ≠ 0) (hs : b.natAbs < 2 ^ 8000) (k : ∀ H', Same H H' → IsRat C H' x (Rat.divInt a b) → Q (.ref x) H') :
    spInit C [.ref x, .int a, .int b] (upd (upd H dx (.own x)) x (.ins C dx [])) (fun v H2 => v = .non ∧ Q (.ref x) H2) E :=
  ⟨x, dx, a, b, rfl, upd_same, hb, hs, fun H' kp r => ⟨rfl, k H' (Same.made nx nd kp) r⟩⟩
theorem made' {C x dx : Addr} {a b : Int} {H : Hp} {W : VK} {E : XK} (nx : H x = none) (nd : H dx = none) (hb : b ≠ 0) (hs : b.natAbs < 2 ^ 8000) (k : ∀ H', Same H H' → IsRat C H' x (Rat.divInt a b) → W .non H') :
    spInit C [.ref x, .int a, .int b] (upd (upd H dx (.own x)) x (.ins C dx [])) W E :=
  ⟨x, dx, a, b, rfl, upd_same, hb, hs, fun H' kp r => k H' (Same.made nx nd kp) r⟩
def spOf (C : Addr) : Sp := fun vs H Q _ => ∃ v q, vs = [v] ∧ Num C H v q ∧ ∀ p H', Same H H' → IsRat C H' p q → Q (.ref p) H'
def spBin (C : Addr) (f : Rat → Rat → Rat) : Sp := fun vs H Q _ => ∃ a v x y, vs = [.ref a, v] ∧ IsRat C H a x ∧ Num C H v y ∧ Sz 2000 x ∧ Sz 2000 y ∧ ∀ p H', Same H H' → IsRat C H' p (f x y) → Q (.ref p) H'
def spCmp (C : Addr) (f : Rat → Rat → Bool) : Sp := fun vs H Q _ => ∃ a v x y, vs = [.ref a, v] ∧ IsRat C H a x ∧ Num C H v y ∧ Sz 2000 x ∧ Sz 2000 y ∧ ∀ H', Same H H' → Q (.bl (f x y)) H'
def spFlo (C : Addr) (f : Rat → Int) : Sp := fun vs H Q _ => ∃ a x, vs = [.ref a] ∧ IsRat C H a x ∧ Sz 8000 x ∧ Q (.int (f x)) H
section
variable {P : Program} {w : World} {K : PySem.W.Frag} {mg : Str → Option Value} {base : Heap} {d : Ad}
theorem isI_int (T : Tx K mg d) {H : Hp} {i : Int} : IsI K H (.int i) true := ⟨_, true, false, .base (.int i), T.i_int_is_int, T.i_int_is_bool, rfl⟩
theorem isI_rat (T : Tx K mg d) {H : Hp} {a : Addr} {q : Rat} (h : IsRat d.Ratio H a q) : IsI K H (.ref a) false := let ⟨_, x⟩ := h; ⟨_, false, false, T.y_Ratio.ty T.c_Ratio x, T.i_Ratio_is_int, T.i_Ratio_is_bool, rfl⟩
theorem G_is_integer (T : Tx K mg d) : FnR P w K mg base CX0 1 d.is_integer (spIsInt K) := by
  obtain ⟨fd, F⟩ := T.F_is_integer
  refine FnR.imp (FnOk.raw (F.ok sc_is_integer (sp := spIsInt K) (fun vs H Q E h => ?_) (fun cdv A outer s H vs Q E hr h => ?_)) (F.binds fun _ _ _ _ _ _ us hl => match us, hl with | [_], _ => rfl) .nil) fun vs H Q E h => by rw [List.append_nil]; exact h
  · obtain ⟨x, b, rfl, _⟩ := h
    rfl
  · obtain ⟨x, b, rfl, ⟨t, b1, b2, ty, k1, k2, rfl⟩, k⟩ := h
    -- slots: 0 value
    refine ⟨_, (pss_one (ps_ret (pe_and (pe_callB uIsi (by rfl) T.n_isinstance (by decide +kernel) (pa_cons (pv 0) (pa_cons (pe_bltn (v := .ty "int") (by rfl) T.n_int (by decide +kernel) rfl) pa_nil))) (pe_one (pe_not (pe_callB uIsi (by rfl) T.n_isinstance (by decide +kernel) (pa_cons (pv 0) (pa_cons (pe_bltn (v := .ty "bool") (by rfl) T.n_bool (by decide +kernel) rfl) pa_nil)))))))), ?_⟩
    refine ⟨_, rfl, Or.inl ⟨_, _, _, _, b1, rfl, .ty _, ty, k1, b1, rfl, ?_⟩⟩
    cases b1
    · exact k
    · exact ⟨_, rfl, Or.inl ⟨_, _, _, _, b2, rfl, .ty _, ty, k2, b2, rfl, k⟩⟩
theorem G_Ratio___init__ (T : Tx K mg d) : FnR P w K mg base CX0 2 d.Ratio___init__ (fun vs H Q E => spInit d.Ratio vs H Q E ∨ spInit d.Ratio (vs ++ [.int 1]) H Q E) := by
  obtain ⟨fd, F⟩ := T.D_Ratio___init__
  have G_is_integer : FnR P w K mg base CX0 1 d.is_integer (spIsInt K) := G_is_integer T
  have G : FnOk P w K mg base CX0 2 d.Ratio___init__ fd ["self", "over", "under"] (spInit d.Ratio) := by
    refine F.ok sc_Ratio___init__ (fun vs H Q E h => ?_) (fun cdv A outer s H vs Q E hr h => ?_)
    · obtain ⟨p, dx, a, b, rfl, _⟩ := h
      rfl
    obtain ⟨p, dx, a, b, rfl, hp, hb, hs, k⟩ := h
    -- slots: 0 self, 1 over, 2 under, 3 shared
    refine ⟨_, (pss_cons (ps_if (pt_not (pt_val (pe_fnR G_is_integer (hr.mono (by decide)) T.k_is_integer T.m_is_integer pass0 (pa_cons (pv 1) pa_nil)))) pss_never pss_nil)
      (pss_cons (ps_if (PW.pt (pw_or (pt_not (pt_val (pe_fnR G_is_integer (hr.mono (by decide)) T.k_is_integer T.m_is_integer pass0 (pa_cons (pv 2) pa_nil)))) (pw_or1 (pt_cmpR (uEq hr.units) (pv 2) pe_int (nomark _))))) pss_never pss_nil)
      (pss_cons (ps_set (i := 3) sc_Ratio___init__.nd rfl (Or.inl rfl) (pe_callBfun cr_gcd rfl T.m_gcd (pa_cons (pv 1) (pa_cons (pv 2) pa_nil))))
      (pss_cons (ps_if (pt_cmpR uLt (pv 2) pe_int (nomark _)) (pss_one (ps_set (i := 3) sc_Ratio___init__.nd rfl (Or.inl rfl) (pe_un uNeg (pv 3)))) pss_nil)
      (pss_cons (ps_fld (pv 0) (pe_op uDiv (pv 1) (pv 3)) rfl)
      (pss_one (ps_fld (pv 0) (pe_op uDiv (pv 2) (pv 3)) rfl))))))), ?_⟩
    refine ⟨_, rfl, ⟨_, _, rfl, isI_int T, true, rfl, iteF ?_⟩⟩
    refine ⟨_, rfl, ⟨_, _, rfl, isI_int T, true, rfl, iteF ⟨_, rfl, Or.inl ⟨rfl, _, rfl, ifF (by simp [dec_int, hb]) ?_⟩⟩⟩⟩
    refine ⟨_, rfl, _, rfl, ⟨_, _, rfl, ?_⟩⟩
    have hg : ((Nat.gcd a.natAbs b.natAbs : Nat) : Int) = (Int.gcd a b : Int) := rfl
    have g0 := gcd_pos a b hb
    have g1 := gcd_le a b hb
    have fin : ∀ g : Int, g = (if b < 0 then -(Int.gcd a b : Int) else (Int.gcd a b : Int)) → CDivZ a g ∧ CDivZ b g ∧ a.fdiv g = (Rat.divInt a b).num ∧ b.fdiv g = ((Rat.divInt a b).den : Int) := fun g eg => by
      have n0 : g ≠ 0 := by rw [eg]; split <;> omega
      have n1 : g.natAbs < 2 ^ 8000 := by
        have : g.natAbs ≤ b.natAbs := by rw [eg]; split <;> omega
        exact Nat.lt_of_le_of_lt this hs
      exact ⟨divZ n0 n1 (by decide) (by decide), divZ n0 n1 (by decide) (by decide), by rw [eg]; exact (num_di a b hb).symm, by rw [eg]; exact (den_di a b hb).symm⟩
    have last : ∀ (x y : Int), x = (Rat.divInt a b).num → y = ((Rat.divInt a b).den : Int) → Q V.non (upd (upd H p (.ins d.Ratio dx [("over", .int x)])) p (.ins d.Ratio dx [("over", .int x), ("under", .int y)])) := fun x y ex ey => by
      refine k _ (fun z o e n => by rw [upd_ne n, upd_ne n]; exact e) ⟨dx, ?_⟩
      rw [upd_same, ex, ey]
    refine ⟨_, rfl, Or.inl ⟨_, _, rfl, rfl, _, rfl, ite2 (fun h => ?_) (fun h => ?_)⟩⟩
    · have h' : b < 0 := of_decide_eq_true h
      obtain ⟨c1, c2, e1, e2⟩ := fin (-(Int.gcd a b : Int)) (by rw [if_pos h'])
      refine ⟨_, rfl, Or.inl ⟨_, rfl, ?_⟩⟩
      refine ⟨_, rfl, _, rfl, Or.inl ⟨_, _, rfl, rfl, c1, _, rfl, p, _, dx, _, rfl, hp, T.c_Ratio, T.a_Ratio_over, (by show 0 < 1000; decide), ?_⟩⟩
      refine ⟨_, rfl, _, rfl, Or.inl ⟨_, _, rfl, rfl, c2, _, rfl, p, _, dx, _, rfl, upd_same, T.c_Ratio, T.a_Ratio_under, (by show 1 < 1000; decide), ?_⟩⟩
      exact last _ _ e1 e2
    · have h' : ¬ b < 0 := of_decide_eq_false (Bool.not_eq_true _ ▸ h)
      obtain ⟨c1, c2, e1, e2⟩ := fin (Int.gcd a b : Int) (by rw [if_neg h'])
      refine ⟨_, rfl, _, rfl, Or.inl ⟨_, _, rfl, rfl, c1, _, rfl, p, _, dx, _, rfl, hp, T.c_Ratio, T.a_Ratio_over, (by show 0 < 1000; decide), ?_⟩⟩
      refine ⟨_, rfl, _, rfl, Or.inl ⟨_, _, rfl, rfl, c2, _, rfl, p, _, dx, _, rfl, upd_same, T.c_Ratio, T.a_Ratio_under, (by show 1 < 1000; decide), ?_⟩⟩
      exact last _ _ e1 e2
  obtain ⟨ds0, r0, b0⟩ := F.binds1 (ps := ["self", "over", "under"]) 3 1 (by simp) rfl fun T kV doc pm an cdv ct us its h1 h2 => match us, its, h1, h2 with
    | [_, _, _], [_], _, _ => ⟨_, rfl, by dsimp only; rfl⟩
  obtain ⟨ds1, r1, b1⟩ := F.binds1 (ps := ["self", "over", "under"]) 2 0 (by simp) rfl fun T kV doc pm an cdv ct us its h1 h2 => match us, its, h1, h2 with
    | [_, _], [_], _, _ => ⟨_, rfl, by dsimp only; rfl⟩
  exact FnR.or ((FnOk.raw G b0 r0).imp fun vs H Q E h => by rw [show vs ++ List.drop 1 [V.int 1] = vs from List.append_nil vs]; exact h) (FnOk.raw G b1 r1)
theorem G_Ratio_of (T : Tx K mg d) : FnR P w K mg base CX0 4 d.Ratio_of (spOf d.Ratio) := by
  have G_is_integer : FnR P w K mg base CX0 1 d.is_integer (spIsInt K) := G_is_integer T
  have G_Ratio___init__ : FnR P w K mg base CX0 2 d.Ratio___init__ _ := G_Ratio___init__ T
  obtain ⟨fd, F⟩ := T.F_Ratio_of
  refine FnR.imp (FnOk.raw (F.ok sc_Ratio_of (k := 3) (sp := spOf d.Ratio) (fun vs H Q E h => ?_) (fun cdv A outer s H vs Q E hr h => ?_)) (F.binds fun _ _ _ _ _ _ us hl => match us, hl with | [_], _ => rfl) .nil) fun vs H Q E h => by rw [List.append_nil]; exact h
  · obtain ⟨v, q, rfl, _⟩ := h
    rfl
  · obtain ⟨v, q, rfl, hv, k⟩ := h
    -- slots: 0 value
    refine ⟨_, (pss_cons (ps_if (pt_val (pe_callB uIsi (by rfl) T.n_isinstance (by decide +kernel) (pa_cons (pv 0) (pa_cons (pe_glob (v := .ref _) rfl T.m_Ratio rfl) pa_nil)))) (pss_one (ps_ret (pv 0))) pss_nil)
      (pss_cons (ps_if (pt_not (pt_val (pe_fnR G_is_integer (hr.mono (by decide)) T.k_is_integer T.m_is_integer pass0 (pa_cons (pv 0) pa_nil)))) pss_never pss_nil)
      (pss_one (ps_ret (StX.pe_makeR T.mk_Ratio G_Ratio___init__ (hr.mono (by decide)) rfl T.m_Ratio pass0 (pa_cons (pv 0) pa_nil)))))), ?_⟩
    rcases hv with ⟨i, rfl, rfl⟩ | ⟨a, rfl, dx, ha⟩
    · refine ⟨_, rfl, Or.inl ⟨_, _, _, _, false, rfl, .own _, .base (.int i), T.i_int_is_Ratio, false, rfl, iteF ?_⟩⟩
      refine ⟨_, rfl, ⟨_, _, rfl, isI_int T, true, rfl, iteF ?_⟩⟩
      refine ⟨_, rfl, fun x dx nx nd ne => Or.inr (made nx nd (by decide) (by decide) fun H' e r => k x H' e ?_)⟩
      rw [r_int] at r
      exact r
    · refine ⟨_, rfl, Or.inl ⟨_, _, _, _, true, rfl, .own _, T.y_Ratio.ty T.c_Ratio ha, T.i_Ratio_is_Ratio, true, rfl, iteT ?_⟩⟩
      exact ⟨_, rfl, k a H (Same.refl H) ⟨dx, ha⟩⟩
theorem G_Ratio___add__ (T : Tx K mg d) : FnR P w K mg base CX0 5 d.Ratio___add__ (spBin d.Ratio (· + ·)) := by
  have G_Ratio_of : FnR P w K mg base CX0 4 d.Ratio_of (spOf d.Ratio) := G_Ratio_of T
  have G_Ratio___init__ : FnR P w K mg base CX0 2 d.Ratio___init__ _ := G_Ratio___init__ T
  obtain ⟨fd, F⟩ := T.F_Ratio___add__
  refine FnR.imp (FnOk.raw (F.ok sc_Ratio___add__ (k := 4) (sp := spBin d.Ratio (· + ·)) (fun vs H Q E h => ?_) (fun cdv A outer s H vs Q E hr h => ?_)) (F.binds fun _ _ _ _ _ _ us hl => match us, hl with | [_, _], _ => rfl) .nil) fun vs H Q E h => by rw [List.append_nil]; exact h
  · obtain ⟨a, v, x, y, rfl, _⟩ := h
    rfl
  · obtain ⟨a, v, x, y, rfl, ⟨dx, ha⟩, hy, zx, zy, k⟩ := h
    -- slots: 0 self, 1 other, 2 added
    refine ⟨_, (pss_cons (ps_set (i := 2) sc_Ratio___add__.nd rfl (Or.inl rfl) (pe_smeth (pe_glob (v := .ref _) rfl T.m_Ratio rfl) T.s_Ratio_of G_Ratio_of (hr.mono (by decide)) pass0 (pa_cons (pv 1) pa_nil)))
      (pss_one (ps_ret (StX.pe_makeR T.mk_Ratio G_Ratio___init__ (hr.mono (by decide)) rfl T.m_Ratio pass0 (pa_cons (pe_op uAdd (pe_op uMul (pe_fld (pv 0) rfl) (pe_fld (pv 2) rfl)) (pe_op uMul (pe_fld (pv 2) rfl) (pe_fld (pv 0) rfl))) (pa_cons (pe_op uMul (pe_fld (pv 0) rfl) (pe_fld (pv 2) rfl)) pa_nil)))))), ?_⟩
    refine ⟨rfl, _, rfl, ⟨_, y, rfl, hy, fun b H1 e1 ⟨dy, hb⟩ => ?_⟩⟩
    have ha := e1 _ _ ha
    refine ⟨_, rfl, a, _, dx, _, _, rfl, ha, T.c_Ratio, T.a_Ratio_over, rfl, _, rfl, b, _, dy, _, _, rfl, hb, T.c_Ratio, T.a_Ratio_under, rfl, Or.inl ⟨_, _, rfl, rfl, mul2 (szN zx) (szD zy), _, rfl, b, _, dy, _, _, rfl, hb, T.c_Ratio, T.a_Ratio_over, rfl, _, rfl, a, _, dx, _, _, rfl, ha, T.c_Ratio, T.a_Ratio_under, rfl, Or.inl ⟨_, _, rfl, rfl, mul2 (szN zy) (szD zx), Or.inl ⟨_, _, rfl, rfl, ?_⟩⟩⟩⟩
    refine ⟨_, rfl, a, _, dx, _, _, rfl, ha, T.c_Ratio, T.a_Ratio_under, rfl, _, rfl, b, _, dy, _, _, rfl, hb, T.c_Ratio, T.a_Ratio_under, rfl, Or.inl ⟨_, _, rfl, rfl, mul2 (szD zx) (szD zy), fun p dp np nd ne => Or.inl (made np nd (den0 x y) (den2 zx zy) fun H2 e2 r => k p H2 (e1.trans e2) ?_)⟩⟩
    rw [r_add] at r
    exact r
theorem G_Ratio___sub__ (T : Tx K mg d) : FnR P w K mg base CX0 5 d.Ratio___sub__ (spBin d.Ratio (· - ·)) := by
  have G_Ratio_of : FnR P w K mg base CX0 4 d.Ratio_of (spOf d.Ratio) := G_Ratio_of T
  have G_Ratio___init__ : FnR P w K mg base CX0 2 d.Ratio___init__ _ := G_Ratio___init__ T
  obtain ⟨fd, F⟩ := T.F_Ratio___sub__
  refine FnR.imp (FnOk.raw (F.ok sc_Ratio___sub__ (k := 4) (sp := spBin d.Ratio (· - ·)) (fun vs H Q E h => ?_) (fun cdv A outer s H vs Q E hr h => ?_)) (F.binds fun _ _ _ _ _ _ us hl => match us, hl with | [_, _], _ => rfl) .nil) fun vs H Q E h => by rw [List.append_nil]; exact h
  · obtain ⟨a, v, x, y, rfl, _⟩ := h
    rfl
  · obtain ⟨a, v, x, y, rfl, ⟨dx, ha⟩, hy, zx, zy, k⟩ := h
    -- slots: 0 self, 1 other, 2 taken
    refine ⟨_, (pss_cons (ps_set (i := 2) sc_Ratio___sub__.nd rfl (Or.inl rfl) (pe_smeth (pe_glob (v := .ref _) rfl T.m_Ratio rfl) T.s_Ratio_of G_Ratio_of (hr.mono (by decide)) pass0 (pa_cons (pv 1) pa_nil)))
      (pss_one (ps_ret (StX.pe_makeR T.mk_Ratio G_Ratio___init__ (hr.mono (by decide)) rfl T.m_Ratio pass0 (pa_cons (pe_op uSub (pe_op uMul (pe_fld (pv 0) rfl) (pe_fld (pv 2) rfl)) (pe_op uMul (pe_fld (pv 2) rfl) (pe_fld (pv 0) rfl))) (pa_cons (pe_op uMul (pe_fld (pv 0) rfl) (pe_fld (pv 2) rfl)) pa_nil)))))), ?_⟩
    refine ⟨rfl, _, rfl, ⟨_, y, rfl, hy, fun b H1 e1 ⟨dy, hb⟩ => ?_⟩⟩
    have ha := e1 _ _ ha
    refine ⟨_, rfl, a, _, dx, _, _, rfl, ha, T.c_Ratio, T.a_Ratio_over, rfl, _, rfl, b, _, dy, _, _, rfl, hb, T.c_Ratio, T.a_Ratio_under, rfl, Or.inl ⟨_, _, rfl, rfl, mul2 (szN zx) (szD zy), _, rfl, b, _, dy, _, _, rfl, hb, T.c_Ratio, T.a_Ratio_over, rfl, _, rfl, a, _, dx, _, _, rfl, ha, T.c_Ratio, T.a_Ratio_under, rfl, Or.inl ⟨_, _, rfl, rfl, mul2 (szN zy) (szD zx), Or.inl ⟨_, _, rfl, rfl, ?_⟩⟩⟩⟩
    refine ⟨_, rfl, a, _, dx, _, _, rfl, ha, T.c_Ratio, T.a_Ratio_under, rfl, _, rfl, b, _, dy, _, _, rfl, hb, T.c_Ratio, T.a_Ratio_under, rfl, Or.inl ⟨_, _, rfl, rfl, mul2 (szD zx) (szD zy), fun p dp np nd ne => Or.inl (made np nd (den0 x y) (den2 zx zy) fun H2 e2 r => k p H2 (e1.trans e2) ?_)⟩⟩
    rw [r_sub] at r
    exact r
theorem G_Ratio___mul__ (T : Tx K mg d) : FnR P w K mg base CX0 5 d.Ratio___mul__ (spBin d.Ratio (· * ·)) := by
  have G_Ratio_of : FnR P w K mg base CX0 4 d.Ratio_of (spOf d.Ratio) := G_Ratio_of T
  have G_Ratio___init__ : FnR P w K mg base CX0 2 d.Ratio___init__ _ := G_Ratio___init__ T
  obtain ⟨fd, F⟩ := T.F_Ratio___mul__
  refine FnR.imp (FnOk.raw (F.ok sc_Ratio___mul__ (k := 4) (sp := spBin d.Ratio (· * ·)) (fun vs H Q E h => ?_) (fun cdv A outer s H vs Q E hr h => ?_)) (F.binds fun _ _ _ _ _ _ us hl => match us, hl with | [_, _], _ => rfl) .nil) fun vs H Q E h => by rw [List.append_nil]; exact h
  · obtain ⟨a, v, x, y, rfl, _⟩ := h
    rfl
  · obtain ⟨a, v, x, y, rfl, ⟨dx, ha⟩, hy, zx, zy, k⟩ := h
    -- slots: 0 self, 1 other, 2 factor
    refine ⟨_, (pss_cons (ps_set (i := 2) sc_Ratio___mul__.nd rfl (Or.inl rfl) (pe_smeth (pe_glob (v := .ref _) rfl T.m_Ratio rfl) T.s_Ratio_of G_Ratio_of (hr.mono (by decide)) pass0 (pa_cons (pv 1) pa_nil)))
      (pss_one (ps_ret (StX.pe_makeR T.mk_Ratio G_Ratio___init__ (hr.mono (by decide)) rfl T.m_Ratio pass0 (pa_cons (pe_op uMul (pe_fld (pv 0) rfl) (pe_fld (pv 2) rfl)) (pa_cons (pe_op uMul (pe_fld (pv 0) rfl) (pe_fld (pv 2) rfl)) pa_nil)))))), ?_⟩
    refine ⟨rfl, _, rfl, ⟨_, y, rfl, hy, fun b H1 e1 ⟨dy, hb⟩ => ?_⟩⟩
    have ha := e1 _ _ ha
    refine ⟨_, rfl, a, _, dx, _, _, rfl, ha, T.c_Ratio, T.a_Ratio_over, rfl, _, rfl, b, _, dy, _, _, rfl, hb, T.c_Ratio, T.a_Ratio_over, rfl, Or.inl ⟨_, _, rfl, rfl, mul2 (szN zx) (szN zy), ?_⟩⟩
    refine ⟨_, rfl, a, _, dx, _, _, rfl, ha, T.c_Ratio, T.a_Ratio_under, rfl, _, rfl, b, _, dy, _, _, rfl, hb, T.c_Ratio, T.a_Ratio_under, rfl, Or.inl ⟨_, _, rfl, rfl, mul2 (szD zx) (szD zy), fun p dp np nd ne => Or.inl (made np nd (den0 x y) (den2 zx zy) fun H2 e2 r => k p H2 (e1.trans e2) ?_)⟩⟩
    rw [r_mul] at r
    exact r
theorem G_Ratio___lt__ (T : Tx K mg d) : FnR P w K mg base CX0 5 d.Ratio___lt__ (spCmp d.Ratio fun x y => decide (x < y)) := by
  have G_Ratio_of : FnR P w K mg base CX0 4 d.Ratio_of (spOf d.Ratio) := G_Ratio_of T
  have G_Ratio___init__ : FnR P w K mg base CX0 2 d.Ratio___init__ _ := G_Ratio___init__ T
  obtain ⟨fd, F⟩ := T.F_Ratio___lt__
  refine FnR.imp (FnOk.raw (F.ok sc_Ratio___lt__ (k := 4) (sp := spCmp d.Ratio fun x y => decide (x < y)) (fun vs H Q E h => ?_) (fun cdv A outer s H vs Q E hr h => ?_)) (F.binds fun _ _ _ _ _ _ us hl => match us, hl with | [_, _], _ => rfl) .nil) fun vs H Q E h => by rw [List.append_nil]; exact h
  · obtain ⟨a, v, x, y, rfl, _⟩ := h
    rfl
  · obtain ⟨a, v, x, y, rfl, ⟨dx, ha⟩, hy, zx, zy, k⟩ := h
    -- slots: 0 self, 1 other, 2 against
    refine ⟨_, (pss_cons (ps_set (i := 2) sc_Ratio___lt__.nd rfl (Or.inl rfl) (pe_smeth (pe_glob (v := .ref _) rfl T.m_Ratio rfl) T.s_Ratio_of G_Ratio_of (hr.mono (by decide)) pass0 (pa_cons (pv 1) pa_nil)))
      (pss_one (ps_ret (pe_cmpR uLt (pe_op uMul (pe_fld (pv 0) rfl) (pe_fld (pv 2) rfl)) (pe_op uMul (pe_fld (pv 2) rfl) (pe_fld (pv 0) rfl)) (nomark _))))), ?_⟩
    refine ⟨rfl, _, rfl, ⟨_, y, rfl, hy, fun b H1 e1 ⟨dy, hb⟩ => ?_⟩⟩
    have ha := e1 _ _ ha
    refine ⟨_, rfl, a, _, dx, _, _, rfl, ha, T.c_Ratio, T.a_Ratio_over, rfl, _, rfl, b, _, dy, _, _, rfl, hb, T.c_Ratio, T.a_Ratio_under, rfl, Or.inl ⟨_, _, rfl, rfl, mul2 (szN zx) (szD zy), _, rfl, b, _, dy, _, _, rfl, hb, T.c_Ratio, T.a_Ratio_over, rfl, _, rfl, a, _, dx, _, _, rfl, ha, T.c_Ratio, T.a_Ratio_under, rfl, Or.inl ⟨_, _, rfl, rfl, mul2 (szN zy) (szD zx), Or.inl ⟨_, _, rfl, rfl, ?_⟩⟩⟩⟩
    have q : Q (.bl (decide (x < y))) H1 := k H1 e1
    rw [decide_eq_decide.mpr (Rat.lt_iff x y)] at q
    exact q
theorem G_Ratio___le__ (T : Tx K mg d) : FnR P w K mg base CX0 5 d.Ratio___le__ (spCmp d.Ratio fun x y => decide (x ≤ y)) := by
  have G_Ratio_of : FnR P w K mg base CX0 4 d.Ratio_of (spOf d.Ratio) := G_Ratio_of T
  have G_Ratio___init__ : FnR P w K mg base CX0 2 d.Ratio___init__ _ := G_Ratio___init__ T
  obtain ⟨fd, F⟩ := T.F_Ratio___le__
  refine FnR.imp (FnOk.raw (F.ok sc_Ratio___le__ (k := 4) (sp := spCmp d.Ratio fun x y => decide (x ≤ y)) (fun vs H Q E h => ?_) (fun cdv A outer s H vs Q E hr h => ?_)) (F.binds fun _ _ _ _ _ _ us hl => match us, hl with | [_, _], _ => rfl) .nil) fun vs H Q E h => by rw [List.append_nil]; exact h
  · obtain ⟨a, v, x, y, rfl, _⟩ := h
    rfl
  · obtain ⟨a, v, x, y, rfl, ⟨dx, ha⟩, hy, zx, zy, k⟩ := h
    -- slots: 0 self, 1 other, 2 against
    refine ⟨_, (pss_cons (ps_set (i := 2) sc_Ratio___le__.nd rfl (Or.inl rfl) (pe_smeth (pe_glob (v := .ref _) rfl T.m_Ratio rfl) T.s_Ratio_of G_Ratio_of (hr.mono (by decide)) pass0 (pa_cons (pv 1) pa_nil)))
      (pss_one (ps_ret (pe_cmpR uLe (pe_op uMul (pe_fld (pv 0) rfl) (pe_fld (pv 2) rfl)) (pe_op uMul (pe_fld (pv 2) rfl) (pe_fld (pv 0) rfl)) (nomark _))))), ?_⟩
    refine ⟨rfl, _, rfl, ⟨_, y, rfl, hy, fun b H1 e1 ⟨dy, hb⟩ => ?_⟩⟩
    have ha := e1 _ _ ha
    refine ⟨_, rfl, a, _, dx, _, _, rfl, ha, T.c_Ratio, T.a_Ratio_over, rfl, _, rfl, b, _, dy, _, _, rfl, hb, T.c_Ratio, T.a_Ratio_under, rfl, Or.inl ⟨_, _, rfl, rfl, mul2 (szN zx) (szD zy), _, rfl, b, _, dy, _, _, rfl, hb, T.c_Ratio, T.a_Ratio_over, rfl, _, rfl, a, _, dx, _, _, rfl, ha, T.c_Ratio, T.a_Ratio_under, rfl, Or.inl ⟨_, _, rfl, rfl, mul2 (szN zy) (szD zx), Or.inl ⟨_, _, rfl, rfl, ?_⟩⟩⟩⟩
    have q : Q (.bl (decide (x ≤ y))) H1 := k H1 e1
    rw [decide_eq_decide.mpr (Rat.le_iff x y)] at q
    exact q
theorem G_Ratio___gt__ (T : Tx K mg d) : FnR P w K mg base CX0 5 d.Ratio___gt__ (spCmp d.Ratio fun x y => decide (x > y)) := by
  have G_Ratio_of : FnR P w K mg base CX0 4 d.Ratio_of (spOf d.Ratio) := G_Ratio_of T
  have G_Ratio___init__ : FnR P w K mg base CX0 2 d.Ratio___init__ _ := G_Ratio___init__ T
  obtain ⟨fd, F⟩ := T.F_Ratio___gt__
  refine FnR.imp (FnOk.raw (F.ok sc_Ratio___gt__ (k := 4) (sp := spCmp d.Ratio fun x y => decide (x > y)) (fun vs H Q E h => ?_) (fun cdv A outer s H vs Q E hr h => ?_)) (F.binds fun _ _ _ _ _ _ us hl => match us, hl with | [_, _], _ => rfl) .nil) fun vs H Q E h => by rw [List.append_nil]; exact h
  · obtain ⟨a, v, x, y, rfl, _⟩ := h
    rfl
  · obtain ⟨a, v, x, y, rfl, ⟨dx, ha⟩, hy, zx, zy, k⟩ := h
    -- slots: 0 self, 1 other, 2 against
    refine ⟨_, (pss_cons (ps_set (i := 2) sc_Ratio___gt__.nd rfl (Or.inl rfl) (pe_smeth (pe_glob (v := .ref _) rfl T.m_Ratio rfl) T.s_Ratio_of G_Ratio_of (hr.mono (by decide)) pass0 (pa_cons (pv 1) pa_nil)))
      (pss_one (ps_ret (pe_cmpR uGt (pe_op uMul (pe_fld (pv 0) rfl) (pe_fld (pv 2) rfl)) (pe_op uMul (pe_fld (pv 2) rfl) (pe_fld (pv 0) rfl)) (nomark _))))), ?_⟩
    refine ⟨rfl, _, rfl, ⟨_, y, rfl, hy, fun b H1 e1 ⟨dy, hb⟩ => ?_⟩⟩
    have ha := e1 _ _ ha
    refine ⟨_, rfl, a, _, dx, _, _, rfl, ha, T.c_Ratio, T.a_Ratio_over, rfl, _, rfl, b, _, dy, _, _, rfl, hb, T.c_Ratio, T.a_Ratio_under, rfl, Or.inl ⟨_, _, rfl, rfl, mul2 (szN zx) (szD zy), _, rfl, b, _, dy, _, _, rfl, hb, T.c_Ratio, T.a_Ratio_over, rfl, _, rfl, a, _, dx, _, _, rfl, ha, T.c_Ratio, T.a_Ratio_under, rfl, Or.inl ⟨_, _, rfl, rfl, mul2 (szN zy) (szD zx), Or.inl ⟨_, _, rfl, rfl, ?_⟩⟩⟩⟩
    have q : Q (.bl (decide (x > y))) H1 := k H1 e1
    rw [decide_eq_decide.mpr (Rat.lt_iff y x)] at q
    exact q
theorem G_Ratio___ge__ (T : Tx K mg d) : FnR P w K mg base CX0 5 d.Ratio___ge__ (spCmp d.Ratio fun x y => decide (x ≥ y)) := by
  have G_Ratio_of : FnR P w K mg base CX0 4 d.Ratio_of (spOf d.Ratio) := G_Ratio_of T
  have G_Ratio___init__ : FnR P w K mg base CX0 2 d.Ratio___init__ _ := G_Ratio___init__ T
  obtain ⟨fd, F⟩ := T.F_Ratio___ge__
  refine FnR.imp (FnOk.raw (F.ok sc_Ratio___ge__ (k := 4) (sp := spCmp d.Ratio fun x y => decide (x ≥ y)) (fun vs H Q E h => ?_) (fun cdv A outer s H vs Q E hr h => ?_)) (F.binds fun _ _ _ _ _ _ us hl => match us, hl with | [_, _], _ => rfl) .nil) fun vs H Q E h => by rw [List.append_nil]; exact h
  · obtain ⟨a, v, x, y, rfl, _⟩ := h
    rfl
  · obtain ⟨a, v, x, y, rfl, ⟨dx, ha⟩, hy, zx, zy, k⟩ := h
    -- slots: 0 self, 1 other, 2 against
    refine ⟨_, (pss_cons (ps_set (i := 2) sc_Ratio___ge__.nd rfl (Or.inl rfl) (pe_smeth (pe_glob (v := .ref _) rfl T.m_Ratio rfl) T.s_Ratio_of G_Ratio_of (hr.mono (by decide)) pass0 (pa_cons (pv 1) pa_nil)))
      (pss_one (ps_ret (pe_cmpR uGe (pe_op uMul (pe_fld (pv 0) rfl) (pe_fld (pv 2) rfl)) (pe_op uMul (pe_fld (pv 2) rfl) (pe_fld (pv 0) rfl)) (nomark _))))), ?_⟩
    refine ⟨rfl, _, rfl, ⟨_, y, rfl, hy, fun b H1 e1 ⟨dy, hb⟩ => ?_⟩⟩
    have ha := e1 _ _ ha
    refine ⟨_, rfl, a, _, dx, _, _, rfl, ha, T.c_Ratio, T.a_Ratio_over, rfl, _, rfl, b, _, dy, _, _, rfl, hb, T.c_Ratio, T.a_Ratio_under, rfl, Or.inl ⟨_, _, rfl, rfl, mul2 (szN zx) (szD zy), _, rfl, b, _, dy, _, _, rfl, hb, T.c_Ratio, T.a_Ratio_over, rfl, _, rfl, a, _, dx, _, _, rfl, ha, T.c_Ratio, T.a_Ratio_under, rfl, Or.inl ⟨_, _, rfl, rfl, mul2 (szN zy) (szD zx), Or.inl ⟨_, _, rfl, rfl, ?_⟩⟩⟩⟩
    have q : Q (.bl (decide (x ≥ y))) H1 := k H1 e1
    rw [decide_eq_decide.mpr (Rat.le_iff y x)] at q
    exact q
theorem eq_rat {x y : Rat} : (decide (V.int x.num = V.int y.num) && decide (V.int (x.den : Int) = V.int (y.den : Int))) = decide (x = y) := by
  by_cases h : x = y
  · subst h; simp
  · rw [decide_eq_false h]
    by_cases h1 : x.num = y.num
    · have h2 : ¬ (x.den : Int) = y.den := fun e => h (Rat.ext h1 (by omega))
      simp [h2]
    · simp [h1]
theorem eq_int {x : Rat} {j : Int} : (decide (V.int (x.den : Int) = V.int 1) && decide (V.int x.num = V.int j)) = decide (x = (j : Rat)) := by
  have e := eq_rat (x := x) (y := (j : Rat))
  rw [Rat.num_intCast, Rat.den_intCast, Bool.and_comm] at e
  exact e
theorem G_Ratio___eq__ (T : Tx K mg d) : FnR P w K mg base CX0 2 d.Ratio___eq__ (spCmp d.Ratio fun x y => decide (x = y)) := by
  have G_is_integer : FnR P w K mg base CX0 1 d.is_integer (spIsInt K) := G_is_integer T
  obtain ⟨fd, F⟩ := T.F_Ratio___eq__
  refine FnR.imp (FnOk.raw (F.ok sc_Ratio___eq__ (k := 1) (sp := spCmp d.Ratio fun x y => decide (x = y)) (fun vs H Q E h => ?_) (fun cdv A outer s H vs Q E hr h => ?_)) (F.binds fun _ _ _ _ _ _ us hl => match us, hl with | [_, _], _ => rfl) .nil) fun vs H Q E h => by rw [List.append_nil]; exact h
  · obtain ⟨a, v, x, y, rfl, _⟩ := h
    rfl
  · obtain ⟨a, v, x, y, rfl, ⟨dx, ha⟩, hy, _, _, k⟩ := h
    have q : Q (.bl (decide (x = y))) H := k H (Same.refl H)
    -- slots: 0 self, 1 other
    refine ⟨_, (pss_cons (ps_if (pt_val (pe_callB uIsi (by rfl) T.n_isinstance (by decide +kernel) (pa_cons (pv 1) (pa_cons (pe_glob (v := .ref _) rfl T.m_Ratio rfl) pa_nil)))) (pss_one (ps_ret (pe_and (pe_cmpR (uEq hr.units) (pe_fld (pv 0) rfl) (pe_fld (pv 1) rfl) (nomark _)) (pe_one (pe_cmpR (uEq hr.units) (pe_fld (pv 0) rfl) (pe_fld (pv 1) rfl) (nomark _)))))) pss_nil)
      (pss_one (ps_ret (pe_and (pe_fnR G_is_integer (hr.mono (by decide)) T.k_is_integer T.m_is_integer pass0 (pa_cons (pv 1) pa_nil)) (pe_and (pe_cmpR (uEq hr.units) (pe_fld (pv 0) rfl) pe_int (nomark _)) (pe_one (pe_cmpR (uEq hr.units) (pe_fld (pv 0) rfl) (pv 1) (nomark _)))))))), ?_⟩
    rcases hy with ⟨j, rfl, rfl⟩ | ⟨b, rfl, dy, hb⟩
    · rw [← eq_int] at q
      refine ⟨_, rfl, Or.inl ⟨_, _, _, _, false, rfl, .own _, .base (.int j), T.i_int_is_Ratio, false, rfl, iteF ?_⟩⟩
      refine ⟨_, rfl, ⟨_, _, rfl, isI_int T, true, rfl, iteT ?_⟩⟩
      refine ⟨_, rfl, a, _, dx, _, _, rfl, ha, T.c_Ratio, T.a_Ratio_under, rfl, Or.inl ⟨rfl, _, rfl, if2 (fun h1 => ?_) (fun h1 => ?_)⟩⟩
      · rw [h1, Bool.true_and] at q
        exact ⟨_, rfl, a, _, dx, _, _, rfl, ha, T.c_Ratio, T.a_Ratio_over, rfl, _, rfl, Or.inl ⟨rfl, q⟩⟩
      · rw [h1, Bool.false_and] at q
        exact q
    · rw [← eq_rat] at q
      refine ⟨_, rfl, Or.inl ⟨_, _, _, _, true, rfl, .own _, T.y_Ratio.ty T.c_Ratio hb, T.i_Ratio_is_Ratio, true, rfl, iteT ?_⟩⟩
      refine ⟨_, rfl, a, _, dx, _, _, rfl, ha, T.c_Ratio, T.a_Ratio_over, rfl, _, rfl, b, _, dy, _, _, rfl, hb, T.c_Ratio, T.a_Ratio_over, rfl, Or.inl ⟨rfl, _, rfl, if2 (fun h1 => ?_) (fun h1 => ?_)⟩⟩
      · rw [h1, Bool.true_and] at q
        exact ⟨_, rfl, a, _, dx, _, _, rfl, ha, T.c_Ratio, T.a_Ratio_under, rfl, _, rfl, b, _, dy, _, _, rfl, hb, T.c_Ratio, T.a_Ratio_under, rfl, Or.inl ⟨rfl, q⟩⟩
      · rw [h1, Bool.false_and] at q
        exact q
theorem G_Ratio_floor (T : Tx K mg d) : FnR P w K mg base CX0 1 d.Ratio_floor (spFlo d.Ratio Rat.floor) := by
  obtain ⟨fd, F⟩ := T.F_Ratio_floor
  refine FnR.imp (FnOk.raw (F.ok sc_Ratio_floor (k := 0) (sp := spFlo d.Ratio Rat.floor) (fun vs H Q E h => ?_) (fun cdv A outer s H vs Q E hr h => ?_)) (F.binds fun _ _ _ _ _ _ us hl => match us, hl with | [_], _ => rfl) .nil) fun vs H Q E h => by rw [List.append_nil]; exact h
  · obtain ⟨a, x, rfl, _⟩ := h
    rfl
  · obtain ⟨a, x, rfl, ⟨dx, ha⟩, zx, k⟩ := h
    -- slots: 0 self
    refine ⟨_, (pss_one (ps_ret (pe_op uDiv (pe_fld (pv 0) rfl) (pe_fld (pv 0) rfl)))), ?_⟩
    refine ⟨_, rfl, a, _, dx, _, _, rfl, ha, T.c_Ratio, T.a_Ratio_over, rfl, _, rfl, a, _, dx, _, _, rfl, ha, T.c_Ratio, T.a_Ratio_under, rfl, Or.inl ⟨_, _, rfl, rfl, divZ (dne x) (szD zx) (by decide) (by decide), ?_⟩⟩
    rw [← r_floor] at k
    exact k
theorem G_Ratio_ceiling (T : Tx K mg d) : FnR P w K mg base CX0 1 d.Ratio_ceiling (spFlo d.Ratio Rat.ceil) := by
  obtain ⟨fd, F⟩ := T.F_Ratio_ceiling
  refine FnR.imp (FnOk.raw (F.ok sc_Ratio_ceiling (k := 0) (sp := spFlo d.Ratio Rat.ceil) (fun vs H Q E h => ?_) (fun cdv A outer s H vs Q E hr h => ?_)) (F.binds fun _ _ _ _ _ _ us hl => match us, hl with | [_], _ => rfl) .nil) fun vs H Q E h => by rw [List.append_nil]; exact h
  · obtain ⟨a, x, rfl, _⟩ := h
    rfl
  · obtain ⟨a, x, rfl, ⟨dx, ha⟩, zx, k⟩ := h
    -- slots: 0 self
    refine ⟨_, (pss_one (ps_ret (pe_un uNeg (pe_op uDiv (pe_un uNeg (pe_fld (pv 0) rfl)) (pe_fld (pv 0) rfl))))), ?_⟩
    refine ⟨_, rfl, a, _, dx, _, _, rfl, ha, T.c_Ratio, T.a_Ratio_over, rfl, Or.inl ⟨_, rfl, _, rfl, a, _, dx, _, _, rfl, ha, T.c_Ratio, T.a_Ratio_under, rfl, Or.inl ⟨_, _, rfl, rfl, divZ (dne x) (szD zx) (by decide) (by decide), Or.inl ⟨_, rfl, ?_⟩⟩⟩⟩
    rw [← r_ceil] at k
    exact k
end

end AZ
namespace AZ
open PySem L2
/-! ## own operators by the promises of fractions -/
section
variable {X : Cx} {C f : Addr} {k : Nat} {H : Hp} {Q : VK} {a : Addr} {v : V} {x y : Rat}
theorem own_cmp {op : CmpOp} {g : Rat → Rat → Bool} (M : CmpM X.K C op f) (F : FnR X.prog X.w X.K X.mg X.base CX0 k f (spCmp C g)) (hr : Room k X.A) (ha : IsRat C H a x) (hv : Num C H v y) (zx : Sz 2000 x) (zy : Sz 2000 y)
    (q : ∀ H', Same H H' → Q (.bl (g x y)) H') : rOwnC X op (.ref a) v H Q := by
  obtain ⟨dx, h⟩ := id ha
  exact ⟨a, C, dx, _, f, CX0, k, _, E0, rfl, h, hv.right, M, F, hr, pass0, ⟨a, v, x, y, rfl, ha, hv, zx, zy, q⟩⟩
theorem own_bin {op : Operator} {g : Rat → Rat → Rat} (M : BinM X.K C op f) (F : FnR X.prog X.w X.K X.mg X.base CX0 k f (spBin C g)) (hr : Room k X.A) (ha : IsRat C H a x) (hv : Num C H v y) (zx : Sz 2000 x) (zy : Sz 2000 y)
    (q : ∀ p H', Same H H' → IsRat C H' p (g x y) → Q (.ref p) H') : rOwn X op (.ref a) v H Q := by
  obtain ⟨dx, h⟩ := id ha
  exact ⟨a, C, dx, _, f, CX0, k, _, E0, rfl, h, hv.right, M, F, hr, pass0, ⟨a, v, x, y, rfl, ha, hv, zx, zy, q⟩⟩
theorem num_i {j : Int} : Num C H (.int j) (j : Rat) := Or.inl ⟨j, rfl, rfl⟩
theorem num_r (h : IsRat C H a x) : Num C H (.ref a) x := Or.inr ⟨a, rfl, h⟩
end
theorem sz_i {n : Nat} {j : Int} (h : j.natAbs < 2 ^ n) (h0 : 0 < n) : Sz n (j : Rat) := ⟨by rw [Rat.num_intCast]; exact h, by rw [Rat.den_intCast]; exact Nat.one_lt_two_pow (by omega)⟩
theorem sz_sub {n m : Nat} {x y : Rat} (h : Sz n x) (h' : Sz m y) : Sz (n + m + 1) (x - y) := by
  rw [← r_sub]
  refine sz_di (den0 x y) ?_ ?_
  · have a1 := mul_lt2 h.1 h'.2
    have a2 := mul_lt2 h'.1 h.2
    have a3 : (x.num * (y.den : Int) - y.num * (x.den : Int)).natAbs ≤ x.num.natAbs * y.den + y.num.natAbs * x.den := by
      have b1 : (x.num * (y.den : Int)).natAbs = x.num.natAbs * y.den := by rw [Int.natAbs_mul]; rfl
      have b2 : (y.num * (x.den : Int)).natAbs = y.num.natAbs * x.den := by rw [Int.natAbs_mul]; rfl
      omega
    rw [Nat.add_comm m n] at a2
    rw [Nat.pow_succ]
    omega
  · rw [Int.natAbs_mul]
    exact Nat.lt_of_lt_of_le (mul_lt2 h.2 h'.2) (Nat.pow_le_pow_right (by decide) (by omega))
theorem sz_add {n m : Nat} {x y : Rat} (h : Sz n x) (h' : Sz m y) : Sz (n + m + 1) (x + y) := by
  rw [← r_add]
  refine sz_di (den0 x y) ?_ ?_
  · have a1 := mul_lt2 h.1 h'.2
    have a2 := mul_lt2 h'.1 h.2
    have a3 : (x.num * (y.den : Int) + y.num * (x.den : Int)).natAbs ≤ x.num.natAbs * y.den + y.num.natAbs * x.den := by
      have b1 : (x.num * (y.den : Int)).natAbs = x.num.natAbs * y.den := by rw [Int.natAbs_mul]; rfl
      have b2 : (y.num * (x.den : Int)).natAbs = y.num.natAbs * x.den := by rw [Int.natAbs_mul]; rfl
      omega
    rw [Nat.add_comm m n] at a2
    rw [Nat.pow_succ]
    omega
  · rw [Int.natAbs_mul]
    exact Nat.lt_of_lt_of_le (mul_lt2 h.2 h'.2) (Nat.pow_le_pow_right (by decide) (by omega))
theorem sz_mul {n m : Nat} {x y : Rat} (h : Sz n x) (h' : Sz m y) : Sz (n + m) (x * y) := by
  rw [← r_mul]
  refine sz_di (den0 x y) ?_ ?_
  · rw [Int.natAbs_mul]; exact mul_lt2 h.1 h'.1
  · rw [Int.natAbs_mul]; exact mul_lt2 h.2 h'.2
/-! ## roundings -/
/-- the pixel of x -/
def pix (t : Rat) (fr : Bool) (x : Rat) : Int := if fr then (x - t).floor + 1 else (x - t).ceil
theorem fl1 (u : Rat) : (u.floor : Rat) ≤ u := Rat.floor_le u
theorem fl2 (u : Rat) : u < (u.floor : Rat) + 1 := by
  have := Rat.lt_floor_add_one u
  rw [Rat.intCast_add, Rat.intCast_one] at this
  exact this
theorem ce1 (u : Rat) : u ≤ (u.ceil : Rat) := Rat.le_ceil ..
theorem ce2 (u : Rat) : (u.ceil : Rat) < u + 1 := Rat.ceil_lt ..
theorem pix_add (t : Rat) (fr : Bool) (x : Rat) (n : Int) : pix t fr (x + n) = pix t fr x + n := by
  have e : x + n - t = (x - t) + n := by grind
  unfold pix
  rw [e, Rat.floor_add_intCast, Rat.ceil_add_intCast]
  split <;> omega
theorem ceil_mono {x y : Rat} (h : x ≤ y) : x.ceil ≤ y.ceil := Rat.ceil_le_iff.mpr (Rat.le_trans h (ce1 y))
theorem pix_mono {t : Rat} {fr : Bool} {x y : Rat} (h : x ≤ y) : pix t fr x ≤ pix t fr y := by
  have h' : x - t ≤ y - t := by grind
  unfold pix
  split
  · have := Rat.floor_monotone h'
    omega
  · exact ceil_mono h'
theorem behind_before {t x y : Rat} (h : x < y) : (x - t).floor + 1 ≤ (y - t).ceil := by
  have h' : x - t < y - t := by grind
  have h1 : ((x - t).floor : Rat) < y - t := Std.lt_of_le_of_lt (fl1 _) h'
  have := Rat.lt_ceil_iff.mpr h1
  omega
theorem int_den {u : Rat} (h : u.den = 1) : u = (u.num : Rat) := Rat.ext (Rat.num_intCast _).symm (by rw [Rat.den_intCast]; exact h)
theorem step_eq (u : Rat) : u.floor + 1 - u.ceil = if decide (u.den = 1) then 1 else 0 := by
  by_cases h : u.den = 1
  · have e := int_den h
    rw [e, Rat.floor_intCast, Rat.ceil_intCast, Rat.den_intCast]
    simp
    omega
  · simp only [h, decide_false]
    have h1 : u.floor < u.ceil := Rat.lt_ceil_iff.mpr (Std.lt_of_le_of_ne (fl1 u) fun e => h (by rw [← e, Rat.den_intCast]))
    have h2 : u.ceil ≤ u.floor + 1 := Rat.ceil_le_iff.mpr (by rw [Rat.intCast_add, Rat.intCast_one]; have := fl2 u; grind)
    simp
    omega
theorem pix_between (t : Rat) (fr : Bool) (x : Rat) : (x - t).ceil ≤ pix t fr x ∧ pix t fr x ≤ (x - t).floor + 1 := by
  have h := step_eq (x - t)
  have h2 : (x - t).ceil ≤ (x - t).floor + 1 := by split at h <;> omega
  unfold pix
  split <;> omega
theorem pix_lo (t : Rat) (fr : Bool) (x : Rat) : t + (pix t fr x : Rat) - 1 ≤ x := by
  unfold pix
  split
  · have := fl1 (x - t)
    rw [Rat.intCast_add, Rat.intCast_one]; grind
  · have := ce2 (x - t); grind
theorem pix_hi (t : Rat) (fr : Bool) (x : Rat) : x ≤ t + (pix t fr x : Rat) := by
  unfold pix
  split
  · have := fl2 (x - t)
    rw [Rat.intCast_add, Rat.intCast_one]; grind
  · have := ce1 (x - t); grind
theorem pix_lo_ne {t x : Rat} {fr : Bool} (h : x = t + (pix t fr x : Rat) - 1) : fr = true := by
  cases fr with
  | true => rfl
  | false =>
    have := ce2 (x - t)
    simp [pix] at h
    grind
theorem pix_hi_ne {t x : Rat} {fr : Bool} (h : x = t + (pix t fr x : Rat)) : fr = false := by
  cases fr with
  | false => rfl
  | true =>
    have := fl2 (x - t)
    simp [pix, Rat.intCast_add] at h
    grind
theorem pix_gap {t x : Rat} {fr : Bool} {n : Int} (h0 : 0 ≤ t) (h1 : t ≤ 1) (hn : 1 ≤ n) : 1 - n ≤ n * pix t fr x - pix t fr (x * n) ∧ n * pix t fr x - pix t fr (x * n) ≤ n - 1 := by
  have hn' : (1 : Rat) ≤ (n : Rat) := by have := Rat.intCast_le_intCast.mpr hn; simpa using this
  have a1 := pix_lo t fr x
  have a2 := pix_hi t fr x
  have b1 := pix_lo t fr (x * n)
  have b2 := pix_hi t fr (x * n)
  have c1 : 0 ≤ ((n : Rat) - 1) * t := Rat.mul_nonneg (by grind) h0
  have c2 : 0 ≤ ((n : Rat) - 1) * (1 - t) := Rat.mul_nonneg (by grind) (by grind)
  have d1 : 0 ≤ (n : Rat) * (x - (t + (pix t fr x : Rat) - 1)) := Rat.mul_nonneg (by grind) (by grind)
  have d2 : 0 ≤ (n : Rat) * (t + (pix t fr x : Rat) - x) := Rat.mul_nonneg (by grind) (by grind)
  have e1 : (-(n : Rat)) < (n : Rat) * (pix t fr x : Rat) - (pix t fr (x * n) : Rat) := by
    cases fr with
    | true =>
      have s : 0 < (n : Rat) * (t + (pix t true x : Rat) - x) := Rat.mul_pos (by grind) (by
        have : x ≠ t + (pix t true x : Rat) := fun e => by have := pix_hi_ne e; cases this
        grind)
      grind
    | false =>
      have s : x * n ≠ t + (pix t false (x * n) : Rat) - 1 := fun e => by have := pix_lo_ne e; cases this
      grind
  have e2 : (n : Rat) * (pix t fr x : Rat) - (pix t fr (x * n) : Rat) < (n : Rat) := by
    cases fr with
    | true =>
      have s : x * n ≠ t + (pix t true (x * n) : Rat) := fun e => by have := pix_hi_ne e; cases this
      grind
    | false =>
      have s : 0 < (n : Rat) * (x - (t + (pix t false x : Rat) - 1)) := Rat.mul_pos (by grind) (by
        have : x ≠ t + (pix t false x : Rat) - 1 := fun e => by have := pix_lo_ne e; cases this
        grind)
      grind
  have f : (n : Rat) * (pix t fr x : Rat) - (pix t fr (x * n) : Rat) = ((n * pix t fr x - pix t fr (x * n) : Int) : Rat) := by
    rw [Rat.intCast_sub, Rat.intCast_mul]
  rw [f] at e1 e2
  rw [← Rat.intCast_neg] at e1
  have g1 := Rat.intCast_lt_intCast.mp e1
  have g2 := Rat.intCast_lt_intCast.mp e2
  omega
theorem rat_abs {x : Rat} {N : Int} (h : x.num.natAbs ≤ N.natAbs) (h0 : 0 ≤ N) : -(N : Rat) ≤ x ∧ x ≤ (N : Rat) := by
  have d : (1 : Int) ≤ (x.den : Int) := dpos x
  have m : N ≤ N * (x.den : Int) := by
    have := Int.mul_le_mul_of_nonneg_left d h0
    omega
  refine ⟨?_, ?_⟩
  · rw [← Rat.intCast_neg, Rat.le_iff, Rat.num_intCast, Rat.den_intCast]
    have : -N * (x.den : Int) = -(N * (x.den : Int)) := Int.neg_mul ..
    omega
  · rw [Rat.le_iff, Rat.num_intCast, Rat.den_intCast]
    omega
theorem pix_abs {t x : Rat} {fr : Bool} {N : Int} (h0 : 0 ≤ t) (h1 : t ≤ 1) (h : x.num.natAbs ≤ N.natAbs) (hN : 0 ≤ N) : (pix t fr x).natAbs ≤ N.natAbs + 1 := by
  obtain ⟨a1, a2⟩ := rat_abs h hN
  have b1 := pix_lo t fr x
  have b2 := pix_hi t fr x
  have c1 : (pix t fr x : Rat) ≤ ((N + 1 : Int) : Rat) := by rw [Rat.intCast_add, Rat.intCast_one]; grind
  have c2 : ((-(N + 1) : Int) : Rat) ≤ (pix t fr x : Rat) := by rw [Rat.intCast_neg, Rat.intCast_add, Rat.intCast_one]; grind
  have d1 := Rat.intCast_le_intCast.mp c1
  have d2 := Rat.intCast_le_intCast.mp c2
  omega
/-- what a rounding is -/
structure RndOk (t : Rat) (fr : Bool) : Prop where
  sz : Sz 900 t
  lo : 0 ≤ t
  hi : t ≤ 1
  f : fr = true → t ≠ 0
  a : fr = false → t ≠ 1
def IsRnd (C D : Addr) (H : Hp) (a : Addr) (t : Rat) (fr : Bool) : Prop := RndOk t fr ∧ ∃ dx b, H a = some (.ins D dx [("threshold", .ref b), ("is_from", .bl fr)]) ∧ IsRat C H b t
theorem IsRnd.up {C D p a : Addr} {H H' : Hp} {t : Rat} {fr : Bool} (h : IsRnd C D H a t fr) (e : Up p H H') : IsRnd C D H' a t fr := let ⟨o, dx, b, x, y⟩ := h; ⟨o, dx, b, e.ins x, y.up e⟩
theorem IsRnd.same {C D a : Addr} {H H' : Hp} {t : Rat} {fr : Bool} (h : IsRnd C D H a t fr) (e : Same H H') : IsRnd C D H' a t fr := let ⟨o, dx, b, x, y⟩ := h; ⟨o, dx, b, e _ _ x, y.same e⟩
def spRInit (C D : Addr) : Sp := fun vs H Q _ => ∃ (p dx : Addr) (a : Addr) (t : Rat) (fr : Bool), vs = [.ref p, .ref a, .bl fr] ∧ H p = some (.ins D dx []) ∧ IsRat C H a t ∧ RndOk t fr ∧
  ∀ H', (∀ x o, H x = some o → x ≠ p → H' x = some o) → IsRnd C D H' p t fr → Q .non H'
theorem rmade {C D x dx a : Addr} {t : Rat} {fr : Bool} {H : Hp} {Q : VK} {E : XK} (nx : H x = none) (nd : H dx = none) (ha : IsRat C H a t) (ok : RndOk t fr) (k : ∀ H', Same H H' → IsRnd C D H' x t fr → Q (.ref x) H') :
    spRInit C D [.ref x, .ref a, .bl fr] (upd (upd H dx (.own x)) x (.ins D dx [])) (fun v H2 => v = .non ∧ Q (.ref x) H2) E := by
  refine ⟨x, dx, a, t, fr, rfl, upd_same, ?_, ok, fun H' kp r => ⟨rfl, k H' (Same.made nx nd kp) r⟩⟩
  obtain ⟨da, h⟩ := ha
  exact ⟨da, by rw [upd_ne (ne_of_none h nx), upd_ne (ne_of_none h nd)]; exact h⟩
def spRnd (C D : Addr) (g : Rat → Bool → Rat → Int) : Sp := fun vs H Q _ => ∃ (r : Addr) (v : V) (t : Rat) (fr : Bool) (x : Rat), vs = [.ref r, v] ∧ IsRnd C D H r t fr ∧ Num C H v x ∧ Sz 900 x ∧ ∀ H', Same H H' → Q (.int (g t fr x)) H'
def spStep (C D : Addr) : Sp := fun vs H Q _ => ∃ (r : Addr) (v : V) (t : Rat) (fr : Bool) (x : Rat), vs = [.ref r, v] ∧ IsRnd C D H r t fr ∧ Num C H v x ∧ Sz 900 x ∧ ∀ H', Same H H' → Q (.bl (decide ((x - t).den = 1))) H'
def spPlaces (C D : Addr) : Sp := fun vs H Q _ => ∃ (r : Addr) (n : Int) (t : Rat) (fr : Bool), vs = [.ref r, .int n] ∧ IsRnd C D H r t fr ∧ n.natAbs < 2 ^ 900 ∧
  ∀ (p l h : Addr) (H' : Hp), Same H H' → H' p = some (.tup [.ref l, .bl fr, .ref h, .bl (!fr)]) → IsRat C H' l (t + n - 1) → IsRat C H' h (t + n) → Q (.ref p) H'
section
variable {P : Program} {w : World} {K : PySem.W.Frag} {mg : Str → Option Value} {base : Heap} {d : Ad}
theorem G_is_number (T : Tx K mg d) : FnR P w K mg base CX0 2 d.is_number (spIsNum K d.Ratio) := by
  have G_is_integer : FnR P w K mg base CX0 1 d.is_integer (spIsInt K) := G_is_integer T
  obtain ⟨fd, F⟩ := T.F_is_number
  refine FnR.imp (FnOk.raw (F.ok sc_is_number (k := 1) (sp := spIsNum K d.Ratio) (fun vs H Q E h => ?_) (fun cdv A outer s H vs Q E hr h => ?_)) (F.binds fun _ _ _ _ _ _ us hl => match us, hl with | [_], _ => rfl) .nil) fun vs H Q E h => by rw [List.append_nil]; exact h
  · obtain ⟨x, q, rfl, _⟩ := h
    rfl
  · obtain ⟨v, q, rfl, hv, k⟩ := h
    -- slots: 0 value
    refine ⟨_, (pss_one (ps_ret (pe_or (pe_fnR G_is_integer (hr.mono (by decide)) T.k_is_integer T.m_is_integer pass0 (pa_cons (pv 0) pa_nil)) (pe_one (pe_callB uIsi (by rfl) T.n_isinstance (by decide +kernel) (pa_cons (pv 0) (pa_cons (pe_glob (v := .ref _) rfl T.m_Ratio rfl) pa_nil))))))), ?_⟩
    rcases hv with ⟨i, rfl, rfl⟩ | ⟨a, rfl, dx, ha⟩
    · exact ⟨_, rfl, ⟨_, _, rfl, isI_int T, true, rfl, iteT k⟩⟩
    · exact ⟨_, rfl, ⟨_, _, rfl, isI_rat T ⟨dx, ha⟩, false, rfl, iteF ⟨_, rfl, Or.inl ⟨_, _, _, _, true, rfl, .own _, T.y_Ratio.ty T.c_Ratio ha, T.i_Ratio_is_Ratio, k⟩⟩⟩⟩
theorem G_fraction_of (T : Tx K mg d) : FnR P w K mg base CX0 5 d.fraction_of (spOf d.Ratio) := by
  have G_is_number : FnR P w K mg base CX0 2 d.is_number (spIsNum K d.Ratio) := G_is_number T
  have G_Ratio_of : FnR P w K mg base CX0 4 d.Ratio_of (spOf d.Ratio) := G_Ratio_of T
  obtain ⟨fd, F⟩ := T.F_fraction_of
  refine FnR.imp (FnOk.raw (F.ok sc_fraction_of (k := 4) (sp := spOf d.Ratio) (fun vs H Q E h => ?_) (fun cdv A outer s H vs Q E hr h => ?_)) (F.binds fun _ _ _ _ _ _ us hl => match us, hl with | [_], _ => rfl) .nil) fun vs H Q E h => by rw [List.append_nil]; exact h
  · obtain ⟨v, q, rfl, _⟩ := h
    rfl
  · obtain ⟨v, q, rfl, hv, k⟩ := h
    -- slots: 0 number
    refine ⟨_, (pss_cons (ps_if (pt_not (pt_val (pe_fnR G_is_number (hr.mono (by decide)) T.k_is_number T.m_is_number pass0 (pa_cons (pv 0) pa_nil)))) pss_never pss_nil)
      (pss_one (ps_ret (pe_smeth (pe_glob (v := .ref _) rfl T.m_Ratio rfl) T.s_Ratio_of G_Ratio_of (hr.mono (by decide)) pass0 (pa_cons (pv 0) pa_nil))))), ?_⟩
    refine ⟨_, rfl, ⟨_, q, rfl, hv, true, rfl, iteF ?_⟩⟩
    exact ⟨rfl, _, rfl, ⟨_, q, rfl, hv, k⟩⟩
theorem sz8 {n : Nat} {x : Rat} (h : Sz n x) (e : n ≤ 8000) : Sz 8000 x := h.mono e
def spDrawnAt (C D : Addr) : Sp := fun vs H Q _ => ∃ (r a : Addr) (t : Rat) (fr : Bool) (x : Rat), vs = [.ref r, .ref a] ∧ IsRnd C D H r t fr ∧ IsRat C H a x ∧ Sz 900 x ∧ ∀ H', Same H H' → Q (.int (pix t fr x)) H'
theorem G_Rounding_drawn_at (T : Tx K mg d) : FnR P w K mg base CX0 6 d.Rounding_drawn_at (spDrawnAt d.Ratio d.Rounding) := by
  have G_sub : FnR P w K mg base CX0 5 d.Ratio___sub__ (spBin d.Ratio (· - ·)) := G_Ratio___sub__ T
  have G_Ratio_floor : FnR P w K mg base CX0 1 d.Ratio_floor (spFlo d.Ratio Rat.floor) := G_Ratio_floor T
  have G_Ratio_ceiling : FnR P w K mg base CX0 1 d.Ratio_ceiling (spFlo d.Ratio Rat.ceil) := G_Ratio_ceiling T
  obtain ⟨fd, F⟩ := T.F_Rounding_drawn_at
  refine FnR.imp (FnOk.raw (F.ok sc_Rounding_drawn_at (k := 5) (sp := spDrawnAt d.Ratio d.Rounding) (fun vs H Q E h => ?_) (fun cdv A outer s H vs Q E hr h => ?_)) (F.binds fun _ _ _ _ _ _ us hl => match us, hl with | [_, _], _ => rfl) .nil) fun vs H Q E h => by rw [List.append_nil]; exact h
  · obtain ⟨r, a, t, fr, x, rfl, _⟩ := h
    rfl
  · obtain ⟨r, a, t, fr, x, rfl, ⟨ok, dr, b, hR, hb⟩, ha, zx, k⟩ := h
    -- slots: 0 self, 1 number, 2 place
    refine ⟨_, (pss_cons (ps_set (i := 2) sc_Rounding_drawn_at.nd rfl (Or.inl rfl) (pe_op uSub (pv 1) (pe_fld (pv 0) rfl)))
      (pss_one (ps_ret (pe_ifExp (pt_val (pe_fld (pv 0) rfl)) (pe_op uAdd (pe_mR0 (pv 2) T.c_Ratio T.h_Ratio_floor G_Ratio_floor (hr.mono (by decide)) pass0) pe_int) (pe_mR0 (pv 2) T.c_Ratio T.h_Ratio_ceiling G_Ratio_ceiling (hr.mono (by decide)) pass0))))), ?_⟩
    refine ⟨_, rfl, _, rfl, r, _, dr, _, _, rfl, hR, T.c_Rounding, T.a_Rounding_threshold, rfl, Or.inr (own_bin T.b_Ratio_sub G_sub (hr.mono (by decide)) ha (num_r hb) (zx.mono (by decide)) (ok.sz.mono (by decide)) fun p H1 e1 hp => ?_)⟩
    have zp : Sz 8000 (x - t) := (sz_sub zx ok.sz).mono (by decide)
    obtain ⟨dp, hpp⟩ := id hp
    have hR1 := e1 _ _ hR
    refine ⟨_, rfl, r, _, dr, _, _, rfl, hR1, T.c_Rounding, T.a_Rounding_is_from, rfl, _, rfl, if2 (fun h => ?_) (fun h => ?_)⟩
    · subst h
      exact ⟨_, rfl, p, dp, _, rfl, hpp, rfl, ⟨p, _, rfl, hp, zp, Or.inl ⟨_, _, rfl, rfl, k H1 e1⟩⟩⟩
    · subst h
      exact ⟨_, rfl, p, dp, _, rfl, hpp, rfl, ⟨p, _, rfl, hp, zp, k H1 e1⟩⟩
theorem G_Rounding___call__ (T : Tx K mg d) : FnR P w K mg base CX0 7 d.Rounding___call__ (spRnd d.Ratio d.Rounding pix) := by
  have G_fraction_of : FnR P w K mg base CX0 5 d.fraction_of (spOf d.Ratio) := G_fraction_of T
  have G_Rounding_drawn_at : FnR P w K mg base CX0 6 d.Rounding_drawn_at (spDrawnAt d.Ratio d.Rounding) := G_Rounding_drawn_at T
  obtain ⟨fd, F⟩ := T.F_Rounding___call__
  refine FnR.imp (FnOk.raw (F.ok sc_Rounding___call__ (k := 6) (sp := spRnd d.Ratio d.Rounding pix) (fun vs H Q E h => ?_) (fun cdv A outer s H vs Q E hr h => ?_)) (F.binds fun _ _ _ _ _ _ us hl => match us, hl with | [_, _], _ => rfl) .nil) fun vs H Q E h => by rw [List.append_nil]; exact h
  · obtain ⟨r, v, t, fr, x, rfl, _⟩ := h
    rfl
  · obtain ⟨r, v, t, fr, x, rfl, hR, hv, zx, k⟩ := h
    obtain ⟨ok, dr, b, hr1, hb⟩ := id hR
    -- slots: 0 self, 1 number
    refine ⟨_, (pss_one (ps_ret (pe_mR (pv 0) T.c_Rounding T.h_Rounding_drawn_at G_Rounding_drawn_at (hr.mono (by decide)) pass0 (pa_cons (pe_fnR G_fraction_of (hr.mono (by decide)) T.k_fraction_of T.m_fraction_of pass0 (pa_cons (pv 1) pa_nil)) pa_nil)))), ?_⟩
    refine ⟨_, rfl, r, dr, _, rfl, hr1, rfl, _, rfl, ⟨_, x, rfl, hv, fun p H1 e1 hp => ?_⟩⟩
    exact ⟨r, p, t, fr, x, rfl, hR.same e1, hp, zx, fun H2 e2 => k H2 (e1.trans e2)⟩
theorem G_Rounding_before (T : Tx K mg d) : FnR P w K mg base CX0 7 d.Rounding_before (spRnd d.Ratio d.Rounding fun t _ x => (x - t).ceil) := by
  have G_fraction_of : FnR P w K mg base CX0 5 d.fraction_of (spOf d.Ratio) := G_fraction_of T
  have G_sub : FnR P w K mg base CX0 5 d.Ratio___sub__ (spBin d.Ratio (· - ·)) := G_Ratio___sub__ T
  have G_Ratio_ceiling : FnR P w K mg base CX0 1 d.Ratio_ceiling (spFlo d.Ratio Rat.ceil) := G_Ratio_ceiling T
  obtain ⟨fd, F⟩ := T.F_Rounding_before
  refine FnR.imp (FnOk.raw (F.ok sc_Rounding_before (k := 6) (sp := spRnd d.Ratio d.Rounding fun t _ x => (x - t).ceil) (fun vs H Q E h => ?_) (fun cdv A outer s H vs Q E hr h => ?_)) (F.binds fun _ _ _ _ _ _ us hl => match us, hl with | [_, _], _ => rfl) .nil) fun vs H Q E h => by rw [List.append_nil]; exact h
  · obtain ⟨r, v, t, fr, x, rfl, _⟩ := h
    rfl
  · obtain ⟨r, v, t, fr, x, rfl, hR, hv, zx, k⟩ := h
    -- slots: 0 self, 1 number
    refine ⟨_, (pss_one (ps_ret (pe_mR0 (pe_op uSub (pe_fnR G_fraction_of (hr.mono (by decide)) T.k_fraction_of T.m_fraction_of pass0 (pa_cons (pv 1) pa_nil)) (pe_fld (pv 0) rfl)) T.c_Ratio T.h_Ratio_ceiling G_Ratio_ceiling (hr.mono (by decide)) pass0))), ?_⟩
    refine ⟨_, rfl, ⟨_, x, rfl, hv, fun a H1 e1 ha => ?_⟩⟩
    obtain ⟨ok, dr, b, hr1, hb⟩ := hR.same e1
    refine ⟨_, rfl, r, _, dr, _, _, rfl, hr1, T.c_Rounding, T.a_Rounding_threshold, rfl, Or.inr (own_bin T.b_Ratio_sub G_sub (hr.mono (by decide)) ha (num_r hb) (zx.mono (by decide)) (ok.sz.mono (by decide)) fun p H2 e2 hp => ?_)⟩
    obtain ⟨dp, hpp⟩ := id hp
    exact ⟨p, dp, _, rfl, hpp, rfl, ⟨p, _, rfl, hp, (sz_sub zx ok.sz).mono (by decide), k H2 (e1.trans e2)⟩⟩
theorem G_Rounding_behind (T : Tx K mg d) : FnR P w K mg base CX0 7 d.Rounding_behind (spRnd d.Ratio d.Rounding fun t _ x => (x - t).floor + 1) := by
  have G_fraction_of : FnR P w K mg base CX0 5 d.fraction_of (spOf d.Ratio) := G_fraction_of T
  have G_sub : FnR P w K mg base CX0 5 d.Ratio___sub__ (spBin d.Ratio (· - ·)) := G_Ratio___sub__ T
  have G_Ratio_floor : FnR P w K mg base CX0 1 d.Ratio_floor (spFlo d.Ratio Rat.floor) := G_Ratio_floor T
  obtain ⟨fd, F⟩ := T.F_Rounding_behind
  refine FnR.imp (FnOk.raw (F.ok sc_Rounding_behind (k := 6) (sp := spRnd d.Ratio d.Rounding fun t _ x => (x - t).floor + 1) (fun vs H Q E h => ?_) (fun cdv A outer s H vs Q E hr h => ?_)) (F.binds fun _ _ _ _ _ _ us hl => match us, hl with | [_, _], _ => rfl) .nil) fun vs H Q E h => by rw [List.append_nil]; exact h
  · obtain ⟨r, v, t, fr, x, rfl, _⟩ := h
    rfl
  · obtain ⟨r, v, t, fr, x, rfl, hR, hv, zx, k⟩ := h
    -- slots: 0 self, 1 number
    refine ⟨_, (pss_one (ps_ret (pe_op uAdd (pe_mR0 (pe_op uSub (pe_fnR G_fraction_of (hr.mono (by decide)) T.k_fraction_of T.m_fraction_of pass0 (pa_cons (pv 1) pa_nil)) (pe_fld (pv 0) rfl)) T.c_Ratio T.h_Ratio_floor G_Ratio_floor (hr.mono (by decide)) pass0) pe_int))), ?_⟩
    refine ⟨_, rfl, ⟨_, x, rfl, hv, fun a H1 e1 ha => ?_⟩⟩
    obtain ⟨ok, dr, b, hr1, hb⟩ := hR.same e1
    refine ⟨_, rfl, r, _, dr, _, _, rfl, hr1, T.c_Rounding, T.a_Rounding_threshold, rfl, Or.inr (own_bin T.b_Ratio_sub G_sub (hr.mono (by decide)) ha (num_r hb) (zx.mono (by decide)) (ok.sz.mono (by decide)) fun p H2 e2 hp => ?_)⟩
    obtain ⟨dp, hpp⟩ := id hp
    exact ⟨p, dp, _, rfl, hpp, rfl, ⟨p, _, rfl, hp, (sz_sub zx ok.sz).mono (by decide), Or.inl ⟨_, _, rfl, rfl, k H2 (e1.trans e2)⟩⟩⟩
theorem one_den {x : Rat} : decide (V.int (x.den : Int) = V.int 1) = decide (x.den = 1) := by
  by_cases h : x.den = 1
  · simp [h]
  · have : ¬ (x.den : Int) = 1 := by omega
    simp [h, this]
theorem G_Rounding_is_step (T : Tx K mg d) : FnR P w K mg base CX0 7 d.Rounding_is_step (spStep d.Ratio d.Rounding) := by
  have G_fraction_of : FnR P w K mg base CX0 5 d.fraction_of (spOf d.Ratio) := G_fraction_of T
  have G_sub : FnR P w K mg base CX0 5 d.Ratio___sub__ (spBin d.Ratio (· - ·)) := G_Ratio___sub__ T
  obtain ⟨fd, F⟩ := T.F_Rounding_is_step
  refine FnR.imp (FnOk.raw (F.ok sc_Rounding_is_step (k := 6) (sp := spStep d.Ratio d.Rounding) (fun vs H Q E h => ?_) (fun cdv A outer s H vs Q E hr h => ?_)) (F.binds fun _ _ _ _ _ _ us hl => match us, hl with | [_, _], _ => rfl) .nil) fun vs H Q E h => by rw [List.append_nil]; exact h
  · obtain ⟨r, v, t, fr, x, rfl, _⟩ := h
    rfl
  · obtain ⟨r, v, t, fr, x, rfl, hR, hv, zx, k⟩ := h
    -- slots: 0 self, 1 number
    refine ⟨_, (pss_one (ps_ret (pe_cmpR (uEq hr.units) (pe_fld (pe_op uSub (pe_fnR G_fraction_of (hr.mono (by decide)) T.k_fraction_of T.m_fraction_of pass0 (pa_cons (pv 1) pa_nil)) (pe_fld (pv 0) rfl)) rfl) pe_int (nomark _)))), ?_⟩
    refine ⟨_, rfl, ⟨_, x, rfl, hv, fun a H1 e1 ha => ?_⟩⟩
    obtain ⟨ok, dr, b, hr1, hb⟩ := hR.same e1
    refine ⟨_, rfl, r, _, dr, _, _, rfl, hr1, T.c_Rounding, T.a_Rounding_threshold, rfl, Or.inr (own_bin T.b_Ratio_sub G_sub (hr.mono (by decide)) ha (num_r hb) (zx.mono (by decide)) (ok.sz.mono (by decide)) fun p H2 e2 hp => ?_)⟩
    obtain ⟨dp, hpp⟩ := id hp
    have q := k H2 (e1.trans e2)
    rw [← one_den] at q
    exact ⟨p, _, dp, _, _, rfl, hpp, T.c_Ratio, T.a_Ratio_under, rfl, Or.inl ⟨rfl, q⟩⟩
theorem G_Rounding___init__ (T : Tx K mg d) : FnR P w K mg base CX0 6 d.Rounding___init__ (fun vs H Q E => spRInit d.Ratio d.Rounding vs H Q E ∨ spRInit d.Ratio d.Rounding (vs ++ [.bl true]) H Q E) := by
  obtain ⟨fd, F⟩ := T.D_Rounding___init__
  have G_is_number : FnR P w K mg base CX0 2 d.is_number (spIsNum K d.Ratio) := G_is_number T
  have G_lt : FnR P w K mg base CX0 5 d.Ratio___lt__ (spCmp d.Ratio fun x y => decide (x < y)) := G_Ratio___lt__ T
  have G_gt : FnR P w K mg base CX0 5 d.Ratio___gt__ (spCmp d.Ratio fun x y => decide (x > y)) := G_Ratio___gt__ T
  have G_eq : FnR P w K mg base CX0 2 d.Ratio___eq__ (spCmp d.Ratio fun x y => decide (x = y)) := G_Ratio___eq__ T
  have G_Ratio_of : FnR P w K mg base CX0 4 d.Ratio_of (spOf d.Ratio) := G_Ratio_of T
  have G : FnOk P w K mg base CX0 6 d.Rounding___init__ fd ["self", "threshold", "is_from"] (spRInit d.Ratio d.Rounding) := by
    refine F.ok sc_Rounding___init__ (fun vs H Q E h => ?_) (fun cdv A outer s H vs Q E hr h => ?_)
    · obtain ⟨p, dx, a, t, fr, rfl, _⟩ := h
      rfl
    obtain ⟨p, dx, a, t, fr, rfl, hp, ha, ok, k⟩ := h
    have zt : Sz 2000 t := ok.sz.mono (by decide)
    have z0 : Sz 2000 ((0 : Int) : Rat) := sz_i (by decide) (by decide)
    have z1 : Sz 2000 ((1 : Int) : Rat) := sz_i (by decide) (by decide)
    -- slots: 0 self, 1 threshold, 2 is_from
    refine ⟨_, (pss_cons (ps_if (PW.pt (pw_or (pt_not (pt_val (pe_fnR G_is_number (hr.mono (by decide)) T.k_is_number T.m_is_number pass0 (pa_cons (pv 1) pa_nil)))) (pw_or (pt_cmpR uLt (pv 1) pe_int (nomark _)) (pw_or1 (pt_cmpR uGt (pv 1) pe_int (nomark _)))))) pss_never pss_nil)
      (pss_cons (ps_if (pt_not (pt_val (pe_callB uIsi (by rfl) T.n_isinstance (by decide +kernel) (pa_cons (pv 2) (pa_cons (pe_bltn (v := .ty "bool") (by rfl) T.n_bool (by decide +kernel) rfl) pa_nil))))) pss_never pss_nil)
      (pss_cons (ps_if (pt_cmpR (uEq hr.units) (pv 1) (pe_ifExp (pt_val (pv 2)) pe_int pe_int) (nomark _)) pss_never pss_nil)
      (pss_cons (ps_fld (pv 0) (pe_smeth (pe_glob (v := .ref _) rfl T.m_Ratio rfl) T.s_Ratio_of G_Ratio_of (hr.mono (by decide)) pass0 (pa_cons (pv 1) pa_nil)) rfl)
      (pss_one (ps_fld (pv 0) (pv 2) rfl)))))), ?_⟩
    refine ⟨_, rfl, ⟨_, t, rfl, num_r ha, true, rfl, iteF ?_⟩⟩
    refine ⟨_, rfl, Or.inr (own_cmp T.q_Ratio_lt G_lt (hr.mono (by decide)) ha num_i zt z0 fun H1 e1 => ⟨_, rfl, ifF ?_ ?_⟩)⟩
    · exact decide_eq_false (by have := ok.lo; grind)
    refine ⟨_, rfl, Or.inr (own_cmp T.q_Ratio_gt G_gt (hr.mono (by decide)) (ha.same e1) num_i zt z1 fun H2 e2 => ⟨_, rfl, ifF ?_ ?_⟩)⟩
    · exact decide_eq_false (by have := ok.hi; grind)
    refine ⟨_, rfl, Or.inl ⟨_, _, _, _, true, rfl, .ty _, .base (.bl fr), T.i_bool_is_bool, true, rfl, iteF ?_⟩⟩
    have e12 := e1.trans e2
    have fin : ∀ H3, Same H H3 → ∀ b H4, Same H3 H4 → IsRat d.Ratio H4 b t → H4 p = some (.ins d.Rounding dx []) ∧ Q V.non (upd (upd H4 p (.ins d.Rounding dx [("threshold", .ref b)])) p (.ins d.Rounding dx [("threshold", .ref b), ("is_from", .bl fr)])) := fun H3 e3 b H4 e4 hb => by
      have hp4 : H4 p = some (.ins d.Rounding dx []) := e4 _ _ (e3 _ _ hp)
      obtain ⟨db, hb4⟩ := hb
      have hbp : b ≠ p := ne_of hb4 hp4 (by intro z; injection z with z1 z2 z3; cases z3)
      refine ⟨hp4, k _ (fun z o e n => by rw [upd_ne n, upd_ne n]; exact e4 _ _ (e3 _ _ e)) ⟨ok, dx, b, upd_same, db, by rw [upd_ne hbp, upd_ne hbp]; exact hb4⟩⟩
    refine ⟨_, rfl, _, rfl, _, rfl, if2 (fun hf => ?_) (fun hf => ?_)⟩
    · refine Or.inr (Or.inl (own_cmp T.q_Ratio_eq G_eq (hr.mono (by decide)) (ha.same e12) num_i zt z0 fun H3 e3 => ⟨_, rfl, ifF ?_ ?_⟩))
      · exact decide_eq_false (by have := ok.f hf; grind)
      refine ⟨rfl, _, rfl, ⟨_, t, rfl, num_r ((ha.same e12).same e3), fun b H4 e4 hb => ?_⟩⟩
      obtain ⟨h4, q⟩ := fin H3 (e12.trans e3) b H4 e4 hb
      refine ⟨_, rfl, p, _, dx, _, rfl, h4, T.c_Rounding, T.a_Rounding_threshold, (by show 0 < 1000; decide), ?_⟩
      exact ⟨_, rfl, _, rfl, p, _, dx, _, rfl, upd_same, T.c_Rounding, T.a_Rounding_is_from, (by show 1 < 1000; decide), q⟩
    · refine Or.inr (Or.inl (own_cmp T.q_Ratio_eq G_eq (hr.mono (by decide)) (ha.same e12) num_i zt z1 fun H3 e3 => ⟨_, rfl, ifF ?_ ?_⟩))
      · exact decide_eq_false (by have := ok.a hf; grind)
      refine ⟨rfl, _, rfl, ⟨_, t, rfl, num_r ((ha.same e12).same e3), fun b H4 e4 hb => ?_⟩⟩
      obtain ⟨h4, q⟩ := fin H3 (e12.trans e3) b H4 e4 hb
      refine ⟨_, rfl, p, _, dx, _, rfl, h4, T.c_Rounding, T.a_Rounding_threshold, (by show 0 < 1000; decide), ?_⟩
      exact ⟨_, rfl, _, rfl, p, _, dx, _, rfl, upd_same, T.c_Rounding, T.a_Rounding_is_from, (by show 1 < 1000; decide), q⟩
  obtain ⟨ds0, r0, b0⟩ := F.binds1 (ps := ["self", "threshold", "is_from"]) 3 1 (by simp) rfl fun T kV doc pm an cdv ct us its h1 h2 => match us, its, h1, h2 with
    | [_, _, _], [_], _, _ => ⟨_, rfl, by dsimp only; rfl⟩
  obtain ⟨ds1, r1, b1⟩ := F.binds1 (ps := ["self", "threshold", "is_from"]) 2 0 (by simp) rfl fun T kV doc pm an cdv ct us its h1 h2 => match us, its, h1, h2 with
    | [_, _], [_], _, _ => ⟨_, rfl, by dsimp only; rfl⟩
  exact FnR.or ((FnOk.raw G b0 r0).imp fun vs H Q E h => by rw [show vs ++ List.drop 1 [V.bl true] = vs from List.append_nil vs]; exact h) (FnOk.raw G b1 r1)
end

end AZ
namespace AZ
open PySem L2
/-! ## fractions and roundings, further -/
def spNeg (C : Addr) : Sp := fun vs H Q _ => ∃ a x, vs = [.ref a] ∧ IsRat C H a x ∧ Sz 2000 x ∧ ∀ p H', Same H H' → IsRat C H' p (-x) → Q (.ref p) H'
def spRSub (C : Addr) : Sp := fun vs H Q _ => ∃ (a : Addr) (j : Int) (x : Rat), vs = [.ref a, .int j] ∧ IsRat C H a x ∧ Sz 2000 x ∧ j.natAbs < 2 ^ 2000 ∧ ∀ p H', Same H H' → IsRat C H' p ((j : Rat) - x) → Q (.ref p) H'
def spInv (C D : Addr) : Sp := fun vs H Q _ => ∃ (r : Addr) (t : Rat) (fr : Bool), vs = [.ref r] ∧ IsRnd C D H r t fr ∧ Sz 890 t ∧ ∀ p H', Same H H' → IsRnd C D H' p (1 - t) (!fr) → Q (.ref p) H'
theorem eapp (x : Str) : Str.empty ++ x = x := Str.ext' (by show (#[] : Array _) ++ x.cps = x.cps; simp)
theorem slen (x y : Str) : (x ++ y).length = x.length + y.length := by
  show (x.cps ++ y.cps).size = _
  simp [Str.length]
/-- how a fraction is written -/
def ratS (x : Rat) : Str := if (x.den : Int) = 1 then Str.ofString (toString x.num) else Str.ofString (toString x.num) ++ "/" ++ Str.ofString (toString (x.den : Int))
def spStr (C : Addr) : Sp := fun vs H Q _ => ∃ a x, vs = [.ref a] ∧ IsRat C H a x ∧ Sz 1900 x ∧ Q (.str (ratS x)) H
theorem ratS_len {x : Rat} (zx : Sz 1900 x) : (ratS x).length ≤ 3843 := by
  have zn : x.num.natAbs.log2 < 1920 := Nat.lt_of_lt_of_le (PySem.Flt.log2_lt_of (by decide) zx.1) (by decide)
  have zd : (x.den : Int).natAbs.log2 < 1920 := Nat.lt_of_lt_of_le (PySem.Flt.log2_lt_of (by decide) (szD zx)) (by decide)
  have l1 := PyProof.Rows.int_text_len_1921 zn
  have l2 := PyProof.Rows.int_text_len_1921 zd
  unfold ratS
  split
  · exact Nat.le_trans l1 (by decide)
  · rw [slen, slen]
    exact Nat.add_le_add (Nat.add_le_add l1 (Nat.le_refl 1)) l2
/-- how a rounding is written -/
def rndS (t : Rat) (fr : Bool) : Str := (if fr then ("from " : Str) else "above ") ++ ratS t
def spRStr (C D : Addr) : Sp := fun vs H Q _ => ∃ (r : Addr) (t : Rat) (fr : Bool), vs = [.ref r] ∧ IsRnd C D H r t fr ∧ Q (.str (rndS t fr)) H
def spREq (C D : Addr) : Sp := fun vs H Q _ => ∃ (r q : Addr) (t u : Rat) (fr gr : Bool), vs = [.ref r, .ref q] ∧ IsRnd C D H r t fr ∧ IsRnd C D H q u gr ∧ ∀ H', Same H H' → Q (.bl (decide (t = u) && decide (V.bl fr = V.bl gr))) H'
theorem mirror {t : Rat} {fr : Bool} (h : RndOk t fr) (z : Sz 890 t) : RndOk (1 - t) (!fr) := by
  have h0 := h.lo
  have h1 := h.hi
  refine ⟨(sz_sub (n := 1) (m := 890) ⟨by decide, by decide⟩ z).mono (by decide), by grind, by grind, fun e n => ?_, fun e n => ?_⟩
  · have hf : fr = false := by cases fr <;> simp_all
    exact h.a hf (by grind)
  · have hf : fr = true := by cases fr <;> simp_all
    exact h.f hf (by grind)
section
variable {P : Program} {w : World} {K : PySem.W.Frag} {mg : Str → Option Value} {base : Heap} {d : Ad}
theorem G_Ratio___neg__ (T : Tx K mg d) : FnR P w K mg base CX0 4 d.Ratio___neg__ (spNeg d.Ratio) := by
  have G_Ratio___init__ : FnR P w K mg base CX0 2 d.Ratio___init__ _ := G_Ratio___init__ T
  obtain ⟨fd, F⟩ := T.F_Ratio___neg__
  refine FnR.imp (FnOk.raw (F.ok sc_Ratio___neg__ (k := 3) (sp := spNeg d.Ratio) (fun vs H Q E h => ?_) (fun cdv A outer s H vs Q E hr h => ?_)) (F.binds fun _ _ _ _ _ _ us hl => match us, hl with | [_], _ => rfl) .nil) fun vs H Q E h => by rw [List.append_nil]; exact h
  · obtain ⟨a, x, rfl, _⟩ := h
    rfl
  · obtain ⟨a, x, rfl, ⟨dx, ha⟩, zx, k⟩ := h
    -- slots: 0 self
    refine ⟨_, (pss_one (ps_ret (StX.pe_makeR T.mk_Ratio G_Ratio___init__ (hr.mono (by decide)) rfl T.m_Ratio pass0 (pa_cons (pe_un uNeg (pe_fld (pv 0) rfl)) (pa_cons (pe_fld (pv 0) rfl) pa_nil))))), ?_⟩
    refine ⟨_, rfl, a, _, dx, _, _, rfl, ha, T.c_Ratio, T.a_Ratio_over, rfl, Or.inl ⟨_, rfl, _, rfl, a, _, dx, _, _, rfl, ha, T.c_Ratio, T.a_Ratio_under, rfl, fun p dp np nd ne => Or.inl (made np nd (dne x) (Nat.lt_of_lt_of_le (szD zx) (Nat.pow_le_pow_right (by decide) (by decide))) fun H2 e2 r => k p H2 e2 ?_)⟩⟩
    rw [r_neg] at r
    exact r
theorem G_Ratio___rsub__ (T : Tx K mg d) : FnR P w K mg base CX0 6 d.Ratio___rsub__ (spRSub d.Ratio) := by
  have G_Ratio_of : FnR P w K mg base CX0 4 d.Ratio_of (spOf d.Ratio) := G_Ratio_of T
  have G_sub : FnR P w K mg base CX0 5 d.Ratio___sub__ (spBin d.Ratio (· - ·)) := G_Ratio___sub__ T
  obtain ⟨fd, F⟩ := T.F_Ratio___rsub__
  refine FnR.imp (FnOk.raw (F.ok sc_Ratio___rsub__ (k := 5) (sp := spRSub d.Ratio) (fun vs H Q E h => ?_) (fun cdv A outer s H vs Q E hr h => ?_)) (F.binds fun _ _ _ _ _ _ us hl => match us, hl with | [_, _], _ => rfl) .nil) fun vs H Q E h => by rw [List.append_nil]; exact h
  · obtain ⟨a, j, x, rfl, _⟩ := h
    rfl
  · obtain ⟨a, j, x, rfl, ha, zx, zj, k⟩ := h
    -- slots: 0 self, 1 other
    refine ⟨_, (pss_one (ps_ret (pe_op uSub (pe_smeth (pe_glob (v := .ref _) rfl T.m_Ratio rfl) T.s_Ratio_of G_Ratio_of (hr.mono (by decide)) pass0 (pa_cons (pv 1) pa_nil)) (pv 0)))), ?_⟩
    refine ⟨rfl, _, rfl, ⟨_, (j : Rat), rfl, Or.inl ⟨j, rfl, rfl⟩, fun b H1 e1 hb => ?_⟩⟩
    exact ⟨_, rfl, Or.inr (own_bin T.b_Ratio_sub G_sub (hr.mono (by decide)) hb (num_r (ha.same e1)) (sz_i zj (by decide)) zx fun p H2 e2 hp => k p H2 (e1.trans e2) hp)⟩
theorem G_Rounding___eq__ (T : Tx K mg d) : FnR P w K mg base CX0 3 d.Rounding___eq__ (spREq d.Ratio d.Rounding) := by
  have G_eq : FnR P w K mg base CX0 2 d.Ratio___eq__ (spCmp d.Ratio fun x y => decide (x = y)) := G_Ratio___eq__ T
  obtain ⟨fd, F⟩ := T.F_Rounding___eq__
  refine FnR.imp (FnOk.raw (F.ok sc_Rounding___eq__ (k := 2) (sp := spREq d.Ratio d.Rounding) (fun vs H Q E h => ?_) (fun cdv A outer s H vs Q E hr h => ?_)) (F.binds fun _ _ _ _ _ _ us hl => match us, hl with | [_, _], _ => rfl) .nil) fun vs H Q E h => by rw [List.append_nil]; exact h
  · obtain ⟨r, q, t, u, fr, gr, rfl, _⟩ := h
    rfl
  · obtain ⟨r, q, t, u, fr, gr, rfl, ⟨ok, dr, b, hR, hb⟩, ⟨ok2, dq, c, hQ, hc⟩, k⟩ := h
    -- slots: 0 self, 1 other
    refine ⟨_, (pss_cons (ps_if (pt_not (pt_val (pe_callB uIsi (by rfl) T.n_isinstance (by decide +kernel) (pa_cons (pv 1) (pa_cons (pe_glob (v := .ref _) rfl T.m_Rounding rfl) pa_nil))))) (pss_one (ps_ret pe_bl)) pss_nil)
      (pss_one (ps_ret (pe_and (pe_cmpR (uEq hr.units) (pe_fld (pv 0) rfl) (pe_fld (pv 1) rfl) (nomark _)) (pe_one (pe_cmpR (uEq hr.units) (pe_fld (pv 0) rfl) (pe_fld (pv 1) rfl) (nomark _))))))), ?_⟩
    refine ⟨_, rfl, Or.inl ⟨_, _, _, _, true, rfl, .own _, T.y_Rounding.ty T.c_Rounding hQ, T.i_Rounding_is_Rounding, true, rfl, iteF ?_⟩⟩
    refine ⟨_, rfl, r, _, dr, _, _, rfl, hR, T.c_Rounding, T.a_Rounding_threshold, rfl, _, rfl, q, _, dq, _, _, rfl, hQ, T.c_Rounding, T.a_Rounding_threshold, rfl, Or.inr (Or.inl (own_cmp T.q_Ratio_eq G_eq (hr.mono (by decide)) hb (num_r hc) (ok.sz.mono (by decide)) (ok2.sz.mono (by decide)) fun H1 e1 => ?_))⟩
    have k1 := k H1 e1
    refine ⟨_, rfl, if2 (fun h1 => ?_) (fun h1 => ?_)⟩
    · rw [h1, Bool.true_and] at k1
      exact ⟨_, rfl, r, _, dr, _, _, rfl, (e1 _ _ hR), T.c_Rounding, T.a_Rounding_is_from, rfl, _, rfl, q, _, dq, _, _, rfl, (e1 _ _ hQ), T.c_Rounding, T.a_Rounding_is_from, rfl, Or.inl ⟨rfl, k1⟩⟩
    · rw [h1, Bool.false_and] at k1
      exact k1
theorem G_Rounding___invert__ (T : Tx K mg d) : FnR P w K mg base CX0 8 d.Rounding___invert__ (spInv d.Ratio d.Rounding) := by
  have G_Rounding___init__ : FnR P w K mg base CX0 6 d.Rounding___init__ _ := G_Rounding___init__ T
  have G_rsub : FnR P w K mg base CX0 6 d.Ratio___rsub__ (spRSub d.Ratio) := G_Ratio___rsub__ T
  obtain ⟨fd, F⟩ := T.F_Rounding___invert__
  refine FnR.imp (FnOk.raw (F.ok sc_Rounding___invert__ (k := 7) (sp := spInv d.Ratio d.Rounding) (fun vs H Q E h => ?_) (fun cdv A outer s H vs Q E hr h => ?_)) (F.binds fun _ _ _ _ _ _ us hl => match us, hl with | [_], _ => rfl) .nil) fun vs H Q E h => by rw [List.append_nil]; exact h
  · obtain ⟨r, t, fr, rfl, _⟩ := h
    rfl
  · obtain ⟨r, t, fr, rfl, ⟨ok, dr, b, hR, hb⟩, zt, k⟩ := h
    -- slots: 0 self
    refine ⟨_, (pss_one (ps_ret (StX.pe_makeR T.mk_Rounding G_Rounding___init__ (hr.mono (by decide)) rfl T.m_Rounding pass0 (pa_cons (pe_op uSubR pe_int (pe_fld (pv 0) rfl)) (pa_cons (pe_not (pe_fld (pv 0) rfl)) pa_nil))))), ?_⟩
    obtain ⟨db, hbb⟩ := id hb
    refine ⟨_, rfl, r, _, dr, _, _, rfl, hR, T.c_Rounding, T.a_Rounding_threshold, rfl, Or.inr (Or.inr ⟨1, b, _, _, _, _, _, CX0, 6, _, E0, rfl, rfl, hbb, T.v_Ratio_sub, G_rsub, hr.mono (by decide), pass0, ⟨b, 1, t, rfl, hb, ok.sz.mono (by decide), by decide, fun p H1 e1 hp => ?_⟩⟩)⟩
    have hR1 := e1 _ _ hR
    refine ⟨_, rfl, r, _, dr, _, _, rfl, hR1, T.c_Rounding, T.a_Rounding_is_from, rfl, ?_⟩
    rw [Rat.intCast_one] at hp
    exact ⟨_, rfl, fun x dx nx nd ne => Or.inl (rmade nx nd hp (mirror ok zt) fun H2 e2 R => k x H2 (e1.trans e2) R)⟩
theorem G_Ratio___str__ (T : Tx K mg d) : FnR P w K mg base CX0 2 d.Ratio___str__ (spStr d.Ratio) := by
  obtain ⟨fd, F⟩ := T.F_Ratio___str__
  refine FnR.imp (FnOk.raw (F.ok sc_Ratio___str__ (k := 1) (sp := spStr d.Ratio) (fun vs H Q E h => ?_) (fun cdv A outer s H vs Q E hr h => ?_)) (F.binds fun _ _ _ _ _ _ us hl => match us, hl with | [_], _ => rfl) .nil) fun vs H Q E h => by rw [List.append_nil]; exact h
  · obtain ⟨a, x, rfl, _⟩ := h
    rfl
  · obtain ⟨a, x, rfl, ⟨dx, ha⟩, zx, k⟩ := h
    -- slots: 0 self
    refine ⟨_, (pss_cons (ps_if (pt_cmpR (uEq hr.units) (pe_fld (pv 0) rfl) pe_int (nomark _)) (pss_one (ps_ret (pe_callTy uStr (by rfl) T.n_str (by decide +kernel) (pa_cons (pe_fld (pv 0) rfl) pa_nil)))) pss_nil)
      (pss_one (ps_ret (pe_joined (PJ.cons (pe_fmtU (pe_fld (pv 0) rfl)) (PJ.cons pe_str (PJ.cons (pe_fmtU (pe_fld (pv 0) rfl)) PJ.nil))))))), ?_⟩
    have zn : x.num.natAbs.log2 < 1920 := Nat.lt_of_lt_of_le (PySem.Flt.log2_lt_of (by decide) zx.1) (by decide)
    have zd : (x.den : Int).natAbs.log2 < 1920 := Nat.lt_of_lt_of_le (PySem.Flt.log2_lt_of (by decide) (szD zx)) (by decide)
    refine ⟨_, rfl, a, _, dx, _, _, rfl, ha, T.c_Ratio, T.a_Ratio_under, rfl, Or.inl ⟨rfl, _, rfl, if2 (fun h1 => ?_) (fun h1 => ?_)⟩⟩
    · refine ⟨_, rfl, a, _, dx, _, _, rfl, ha, T.c_Ratio, T.a_Ratio_over, rfl, Or.inl ⟨_, rfl, zn, ?_⟩⟩
      have e : ratS x = Str.ofString (toString x.num) := if_pos (by have := of_decide_eq_true h1; injection this)
      rw [e] at k
      exact k
    · have e : ratS x = Str.ofString (toString x.num) ++ "/" ++ Str.ofString (toString (x.den : Int)) := if_neg (fun n => by have := of_decide_eq_false h1; exact this (by rw [n]))
      have l1 := PyProof.Rows.int_text_len_1921 zn
      have l2 := PyProof.Rows.int_text_len_1921 zd
      have b1 : (Str.empty ++ Str.ofString (toString x.num)).length ≤ 1921 := by rw [slen]; exact Nat.le_trans (Nat.le_of_eq (Nat.zero_add _)) l1
      have b2 : (Str.empty ++ Str.ofString (toString x.num) ++ "/").length ≤ 1922 := by rw [slen]; exact Nat.add_le_add b1 (Nat.le_refl 1)
      have b3 : (Str.empty ++ Str.ofString (toString x.num) ++ "/" ++ Str.ofString (toString (x.den : Int))).length ≤ 3843 := by rw [slen]; exact Nat.add_le_add b2 l2
      have e0 := eapp (Str.ofString (toString x.num))
      refine ⟨_, rfl, a, _, dx, _, _, rfl, ha, T.c_Ratio, T.a_Ratio_over, rfl, Or.inl (Or.inr ⟨_, rfl, zn, _, rfl, Nat.le_trans b1 (by decide), ?_⟩)⟩
      refine ⟨_, rfl, Nat.le_trans b2 (by decide), ?_⟩
      refine ⟨_, rfl, a, _, dx, _, _, rfl, ha, T.c_Ratio, T.a_Ratio_under, rfl, Or.inl (Or.inr ⟨_, rfl, zd, _, rfl, Nat.le_trans b3 (by decide), ?_⟩)⟩
      rw [e] at k
      rw [e0]
      exact k
theorem G_Rounding___str__ (T : Tx K mg d) : FnR P w K mg base CX0 5 d.Rounding___str__ (spRStr d.Ratio d.Rounding) := by
  have G_str : FnR P w K mg base CX0 2 d.Ratio___str__ (spStr d.Ratio) := G_Ratio___str__ T
  obtain ⟨fd, F⟩ := T.F_Rounding___str__
  refine FnR.imp (FnOk.raw (F.ok sc_Rounding___str__ (k := 4) (sp := spRStr d.Ratio d.Rounding) (fun vs H Q E h => ?_) (fun cdv A outer s H vs Q E hr h => ?_)) (F.binds fun _ _ _ _ _ _ us hl => match us, hl with | [_], _ => rfl) .nil) fun vs H Q E h => by rw [List.append_nil]; exact h
  · obtain ⟨r, t, fr, rfl, _⟩ := h
    rfl
  · obtain ⟨r, t, fr, rfl, ⟨ok, dr, b, hR, db, hb⟩, k⟩ := h
    -- slots: 0 self
    refine ⟨_, (pss_cons (ps_if (pt_val (pe_fld (pv 0) rfl)) (pss_one (ps_ret (pe_joined (PJ.cons pe_str (PJ.cons (pe_fmtU (pe_fld (pv 0) rfl)) PJ.nil))))) pss_nil)
      (pss_one (ps_ret (pe_joined (PJ.cons pe_str (PJ.cons (pe_fmtU (pe_fld (pv 0) rfl)) PJ.nil)))))), ?_⟩
    have zt : Sz 1900 t := ok.sz.mono (by decide)
    have lz := ratS_len zt
    have low : ∀ (p : Str) (F : Str → Hp → Prop), p.length ≤ 6 → F (p ++ ratS t) H → ((Str.empty ++ p).length ≤ sizeLine ∧ (Str.empty ++ p ++ ratS t).length ≤ sizeLine ∧ F (Str.empty ++ p ++ ratS t) H) := fun p F hp q => by
      rw [eapp]
      refine ⟨Nat.le_trans hp (by decide), ?_, q⟩
      rw [slen]
      exact Nat.le_trans (Nat.add_le_add hp lz) (by decide)
    refine ⟨_, rfl, r, _, dr, _, _, rfl, hR, T.c_Rounding, T.a_Rounding_is_from, rfl, _, rfl, if2 (fun h => ?_) (fun h => ?_)⟩
    · subst h
      obtain ⟨a1, a2, a3⟩ := low "from " (fun z H' => Q (.str z) H') (by decide) k
      refine ⟨_, rfl, a1, ?_⟩
      exact ⟨_, rfl, r, _, dr, _, _, rfl, hR, T.c_Rounding, T.a_Rounding_threshold, rfl, Or.inr ⟨b, _, db, _, _, CX0, 2, _, E0, rfl, hb, T.t_Ratio, G_str, hr.mono (by decide), pass0, ⟨b, t, rfl, ⟨db, hb⟩, zt, _, rfl, _, rfl, a2, a3⟩⟩⟩
    · subst h
      obtain ⟨a1, a2, a3⟩ := low "above " (fun z H' => Q (.str z) H') (by decide) k
      refine ⟨_, rfl, a1, ?_⟩
      exact ⟨_, rfl, r, _, dr, _, _, rfl, hR, T.c_Rounding, T.a_Rounding_threshold, rfl, Or.inr ⟨b, _, db, _, _, CX0, 2, _, E0, rfl, hb, T.t_Ratio, G_str, hr.mono (by decide), pass0, ⟨b, t, rfl, ⟨db, hb⟩, zt, _, rfl, _, rfl, a2, a3⟩⟩⟩
end

end AZ
namespace AZ
open PySem L2
/-! ## roundings of ints, told ones; more of == and != -/
section
variable {X : Cx} {C D f : Addr} {k : Nat} {H : Hp} {Q : VK} {a : Addr} {v : V} {x y : Rat}
/-- != of a fraction, by its == -/
theorem own_ne (M : NeM X.K C f) (F : FnR X.prog X.w X.K X.mg X.base CX0 k f (spCmp C fun x y => decide (x = y))) (hr : Room (k + 1) X.A) (ha : IsRat C H a x) (hv : Num C H v y) (zx : Sz 2000 x) (zy : Sz 2000 y)
    (q : ∀ H', Same H H' → Q (.bl (!decide (x = y))) H') : rOwnN X (.ref a) v H Q := by
  obtain ⟨dx, h⟩ := id ha
  exact ⟨a, C, dx, _, f, CX0, k, _, E0, rfl, h, hv.right, M, F, hr, pass0, ⟨a, v, x, y, rfl, ha, hv, zx, zy, fun H' e => ⟨_, rfl, q H' e⟩⟩⟩
/-- one number, twice -/
def SameNum (C : Addr) : Addr → V → Hp → Prop := fun a v H => ∃ q, IsRat C H a q ∧ Num C H v q ∧ Sz 2000 q
theorem same_ext {C : Addr} : ∀ (a : Addr) (b : V) (H H' : Hp), Ext H H' → SameNum C a b H → SameNum C a b H' := fun _ _ _ _ e ⟨q, h1, h2, z⟩ => ⟨q, h1.same e, h2.same e, z⟩
theorem eq_same (F : FnR X.prog X.w X.K X.mg X.base CX0 k f (spCmp C fun x y => decide (x = y))) : FnR X.prog X.w X.K X.mg X.base CX0 k f (spEqV (SameNum C)) :=
  F.imp fun vs H Q E ⟨a, y, e, ⟨q, h1, h2, z⟩, k⟩ => ⟨a, y, q, q, e, h1, h2, z, z, fun H' s => by simpa using k H' s⟩
abbrev DNum (C : Addr) : Eqv := fun x y H => DFlat x y H ∨ DOwn C (SameNum C) x y H
theorem mon_num {C : Addr} : Mon (DNum C) := Mon.or mon_flat (mon_own same_ext)
theorem eqG_num (M : CmpM X.K C .Eq f) (F : FnR X.prog X.w X.K X.mg X.base CX0 k f (spCmp C fun x y => decide (x = y))) : EqG X k (DNum C) :=
  (eqG_flat.mono (Nat.zero_le k)).or (eqG_own (eq_same F) M pass0)
theorem dn_b {C : Addr} {b : Bool} {H : Hp} : DNum C (.bl b) (.bl b) H := Or.inl ⟨rfl, rfl, by cases b <;> rfl⟩
theorem dn_r {C a : Addr} {v : V} {q : Rat} {H : Hp} (h : IsRat C H a q) (h2 : Num C H v q) (z : Sz 2000 q) : DNum C (.ref a) v H := by
  obtain ⟨dx, e⟩ := id h
  exact Or.inr ⟨a, dx, _, rfl, e, h2.right, q, h, h2, z⟩
/-- != of roundings -/
theorem rnd_ne {t u : Rat} {fr gr : Bool} {r s : Addr} (M : NeM X.K D f) (F : FnR X.prog X.w X.K X.mg X.base CX0 k f (spREq C D)) (hr : Room (k + 1) X.A) (h1 : IsRnd C D H r t fr) (h2 : IsRnd C D H s u gr)
    (q : ∀ H', Same H H' → Q (.bl (!(decide (t = u) && decide (V.bl fr = V.bl gr)))) H') : rOwnN X (.ref r) (.ref s) H Q := by
  obtain ⟨_, dx, _, h, _⟩ := id h1
  obtain ⟨_, dy, _, h', _⟩ := id h2
  exact ⟨r, D, dx, _, f, CX0, k, _, E0, rfl, h, Or.inr ⟨s, dy, _, rfl, h'⟩, M, F, hr, pass0, ⟨r, s, t, u, fr, gr, rfl, h1, h2, fun H' e => ⟨_, rfl, q H' e⟩⟩⟩
theorem rnd_eq {t u : Rat} {fr gr : Bool} {r s : Addr} (M : CmpM X.K D .Eq f) (F : FnR X.prog X.w X.K X.mg X.base CX0 k f (spREq C D)) (hr : Room k X.A) (h1 : IsRnd C D H r t fr) (h2 : IsRnd C D H s u gr)
    (q : ∀ H', Same H H' → Q (.bl (decide (t = u) && decide (V.bl fr = V.bl gr))) H') : rOwnC X .Eq (.ref r) (.ref s) H Q := by
  obtain ⟨_, dx, _, h, _⟩ := id h1
  obtain ⟨_, dy, _, h', _⟩ := id h2
  exact ⟨r, D, dx, _, f, CX0, k, _, E0, rfl, h, Or.inr ⟨s, dy, _, rfl, h'⟩, M, F, hr, pass0, ⟨r, s, t, u, fr, gr, rfl, h1, h2, fun H' e => q H' e⟩⟩
end
theorem rmade' {C D x dx a : Addr} {t : Rat} {fr : Bool} {H : Hp} {W : VK} {E : XK} (nx : H x = none) (nd : H dx = none) (ha : IsRat C H a t) (ok : RndOk t fr) (k : ∀ H', Same H H' → IsRnd C D H' x t fr → W .non H') :
    spRInit C D [.ref x, .ref a, .bl fr] (upd (upd H dx (.own x)) x (.ins D dx [])) W E := by
  refine ⟨x, dx, a, t, fr, rfl, upd_same, ?_, ok, fun H' kp r => k H' (Same.made nx nd kp) r⟩
  obtain ⟨da, h⟩ := ha
  exact ⟨da, by rw [upd_ne (ne_of_none h nx), upd_ne (ne_of_none h nd)]; exact h⟩
def spRInitI (C D : Addr) : Sp := fun vs H Q _ => ∃ (p dx : Addr) (j : Int) (fr : Bool), vs = [.ref p, .int j, .bl fr] ∧ H p = some (.ins D dx []) ∧ RndOk (j : Rat) fr ∧
  ∀ H', (∀ x o, H x = some o → x ≠ p → H' x = some o) → IsRnd C D H' p (j : Rat) fr → Q .non H'
theorem rmadeI {C D x dx : Addr} {j : Int} {fr : Bool} {H : Hp} {Q : VK} {E : XK} (nx : H x = none) (nd : H dx = none) (ok : RndOk (j : Rat) fr) (k : ∀ H', Same H H' → IsRnd C D H' x (j : Rat) fr → Q (.ref x) H') :
    spRInitI C D [.ref x, .int j, .bl fr] (upd (upd H dx (.own x)) x (.ins D dx [])) (fun v H2 => v = .non ∧ Q (.ref x) H2) E :=
  ⟨x, dx, j, fr, rfl, upd_same, ok, fun H' kp r => ⟨rfl, k H' (Same.made nx nd kp) r⟩⟩
def spStat (C D : Addr) (t : Rat) (fr : Bool) : Sp := fun vs H Q _ => vs = [] ∧ ∀ r H', Same H H' → IsRnd C D H' r t fr → Q (.ref r) H'
theorem rnd_down : RndOk ((1 : Int) : Rat) true := ⟨⟨by decide +kernel, by decide +kernel⟩, by decide +kernel, by decide +kernel, by decide +kernel, by decide +kernel⟩
theorem rnd_up : RndOk ((0 : Int) : Rat) false := ⟨⟨by decide +kernel, by decide +kernel⟩, by decide +kernel, by decide +kernel, by decide +kernel, by decide +kernel⟩
theorem rnd_half : RndOk (Rat.divInt 1 2) true := ⟨⟨by decide +kernel, by decide +kernel⟩, by decide +kernel, by decide +kernel, by decide +kernel, by decide +kernel⟩
section
variable {P : Program} {w : World} {K : PySem.W.Frag} {mg : Str → Option Value} {base : Heap} {d : Ad}
theorem G_Rounding___init__I (T : Tx K mg d) : FnR P w K mg base CX0 6 d.Rounding___init__ (fun vs H Q E => spRInitI d.Ratio d.Rounding vs H Q E ∨ spRInitI d.Ratio d.Rounding (vs ++ [.bl true]) H Q E) := by
  obtain ⟨fd, F⟩ := T.D_Rounding___init__
  have G_is_number : FnR P w K mg base CX0 2 d.is_number (spIsNum K d.Ratio) := G_is_number T
  have G_Ratio_of : FnR P w K mg base CX0 4 d.Ratio_of (spOf d.Ratio) := G_Ratio_of T
  have G : FnOk P w K mg base CX0 6 d.Rounding___init__ fd ["self", "threshold", "is_from"] (spRInitI d.Ratio d.Rounding) := by
    refine F.ok sc_Rounding___init__ (fun vs H Q E h => ?_) (fun cdv A outer s H vs Q E hr h => ?_)
    · obtain ⟨p, dx, j, fr, rfl, _⟩ := h
      rfl
    obtain ⟨p, dx, j, fr, rfl, hp, ok, k⟩ := h
    have j0 : 0 ≤ j := by have := ok.lo; rw [← Rat.intCast_zero] at this; exact Rat.intCast_le_intCast.mp this
    have j1 : j ≤ 1 := by have := ok.hi; rw [← Rat.intCast_one] at this; exact Rat.intCast_le_intCast.mp this
    -- slots: 0 self, 1 threshold, 2 is_from
    refine ⟨_, (pss_cons (ps_if (PW.pt (pw_or (pt_not (pt_val (pe_fnR G_is_number (hr.mono (by decide)) T.k_is_number T.m_is_number pass0 (pa_cons (pv 1) pa_nil)))) (pw_or (pt_cmpR uLt (pv 1) pe_int (nomark _)) (pw_or1 (pt_cmpR uGt (pv 1) pe_int (nomark _)))))) pss_never pss_nil)
      (pss_cons (ps_if (pt_not (pt_val (pe_callB uIsi (by rfl) T.n_isinstance (by decide +kernel) (pa_cons (pv 2) (pa_cons (pe_bltn (v := .ty "bool") (by rfl) T.n_bool (by decide +kernel) rfl) pa_nil))))) pss_never pss_nil)
      (pss_cons (ps_if (pt_cmpR (uEq hr.units) (pv 1) (pe_ifExp (pt_val (pv 2)) pe_int pe_int) (nomark _)) pss_never pss_nil)
      (pss_cons (ps_fld (pv 0) (pe_smeth (pe_glob (v := .ref _) rfl T.m_Ratio rfl) T.s_Ratio_of G_Ratio_of (hr.mono (by decide)) pass0 (pa_cons (pv 1) pa_nil)) rfl)
      (pss_one (ps_fld (pv 0) (pv 2) rfl)))))), ?_⟩
    refine ⟨_, rfl, ⟨_, (j : Rat), rfl, num_i, true, rfl, iteF ?_⟩⟩
    refine ⟨_, rfl, Or.inl ⟨_, _, rfl, rfl, _, rfl, ifF (decide_eq_false (by omega)) ?_⟩⟩
    refine ⟨_, rfl, Or.inl ⟨_, _, rfl, rfl, _, rfl, ifF (decide_eq_false (by omega)) ?_⟩⟩
    refine ⟨_, rfl, Or.inl ⟨_, _, _, _, true, rfl, .ty _, .base (.bl fr), T.i_bool_is_bool, true, rfl, iteF ?_⟩⟩
    have fin : ∀ b H4, Same H H4 → IsRat d.Ratio H4 b (j : Rat) → H4 p = some (.ins d.Rounding dx []) ∧ Q V.non (upd (upd H4 p (.ins d.Rounding dx [("threshold", .ref b)])) p (.ins d.Rounding dx [("threshold", .ref b), ("is_from", .bl fr)])) := fun b H4 e4 hb => by
      have hp4 : H4 p = some (.ins d.Rounding dx []) := e4 _ _ hp
      obtain ⟨db, hb4⟩ := hb
      have hbp : b ≠ p := ne_of hb4 hp4 (by intro z; injection z with z1 z2 z3; cases z3)
      refine ⟨hp4, k _ (fun z o e n => by rw [upd_ne n, upd_ne n]; exact e4 _ _ e) ⟨ok, dx, b, upd_same, db, by rw [upd_ne hbp, upd_ne hbp]; exact hb4⟩⟩
    refine ⟨_, rfl, _, rfl, _, rfl, if2 (fun hf => ?_) (fun hf => ?_)⟩
    · have n0 : j ≠ 0 := fun e => ok.f hf (by rw [e]; rfl)
      refine Or.inl ⟨rfl, _, rfl, ifF (by simp [n0]) ?_⟩
      refine ⟨rfl, _, rfl, ⟨_, (j : Rat), rfl, num_i, fun b H4 e4 hb => ?_⟩⟩
      obtain ⟨h4, q⟩ := fin b H4 e4 hb
      refine ⟨_, rfl, p, _, dx, _, rfl, h4, T.c_Rounding, T.a_Rounding_threshold, (by show 0 < 1000; decide), ?_⟩
      exact ⟨_, rfl, _, rfl, p, _, dx, _, rfl, upd_same, T.c_Rounding, T.a_Rounding_is_from, (by show 1 < 1000; decide), q⟩
    · have n1 : j ≠ 1 := fun e => ok.a hf (by rw [e]; rfl)
      refine Or.inl ⟨rfl, _, rfl, ifF (by simp [n1]) ?_⟩
      refine ⟨rfl, _, rfl, ⟨_, (j : Rat), rfl, num_i, fun b H4 e4 hb => ?_⟩⟩
      obtain ⟨h4, q⟩ := fin b H4 e4 hb
      refine ⟨_, rfl, p, _, dx, _, rfl, h4, T.c_Rounding, T.a_Rounding_threshold, (by show 0 < 1000; decide), ?_⟩
      exact ⟨_, rfl, _, rfl, p, _, dx, _, rfl, upd_same, T.c_Rounding, T.a_Rounding_is_from, (by show 1 < 1000; decide), q⟩
  obtain ⟨ds0, r0, b0⟩ := F.binds1 (ps := ["self", "threshold", "is_from"]) 3 1 (by simp) rfl fun T kV doc pm an cdv ct us its h1 h2 => match us, its, h1, h2 with
    | [_, _, _], [_], _, _ => ⟨_, rfl, by dsimp only; rfl⟩
  obtain ⟨ds1, r1, b1⟩ := F.binds1 (ps := ["self", "threshold", "is_from"]) 2 0 (by simp) rfl fun T kV doc pm an cdv ct us its h1 h2 => match us, its, h1, h2 with
    | [_, _], [_], _, _ => ⟨_, rfl, by dsimp only; rfl⟩
  exact FnR.or ((FnOk.raw G b0 r0).imp fun vs H Q E h => by rw [show vs ++ List.drop 1 [V.bl true] = vs from List.append_nil vs]; exact h) (FnOk.raw G b1 r1)
theorem G_Rounding_all_down (T : Tx K mg d) : FnR P w K mg base CX0 8 d.Rounding_all_down (spStat d.Ratio d.Rounding ((1 : Int) : Rat) true) := by
  have G_Rounding___init__ : FnR P w K mg base CX0 6 d.Rounding___init__ _ := G_Rounding___init__I T
  obtain ⟨fd, F⟩ := T.F_Rounding_all_down
  refine FnR.imp (FnOk.raw (F.ok sc_Rounding_all_down (k := 7) (sp := spStat d.Ratio d.Rounding ((1 : Int) : Rat) true) (fun vs H Q E h => ?_) (fun cdv A outer s H vs Q E hr h => ?_)) (F.binds fun _ _ _ _ _ _ us hl => match us, hl with | [], _ => rfl) .nil) fun vs H Q E h => by rw [List.append_nil]; exact h
  · obtain ⟨rfl, _⟩ := h
    rfl
  · obtain ⟨rfl, k⟩ := h
    -- slots: 
    refine ⟨_, (pss_one (ps_ret (StX.pe_makeR T.mk_Rounding G_Rounding___init__ (hr.mono (by decide)) rfl T.m_Rounding pass0 (pa_cons pe_int pa_nil)))), ?_⟩
    exact fun x dx nx nd ne => Or.inr (rmadeI nx nd rnd_down fun H2 e2 R => k x H2 e2 R)
theorem G_Rounding_all_up (T : Tx K mg d) : FnR P w K mg base CX0 8 d.Rounding_all_up (spStat d.Ratio d.Rounding ((0 : Int) : Rat) false) := by
  have G_Rounding___init__ : FnR P w K mg base CX0 6 d.Rounding___init__ _ := G_Rounding___init__I T
  obtain ⟨fd, F⟩ := T.F_Rounding_all_up
  refine FnR.imp (FnOk.raw (F.ok sc_Rounding_all_up (k := 7) (sp := spStat d.Ratio d.Rounding ((0 : Int) : Rat) false) (fun vs H Q E h => ?_) (fun cdv A outer s H vs Q E hr h => ?_)) (F.binds fun _ _ _ _ _ _ us hl => match us, hl with | [], _ => rfl) .nil) fun vs H Q E h => by rw [List.append_nil]; exact h
  · obtain ⟨rfl, _⟩ := h
    rfl
  · obtain ⟨rfl, k⟩ := h
    -- slots: 
    refine ⟨_, (pss_one (ps_ret (StX.pe_makeR T.mk_Rounding G_Rounding___init__ (hr.mono (by decide)) rfl T.m_Rounding pass0 (pa_cons pe_int (pa_cons pe_bl pa_nil))))), ?_⟩
    exact fun x dx nx nd ne => Or.inl (rmadeI nx nd rnd_up fun H2 e2 R => k x H2 e2 R)
theorem G_Rounding_half_up (T : Tx K mg d) : FnR P w K mg base CX0 8 d.Rounding_half_up (spStat d.Ratio d.Rounding (Rat.divInt 1 2) true) := by
  have G_Ratio___init__ : FnR P w K mg base CX0 2 d.Ratio___init__ _ := G_Ratio___init__ T
  have G_Rounding___init__ : FnR P w K mg base CX0 6 d.Rounding___init__ _ := G_Rounding___init__ T
  obtain ⟨fd, F⟩ := T.F_Rounding_half_up
  refine FnR.imp (FnOk.raw (F.ok sc_Rounding_half_up (k := 7) (sp := spStat d.Ratio d.Rounding (Rat.divInt 1 2) true) (fun vs H Q E h => ?_) (fun cdv A outer s H vs Q E hr h => ?_)) (F.binds fun _ _ _ _ _ _ us hl => match us, hl with | [], _ => rfl) .nil) fun vs H Q E h => by rw [List.append_nil]; exact h
  · obtain ⟨rfl, _⟩ := h
    rfl
  · obtain ⟨rfl, k⟩ := h
    -- slots: 
    refine ⟨_, (pss_one (ps_ret (StX.pe_makeR T.mk_Rounding G_Rounding___init__ (hr.mono (by decide)) rfl T.m_Rounding pass0 (pa_cons (StX.pe_makeR T.mk_Ratio G_Ratio___init__ (hr.mono (by decide)) rfl T.m_Ratio pass0 (pa_cons pe_int (pa_cons pe_int pa_nil))) pa_nil)))), ?_⟩
    refine fun p dp np nd ne => Or.inl (made' np nd (by decide) (by decide) fun H1 e1 hp => ⟨rfl, ?_⟩)
    exact fun x dx nx nd ne => Or.inr (rmade nx nd hp rnd_half fun H2 e2 R => k x H2 (e1.trans e2) R)
end

end AZ
namespace AZ
open PySem L2
/-! ## the law's own reckoning -/
def spFrac : Sp := fun vs H Q _ => ∃ (a b : Int), vs = [.int a, .int b] ∧ b ≠ 0 ∧ a.natAbs < 2 ^ 2000 ∧ b.natAbs < 2 ^ 2000 ∧
  ∀ p H', Same H H' → H' p = some (.tup [.int (Rat.divInt a b).num, .int ((Rat.divInt a b).den : Int)]) → Q (.ref p) H'
theorem fr_num {a b : Int} (hb : b ≠ 0) : ((if 0 < b then 1 else -1) * a).fdiv ((Nat.gcd a.natAbs b.natAbs : Nat) : Int) = (Rat.divInt a b).num := by
  have hg : ((Nat.gcd a.natAbs b.natAbs : Nat) : Int) = (Int.gcd a b : Int) := rfl
  rw [num_di a b hb, hg]
  by_cases h : 0 < b
  · rw [if_pos h, if_neg (by omega), Int.one_mul]
  · rw [if_neg h, if_pos (by omega), show -1 * a = -a by omega, ← Int.neg_fdiv_neg, Int.neg_neg]
theorem fr_den {a b : Int} (hb : b ≠ 0) : ((if 0 < b then 1 else -1) * b).fdiv ((Nat.gcd a.natAbs b.natAbs : Nat) : Int) = ((Rat.divInt a b).den : Int) := by
  have hg : ((Nat.gcd a.natAbs b.natAbs : Nat) : Int) = (Int.gcd a b : Int) := rfl
  rw [den_di a b hb, hg]
  by_cases h : 0 < b
  · rw [if_pos h, if_neg (by omega), Int.one_mul]
  · rw [if_neg h, if_pos (by omega), show -1 * b = -b by omega, ← Int.neg_fdiv_neg, Int.neg_neg]
theorem absI (a : Int) : (if a < 0 then -a else a) = (a.natAbs : Int) := by split <;> omega
def meas (i : Nat) (σ : St) : Nat := match σ[i]? with
  | some (some (V.int j)) => j.toNat
  | _ => 0
section
variable {P : Program} {w : World} {K : PySem.W.Frag} {mg : Str → Option Value} {base : Heap} {d : Ad}
theorem G__law_frac (T : Tx K mg d) : FnR P w K mg base CX0 1 d._law_frac spFrac := by
  obtain ⟨fd, F⟩ := T.F__law_frac
  refine FnR.imp (FnOk.raw (F.ok sc__law_frac (k := 0) (sp := spFrac) (fun vs H Q E h => ?_) (fun cdv A outer s H vs Q E hr h => ?_)) (F.binds fun _ _ _ _ _ _ us hl => match us, hl with | [_, _], _ => rfl) .nil) fun vs H Q E h => by rw [List.append_nil]; exact h
  · obtain ⟨a, b, rfl, _⟩ := h
    rfl
  · obtain ⟨a, b, rfl, hb, za, zb, k⟩ := h
    -- slots: 0 _law_over, 1 _law_under, 2 _law_one, 3 _law_other, 4 _law_sign
    refine ⟨_, (pss_cons (ps_par (i := 2) (j := 3) (by rfl) sc__law_frac.nd rfl rfl (by decide) rfl rfl (pa_cons (pe_callB call_abs (by rfl) T.n_abs (by decide +kernel) (pa_cons (pv 0) pa_nil)) (pa_cons (pe_callB call_abs (by rfl) T.n_abs (by decide +kernel) (pa_cons (pv 1) pa_nil)) pa_nil)) (by rfl))
      (pss_cons (ps_while PassesOwn.never (pt_cmpR (uNe hr.units) (pv 3) pe_int (nomark _)) (pss_one (ps_par (i := 2) (j := 3) (by rfl) sc__law_frac.nd rfl rfl (by decide) rfl rfl (pa_cons (pv 3) (pa_cons (pe_op uMod (pe_callTy call_int1 (by rfl) T.n_int (by decide +kernel) (pa_cons (pv 2) pa_nil)) (pv 3)) pa_nil)) (by rfl))))
      (pss_cons (ps_set (i := 4) sc__law_frac.nd rfl (Or.inl rfl) (pe_ifExp (pt_cmpR uGt (pv 1) pe_int (nomark _)) pe_int (pe_un uNeg pe_int)))
      (pss_one (ps_ret (pe_ifExp (pt_cmpR uGt (pv 2) pe_int (nomark _)) (pe_tup (pa_cons (pe_op uDiv (pe_op uMul (pv 4) (pv 0)) (pv 2)) (pa_cons (pe_op uDiv (pe_op uMul (pv 4) (pv 1)) (pv 2)) pa_nil))) (pe_tup (pa_cons pe_int (pa_cons pe_int pa_nil))))))))), ?_⟩
    refine ⟨_, rfl, ⟨_, rfl, ⟨_, rfl, ⟨_, rfl, ⟨_, _, rfl, ?_⟩⟩⟩⟩⟩
    refine while_by (fun σ H' => ∃ m n : Nat, σ = [some (.int a), some (.int b), some (.int (m : Int)), some (.int (n : Int)), none] ∧ Nat.gcd m n = Nat.gcd a.natAbs b.natAbs ∧ H' = H)
      (fun σ _ => meas 3 σ) ⟨a.natAbs, b.natAbs, by simp only [absI]; rfl, rfl, rfl⟩ ?_ ?_
    · rintro σ H' ⟨m, n, rfl, hg, rfl⟩
      refine ⟨_, rfl, Or.inl ⟨rfl, _, rfl, if2 (fun h => ?_) (fun h => ?_)⟩⟩
      · have hn : n ≠ 0 := by
          intro z; subst z; simp at h
        refine ⟨_, rfl, ⟨_, rfl, Or.inl ⟨_, rfl, ⟨_, rfl, Or.inl ⟨_, _, rfl, rfl, nz (by omega), ⟨_, _, rfl, ?_⟩⟩⟩⟩⟩⟩
        have hm : (m : Int).fmod (n : Int) = ((m % n : Nat) : Int) := by
          rw [Int.fmod_eq_emod_of_nonneg _ (by omega)]; rfl
        refine ⟨⟨n, m % n, by simp only [hm]; rfl, ?_, rfl⟩, ?_⟩
        · rw [← hg, Nat.gcd_comm n, ← Nat.gcd_rec, Nat.gcd_comm]
        · show ((m : Int).fmod (n : Int)).toNat < (n : Int).toNat
          rw [hm]
          have := Nat.mod_lt m (Nat.pos_of_ne_zero hn)
          omega
      · have hn : n = 0 := by
          simp at h; omega
        subst hn
        rw [Nat.gcd_zero_right] at hg
        subst hg
        have g0 : 0 < Nat.gcd a.natAbs b.natAbs := gcd_pos a b hb
        have g1 : Nat.gcd a.natAbs b.natAbs ≤ b.natAbs := gcd_le a b hb
        have e1 := fr_num (a := a) hb
        have e2 := fr_den (a := a) hb
        have dz : ∀ i : Int, CDivZ i ((Nat.gcd a.natAbs b.natAbs : Nat) : Int) := fun i => divZ (b := 2000) (by omega) (Nat.lt_of_le_of_lt g1 zb) (by decide) (by decide)
        generalize Nat.gcd a.natAbs b.natAbs = g at g0 e1 e2 dz
        have fin : ∀ p, H' p = none → ∀ x y : Int, x = (Rat.divInt a b).num → y = ((Rat.divInt a b).den : Int) → Q (.ref p) (upd H' p (.tup [.int x, .int y])) := fun p hp x y ex ey => by
          refine k p _ (fun z o e => by rw [upd_ne (ne_of_none e hp)]; exact e) ?_
          rw [upd_same, ex, ey]
        refine ⟨_, rfl, Or.inl ⟨_, _, rfl, rfl, _, rfl, if2 (fun h => ?_) (fun h => ?_)⟩⟩
        · have h' : 0 < b := of_decide_eq_true h
          rw [if_pos h'] at e1 e2
          refine ⟨_, rfl, Or.inl ⟨_, _, rfl, rfl, _, rfl, ifT (decide_eq_true (by omega)) ?_⟩⟩
          exact ⟨_, rfl, _, rfl, Or.inl ⟨_, _, rfl, rfl, mulL (by decide), _, rfl, Or.inl ⟨_, _, rfl, rfl, dz _, _, rfl, _, rfl, Or.inl ⟨_, _, rfl, rfl, mulL (by decide), _, rfl, Or.inl ⟨_, _, rfl, rfl, dz _, (by show 2 ≤ sizeLine; decide), fun p hp => fin p hp _ _ e1 e2⟩⟩⟩⟩⟩
        · have h' : ¬ 0 < b := of_decide_eq_false h
          rw [if_neg h'] at e1 e2
          refine Or.inl ⟨_, rfl, ?_⟩
          refine ⟨_, rfl, Or.inl ⟨_, _, rfl, rfl, _, rfl, ifT (decide_eq_true (by omega)) ?_⟩⟩
          exact ⟨_, rfl, _, rfl, Or.inl ⟨_, _, rfl, rfl, mulL (by decide), _, rfl, Or.inl ⟨_, _, rfl, rfl, dz _, _, rfl, _, rfl, Or.inl ⟨_, _, rfl, rfl, mulL (by decide), _, rfl, Or.inl ⟨_, _, rfl, rfl, dz _, (by show 2 ≤ sizeLine; decide), fun p hp => fin p hp _ _ e1 e2⟩⟩⟩⟩⟩
    · rintro σ H' Q Q' hq ⟨v, e, q⟩
      refine ⟨v, e, ?_⟩
      rcases q with ⟨s, c, e2, z⟩ | ⟨d, e, h1, h2, h3, h4, c, e2, z⟩
      · exact Or.inl ⟨s, c, e2, hq _ _ z⟩
      · exact Or.inr ⟨d, e, h1, h2, h3, h4, c, e2, hq _ _ z⟩
/-- a tuple of the lowest terms of q -/
def PairAt (H : Hp) (v : V) (q : Rat) : Prop := ∃ a, v = .ref a ∧ H a = some (.tup [.int q.num, .int (q.den : Int)])
def kinds : List (List V) := [[.int 1, .int 2, .bl true], [.int 1, .int 2, .bl true], [.int 1, .int 2, .bl false], [.int 1, .int 1, .bl true], [.int 0, .int 1, .bl false], [.int 1, .int 3, .bl true], [.int 2, .int 3, .bl false], [.int 1, .int 4, .bl false]]
def kinds2 : List (List V) := [[.int 3, .int 5, .bl true], [.int 0, .int 1, .bl false], [.int 1, .int 1, .bl true], [.int 1, .int 2, .bl true]]
def spKind : Sp := fun vs H Q _ => ∃ (p : Addr) (n : Nat), vs = [.ref p] ∧ PenAt H p n ∧ n < 90000 ∧ ∀ x a c H', x = .ref a → H' a = some (.tup c) → c ∈ kinds ++ kinds2 → PenAt H' p (n + 1) → Up p H H' → Q x H'
theorem PenAt.up {H H' : Hp} {p : Addr} {n : Nat} (h : PenAt H p n) (e : Same H H') : PenAt H' p n := by
  obtain ⟨l, ns, s, g, a, b, c, r⟩ := h
  exact ⟨l, ns, s, g, a, e _ _ b, e _ _ c, r⟩
theorem PenAt.mono {H : Hp} {p : Addr} {n m : Nat} (h : PenAt H p n) (e : n ≤ m) : PenAt H p m := by
  obtain ⟨l, ns, s, g, a, b, c, r, r2, r3⟩ := h
  exact ⟨l, ns, s, g, a, b, c, r, r2, by omega⟩
theorem PenAt.some {H : Hp} {p : Addr} {n : Nat} (h : PenAt H p n) : ∃ o, H p = some o := by
  obtain ⟨l, ns, s, g, a, b, _⟩ := h
  exact ⟨_, b⟩
theorem G__law_kind (T : Tx K mg d) : FnR P w K mg base CX0 3 d._law_kind spKind := by
  have G__law_pick : FnR P w K mg base CX0 2 d._law_pick spPick := G__law_pick T
  obtain ⟨fd, F⟩ := T.F__law_kind
  refine FnR.imp (FnOk.raw (F.ok sc__law_kind (k := 2) (sp := spKind) (fun vs H Q E h => ?_) (fun cdv A outer s H vs Q E hr h => ?_)) (F.binds fun _ _ _ _ _ _ us hl => match us, hl with | [_], _ => rfl) .nil) fun vs H Q E h => by rw [List.append_nil]; exact h
  · obtain ⟨p, n, rfl, _⟩ := h
    rfl
  · obtain ⟨p, n, rfl, hp, hn, k⟩ := h
    -- slots: 0 _law_pen_here, 1 _law_some
    refine ⟨_, (pss_cons (ps_set (i := 1) sc__law_kind.nd rfl (Or.inl rfl) (pe_lst (pa_cons (pe_tup (pa_cons pe_int (pa_cons pe_int (pa_cons pe_bl pa_nil)))) (pa_cons (pe_tup (pa_cons pe_int (pa_cons pe_int (pa_cons pe_bl pa_nil)))) (pa_cons (pe_tup (pa_cons pe_int (pa_cons pe_int (pa_cons pe_bl pa_nil)))) (pa_cons (pe_tup (pa_cons pe_int (pa_cons pe_int (pa_cons pe_bl pa_nil)))) (pa_cons (pe_tup (pa_cons pe_int (pa_cons pe_int (pa_cons pe_bl pa_nil)))) (pa_cons (pe_tup (pa_cons pe_int (pa_cons pe_int (pa_cons pe_bl pa_nil)))) (pa_cons (pe_tup (pa_cons pe_int (pa_cons pe_int (pa_cons pe_bl pa_nil)))) (pa_cons (pe_tup (pa_cons pe_int (pa_cons pe_int (pa_cons pe_bl pa_nil)))) pa_nil))))))))))
      (pss_one (ps_ret (pe_fnR G__law_pick (hr.mono (by decide)) T.k__law_pick T.m__law_pick pass0 (pa_cons (pv 0) (pa_cons (pe_op uAdd (pv 1) (pe_lst (pa_cons (pe_tup (pa_cons pe_int (pa_cons pe_int (pa_cons pe_bl pa_nil)))) (pa_cons (pe_tup (pa_cons pe_int (pa_cons pe_int (pa_cons pe_bl pa_nil)))) (pa_cons (pe_tup (pa_cons pe_int (pa_cons pe_int (pa_cons pe_bl pa_nil)))) (pa_cons (pe_tup (pa_cons pe_int (pa_cons pe_int (pa_cons pe_bl pa_nil)))) pa_nil)))))) pa_nil)))))), ?_⟩
    refine go_sa ?_
    refine lMenu_ok (cs := kinds) (by decide) (by decide) fun ps H1 a e1 pr1 ha => ?_
    refine ⟨_, rfl, _, rfl, ?_⟩
    refine lMenu_ok (cs := kinds2) (by decide) (by decide) fun qs H2 b e2 pr2 hb => ?_
    have s1 : Same H1 (upd H1 a (.lst (ps.map V.ref))) := fun z o e => by rw [upd_ne (ne_of_none e ha)]; exact e
    have s2 : Same H2 (upd H2 b (.lst (qs.map V.ref))) := fun z o e => by rw [upd_ne (ne_of_none e hb)]; exact e
    have l1 : upd H2 b (.lst (qs.map V.ref)) a = some (.lst (ps.map V.ref)) := s2 _ _ (e2 _ _ upd_same)
    refine Or.inr (Or.inr (Or.inl ⟨a, b, _, _, rfl, rfl, l1, upd_same, ?_, fun c hc => ?_⟩))
    · rw [List.length_map, List.length_map, pr1.length, pr2.length]; decide
    have s3 : Same H (upd (upd H2 b (.lst (qs.map V.ref))) c (.lst (ps.map V.ref ++ qs.map V.ref))) := ((e1.trans s1).trans (e2.trans s2)).trans fun z o e => by rw [upd_ne (ne_of_none e hc)]; exact e
    have hp' := hp.up s3
    obtain ⟨o, hpo⟩ := ((hp.up ((e1.trans s1).trans (e2.trans s2)))).some
    refine ⟨p, c, n, _, rfl, hp', by omega, Or.inl ⟨upd_same, (ne_of_none hpo hc).symm⟩, ?_, ?_, fun x H' hx hp2 up => ?_⟩
    · rw [List.length_append, List.length_map, pr1.length]; show 0 < 8 + _; omega
    · rw [List.length_append, List.length_map, List.length_map, pr1.length, pr2.length]; decide
    have up' : Up p H H' := (Up.same s3).trans up
    rcases List.mem_append.mp hx with hx | hx
    · obtain ⟨t, ht, rfl⟩ := List.mem_map.mp hx
      obtain ⟨q, hq, f⟩ := paired_mem pr1 ht
      exact k _ t q H' rfl (up.tup (by rw [upd_ne (ne_of_none (s2 _ _ (e2 _ _ (s1 _ _ f))) hc)]; exact s2 _ _ (e2 _ _ (s1 _ _ f)))) (List.mem_append_left _ hq) hp2 up'
    · obtain ⟨t, ht, rfl⟩ := List.mem_map.mp hx
      obtain ⟨q, hq, f⟩ := paired_mem pr2 ht
      exact k _ t q H' rfl (up.tup (by rw [upd_ne (ne_of_none (s2 _ _ f) hc)]; exact s2 _ _ f)) (List.mem_append_right _ hq) hp2 up'
theorem e30 : (10 : Int) ^ Int.toNat 30 = 1000000000000000000000000000000 := by decide
theorem e29 : (10 : Int) ^ Int.toNat 29 = 100000000000000000000000000000 := by decide
def spNumber : Sp := fun vs H Q _ => ∃ (p : Addr) (n : Nat), vs = [.ref p] ∧ PenAt H p n ∧ n < 90000 ∧ ∀ v q H', PairAt H' v q → Sz 110 q → PenAt H' p (n + 5) → Up p H H' → Q v H'
theorem G__law_number (T : Tx K mg d) : FnR P w K mg base CX0 3 d._law_number spNumber := by
  have G__law_pick : FnR P w K mg base CX0 2 d._law_pick spPick := G__law_pick T
  have G__law_draw : FnR P w K mg base CX0 1 d._law_draw spDraw := G__law_draw T
  have G__law_frac : FnR P w K mg base CX0 1 d._law_frac spFrac := G__law_frac T
  obtain ⟨fd, F⟩ := T.F__law_number
  refine FnR.imp (FnOk.raw (F.ok sc__law_number (k := 2) (sp := spNumber) (fun vs H Q E h => ?_) (fun cdv A outer s H vs Q E hr h => ?_)) (F.binds fun _ _ _ _ _ _ us hl => match us, hl with | [_], _ => rfl) .nil) fun vs H Q E h => by rw [List.append_nil]; exact h
  · obtain ⟨p, n, rfl, _⟩ := h
    rfl
  · obtain ⟨p, n, rfl, hp, hn, k⟩ := h
    -- slots: 0 _law_pen_here, 1 _law_over
    refine ⟨_, (pss_cons (ps_set (i := 1) sc__law_number.nd rfl (Or.inl rfl) (pe_fnR G__law_pick (hr.mono (by decide)) T.k__law_pick T.m__law_pick pass0 (pa_cons (pv 0) (pa_cons (pe_lst (pa_cons pe_int (pa_cons pe_int (pa_cons (pe_un uNeg pe_int) (pa_cons pe_int (pa_cons pe_int (pa_cons (pe_un uNeg pe_int) (pa_cons pe_int (pa_cons (pe_op uSub (pe_fnR G__law_draw (hr.mono (by decide)) T.k__law_draw T.m__law_draw pass0 (pa_cons (pv 0) (pa_cons pe_int pa_nil))) pe_int) (pa_cons (pe_op uAdd (pe_op op_pow pe_int pe_int) (pe_fnR G__law_draw (hr.mono (by decide)) T.k__law_draw T.m__law_draw pass0 (pa_cons (pv 0) (pa_cons pe_int pa_nil)))) (pa_cons (pe_un uNeg (pe_op op_pow pe_int pe_int)) pa_nil))))))))))) pa_nil))))
      (pss_one (ps_ret (pe_fnR G__law_frac (hr.mono (by decide)) T.k__law_frac T.m__law_frac pass0 (pa_cons (pv 1) (pa_cons (pe_fnR G__law_pick (hr.mono (by decide)) T.k__law_pick T.m__law_pick pass0 (pa_cons (pv 0) (pa_cons (pe_lst (pa_cons pe_int (pa_cons pe_int (pa_cons pe_int (pa_cons pe_int (pa_cons pe_int (pa_cons pe_int (pa_cons pe_int (pa_cons pe_int (pa_cons (pe_op uAdd pe_int (pe_fnR G__law_draw (hr.mono (by decide)) T.k__law_draw T.m__law_draw pass0 (pa_cons (pv 0) (pa_cons pe_int pa_nil)))) (pa_cons (pe_op uAdd (pe_op op_pow pe_int pe_int) pe_int) pa_nil))))))))))) pa_nil))) pa_nil)))))), ?_⟩
    refine ⟨_, rfl, Or.inl ⟨_, rfl, Or.inl ⟨_, rfl, ⟨_, rfl, ⟨p, n, 60, rfl, hp, by omega, by decide, by decide, fun d1 H1 a0 a1 p1 u1 => Or.inl ⟨_, _, rfl, rfl, ?_⟩⟩⟩⟩⟩⟩
    refine ⟨_, _, rfl, rfl, ⟨by decide, by decide, by decide⟩, ⟨_, rfl, ⟨p, n + 1, 4, rfl, p1, by omega, by decide, by decide, fun d2 H2 b0 b1 p2 u2 => Or.inl ⟨_, _, rfl, rfl, ?_⟩⟩⟩⟩
    refine ⟨_, _, rfl, rfl, ⟨by decide, by decide, by decide⟩, Or.inl ⟨_, rfl, (by show 10 ≤ sizeLine; decide), fun a ha => ?_⟩⟩
    obtain ⟨o, ho⟩ := p2.some
    refine ⟨p, a, n + 2, _, rfl, p2.up (sameNew ha), by omega, Or.inl ⟨upd_same, (ne_of_none ho ha).symm⟩, by show 0 < 10; decide, by show 10 ≤ 1000; decide, fun x H3 hx p3 u3 => ?_⟩
    obtain ⟨i, rfl, hi⟩ : ∃ i : Int, x = V.int i ∧ i.natAbs ≤ 2000000000000000000000000000000 := by
      have h30 := e30
      simp only [List.mem_cons, List.not_mem_nil, or_false] at hx
      rcases hx with rfl | rfl | rfl | rfl | rfl | rfl | rfl | rfl | rfl | rfl <;> exact ⟨_, rfl, by omega⟩
    have u13 : Up p H H3 := ((u1.trans u2).trans (Up.new ha)).trans u3
    refine ⟨_, rfl, ⟨_, rfl, ⟨_, rfl, ⟨p, n + 3, 12, rfl, p3, by omega, by decide, by decide, fun d3 H4 c0 c1 p4 u4 => Or.inl ⟨_, _, rfl, rfl, ?_⟩⟩⟩⟩⟩
    refine ⟨_, _, rfl, rfl, ⟨by decide, by decide, by decide⟩, Or.inl ⟨_, _, rfl, rfl, (by show 10 ≤ sizeLine; decide), fun b hb => ?_⟩⟩
    obtain ⟨o2, ho2⟩ := p4.some
    refine ⟨p, b, n + 4, _, rfl, p4.up (sameNew hb), by omega, Or.inl ⟨upd_same, (ne_of_none ho2 hb).symm⟩, by show 0 < 10; decide, by show 10 ≤ 1000; decide, fun y H5 hy p5 u5 => ?_⟩
    obtain ⟨j, rfl, hj0, hj⟩ : ∃ j : Int, y = V.int j ∧ 0 < j ∧ j.natAbs ≤ 2000000000000000000000000000000 := by
      have h29 := e29
      simp only [List.mem_cons, List.not_mem_nil, or_false] at hy
      rcases hy with rfl | rfl | rfl | rfl | rfl | rfl | rfl | rfl | rfl | rfl <;> exact ⟨_, rfl, by omega, by omega⟩
    have b1 : i.natAbs < 2 ^ 110 := Nat.lt_of_le_of_lt hi (by decide)
    have b2 : j.natAbs < 2 ^ 110 := Nat.lt_of_le_of_lt hj (by decide)
    have b3 : 2 ^ 110 ≤ 2 ^ 2000 := Nat.pow_le_pow_right (by decide) (by decide)
    refine ⟨i, j, rfl, by omega, Nat.lt_of_lt_of_le b1 b3, Nat.lt_of_lt_of_le b2 b3, fun q H6 e6 hq => ?_⟩
    exact k _ (Rat.divInt i j) H6 ⟨q, rfl, hq⟩ (sz_di (by omega) b1 b2) (p5.up e6) ((((u13.trans u4).trans (Up.new hb)).trans u5).trans (Up.same e6))
/-- what the law's kinds are -/
structure KindOk (x y : Int) (fr : Bool) : Prop where
  ne : y ≠ 0
  pos : 0 < y
  smallx : x.natAbs < 2 ^ 100
  small : y.natAbs < 2 ^ 100
  sz : Sz 100 (Rat.divInt x y)
  rnd : RndOk (Rat.divInt x y) fr
theorem kind_ok : ∀ c ∈ kinds ++ kinds2, ∃ (x y : Int) (fr : Bool), c = [.int x, .int y, .bl fr] ∧ KindOk x y fr := by
  intro c hc
  simp only [kinds, kinds2, List.cons_append, List.nil_append, List.mem_cons, List.not_mem_nil, or_false] at hc
  rcases hc with rfl | rfl | rfl | rfl | rfl | rfl | rfl | rfl | rfl | rfl | rfl | rfl <;>
    exact ⟨_, _, _, rfl, by decide, by decide, by decide, by decide, ⟨by decide +kernel, by decide +kernel⟩, ⟨⟨by decide +kernel, by decide +kernel⟩, by decide +kernel, by decide +kernel, by decide +kernel, by decide +kernel⟩⟩
def KindAt (H : Hp) (a : Addr) (x y : Int) (fr : Bool) : Prop := H a = some (.tup [.int x, .int y, .bl fr]) ∧ KindOk x y fr
theorem KindAt.up {H H' : Hp} {p a : Addr} {x y : Int} {fr : Bool} (h : KindAt H a x y fr) (e : Up p H H') : KindAt H' a x y fr := ⟨e.tup h.1, h.2⟩
theorem KindAt.same {H H' : Hp} {a : Addr} {x y : Int} {fr : Bool} (h : KindAt H a x y fr) (e : Same H H') : KindAt H' a x y fr := ⟨e _ _ h.1, h.2⟩
def spRounding (C D : Addr) : Sp := fun vs H Q _ => ∃ a x y fr, vs = [.ref a] ∧ KindAt H a x y fr ∧ ∀ r H', Same H H' → IsRnd C D H' r (Rat.divInt x y) fr → Q (.ref r) H'
theorem G__law_rounding (T : Tx K mg d) : FnR P w K mg base CX0 8 d._law_rounding (spRounding d.Ratio d.Rounding) := by
  have G_Ratio___init__ : FnR P w K mg base CX0 2 d.Ratio___init__ _ := G_Ratio___init__ T
  have G_Rounding___init__ : FnR P w K mg base CX0 6 d.Rounding___init__ _ := G_Rounding___init__ T
  obtain ⟨fd, F⟩ := T.F__law_rounding
  refine FnR.imp (FnOk.raw (F.ok sc__law_rounding (k := 7) (sp := spRounding d.Ratio d.Rounding) (fun vs H Q E h => ?_) (fun cdv A outer s H vs Q E hr h => ?_)) (F.binds fun _ _ _ _ _ _ us hl => match us, hl with | [_], _ => rfl) .nil) fun vs H Q E h => by rw [List.append_nil]; exact h
  · obtain ⟨a, x, y, fr, rfl, _⟩ := h
    rfl
  · obtain ⟨a, x, y, fr, rfl, ⟨ha, ok⟩, k⟩ := h
    -- slots: 0 _law_kind_here
    refine ⟨_, (pss_one (ps_ret (StX.pe_makeR T.mk_Rounding G_Rounding___init__ (hr.mono (by decide)) rfl T.m_Rounding pass0 (pa_cons (StX.pe_makeR T.mk_Ratio G_Ratio___init__ (hr.mono (by decide)) rfl T.m_Ratio pass0 (pa_cons (pe_ix ix_seq (pv 0) pe_int (fun _ _ => rfl)) (pa_cons (pe_ix ix_seq (pv 0) pe_int (fun _ _ => rfl)) pa_nil))) (pa_cons (pe_ix ix_seq (pv 0) pe_int (fun _ _ => rfl)) pa_nil))))), ?_⟩
    refine ⟨_, rfl, Or.inr (Or.inl ⟨a, _, 0, _, rfl, rfl, SqT.of ha, at_of (j := 0) rfl rfl, ⟨_, rfl, Or.inr (Or.inl ⟨a, _, 1, _, rfl, rfl, SqT.of ha, at_of (j := 1) rfl rfl, ?_⟩)⟩⟩)⟩
    intro p dp np nd ne
    refine Or.inl (made' np nd ok.ne (Nat.lt_of_lt_of_le ok.small (Nat.pow_le_pow_right (by decide) (by decide))) fun H1 e1 hp => ⟨rfl, ?_⟩)
    refine ⟨_, rfl, Or.inr (Or.inl ⟨a, _, 2, _, rfl, rfl, SqT.of (e1 _ _ ha), at_of (j := 2) rfl rfl, ?_⟩)⟩
    intro r dr nr ndr ner
    exact Or.inl (rmade nr ndr hp ok.rnd fun H2 e2 hr => k r H2 (e1.trans e2) hr)
theorem insR {X : Cx} {C D r : Addr} {H : Hp} {t : Rat} {fr : Bool} (h : IsRnd C D H r t fr) : StX.InsC X H r D := let ⟨_, dx, _, x, _⟩ := h; Or.inr ⟨dx, _, x⟩
theorem sz_den {n : Nat} {q : Rat} (h : Sz n q) (e : n ≤ 8000) : (q.den : Int).natAbs < 2 ^ 8000 := Nat.lt_of_lt_of_le (szD h) (Nat.pow_le_pow_right (by decide) e)
end

end AZ
namespace AZ
open PySem L2
/-! ## the law's own pixels -/
theorem floor_in {u : Rat} {n : Int} (h1 : (n : Rat) ≤ u) (h2 : u < (n : Rat) + 1) : u.floor = n := by
  have a := Rat.le_floor_iff.mpr h1
  have b := fl1 u
  have c : (u.floor : Rat) < ((n + 1 : Int) : Rat) := by rw [Rat.intCast_add, Rat.intCast_one]; grind
  have d := Rat.intCast_lt_intCast.mp c
  omega
theorem ceil_in {u : Rat} {n : Int} (h1 : (n : Rat) - 1 < u) (h2 : u ≤ (n : Rat)) : u.ceil = n := by
  have a := Rat.ceil_le_iff.mpr h2
  have b := ce1 u
  have c : ((n - 1 : Int) : Rat) < (u.ceil : Rat) := by rw [Rat.intCast_sub, Rat.intCast_one]; grind
  have d := Rat.intCast_lt_intCast.mp c
  omega
theorem ratDen (q : Rat) : q * (q.den : Rat) = (q.num : Rat) := by
  have h : (q.den : Rat) ≠ 0 := by
    have : ((q.den : Int) : Rat) ≠ ((0 : Int) : Rat) := fun e => dne q (Rat.intCast_inj.mp e)
    exact this
  have e : q = (q.num : Rat) / ((q.den : Int) : Rat) := by rw [← Rat.divInt_eq_div]; exact (rdq q).symm
  have e2 : (q.num : Rat) / ((q.den : Int) : Rat) * ((q.den : Int) : Rat) = (q.num : Rat) := Rat.div_mul_cancel h
  rw [← e] at e2
  exact e2
theorem divDen {x y : Int} (h : 0 < y) : Rat.divInt x y * (y : Rat) = (x : Rat) := by
  rw [Rat.divInt_eq_div]
  exact Rat.div_mul_cancel (fun e => by have := Rat.intCast_inj.mp (show ((y : Int) : Rat) = ((0 : Int) : Rat) from e); omega)
theorem posI {y : Int} (h : 0 < y) : (0 : Rat) < (y : Rat) := by rw [← Rat.intCast_zero]; exact Rat.intCast_lt_intCast.mpr h
/-- rest and bound against one another, as ints, tell how the fraction lies to the threshold -/
theorem rest_bound {x y : Int} (hy : 0 < y) (q : Rat) (l : Int) : (((q.num - l * (q.den : Int)) * y - x * (q.den : Int) : Int) : Rat) = ((q.den : Int) : Rat) * (y : Rat) * (q - (l : Rat) - Rat.divInt x y) := by
  have h1 := ratDen q
  have h2 := divDen (x := x) hy
  have h1' : q * ((q.den : Int) : Rat) = (q.num : Rat) := h1
  rw [Rat.intCast_sub, Rat.intCast_mul, Rat.intCast_sub, Rat.intCast_mul, Rat.intCast_mul]
  grind
theorem rest_ge {x y : Int} (hy : 0 < y) (q : Rat) (l : Int) : (x * (q.den : Int) ≤ (q.num - l * (q.den : Int)) * y) ↔ Rat.divInt x y ≤ q - (l : Rat) := by
  have h := rest_bound (x := x) hy q l
  have hp : (0 : Rat) < ((q.den : Int) : Rat) * (y : Rat) := Rat.mul_pos (posI (dpos q)) (posI hy)
  constructor
  · intro a
    have b : ((0 : Int) : Rat) ≤ (((q.num - l * (q.den : Int)) * y - x * (q.den : Int) : Int) : Rat) := Rat.intCast_le_intCast.mpr (by omega)
    rw [h, Rat.intCast_zero] at b
    refine Rat.not_lt.mp fun c => ?_
    have d : 0 < ((q.den : Int) : Rat) * (y : Rat) * (Rat.divInt x y - (q - (l : Rat))) := Rat.mul_pos hp (by grind)
    grind
  · intro a
    have b : 0 ≤ ((q.den : Int) : Rat) * (y : Rat) * (q - (l : Rat) - Rat.divInt x y) := Rat.mul_nonneg (Std.le_of_lt hp) (by grind)
    rw [← h, ← Rat.intCast_zero] at b
    have := Rat.intCast_le_intCast.mp b
    omega
theorem rest_gt {x y : Int} (hy : 0 < y) (q : Rat) (l : Int) : (x * (q.den : Int) < (q.num - l * (q.den : Int)) * y) ↔ Rat.divInt x y < q - (l : Rat) := by
  have h := rest_bound (x := x) hy q l
  have hp : (0 : Rat) < ((q.den : Int) : Rat) * (y : Rat) := Rat.mul_pos (posI (dpos q)) (posI hy)
  constructor
  · intro a
    have b : ((0 : Int) : Rat) < (((q.num - l * (q.den : Int)) * y - x * (q.den : Int) : Int) : Rat) := Rat.intCast_lt_intCast.mpr (by omega)
    rw [h, Rat.intCast_zero] at b
    refine Rat.not_le.mp fun c => ?_
    have d : 0 ≤ ((q.den : Int) : Rat) * (y : Rat) * (Rat.divInt x y - (q - (l : Rat))) := Rat.mul_nonneg (Std.le_of_lt hp) (by grind)
    grind
  · intro a
    have b : 0 < ((q.den : Int) : Rat) * (y : Rat) * (q - (l : Rat) - Rat.divInt x y) := Rat.mul_pos hp (by grind)
    rw [← h, ← Rat.intCast_zero] at b
    have := Rat.intCast_lt_intCast.mp b
    omega
/-- the pixel by the whole part and the rest -/
theorem pix_rest {t q : Rat} {fr : Bool} (ok : RndOk t fr) : pix t fr q = q.floor + (if (if fr then decide (t ≤ q - (q.floor : Rat)) else decide (t < q - (q.floor : Rat))) then 1 else 0) := by
  have h0 := ok.lo
  have h1 := ok.hi
  have f1 := fl1 q
  have f2 := fl2 q
  unfold pix
  cases fr with
  | true =>
    have tn : t ≠ 0 := ok.f rfl
    by_cases h : t ≤ q - (q.floor : Rat)
    · have := floor_in (u := q - t) (n := q.floor) (by grind) (by grind)
      simp [h, this]
    · have := floor_in (u := q - t) (n := q.floor - 1) (by rw [Rat.intCast_sub, Rat.intCast_one]; grind) (by rw [Rat.intCast_sub, Rat.intCast_one]; grind)
      simp [h, this]
  | false =>
    have tn : t ≠ 1 := ok.a rfl
    by_cases h : t < q - (q.floor : Rat)
    · have := ceil_in (u := q - t) (n := q.floor + 1) (by rw [Rat.intCast_add, Rat.intCast_one]; grind) (by rw [Rat.intCast_add, Rat.intCast_one]; grind)
      simp [h, this]
    · have := ceil_in (u := q - t) (n := q.floor) (by grind) (by grind)
      simp [h, this]
/-- half a step beside -/
theorem pix_beside {x y : Int} {q : Rat} {fr : Bool} (hy : 0 < y) :
    pix (Rat.divInt x y) fr (q + Rat.divInt 1 (2 * (q.den : Int) * y)) = (q - Rat.divInt x y).floor + 1 ∧ pix (Rat.divInt x y) fr (q + Rat.divInt (-1) (2 * (q.den : Int) * y)) = (q - Rat.divInt x y).ceil := by
  have hD : 0 < (q.den : Int) * y := Int.mul_pos (dpos q) hy
  have h1 : q * ((q.den : Int) : Rat) = (q.num : Rat) := ratDen q
  have h2 := divDen (x := x) hy
  have e2 : 2 * (q.den : Int) * y = 2 * ((q.den : Int) * y) := by rw [Int.mul_assoc]
  have k1 := divDen (x := 1) (y := 2 * (q.den : Int) * y) (by omega)
  have k2 : Rat.divInt (-1) (2 * (q.den : Int) * y) = -Rat.divInt 1 (2 * (q.den : Int) * y) := by rw [Rat.neg_divInt]
  rw [k2]
  have m : (q - Rat.divInt x y) * (((q.den : Int) * y : Int) : Rat) = ((q.num * y - x * (q.den : Int) : Int) : Rat) := by
    rw [Rat.intCast_mul, Rat.intCast_sub, Rat.intCast_mul, Rat.intCast_mul]
    grind
  rw [e2, Rat.intCast_mul] at k1
  have hp : (0 : Rat) < (((q.den : Int) * y : Int) : Rat) := posI hD
  rw [e2]
  generalize Rat.divInt 1 (2 * ((q.den : Int) * y)) = e at *
  generalize (q.num * y - x * (q.den : Int)) = M at m
  generalize (q.den : Int) * y = D at *
  have two : ((2 : Int) : Rat) = 2 := rfl
  have one : ((1 : Int) : Rat) = 1 := rfl
  rw [two, one] at k1
  have ed : e * ((D : Int) : Rat) = 1 / 2 := by grind
  have e0 : 0 < e := by
    refine Rat.not_le.mp fun c => ?_
    have : 0 ≤ -e * (D : Rat) := Rat.mul_nonneg (by grind) (Std.le_of_lt hp)
    grind
  have up : ∀ k : Int, q - Rat.divInt x y < (k : Rat) → q - Rat.divInt x y + e < (k : Rat) := fun k h => by
    have a : (q - Rat.divInt x y) * (D : Rat) < (k : Rat) * (D : Rat) := Rat.mul_lt_mul_of_pos_right h hp
    rw [m, ← Rat.intCast_mul] at a
    have b := Rat.intCast_lt_intCast.mp a
    have c : ((M + 1 : Int) : Rat) ≤ ((k * D : Int) : Rat) := Rat.intCast_le_intCast.mpr (by omega)
    rw [Rat.intCast_add, Rat.intCast_one, Rat.intCast_mul, ← m] at c
    refine Rat.lt_of_mul_lt_mul_right (c := (D : Rat)) ?_ (Std.le_of_lt hp)
    grind
  have dn : ∀ k : Int, (k : Rat) < q - Rat.divInt x y → (k : Rat) < q - Rat.divInt x y - e := fun k h => by
    have a : (k : Rat) * (D : Rat) < (q - Rat.divInt x y) * (D : Rat) := Rat.mul_lt_mul_of_pos_right h hp
    rw [m, ← Rat.intCast_mul] at a
    have b := Rat.intCast_lt_intCast.mp a
    have c : ((k * D + 1 : Int) : Rat) ≤ ((M : Int) : Rat) := Rat.intCast_le_intCast.mpr (by omega)
    rw [Rat.intCast_add, Rat.intCast_one, Rat.intCast_mul, ← m] at c
    refine Rat.lt_of_mul_lt_mul_right (c := (D : Rat)) ?_ (Std.le_of_lt hp)
    grind
  generalize Rat.divInt x y = t at *
  have f1 := fl1 (q - t)
  have f2 := fl2 (q - t)
  have c1 := ce1 (q - t)
  have c2 := ce2 (q - t)
  have u1 := up ((q - t).floor + 1) (by rw [Rat.intCast_add, Rat.intCast_one]; exact f2)
  have u2 := dn ((q - t).ceil - 1) (by rw [Rat.intCast_sub, Rat.intCast_one]; grind)
  rw [Rat.intCast_add, Rat.intCast_one] at u1
  rw [Rat.intCast_sub, Rat.intCast_one] at u2
  unfold pix
  constructor
  · cases fr with
    | true =>
      have := floor_in (u := q + e - t) (n := (q - t).floor) (by grind) (by grind)
      simp [this]
    | false =>
      have := ceil_in (u := q + e - t) (n := (q - t).floor + 1) (by rw [Rat.intCast_add, Rat.intCast_one]; grind) (by rw [Rat.intCast_add, Rat.intCast_one]; grind)
      simp [this]
  · cases fr with
    | true =>
      have := floor_in (u := q + -e - t) (n := (q - t).ceil - 1) (by rw [Rat.intCast_sub, Rat.intCast_one]; grind) (by rw [Rat.intCast_sub, Rat.intCast_one]; grind)
      simp [this]
    | false =>
      have := ceil_in (u := q + -e - t) (n := (q - t).ceil) (by grind) (by grind)
      simp [this]

end AZ
namespace AZ
open PySem L2
/-! ## roundings made and called -/
def spPlus : Sp := fun vs H Q _ => ∃ (a b : Addr) (x y z u : Int), vs = [.ref a, .ref b, .int 1] ∧ H a = some (.tup [.int x, .int y]) ∧ H b = some (.tup [.int z, .int u]) ∧ y ≠ 0 ∧ u ≠ 0 ∧
  x.natAbs < 2 ^ 900 ∧ y.natAbs < 2 ^ 900 ∧ z.natAbs < 2 ^ 900 ∧ u.natAbs < 2 ^ 900 ∧ ∀ v H', Same H H' → PairAt H' v (Rat.divInt x y + Rat.divInt z u) → Q v H'
def spLRatio (C : Addr) : Sp := fun vs H Q _ => ∃ (p : Addr) (n : Nat) (v : V) (q : Rat), vs = [.ref p, v] ∧ PenAt H p n ∧ n < 90000 ∧ PairAt H v q ∧ Sz 900 q ∧ ∀ v' H', Num C H' v' q → PenAt H' p (n + 1) → Up p H H' → Q v' H'
def spLRound : Sp := fun vs H Q _ => ∃ (a : Addr) (v : V) (x y : Int) (fr : Bool) (q : Rat), vs = [.ref a, v] ∧ KindAt H a x y fr ∧ PairAt H v q ∧ Sz 900 q ∧ Q (.int (pix (Rat.divInt x y) fr q)) H
def spBeside : Sp := fun vs H Q _ => ∃ (a : Addr) (v : V) (x y : Int) (fr : Bool) (q : Rat) (s : Int), vs = [.ref a, v, .int s] ∧ KindAt H a x y fr ∧ PairAt H v q ∧ Sz 300 q ∧ s.natAbs ≤ 1 ∧
  ∀ H', Same H H' → Q (.int (pix (Rat.divInt x y) fr (q + Rat.divInt s (2 * (q.den : Int) * y)))) H'
def spNear : Sp := fun vs H Q _ => ∃ (p a : Addr) (n : Nat) (x y : Int) (fr : Bool), vs = [.ref p, .ref a] ∧ PenAt H p n ∧ n < 80000 ∧ KindAt H a x y fr ∧ ∀ v q H', PairAt H' v q → Sz 300 q → PenAt H' p (n + 6) → Up p H H' → Q v H'
theorem prod_lt {i j : Int} (h1 : i.natAbs < 2 ^ 900) (h2 : j.natAbs < 2 ^ 900) : (i * j).natAbs < 2 ^ 1800 := by
  rw [Int.natAbs_mul]
  exact mul_lt2 h1 h2
theorem ge_dec {a b : Int} : decide (b ≤ a) = decide (a ≥ b) := rfl
section
variable {P : Program} {w : World} {K : PySem.W.Frag} {mg : Str → Option Value} {base : Heap} {d : Ad}
theorem G__law_plus (T : Tx K mg d) : FnR P w K mg base CX0 2 d._law_plus (fun vs H Q E => spPlus (vs ++ [.int 1]) H Q E) := by
  obtain ⟨fd, F⟩ := T.D__law_plus
  have G__law_frac : FnR P w K mg base CX0 1 d._law_frac spFrac := G__law_frac T
  have G : FnOk P w K mg base CX0 2 d._law_plus fd ["_law_one", "_law_other", "_law_times_here"] spPlus := by
    refine F.ok sc__law_plus (fun vs H Q E h => ?_) (fun cdv A outer s H vs Q E hr h => ?_)
    · obtain ⟨a, b, x, y, z, u, rfl, _⟩ := h
      rfl
    obtain ⟨a, b, x, y, z, u, rfl, ha, hb, hy, hu, zx, zy, zz, zu, k⟩ := h
    have w2 : ∀ i : Int, i.natAbs < 2 ^ 900 → i.natAbs < 2 ^ 2000 := fun i h => Nat.lt_of_lt_of_le h (Nat.pow_le_pow_right (by decide) (by decide))
    -- slots: 0 _law_one, 1 _law_other, 2 _law_times_here
    refine ⟨_, (pss_one (ps_ret (pe_fnR G__law_frac (hr.mono (by decide)) T.k__law_frac T.m__law_frac pass0 (pa_cons (pe_op uAdd (pe_op uMul (pe_ix ix_seq (pv 0) pe_int (fun _ _ => rfl)) (pe_ix ix_seq (pv 1) pe_int (fun _ _ => rfl))) (pe_op uMul (pe_op uMul (pv 2) (pe_ix ix_seq (pv 1) pe_int (fun _ _ => rfl))) (pe_ix ix_seq (pv 0) pe_int (fun _ _ => rfl)))) (pa_cons (pe_op uMul (pe_ix ix_seq (pv 0) pe_int (fun _ _ => rfl)) (pe_ix ix_seq (pv 1) pe_int (fun _ _ => rfl))) pa_nil))))), ?_⟩
    refine ⟨_, rfl, Or.inr (Or.inl ⟨a, _, 0, _, rfl, rfl, SqT.of ha, at_of (j := 0) rfl rfl, ⟨_, rfl, Or.inr (Or.inl ⟨b, _, 1, _, rfl, rfl, SqT.of hb, at_of (j := 1) rfl rfl, Or.inl ⟨_, _, rfl, rfl, mul2 (w2 _ zx) (w2 _ zu), ?_⟩⟩)⟩⟩)⟩
    refine ⟨_, rfl, ⟨_, rfl, Or.inr (Or.inl ⟨b, _, 0, _, rfl, rfl, SqT.of hb, at_of (j := 0) rfl rfl, Or.inl ⟨_, _, rfl, rfl, mulL (by decide), ⟨_, rfl, Or.inr (Or.inl ⟨a, _, 1, _, rfl, rfl, SqT.of ha, at_of (j := 1) rfl rfl, Or.inl ⟨_, _, rfl, rfl, ?_, Or.inl ⟨_, _, rfl, rfl, ?_⟩⟩⟩)⟩⟩⟩)⟩⟩
    · rw [Int.one_mul]; exact mul2 (w2 _ zz) (w2 _ zy)
    refine ⟨_, rfl, Or.inr (Or.inl ⟨a, _, 1, _, rfl, rfl, SqT.of ha, at_of (j := 1) rfl rfl, ⟨_, rfl, Or.inr (Or.inl ⟨b, _, 1, _, rfl, rfl, SqT.of hb, at_of (j := 1) rfl rfl, Or.inl ⟨_, _, rfl, rfl, mul2 (w2 _ zy) (w2 _ zu), ?_⟩⟩)⟩⟩)⟩
    have m1 := prod_lt zx zu
    have m2 := prod_lt zz zy
    have m3 := prod_lt zy zu
    refine ⟨x * u + 1 * z * y, y * u, rfl, Int.mul_ne_zero hy hu, ?_, ?_, fun p H' e hp => ?_⟩
    · rw [Int.one_mul]
      have : (x * u + z * y).natAbs ≤ (x * u).natAbs + (z * y).natAbs := Int.natAbs_add_le _ _
      have : (2 : Nat) ^ 1800 + 2 ^ 1800 ≤ 2 ^ 2000 := by
        have : (2 : Nat) ^ 1800 + 2 ^ 1800 = 2 ^ 1801 := by rw [show 1801 = 1800 + 1 from rfl, Nat.pow_succ]; omega
        rw [this]; exact Nat.pow_le_pow_right (by decide) (by decide)
      omega
    · exact Nat.lt_of_lt_of_le m3 (Nat.pow_le_pow_right (by decide) (by decide))
    · refine k _ H' e ⟨p, rfl, ?_⟩
      rw [Rat.divInt_add_divInt _ _ hy hu]
      rw [Int.one_mul] at hp
      exact hp
  obtain ⟨ds1, r1, b1⟩ := F.binds1 (ps := ["_law_one", "_law_other", "_law_times_here"]) 2 0 (by simp) rfl fun T kV doc pm an cdv ct us its h1 h2 => match us, its, h1, h2 with
    | [_, _], [_], _, _ => ⟨_, rfl, by dsimp only; rfl⟩
  exact FnOk.raw G b1 r1
theorem G__law_ratio (T : Tx K mg d) : FnR P w K mg base CX0 4 d._law_ratio (spLRatio d.Ratio) := by
  have G__law_draw : FnR P w K mg base CX0 1 d._law_draw spDraw := G__law_draw T
  have G_Ratio___init__ : FnR P w K mg base CX0 2 d.Ratio___init__ _ := G_Ratio___init__ T
  obtain ⟨fd, F⟩ := T.F__law_ratio
  refine FnR.imp (FnOk.raw (F.ok sc__law_ratio (k := 3) (sp := spLRatio d.Ratio) (fun vs H Q E h => ?_) (fun cdv A outer s H vs Q E hr h => ?_)) (F.binds fun _ _ _ _ _ _ us hl => match us, hl with | [_, _], _ => rfl) .nil) fun vs H Q E h => by rw [List.append_nil]; exact h
  · obtain ⟨p, n, v, q, rfl, _⟩ := h
    rfl
  · obtain ⟨p, n, v, q, rfl, hp, hn, ⟨a, rfl, ha⟩, zq, k⟩ := h
    -- slots: 0 _law_pen_here, 1 _law_pair
    refine ⟨_, (pss_one (ps_ret (pe_ifExp (PW.pt (pw_and (pt_cmpR (uEq hr.units) (pe_ix ix_seq (pv 1) pe_int (fun _ _ => rfl)) pe_int (nomark _)) (pw_and1 (pt_cmpR (uEq hr.units) (pe_fnR G__law_draw (hr.mono (by decide)) T.k__law_draw T.m__law_draw pass0 (pa_cons (pv 0) (pa_cons pe_int pa_nil))) pe_int (nomark _))))) (pe_ix ix_seq (pv 1) pe_int (fun _ _ => rfl)) (StX.pe_makeR T.mk_Ratio G_Ratio___init__ (hr.mono (by decide)) rfl T.m_Ratio pass0 (pa_cons (pe_ix ix_seq (pv 1) pe_int (fun _ _ => rfl)) (pa_cons (pe_ix ix_seq (pv 1) pe_int (fun _ _ => rfl)) pa_nil)))))), ?_⟩
    refine ⟨_, rfl, Or.inr (Or.inl ⟨a, _, 1, _, rfl, rfl, SqT.of ha, at_of (j := 1) rfl rfl, Or.inl ⟨rfl, _, rfl, if2 (fun h => ?_) (fun h => ?_)⟩⟩)⟩
    · have h1 : (q.den : Int) = 1 := by have := of_decide_eq_true h; injection this
      refine ⟨_, rfl, ⟨p, n, 2, rfl, hp, by omega, by decide, by decide, fun e H1 _ _ p1 u1 => Or.inl ⟨rfl, _, rfl, if2 (fun h2 => ?_) (fun h2 => ?_)⟩⟩⟩
      · refine ⟨_, rfl, Or.inr (Or.inl ⟨a, _, 0, _, rfl, rfl, SqT.of (u1.tup ha), at_of (j := 0) rfl rfl, ?_⟩)⟩
        exact k _ H1 (Or.inl ⟨q.num, rfl, int_den (by omega)⟩) p1 u1
      · refine ⟨_, rfl, Or.inr (Or.inl ⟨a, _, 0, _, rfl, rfl, SqT.of (u1.tup ha), at_of (j := 0) rfl rfl, ⟨_, rfl, Or.inr (Or.inl ⟨a, _, 1, _, rfl, rfl, SqT.of (u1.tup ha), at_of (j := 1) rfl rfl, ?_⟩)⟩⟩)⟩
        intro b db nb ndb neb
        refine Or.inl (made' nb ndb (dne q) (sz_den zq (by decide)) fun H2 e2 hb => ⟨rfl, ?_⟩)
        rw [rdq] at hb
        exact k _ H2 (num_r hb) (p1.up e2) (u1.trans (Up.same e2))
    · refine ⟨_, rfl, Or.inr (Or.inl ⟨a, _, 0, _, rfl, rfl, SqT.of ha, at_of (j := 0) rfl rfl, ⟨_, rfl, Or.inr (Or.inl ⟨a, _, 1, _, rfl, rfl, SqT.of ha, at_of (j := 1) rfl rfl, ?_⟩)⟩⟩)⟩
      intro b db nb ndb neb
      refine Or.inl (made' nb ndb (dne q) (sz_den zq (by decide)) fun H2 e2 hb => ⟨rfl, ?_⟩)
      rw [rdq] at hb
      exact k _ H2 (num_r hb) ((hp.mono (by omega)).up e2) (Up.same e2)
theorem G__law_round (T : Tx K mg d) : FnR P w K mg base CX0 1 d._law_round spLRound := by
  obtain ⟨fd, F⟩ := T.F__law_round
  refine FnR.imp (FnOk.raw (F.ok sc__law_round (k := 0) (sp := spLRound) (fun vs H Q E h => ?_) (fun cdv A outer s H vs Q E hr h => ?_)) (F.binds fun _ _ _ _ _ _ us hl => match us, hl with | [_, _], _ => rfl) .nil) fun vs H Q E h => by rw [List.append_nil]; exact h
  · obtain ⟨a, v, x, y, fr, q, rfl, _⟩ := h
    rfl
  · obtain ⟨ka, v, x, y, fr, q, rfl, ⟨hka, kok⟩, ⟨a, rfl, ha⟩, zq, k⟩ := h
    -- slots: 0 _law_kind_here, 1 _law_worth, 2 _law_low, 3 _law_rest, 4 _law_bound
    refine ⟨_, (pss_cons (ps_set (i := 2) sc__law_round.nd rfl (Or.inl rfl) (pe_op uDiv (pe_ix ix_seq (pv 1) pe_int (fun _ _ => rfl)) (pe_ix ix_seq (pv 1) pe_int (fun _ _ => rfl))))
      (pss_cons (ps_par (i := 3) (j := 4) (by rfl) sc__law_round.nd rfl rfl (by decide) rfl rfl (pa_cons (pe_op uMul (pe_op uSub (pe_ix ix_seq (pv 1) pe_int (fun _ _ => rfl)) (pe_op uMul (pv 2) (pe_ix ix_seq (pv 1) pe_int (fun _ _ => rfl)))) (pe_ix ix_seq (pv 0) pe_int (fun _ _ => rfl))) (pa_cons (pe_op uMul (pe_ix ix_seq (pv 0) pe_int (fun _ _ => rfl)) (pe_ix ix_seq (pv 1) pe_int (fun _ _ => rfl))) pa_nil)) (by rfl))
      (pss_one (ps_ret (pe_op uAdd (pv 2) (pe_callTy call_int1 (by rfl) T.n_int (by decide +kernel) (pa_cons (pe_ifExp (pt_val (pe_ix ix_seq (pv 0) pe_int (fun _ _ => rfl))) (pe_cmpR uGe (pv 3) (pv 4) (nomark _)) (pe_cmpR uGt (pv 3) (pv 4) (nomark _))) pa_nil))))))), ?_⟩
    have zx : x.natAbs < 2 ^ 900 ∧ y.natAbs < 2 ^ 900 := ⟨Nat.lt_of_lt_of_le kok.smallx (Nat.pow_le_pow_right (by decide) (by decide)), Nat.lt_of_lt_of_le kok.small (Nat.pow_le_pow_right (by decide) (by decide))⟩
    have w2 : ∀ i : Int, i.natAbs < 2 ^ 900 → i.natAbs < 2 ^ 2000 := fun i h => Nat.lt_of_lt_of_le h (Nat.pow_le_pow_right (by decide) (by decide))
    have zn := szN zq
    have zd := szD zq
    refine ⟨_, rfl, Or.inr (Or.inl ⟨a, _, 0, _, rfl, rfl, SqT.of ha, at_of (j := 0) rfl rfl, ⟨_, rfl, Or.inr (Or.inl ⟨a, _, 1, _, rfl, rfl, SqT.of ha, at_of (j := 1) rfl rfl, Or.inl ⟨_, _, rfl, rfl, divZ (dne q) zd (by decide) (by decide), ?_⟩⟩)⟩⟩)⟩
    simp only [r_floor]
    have fl : q.floor.natAbs ≤ q.num.natAbs := by
      rw [← r_floor, Int.fdiv_eq_ediv_of_nonneg _ (Int.le_of_lt (dpos q))]
      exact Int.natAbs_ediv_le_natAbs _ _
    have zf : q.floor.natAbs < 2 ^ 900 := Nat.lt_of_le_of_lt fl zn
    have zp := prod_lt zf zd
    refine ⟨_, rfl, Or.inr (Or.inl ⟨a, _, 0, _, rfl, rfl, SqT.of ha, at_of (j := 0) rfl rfl, ⟨_, rfl, _, rfl, Or.inr (Or.inl ⟨a, _, 1, _, rfl, rfl, SqT.of ha, at_of (j := 1) rfl rfl, Or.inl ⟨_, _, rfl, rfl, mul2 (w2 _ zf) (w2 _ zd), Or.inl ⟨_, _, rfl, rfl, ?_⟩⟩⟩)⟩⟩)⟩
    refine ⟨_, rfl, Or.inr (Or.inl ⟨ka, _, 1, _, rfl, rfl, SqT.of hka, at_of (j := 1) rfl rfl, Or.inl ⟨_, _, rfl, rfl, mul2 ?_ (w2 _ zx.2), ?_⟩⟩)⟩
    · have : (q.num - q.floor * (q.den : Int)).natAbs ≤ q.num.natAbs + (q.floor * (q.den : Int)).natAbs := by omega
      have : (2 : Nat) ^ 900 + 2 ^ 1800 ≤ 2 ^ 2000 := by
        have h1 : (2 : Nat) ^ 900 ≤ 2 ^ 1800 := Nat.pow_le_pow_right (by decide) (by decide)
        have h2 : (2 : Nat) ^ 1800 + 2 ^ 1800 = 2 ^ 1801 := by rw [show 1801 = 1800 + 1 from rfl, Nat.pow_succ]; omega
        have h3 : (2 : Nat) ^ 1801 ≤ 2 ^ 2000 := Nat.pow_le_pow_right (by decide) (by decide)
        omega
      omega
    refine ⟨_, rfl, Or.inr (Or.inl ⟨ka, _, 0, _, rfl, rfl, SqT.of hka, at_of (j := 0) rfl rfl, ⟨_, rfl, Or.inr (Or.inl ⟨a, _, 1, _, rfl, rfl, SqT.of ha, at_of (j := 1) rfl rfl, Or.inl ⟨_, _, rfl, rfl, mul2 (w2 _ zx.1) (w2 _ zd), ?_⟩⟩)⟩⟩)⟩
    refine ⟨_, _, rfl, ?_⟩
    refine ⟨_, rfl, _, rfl, Or.inr (Or.inl ⟨ka, _, 2, _, rfl, rfl, SqT.of hka, at_of (j := 2) rfl rfl, _, rfl, ?_⟩)⟩
    rw [pix_rest kok.rnd] at k
    cases fr with
    | true =>
      refine iteT ?_
      refine ⟨_, rfl, _, rfl, Or.inl ⟨_, _, rfl, rfl, Or.inr ⟨_, rfl, Or.inl ⟨_, _, rfl, rfl, ?_⟩⟩⟩⟩
      have e : decide (x * (q.den : Int) ≤ (q.num - q.floor * (q.den : Int)) * y) = decide (Rat.divInt x y ≤ q - (q.floor : Rat)) := decide_eq_decide.mpr (rest_ge kok.pos q q.floor)
      rw [← ge_dec]
      rw [e]
      cases hd : decide (Rat.divInt x y ≤ q - (q.floor : Rat)) <;> rw [hd] at k <;> exact k
    | false =>
      refine iteF ?_
      refine ⟨_, rfl, _, rfl, Or.inl ⟨_, _, rfl, rfl, Or.inr ⟨_, rfl, Or.inl ⟨_, _, rfl, rfl, ?_⟩⟩⟩⟩
      have e : decide (x * (q.den : Int) < (q.num - q.floor * (q.den : Int)) * y) = decide (Rat.divInt x y < q - (q.floor : Rat)) := decide_eq_decide.mpr (rest_gt kok.pos q q.floor)
      rw [e]
      cases hd : decide (Rat.divInt x y < q - (q.floor : Rat)) <;> rw [hd] at k <;> exact k
theorem G__law_beside (T : Tx K mg d) : FnR P w K mg base CX0 4 d._law_beside spBeside := by
  have G__law_plus : FnR P w K mg base CX0 2 d._law_plus (fun vs H Q E => spPlus (vs ++ [.int 1]) H Q E) := G__law_plus T
  have G__law_round : FnR P w K mg base CX0 1 d._law_round spLRound := G__law_round T
  obtain ⟨fd, F⟩ := T.F__law_beside
  refine FnR.imp (FnOk.raw (F.ok sc__law_beside (k := 3) (sp := spBeside) (fun vs H Q E h => ?_) (fun cdv A outer s H vs Q E hr h => ?_)) (F.binds fun _ _ _ _ _ _ us hl => match us, hl with | [_, _, _], _ => rfl) .nil) fun vs H Q E h => by rw [List.append_nil]; exact h
  · obtain ⟨a, v, x, y, fr, q, s, rfl, _⟩ := h
    rfl
  · obtain ⟨ka, v, x, y, fr, q, side, rfl, ⟨hka, kok⟩, ⟨a, rfl, ha⟩, zq, hs, k⟩ := h
    -- slots: 0 _law_kind_here, 1 _law_worth, 2 _law_side
    refine ⟨_, (pss_one (ps_ret (pe_fnR G__law_round (hr.mono (by decide)) T.k__law_round T.m__law_round pass0 (pa_cons (pv 0) (pa_cons (pe_fnR G__law_plus (hr.mono (by decide)) T.k__law_plus T.m__law_plus pass0 (pa_cons (pv 1) (pa_cons (pe_tup (pa_cons (pv 2) (pa_cons (pe_op uMul (pe_op uMul pe_int (pe_ix ix_seq (pv 1) pe_int (fun _ _ => rfl))) (pe_ix ix_seq (pv 0) pe_int (fun _ _ => rfl))) pa_nil))) pa_nil))) pa_nil))))), ?_⟩
    have zy : y.natAbs < 2 ^ 300 := Nat.lt_of_lt_of_le kok.small (Nat.pow_le_pow_right (by decide) (by decide))
    have zd : (q.den : Int).natAbs < 2 ^ 300 := szD zq
    have b9 : ∀ i : Int, i.natAbs < 2 ^ 300 → i.natAbs < 2 ^ 900 := fun i h => Nat.lt_of_lt_of_le h (Nat.pow_le_pow_right (by decide) (by decide))
    have z2d : (2 * (q.den : Int)).natAbs < 2 ^ 301 := by
      have h2 : (2 * (q.den : Int)).natAbs = 2 * (q.den : Int).natAbs := by omega
      rw [h2, show 301 = 300 + 1 from rfl, Nat.pow_succ]
      omega
    have z2dy : (2 * (q.den : Int) * y).natAbs < 2 ^ 401 := by
      rw [Int.natAbs_mul]
      exact mul_lt2 z2d kok.small
    have w2 : ∀ i : Int, i.natAbs < 2 ^ 900 → i.natAbs < 2 ^ 2000 := fun i h => Nat.lt_of_lt_of_le h (Nat.pow_le_pow_right (by decide) (by decide))
    have n2 : 2 * (q.den : Int) * y ≠ 0 := Int.mul_ne_zero (by have := dne q; omega) kok.ne
    refine ⟨_, rfl, _, rfl, _, rfl, ⟨_, rfl, Or.inr (Or.inl ⟨a, _, 1, _, rfl, rfl, SqT.of ha, at_of (j := 1) rfl rfl, Or.inl ⟨_, _, rfl, rfl, mulL (by decide), ?_⟩⟩)⟩⟩
    refine ⟨_, rfl, Or.inr (Or.inl ⟨ka, _, 1, _, rfl, rfl, SqT.of hka, at_of (j := 1) rfl rfl, Or.inl ⟨_, _, rfl, rfl, mul2 (Nat.lt_of_lt_of_le z2d (Nat.pow_le_pow_right (by decide) (by decide))) (w2 _ (b9 _ zy)), ?_⟩⟩)⟩
    refine ⟨(by show 2 ≤ sizeLine; decide), fun b hb => ?_⟩
    have e1 := sameNew (o := HO.tup [.int side, .int (2 * (q.den : Int) * y)]) hb
    refine ⟨a, b, q.num, (q.den : Int), side, 2 * (q.den : Int) * y, rfl, e1 _ _ ha, upd_same, dne q, n2, b9 _ (szN zq), b9 _ zd, Nat.lt_of_le_of_lt hs (by decide), Nat.lt_of_lt_of_le z2dy (Nat.pow_le_pow_right (by decide) (by decide)), fun v2 H2 e2 hv2 => ?_⟩
    rw [rdq] at hv2
    have zs : Sz 401 (Rat.divInt side (2 * (q.den : Int) * y)) := sz_di n2 (Nat.lt_of_le_of_lt hs (by decide)) z2dy
    exact ⟨ka, v2, x, y, fr, _, rfl, ⟨(e1.trans e2) _ _ hka, kok⟩, hv2, (sz_add zq zs).mono (by decide), k H2 (e1.trans e2)⟩
theorem G__law_near (T : Tx K mg d) : FnR P w K mg base CX0 4 d._law_near spNear := by
  have G__law_draw : FnR P w K mg base CX0 1 d._law_draw spDraw := G__law_draw T
  have G__law_pick : FnR P w K mg base CX0 2 d._law_pick spPick := G__law_pick T
  have G__law_number : FnR P w K mg base CX0 3 d._law_number spNumber := G__law_number T
  have G__law_plus : FnR P w K mg base CX0 2 d._law_plus (fun vs H Q E => spPlus (vs ++ [.int 1]) H Q E) := G__law_plus T
  obtain ⟨fd, F⟩ := T.F__law_near
  refine FnR.imp (FnOk.raw (F.ok sc__law_near (k := 3) (sp := spNear) (fun vs H Q E h => ?_) (fun cdv A outer s H vs Q E hr h => ?_)) (F.binds fun _ _ _ _ _ _ us hl => match us, hl with | [_, _], _ => rfl) .nil) fun vs H Q E h => by rw [List.append_nil]; exact h
  · obtain ⟨p, a, n, x, y, fr, rfl, _⟩ := h
    rfl
  · obtain ⟨p, ka, n, x, y, fr, rfl, hp, hn, ⟨hka, kok⟩, k⟩ := h
    -- slots: 0 _law_pen_here, 1 _law_kind_here, 2 _law_step
    refine ⟨_, (pss_cons (ps_if (pt_cmpR (uEq hr.units) (pe_fnR G__law_draw (hr.mono (by decide)) T.k__law_draw T.m__law_draw pass0 (pa_cons (pv 0) (pa_cons pe_int pa_nil))) pe_int (nomark _)) (pss_one (ps_ret (pe_fnR G__law_number (hr.mono (by decide)) T.k__law_number T.m__law_number pass0 (pa_cons (pv 0) pa_nil)))) pss_nil)
      (pss_cons (ps_set (i := 2) sc__law_near.nd rfl (Or.inl rfl) (pe_fnR G__law_plus (hr.mono (by decide)) T.k__law_plus T.m__law_plus pass0 (pa_cons (pe_tup (pa_cons (pe_ix ix_seq (pv 1) pe_int (fun _ _ => rfl)) (pa_cons (pe_ix ix_seq (pv 1) pe_int (fun _ _ => rfl)) pa_nil))) (pa_cons (pe_tup (pa_cons (pe_op uSub (pe_fnR G__law_draw (hr.mono (by decide)) T.k__law_draw T.m__law_draw pass0 (pa_cons (pv 0) (pa_cons pe_int pa_nil))) pe_int) (pa_cons pe_int pa_nil))) pa_nil))))
      (pss_one (ps_ret (pe_fnR G__law_plus (hr.mono (by decide)) T.k__law_plus T.m__law_plus pass0 (pa_cons (pv 2) (pa_cons (pe_fnR G__law_pick (hr.mono (by decide)) T.k__law_pick T.m__law_pick pass0 (pa_cons (pv 0) (pa_cons (pe_lst (pa_cons (pe_tup (pa_cons pe_int (pa_cons pe_int pa_nil))) (pa_cons (pe_tup (pa_cons pe_int (pa_cons pe_int pa_nil))) (pa_cons (pe_tup (pa_cons pe_int (pa_cons pe_int pa_nil))) (pa_cons (pe_tup (pa_cons (pe_un uNeg pe_int) (pa_cons pe_int pa_nil))) (pa_cons (pe_tup (pa_cons pe_int (pa_cons (pe_op op_pow pe_int pe_int) pa_nil))) (pa_cons (pe_tup (pa_cons (pe_un uNeg pe_int) (pa_cons (pe_op op_pow pe_int pe_int) pa_nil))) pa_nil))))))) pa_nil))) pa_nil))))))), ?_⟩
    refine ⟨_, rfl, ⟨p, n, 2, rfl, hp, by omega, by decide, by decide, fun e H1 _ _ p1 u1 => Or.inl ⟨rfl, _, rfl, if2 (fun h2 => ?_) (fun h2 => ?_)⟩⟩⟩
    · refine ⟨_, rfl, ⟨p, n + 1, rfl, p1, by omega, fun v q H2 hv zq p2 u2 => ?_⟩⟩
      exact k v q H2 hv (zq.mono (by decide)) (p2.mono (by omega)) (u1.trans u2)
    · have hka := u1.tup hka
      refine ⟨_, rfl, Or.inr (Or.inl ⟨ka, _, 0, _, rfl, rfl, SqT.of hka, at_of (j := 0) rfl rfl, ⟨_, rfl, Or.inr (Or.inl ⟨ka, _, 1, _, rfl, rfl, SqT.of hka, at_of (j := 1) rfl rfl, ?_⟩)⟩⟩)⟩
      refine ⟨(by show 2 ≤ sizeLine; decide), fun b hb => ?_⟩
      have e1 := sameNew (o := HO.tup [.int x, .int y]) hb
      refine ⟨_, rfl, ⟨p, n + 1, 9, rfl, p1.up e1, by omega, by decide, by decide, fun m H2 m0 m1 p2 u2 => Or.inl ⟨_, _, rfl, rfl, ?_⟩⟩⟩
      refine ⟨(by show 2 ≤ sizeLine; decide), fun c hc => ?_⟩
      have e2 := sameNew (o := HO.tup [.int (m - 4), .int 1]) hc
      have zm : (m - 4).natAbs < 2 ^ 100 := Nat.lt_of_le_of_lt (m := 9) (by omega) (by decide)
      have g9 : ∀ i : Int, i.natAbs < 2 ^ 100 → i.natAbs < 2 ^ 900 := fun i h => Nat.lt_of_lt_of_le h (Nat.pow_le_pow_right (by decide) (by decide))
      refine ⟨b, c, x, y, m - 4, 1, rfl, e2 _ _ (u2.tup (upd_same (o := HO.tup [.int x, .int y]))), upd_same, kok.ne, by decide, g9 _ kok.smallx, g9 _ kok.small, g9 _ zm, g9 _ (by decide), fun v H3 e3 hv => ?_⟩
      have up3 := ((u1.trans (Up.new hb)).trans (u2.trans (Up.new hc))).trans (Up.same e3)
      have p3 := (p2.up e2).up e3
      have zs : Sz 109 (Rat.divInt x y + Rat.divInt (m - 4) 1) := sz_add kok.sz (sz_di (n := 8) (by decide) (Nat.lt_of_le_of_lt (m := 9) (by omega) (by decide)) (by decide))
      clear e1 e2 e3 hb hc u1 u2 p1 p2 hp
      generalize Rat.divInt x y + Rat.divInt (m - 4) 1 = s at *
      obtain ⟨sa, rfl, hsa⟩ := hv
      refine ⟨_, rfl, _, rfl, (by show 2 ≤ sizeLine; decide), fun t1 h1 => ⟨(by show 2 ≤ sizeLine; decide), fun t2 h2 => ⟨(by show 2 ≤ sizeLine; decide), fun t3 h3 => Or.inl ⟨_, rfl, (by show 2 ≤ sizeLine; decide), fun t4 h4 => ⟨_, _, rfl, rfl, ⟨by decide, by decide, by decide⟩, (by show 2 ≤ sizeLine; decide), fun t5 h5 => Or.inl ⟨_, rfl, ⟨_, _, rfl, rfl, ⟨by decide, by decide, by decide⟩, (by show 2 ≤ sizeLine; decide), fun t6 h6 => ⟨(by show 6 ≤ sizeLine; decide), fun l hl => ?_⟩⟩⟩⟩⟩⟩⟩⟩
      have S2 := sameNew (o := HO.tup [.int 0, .int 1]) h2
      have S3 := sameNew (o := HO.tup [.int 1, .int 1000]) h3
      have S4 := sameNew (o := HO.tup [.int (-1), .int 1000]) h4
      have S5 := sameNew (o := HO.tup [.int 1, .int (10 ^ Int.toNat 28)]) h5
      have S6 := sameNew (o := HO.tup [.int (-1), .int (10 ^ Int.toNat 28)]) h6
      have S7 := sameNew (o := HO.lst [.ref t1, .ref t2, .ref t3, .ref t4, .ref t5, .ref t6]) hl
      have S1 := sameNew (o := HO.tup [.int 0, .int 1]) h1
      have A6 := S6.trans S7
      have A5 := S5.trans A6
      have A4 := S4.trans A5
      have A3 := S3.trans A4
      have A2 := S2.trans A3
      have A1 := S1.trans A2
      obtain ⟨o, ho⟩ := p3.some
      have np : l ≠ p := by
        have := (S1.trans (S2.trans (S3.trans (S4.trans (S5.trans S6))))) _ _ ho
        exact (ne_of_none this hl).symm
      have e28 : (10 : Int) ^ Int.toNat 28 = 10000000000000000000000000000 := by decide
      refine ⟨p, l, n + 2, _, rfl, p3.up A1, by omega, Or.inl ⟨upd_same, np⟩, by show 0 < 6; decide, by show 6 ≤ 1000; decide, fun w H4 hw p4 u4 => ?_⟩
      obtain ⟨t, z, u, rfl, ht, hu, zz, zu⟩ : ∃ t z u, w = V.ref t ∧ H4 t = some (.tup [.int z, .int u]) ∧ u ≠ 0 ∧ z.natAbs < 2 ^ 100 ∧ u.natAbs < 2 ^ 100 := by
        simp only [List.mem_cons, List.not_mem_nil, or_false] at hw
        rcases hw with rfl | rfl | rfl | rfl | rfl | rfl
        · exact ⟨_, _, _, rfl, u4.tup (A2 _ _ upd_same), by decide, by decide, by decide⟩
        · exact ⟨_, _, _, rfl, u4.tup (A3 _ _ upd_same), by decide, by decide, by decide⟩
        · exact ⟨_, _, _, rfl, u4.tup (A4 _ _ upd_same), by decide, by decide, by decide⟩
        · exact ⟨_, _, _, rfl, u4.tup (A5 _ _ upd_same), by decide, by decide, by decide⟩
        · exact ⟨_, _, _, rfl, u4.tup (A6 _ _ upd_same), by rw [e28]; decide, by decide, by rw [e28]; decide⟩
        · exact ⟨_, _, _, rfl, u4.tup (S7 _ _ upd_same), by rw [e28]; decide, by decide, by rw [e28]; decide⟩
      have up4 := (up3.trans (Up.same A1)).trans u4
      refine ⟨sa, t, s.num, (s.den : Int), z, u, rfl, u4.tup (A1 _ _ hsa), ht, dne s, hu, ?_, ?_, g9 _ zz, g9 _ zu, fun v2 H5 e5 hv2 => ?_⟩
      · exact Nat.lt_of_lt_of_le (szN zs) (Nat.pow_le_pow_right (by decide) (by decide))
      · exact Nat.lt_of_lt_of_le (szD zs) (Nat.pow_le_pow_right (by decide) (by decide))
      rw [rdq] at hv2
      exact k v2 _ H5 hv2 ((sz_add zs (sz_di hu zz zu)).mono (by decide)) ((p4.mono (by omega)).up e5) (up4.trans (Up.same e5))
theorem GK_Rounding___call__ (T : Tx K mg d) : FnRk P w K mg base CX0 7 d.Rounding___call__ ["number"] g11 (spRnd d.Ratio d.Rounding pix) := by
  have G_fraction_of : FnR P w K mg base CX0 5 d.fraction_of (spOf d.Ratio) := G_fraction_of T
  have G_Rounding_drawn_at : FnR P w K mg base CX0 6 d.Rounding_drawn_at (spDrawnAt d.Ratio d.Rounding) := G_Rounding_drawn_at T
  obtain ⟨fd, F⟩ := T.F_Rounding___call__
  refine FnOk.rawk (F.ok sc_Rounding___call__ (k := 6) (sp := spRnd d.Ratio d.Rounding pix) (fun vs H Q E h => ?_) (fun cdv A outer s H vs Q E hr h => ?_)) (g := g11) (gV := g11) ?_ (fun e0 => e0.mod.kin.keeps fun b o e => (e0.bs b o e).1)
  · obtain ⟨r, v, t, fr, x, rfl, _⟩ := h
    rfl
  · obtain ⟨r, v, t, fr, x, rfl, hR, hv, zx, k⟩ := h
    obtain ⟨ok, dr, b, hr1, hb⟩ := id hR
    -- slots: 0 self, 1 number
    refine ⟨_, (pss_one (ps_ret (pe_mR (pv 0) T.c_Rounding T.h_Rounding_drawn_at G_Rounding_drawn_at (hr.mono (by decide)) pass0 (pa_cons (pe_fnR G_fraction_of (hr.mono (by decide)) T.k_fraction_of T.m_fraction_of pass0 (pa_cons (pv 1) pa_nil)) pa_nil)))), ?_⟩
    refine ⟨_, rfl, r, dr, _, rfl, hr1, rfl, _, rfl, ⟨_, x, rfl, hv, fun p H1 e1 hp => ?_⟩⟩
    exact ⟨r, p, t, fr, x, rfl, hR.same e1, hp, zx, fun H2 e2 => k H2 (e1.trans e2)⟩
  · obtain ⟨oc, od, kV, doc, pm, an, cdv, ct, osl, rfl, lk, hcd⟩ := F.ex
    exact kbinds11 fun a b => rfl
theorem GK_Rounding_before (T : Tx K mg d) : FnRk P w K mg base CX0 7 d.Rounding_before ["number"] g11 (spRnd d.Ratio d.Rounding fun t _ x => (x - t).ceil) := by
  have G_fraction_of : FnR P w K mg base CX0 5 d.fraction_of (spOf d.Ratio) := G_fraction_of T
  have G_sub : FnR P w K mg base CX0 5 d.Ratio___sub__ (spBin d.Ratio (· - ·)) := G_Ratio___sub__ T
  have G_Ratio_ceiling : FnR P w K mg base CX0 1 d.Ratio_ceiling (spFlo d.Ratio Rat.ceil) := G_Ratio_ceiling T
  obtain ⟨fd, F⟩ := T.F_Rounding_before
  refine FnOk.rawk (F.ok sc_Rounding_before (k := 6) (sp := spRnd d.Ratio d.Rounding fun t _ x => (x - t).ceil) (fun vs H Q E h => ?_) (fun cdv A outer s H vs Q E hr h => ?_)) (g := g11) (gV := g11) ?_ (fun e0 => e0.mod.kin.keeps fun b o e => (e0.bs b o e).1)
  · obtain ⟨r, v, t, fr, x, rfl, _⟩ := h
    rfl
  · obtain ⟨r, v, t, fr, x, rfl, hR, hv, zx, k⟩ := h
    -- slots: 0 self, 1 number
    refine ⟨_, (pss_one (ps_ret (pe_mR0 (pe_op uSub (pe_fnR G_fraction_of (hr.mono (by decide)) T.k_fraction_of T.m_fraction_of pass0 (pa_cons (pv 1) pa_nil)) (pe_fld (pv 0) rfl)) T.c_Ratio T.h_Ratio_ceiling G_Ratio_ceiling (hr.mono (by decide)) pass0))), ?_⟩
    refine ⟨_, rfl, ⟨_, x, rfl, hv, fun a H1 e1 ha => ?_⟩⟩
    obtain ⟨ok, dr, b, hr1, hb⟩ := hR.same e1
    refine ⟨_, rfl, r, _, dr, _, _, rfl, hr1, T.c_Rounding, T.a_Rounding_threshold, rfl, Or.inr (own_bin T.b_Ratio_sub G_sub (hr.mono (by decide)) ha (num_r hb) (zx.mono (by decide)) (ok.sz.mono (by decide)) fun p H2 e2 hp => ?_)⟩
    obtain ⟨dp, hpp⟩ := id hp
    exact ⟨p, dp, _, rfl, hpp, rfl, ⟨p, _, rfl, hp, (sz_sub zx ok.sz).mono (by decide), k H2 (e1.trans e2)⟩⟩
  · obtain ⟨oc, od, kV, doc, pm, an, cdv, ct, osl, rfl, lk, hcd⟩ := F.ex
    exact kbinds11 fun a b => rfl
theorem GK_Rounding_behind (T : Tx K mg d) : FnRk P w K mg base CX0 7 d.Rounding_behind ["number"] g11 (spRnd d.Ratio d.Rounding fun t _ x => (x - t).floor + 1) := by
  have G_fraction_of : FnR P w K mg base CX0 5 d.fraction_of (spOf d.Ratio) := G_fraction_of T
  have G_sub : FnR P w K mg base CX0 5 d.Ratio___sub__ (spBin d.Ratio (· - ·)) := G_Ratio___sub__ T
  have G_Ratio_floor : FnR P w K mg base CX0 1 d.Ratio_floor (spFlo d.Ratio Rat.floor) := G_Ratio_floor T
  obtain ⟨fd, F⟩ := T.F_Rounding_behind
  refine FnOk.rawk (F.ok sc_Rounding_behind (k := 6) (sp := spRnd d.Ratio d.Rounding fun t _ x => (x - t).floor + 1) (fun vs H Q E h => ?_) (fun cdv A outer s H vs Q E hr h => ?_)) (g := g11) (gV := g11) ?_ (fun e0 => e0.mod.kin.keeps fun b o e => (e0.bs b o e).1)
  · obtain ⟨r, v, t, fr, x, rfl, _⟩ := h
    rfl
  · obtain ⟨r, v, t, fr, x, rfl, hR, hv, zx, k⟩ := h
    -- slots: 0 self, 1 number
    refine ⟨_, (pss_one (ps_ret (pe_op uAdd (pe_mR0 (pe_op uSub (pe_fnR G_fraction_of (hr.mono (by decide)) T.k_fraction_of T.m_fraction_of pass0 (pa_cons (pv 1) pa_nil)) (pe_fld (pv 0) rfl)) T.c_Ratio T.h_Ratio_floor G_Ratio_floor (hr.mono (by decide)) pass0) pe_int))), ?_⟩
    refine ⟨_, rfl, ⟨_, x, rfl, hv, fun a H1 e1 ha => ?_⟩⟩
    obtain ⟨ok, dr, b, hr1, hb⟩ := hR.same e1
    refine ⟨_, rfl, r, _, dr, _, _, rfl, hr1, T.c_Rounding, T.a_Rounding_threshold, rfl, Or.inr (own_bin T.b_Ratio_sub G_sub (hr.mono (by decide)) ha (num_r hb) (zx.mono (by decide)) (ok.sz.mono (by decide)) fun p H2 e2 hp => ?_)⟩
    obtain ⟨dp, hpp⟩ := id hp
    exact ⟨p, dp, _, rfl, hpp, rfl, ⟨p, _, rfl, hp, (sz_sub zx ok.sz).mono (by decide), Or.inl ⟨_, _, rfl, rfl, k H2 (e1.trans e2)⟩⟩⟩
  · obtain ⟨oc, od, kV, doc, pm, an, cdv, ct, osl, rfl, lk, hcd⟩ := F.ex
    exact kbinds11 fun a b => rfl
theorem GK_Rounding_is_step (T : Tx K mg d) : FnRk P w K mg base CX0 7 d.Rounding_is_step ["number"] g11 (spStep d.Ratio d.Rounding) := by
  have G_fraction_of : FnR P w K mg base CX0 5 d.fraction_of (spOf d.Ratio) := G_fraction_of T
  have G_sub : FnR P w K mg base CX0 5 d.Ratio___sub__ (spBin d.Ratio (· - ·)) := G_Ratio___sub__ T
  obtain ⟨fd, F⟩ := T.F_Rounding_is_step
  refine FnOk.rawk (F.ok sc_Rounding_is_step (k := 6) (sp := spStep d.Ratio d.Rounding) (fun vs H Q E h => ?_) (fun cdv A outer s H vs Q E hr h => ?_)) (g := g11) (gV := g11) ?_ (fun e0 => e0.mod.kin.keeps fun b o e => (e0.bs b o e).1)
  · obtain ⟨r, v, t, fr, x, rfl, _⟩ := h
    rfl
  · obtain ⟨r, v, t, fr, x, rfl, hR, hv, zx, k⟩ := h
    -- slots: 0 self, 1 number
    refine ⟨_, (pss_one (ps_ret (pe_cmpR (uEq hr.units) (pe_fld (pe_op uSub (pe_fnR G_fraction_of (hr.mono (by decide)) T.k_fraction_of T.m_fraction_of pass0 (pa_cons (pv 1) pa_nil)) (pe_fld (pv 0) rfl)) rfl) pe_int (nomark _)))), ?_⟩
    refine ⟨_, rfl, ⟨_, x, rfl, hv, fun a H1 e1 ha => ?_⟩⟩
    obtain ⟨ok, dr, b, hr1, hb⟩ := hR.same e1
    refine ⟨_, rfl, r, _, dr, _, _, rfl, hr1, T.c_Rounding, T.a_Rounding_threshold, rfl, Or.inr (own_bin T.b_Ratio_sub G_sub (hr.mono (by decide)) ha (num_r hb) (zx.mono (by decide)) (ok.sz.mono (by decide)) fun p H2 e2 hp => ?_)⟩
    obtain ⟨dp, hpp⟩ := id hp
    have q := k H2 (e1.trans e2)
    rw [← one_den] at q
    exact ⟨p, _, dp, _, _, rfl, hpp, T.c_Ratio, T.a_Ratio_under, rfl, Or.inl ⟨rfl, q⟩⟩
  · obtain ⟨oc, od, kV, doc, pm, an, cdv, ct, osl, rfl, lk, hcd⟩ := F.ex
    exact kbinds11 fun a b => rfl
/-- repr of a list of ints -/
theorem reprInts {K : PySem.W.Frag} {H : Hp} {a : Addr} {i j l : Int} {Q : VK} (ha : H a = some (.lst [.int i, .int j, .int l])) (hi : i.natAbs < 2 ^ 1900) (hj : j.natAbs < 2 ^ 1900) (hl : l.natAbs < 2 ^ 1900)
    (q : Q (.str (PyData.shown (.list [.int i, .int j, .int l]))) H) : rReprD K [.ref a] H Q := by
  have b : ∀ n : Int, n.natAbs < 2 ^ 1900 → n.natAbs.log2 < 1920 := fun n h => Nat.lt_of_lt_of_le (PySem.Flt.log2_lt_of (by decide) h) (by decide)
  have c : ∀ n : Int, n.natAbs < 2 ^ 1900 → (Str.ofString (toString n)).length ≤ 1921 := fun n h => PyProof.Rows.int_text_len_1921 (b n h)
  refine ⟨a, .list [.int i, .int j, .int l], rfl, Dp.lst (SqL.of ha) (.cons (.int i) (.cons (.int j) (.cons (.int l) .nil))), ?_, rfl, by simp [PyData.depth, PyData.depthAll], ?_, q⟩
  · simp [PyData.showable, PyData.showableAll, b i hi, b j hj, b l hl]
  · show (listText [Str.ofString (toString i), Str.ofString (toString j), Str.ofString (toString l)]).length ≤ sizeLine
    have c1 := c i hi
    have c2 := c j hj
    have c3 := c l hl
    unfold listText
    simp only [textFrom]
    rw [slen, slen, slen, slen, slen, slen, slen]
    have e : 10000 ≤ sizeLine := by decide
    have d2 : ∀ b : Bool, (Str.ofString (if b then ", " else "")).length ≤ 2 := fun b => by cases b <;> decide
    have d0 := d2 (decide (0 > 0))
    have d1 := d2 (decide (0 + 1 > 0))
    have d3 := d2 (decide (0 + 1 + 1 > 0))
    have o1 : (Str.ofString "[").length = 1 := by decide
    have o2 : (Str.ofString "]").length = 1 := by decide
    simp only [decide_eq_true_eq] at d0 d1 d3
    omega
def spPart (m : Nat) : Sp := fun vs H Q _ => ∃ (p a : Addr) (n : Nat) (x y : Int) (fr : Bool), vs = [.ref p, .ref a] ∧ PenAt H p n ∧ n < 50000 ∧ KindAt H a x y fr ∧ ∀ H', PenAt H' p (n + m) → Up p H H' → Q (.bl true) H'
theorem G__law_right (T : Tx K mg d) : FnG P w K mg base CX0 9 d._law_right (spPart 7) := by
  have G__law_near : FnR P w K mg base CX0 4 d._law_near spNear := G__law_near T
  have G__law_ratio : FnR P w K mg base CX0 4 d._law_ratio (spLRatio d.Ratio) := G__law_ratio T
  have G__law_round : FnR P w K mg base CX0 1 d._law_round spLRound := G__law_round T
  have G__law_beside : FnR P w K mg base CX0 4 d._law_beside spBeside := G__law_beside T
  have G__law_rounding : FnR P w K mg base CX0 8 d._law_rounding (spRounding d.Ratio d.Rounding) := G__law_rounding T
  have G_Rounding___call__ : FnR P w K mg base CX0 7 d.Rounding___call__ (spRnd d.Ratio d.Rounding pix) := G_Rounding___call__ T
  have G_Rounding_before : FnR P w K mg base CX0 7 d.Rounding_before (spRnd d.Ratio d.Rounding fun t _ x => (x - t).ceil) := G_Rounding_before T
  have G_Rounding_behind : FnR P w K mg base CX0 7 d.Rounding_behind (spRnd d.Ratio d.Rounding fun t _ x => (x - t).floor + 1) := G_Rounding_behind T
  have G_Rounding_is_step : FnR P w K mg base CX0 7 d.Rounding_is_step (spStep d.Ratio d.Rounding) := G_Rounding_is_step T
  have GK_Rounding___call__ : FnRk P w K mg base CX0 7 d.Rounding___call__ ["number"] g11 (spRnd d.Ratio d.Rounding pix) := GK_Rounding___call__ T
  have GK_Rounding_before : FnRk P w K mg base CX0 7 d.Rounding_before ["number"] g11 (spRnd d.Ratio d.Rounding fun t _ x => (x - t).ceil) := GK_Rounding_before T
  have GK_Rounding_behind : FnRk P w K mg base CX0 7 d.Rounding_behind ["number"] g11 (spRnd d.Ratio d.Rounding fun t _ x => (x - t).floor + 1) := GK_Rounding_behind T
  have GK_Rounding_is_step : FnRk P w K mg base CX0 7 d.Rounding_is_step ["number"] g11 (spStep d.Ratio d.Rounding) := GK_Rounding_is_step T
  obtain ⟨fd, F⟩ := T.F__law_right
  refine fnG_of (k := 8) F sc__law_right (sp := spPart 7) (fun vs H Q E h => ?_) (fun cdv A outer s H vs Q E ng hr h => ?_) (F.binds fun _ _ _ _ _ _ us hl => match us, hl with | [_, _], _ => rfl)
  · obtain ⟨p, a, n, x, y, fr, rfl, _⟩ := h
    rfl
  · obtain ⟨p, ka, n, x, y, fr, rfl, hp, hn, hka, k⟩ := h
    -- slots: 0 _law_pen_here, 1 _law_kind_here, 2 _law_worth, 3 _law_rounding_here, 4 _law_asked, 5 _law_due, 6 _law_told
    refine ⟨_, (pss_cons (ps_set (i := 2) sc__law_right.nd rfl (Or.inl rfl) (pe_fnR G__law_near (hr.mono (by decide)) T.k__law_near T.m__law_near pass0 (pa_cons (pv 0) (pa_cons (pv 1) pa_nil))))
      (pss_cons (ps_par (i := 3) (j := 4) (by rfl) sc__law_right.nd rfl rfl (by decide) rfl rfl (pa_cons (pe_fnR G__law_rounding (hr.mono (by decide)) T.k__law_rounding T.m__law_rounding pass0 (pa_cons (pv 1) pa_nil)) (pa_cons (pe_fnR G__law_ratio (hr.mono (by decide)) T.k__law_ratio T.m__law_ratio pass0 (pa_cons (pv 0) (pa_cons (pv 2) pa_nil))) pa_nil)) (by rfl))
      (pss_cons (ps_set (i := 5) sc__law_right.nd rfl (Or.inl rfl) (pe_lst (pa_cons (pe_fnR G__law_round (hr.mono (by decide)) T.k__law_round T.m__law_round pass0 (pa_cons (pv 1) (pa_cons (pv 2) pa_nil))) (pa_cons (pe_fnR G__law_beside (hr.mono (by decide)) T.k__law_beside T.m__law_beside pass0 (pa_cons (pv 1) (pa_cons (pv 2) (pa_cons (pe_un uNeg pe_int) pa_nil)))) (pa_cons (pe_fnR G__law_beside (hr.mono (by decide)) T.k__law_beside T.m__law_beside pass0 (pa_cons (pv 1) (pa_cons (pv 2) (pa_cons pe_int pa_nil)))) pa_nil)))))
      (pss_cons (ps_set (i := 6) sc__law_right.nd rfl (Or.inl rfl) (pe_lst (pa_cons (StX.pe_callO (pv 3) T.o_Rounding G_Rounding___call__ (hr.mono (by decide)) pass0 (pa_cons (pv 4) pa_nil)) (pa_cons (pe_mR (pv 3) T.c_Rounding T.h_Rounding_before G_Rounding_before (hr.mono (by decide)) pass0 (pa_cons (pv 4) pa_nil)) (pa_cons (pe_mR (pv 3) T.c_Rounding T.h_Rounding_behind G_Rounding_behind (hr.mono (by decide)) pass0 (pa_cons (pv 4) pa_nil)) pa_nil)))))
      (pss_cons (ps_if (PW.pt (pw_or (pt_cmpR (uNe hr.units) (pe_callB (uRepr ng hr.units) (by rfl) T.n_repr (by decide +kernel) (pa_cons (pv 6) pa_nil)) (pe_callB (uRepr ng hr.units) (by rfl) T.n_repr (by decide +kernel) (pa_cons (pv 5) pa_nil)) (nomark _)) (pw_or1 (pt_cmpR (uNe hr.units) (pe_callB (uRepr ng hr.units) (by rfl) T.n_repr (by decide +kernel) (pa_cons (pe_lst (pa_cons (pe_callOk (pv 3) T.o_Rounding GK_Rounding___call__ (hr.mono (by decide)) pass0 (pk_cons (pv 4) pk_nil)) (pa_cons (pe_mRk (pv 3) T.c_Rounding T.h_Rounding_before GK_Rounding_before (hr.mono (by decide)) pass0 (pk_cons (pv 4) pk_nil)) (pa_cons (pe_mRk (pv 3) T.c_Rounding T.h_Rounding_behind GK_Rounding_behind (hr.mono (by decide)) pass0 (pk_cons (pv 4) pk_nil)) pa_nil)))) pa_nil)) (pe_callB (uRepr ng hr.units) (by rfl) T.n_repr (by decide +kernel) (pa_cons (pv 5) pa_nil)) (nomark _))))) (pss_one (ps_ret pe_bl)) pss_nil)
      (pss_one (ps_ret (pe_and (pe_cmpR (uEq hr.units) (pe_callB (uRepr ng hr.units) (by rfl) T.n_repr (by decide +kernel) (pa_cons (pe_mR (pv 3) T.c_Rounding T.h_Rounding_is_step G_Rounding_is_step (hr.mono (by decide)) pass0 (pa_cons (pv 4) pa_nil)) pa_nil)) (pe_callB (uRepr ng hr.units) (by rfl) T.n_repr (by decide +kernel) (pa_cons (pe_cmpR (uNe hr.units) (pe_ix ix_seq (pv 5) pe_int (fun _ _ => rfl)) (pe_ix ix_seq (pv 5) pe_int (fun _ _ => rfl)) (nomark _)) pa_nil)) (nomark _)) (pe_one (pe_cmpR (uEq hr.units) (pe_mRk (pv 3) T.c_Rounding T.h_Rounding_is_step GK_Rounding_is_step (hr.mono (by decide)) pass0 (pk_cons (pv 4) pk_nil)) (pe_mR (pv 3) T.c_Rounding T.h_Rounding_is_step G_Rounding_is_step (hr.mono (by decide)) pass0 (pa_cons (pv 4) pa_nil)) (nomark _))))))))))), ?_⟩
    refine ⟨_, rfl, _, rfl, ⟨p, ka, n, x, y, fr, rfl, hp, by omega, hka, fun v q H1 hv zq p1 u1 => ?_⟩⟩
    have hka1 := hka.up u1
    have kok := hka.2
    refine ⟨_, rfl, ⟨ka, x, y, fr, rfl, hka1, fun r H2 e2 hR => ?_⟩⟩
    obtain ⟨wa, rfl, hwa⟩ := hv
    refine ⟨_, rfl, _, rfl, ⟨p, n + 6, _, q, rfl, p1.up e2, by omega, ⟨wa, rfl, e2 _ _ hwa⟩, zq.mono (by decide), fun va H3 hva p3 u3 => ?_⟩⟩
    refine ⟨_, _, rfl, ?_⟩
    have hka := (hka1.same e2).up u3
    have hR := hR.up u3
    have hwa := u3.tup (e2 _ _ hwa)
    have up := (u1.trans (Up.same e2)).trans u3
    clear u1 e2 u3 hka1 p1 hp
    have zq9 : Sz 900 q := zq.mono (by decide)
    obtain ⟨B1, B2⟩ := pix_beside (x := x) (q := q) (fr := fr) kok.pos
    have bnd : ∀ g : Bool, (pix (Rat.divInt x y) g q).natAbs < 2 ^ 1900 := fun g => by
      have := pix_abs (fr := g) (N := 2 ^ 300) kok.rnd.lo kok.rnd.hi (Nat.le_of_lt (Nat.lt_of_lt_of_le zq.1 (by decide))) (by decide)
      exact Nat.lt_of_le_of_lt this (by decide)
    have bp := bnd fr
    have bc : ((q - Rat.divInt x y).ceil).natAbs < 2 ^ 1900 := bnd false
    have bf : ((q - Rat.divInt x y).floor + 1).natAbs < 2 ^ 1900 := bnd true
    have hstep := step_eq (q - Rat.divInt x y)
    refine ⟨_, rfl, _, rfl, ⟨ka, _, x, y, fr, q, rfl, hka, ⟨wa, rfl, hwa⟩, zq9, ?_⟩⟩
    refine ⟨_, rfl, _, rfl, Or.inl ⟨_, rfl, ⟨ka, _, x, y, fr, q, -1, rfl, hka, ⟨wa, rfl, hwa⟩, zq, by decide, fun H4 e4 => ?_⟩⟩⟩
    refine ⟨_, rfl, _, rfl, ⟨ka, _, x, y, fr, q, 1, rfl, hka.same e4, ⟨wa, rfl, e4 _ _ hwa⟩, zq, by decide, fun H5 e5 => ⟨(by show 3 ≤ sizeLine; decide), fun l1 hl1 => ?_⟩⟩⟩
    rw [B1, B2]
    clear B1 B2
    generalize Rat.divInt x y = t at *
    have s1 := sameNew (o := HO.lst [.int (pix t fr q), .int (q - t).ceil, .int ((q - t).floor + 1)]) hl1
    have e6 := (e4.trans e5).trans s1
    have L1 : upd H5 l1 (HO.lst [.int (pix t fr q), .int (q - t).ceil, .int ((q - t).floor + 1)]) l1 = some (HO.lst [.int (pix t fr q), .int (q - t).ceil, .int ((q - t).floor + 1)]) := upd_same
    have hR := hR.same e6
    have hva := hva.same e6
    have P6 := p3.up e6
    have up := up.trans (Up.same e6)
    clear e4 e5 hwa hka p3
    generalize upd H5 l1 (HO.lst [.int (pix t fr q), .int (q - t).ceil, .int ((q - t).floor + 1)]) = H6 at *
    clear e6 s1
    obtain ⟨rok, dr, br, hr0, hbr⟩ := id hR
    refine ⟨_, rfl, r, rfl, _, rfl, insR hR, ⟨r, _, t, fr, q, rfl, hR, hva, zq9, fun Ha ea => ?_⟩⟩
    refine ⟨_, rfl, r, dr, _, rfl, ea _ _ hr0, rfl, _, rfl, ⟨r, _, t, fr, q, rfl, hR.same ea, hva.same ea, zq9, fun Hb eb => ?_⟩⟩
    have eab := ea.trans eb
    refine ⟨_, rfl, r, dr, _, rfl, eab _ _ hr0, rfl, _, rfl, ⟨r, _, t, fr, q, rfl, hR.same eab, hva.same eab, zq9, fun Hc ec => ⟨(by show 3 ≤ sizeLine; decide), fun l2 hl2 => ?_⟩⟩⟩
    have s2 := sameNew (o := HO.lst [.int (pix t fr q), .int (q - t).ceil, .int ((q - t).floor + 1)]) hl2
    have e7 := (eab.trans ec).trans s2
    have L2 : upd Hc l2 (HO.lst [.int (pix t fr q), .int (q - t).ceil, .int ((q - t).floor + 1)]) l2 = some (HO.lst [.int (pix t fr q), .int (q - t).ceil, .int ((q - t).floor + 1)]) := upd_same
    have L1 := e7 _ _ L1
    have hR := hR.same e7
    have hva := hva.same e7
    have P7 := P6.up e7
    have up := up.trans (Up.same e7)
    have hr7 := e7 _ _ hr0
    clear ea eb ec eab
    generalize upd Hc l2 (HO.lst [.int (pix t fr q), .int (q - t).ceil, .int ((q - t).floor + 1)]) = H7 at *
    clear e7 s2 hr0 P6
    try dsimp only [tNext, gName]
    refine sif (fun Q' qq => ?_) (fun H8 e8 => ?_)
    · refine ⟨_, rfl, Or.inr (Or.inr (reprInts L2 bp bc bf ?_))⟩
      refine ⟨_, rfl, Or.inr (Or.inr (reprInts L1 bp bc bf (Or.inl ⟨rfl, _, rfl, ifF (by simp) ?_⟩)))⟩
      refine ⟨_, rfl, r, rfl, _, rfl, insR hR, ⟨r, _, t, fr, q, rfl, hR, hva, zq9, fun Ha ea => ?_⟩⟩
      refine ⟨_, rfl, r, dr, _, rfl, ea _ _ hr7, rfl, _, rfl, ⟨r, _, t, fr, q, rfl, hR.same ea, hva.same ea, zq9, fun Hb eb => ?_⟩⟩
      have eab := ea.trans eb
      refine ⟨_, rfl, r, dr, _, rfl, eab _ _ hr7, rfl, _, rfl, ⟨r, _, t, fr, q, rfl, hR.same eab, hva.same eab, zq9, fun Hc ec => ⟨(by show 3 ≤ sizeLine; decide), fun l3 hl3 => ?_⟩⟩⟩
      have s3 := sameNew (o := HO.lst [.int (pix t fr q), .int (q - t).ceil, .int ((q - t).floor + 1)]) hl3
      have e9 := (eab.trans ec).trans s3
      refine Or.inr (Or.inr (reprInts upd_same bp bc bf ?_))
      exact ⟨_, rfl, Or.inr (Or.inr (reprInts (e9 _ _ L1) bp bc bf (Or.inl ⟨rfl, _, rfl, qb (by simp) (qq _ e9)⟩)))⟩
    have L1 := e8 _ _ L1
    have hR := hR.same e8
    have hva := hva.same e8
    have P8 := P7.up e8
    have up := up.trans (Up.same e8)
    have hr8 := e8 _ _ hr7
    clear e8 hr7 P7 L2
    refine ⟨_, rfl, r, dr, _, rfl, hr8, rfl, _, rfl, ⟨r, _, t, fr, q, rfl, hR, hva, zq9, fun Ha ea => Or.inl ⟨_, rfl, ?_⟩⟩⟩
    refine ⟨_, rfl, Or.inl ⟨l1, _, 1, _, rfl, rfl, SqL.of (ea _ _ L1), at_of (j := 1) rfl rfl, ⟨_, rfl, Or.inl ⟨l1, _, 2, _, rfl, rfl, SqL.of (ea _ _ L1), at_of (j := 2) rfl rfl, Or.inl ⟨rfl, Or.inl ⟨_, rfl, Or.inl ⟨rfl, _, rfl, ?_⟩⟩⟩⟩⟩⟩⟩
    refine ifT ?_ ?_
    · have : (!decide (V.int (q - t).ceil = V.int ((q - t).floor + 1))) = decide ((q - t).den = 1) := by
        by_cases h : (q - t).den = 1
        · simp [h] at hstep ⊢
          omega
        · simp [h] at hstep ⊢
          omega
      rw [this]
      simp
    refine ⟨_, rfl, r, dr, _, rfl, ea _ _ hr8, rfl, _, rfl, ⟨r, _, t, fr, q, rfl, hR.same ea, hva.same ea, zq9, fun Hb eb => ?_⟩⟩
    have eab := ea.trans eb
    refine ⟨_, rfl, r, dr, _, rfl, eab _ _ hr8, rfl, _, rfl, ⟨r, _, t, fr, q, rfl, hR.same eab, hva.same eab, zq9, fun Hc ec => Or.inl ⟨rfl, ?_⟩⟩⟩
    have e9 := eab.trans ec
    exact vb (by simp) (k _ (P8.up e9) (up.trans (Up.same e9)))
theorem GK_Rounding___init__ (T : Tx K mg d) : FnRk P w K mg base CX0 6 d.Rounding___init__ ["is_from", "threshold"] g12 (spRInit d.Ratio d.Rounding) := by
  obtain ⟨fd, F⟩ := T.D_Rounding___init__
  have G_is_number : FnR P w K mg base CX0 2 d.is_number (spIsNum K d.Ratio) := G_is_number T
  have G_lt : FnR P w K mg base CX0 5 d.Ratio___lt__ (spCmp d.Ratio fun x y => decide (x < y)) := G_Ratio___lt__ T
  have G_gt : FnR P w K mg base CX0 5 d.Ratio___gt__ (spCmp d.Ratio fun x y => decide (x > y)) := G_Ratio___gt__ T
  have G_eq : FnR P w K mg base CX0 2 d.Ratio___eq__ (spCmp d.Ratio fun x y => decide (x = y)) := G_Ratio___eq__ T
  have G_Ratio_of : FnR P w K mg base CX0 4 d.Ratio_of (spOf d.Ratio) := G_Ratio_of T
  have G : FnOk P w K mg base CX0 6 d.Rounding___init__ fd ["self", "threshold", "is_from"] (spRInit d.Ratio d.Rounding) := by
    refine F.ok sc_Rounding___init__ (fun vs H Q E h => ?_) (fun cdv A outer s H vs Q E hr h => ?_)
    · obtain ⟨p, dx, a, t, fr, rfl, _⟩ := h
      rfl
    obtain ⟨p, dx, a, t, fr, rfl, hp, ha, ok, k⟩ := h
    have zt : Sz 2000 t := ok.sz.mono (by decide)
    have z0 : Sz 2000 ((0 : Int) : Rat) := sz_i (by decide) (by decide)
    have z1 : Sz 2000 ((1 : Int) : Rat) := sz_i (by decide) (by decide)
    -- slots: 0 self, 1 threshold, 2 is_from
    refine ⟨_, (pss_cons (ps_if (PW.pt (pw_or (pt_not (pt_val (pe_fnR G_is_number (hr.mono (by decide)) T.k_is_number T.m_is_number pass0 (pa_cons (pv 1) pa_nil)))) (pw_or (pt_cmpR uLt (pv 1) pe_int (nomark _)) (pw_or1 (pt_cmpR uGt (pv 1) pe_int (nomark _)))))) pss_never pss_nil)
      (pss_cons (ps_if (pt_not (pt_val (pe_callB uIsi (by rfl) T.n_isinstance (by decide +kernel) (pa_cons (pv 2) (pa_cons (pe_bltn (v := .ty "bool") (by rfl) T.n_bool (by decide +kernel) rfl) pa_nil))))) pss_never pss_nil)
      (pss_cons (ps_if (pt_cmpR (uEq hr.units) (pv 1) (pe_ifExp (pt_val (pv 2)) pe_int pe_int) (nomark _)) pss_never pss_nil)
      (pss_cons (ps_fld (pv 0) (pe_smeth (pe_glob (v := .ref _) rfl T.m_Ratio rfl) T.s_Ratio_of G_Ratio_of (hr.mono (by decide)) pass0 (pa_cons (pv 1) pa_nil)) rfl)
      (pss_one (ps_fld (pv 0) (pv 2) rfl)))))), ?_⟩
    refine ⟨_, rfl, ⟨_, t, rfl, num_r ha, true, rfl, iteF ?_⟩⟩
    refine ⟨_, rfl, Or.inr (own_cmp T.q_Ratio_lt G_lt (hr.mono (by decide)) ha num_i zt z0 fun H1 e1 => ⟨_, rfl, ifF ?_ ?_⟩)⟩
    · exact decide_eq_false (by have := ok.lo; grind)
    refine ⟨_, rfl, Or.inr (own_cmp T.q_Ratio_gt G_gt (hr.mono (by decide)) (ha.same e1) num_i zt z1 fun H2 e2 => ⟨_, rfl, ifF ?_ ?_⟩)⟩
    · exact decide_eq_false (by have := ok.hi; grind)
    refine ⟨_, rfl, Or.inl ⟨_, _, _, _, true, rfl, .ty _, .base (.bl fr), T.i_bool_is_bool, true, rfl, iteF ?_⟩⟩
    have e12 := e1.trans e2
    have fin : ∀ H3, Same H H3 → ∀ b H4, Same H3 H4 → IsRat d.Ratio H4 b t → H4 p = some (.ins d.Rounding dx []) ∧ Q V.non (upd (upd H4 p (.ins d.Rounding dx [("threshold", .ref b)])) p (.ins d.Rounding dx [("threshold", .ref b), ("is_from", .bl fr)])) := fun H3 e3 b H4 e4 hb => by
      have hp4 : H4 p = some (.ins d.Rounding dx []) := e4 _ _ (e3 _ _ hp)
      obtain ⟨db, hb4⟩ := hb
      have hbp : b ≠ p := ne_of hb4 hp4 (by intro z; injection z with z1 z2 z3; cases z3)
      refine ⟨hp4, k _ (fun z o e n => by rw [upd_ne n, upd_ne n]; exact e4 _ _ (e3 _ _ e)) ⟨ok, dx, b, upd_same, db, by rw [upd_ne hbp, upd_ne hbp]; exact hb4⟩⟩
    refine ⟨_, rfl, _, rfl, _, rfl, if2 (fun hf => ?_) (fun hf => ?_)⟩
    · refine Or.inr (Or.inl (own_cmp T.q_Ratio_eq G_eq (hr.mono (by decide)) (ha.same e12) num_i zt z0 fun H3 e3 => ⟨_, rfl, ifF ?_ ?_⟩))
      · exact decide_eq_false (by have := ok.f hf; grind)
      refine ⟨rfl, _, rfl, ⟨_, t, rfl, num_r ((ha.same e12).same e3), fun b H4 e4 hb => ?_⟩⟩
      obtain ⟨h4, q⟩ := fin H3 (e12.trans e3) b H4 e4 hb
      refine ⟨_, rfl, p, _, dx, _, rfl, h4, T.c_Rounding, T.a_Rounding_threshold, (by show 0 < 1000; decide), ?_⟩
      exact ⟨_, rfl, _, rfl, p, _, dx, _, rfl, upd_same, T.c_Rounding, T.a_Rounding_is_from, (by show 1 < 1000; decide), q⟩
    · refine Or.inr (Or.inl (own_cmp T.q_Ratio_eq G_eq (hr.mono (by decide)) (ha.same e12) num_i zt z1 fun H3 e3 => ⟨_, rfl, ifF ?_ ?_⟩))
      · exact decide_eq_false (by have := ok.a hf; grind)
      refine ⟨rfl, _, rfl, ⟨_, t, rfl, num_r ((ha.same e12).same e3), fun b H4 e4 hb => ?_⟩⟩
      obtain ⟨h4, q⟩ := fin H3 (e12.trans e3) b H4 e4 hb
      refine ⟨_, rfl, p, _, dx, _, rfl, h4, T.c_Rounding, T.a_Rounding_threshold, (by show 0 < 1000; decide), ?_⟩
      exact ⟨_, rfl, _, rfl, p, _, dx, _, rfl, upd_same, T.c_Rounding, T.a_Rounding_is_from, (by show 1 < 1000; decide), q⟩
  obtain ⟨its, hb⟩ := F.kbindsD (ps := ["self", "threshold", "is_from"]) 1 ["is_from", "threshold"] (fun us _ ws => g12 us ws) (by simp) (fun r _ z => vals_g12 r z) fun T kV doc pm an cdv ct us its ws h1 h2 h3 => match us, its, ws, h1, h2, h3 with
    | [_], [_], [_, _], _, _, _ => ⟨_, rfl, by dsimp only; rfl⟩
  refine FnOk.rawkn G hb fun vs zs h => ?_
  match vs, zs, h with
  | [_], [_, _], _ => exact ⟨rfl, rfl⟩
  | [], _, h => cases h
  | [_], [], h => cases h
  | [_], [_], h => cases h
  | [_], _ :: _ :: _ :: _, h => cases h
  | _ :: _ :: _, _, h => cases h
theorem G_Rounding___init__O (T : Tx K mg d) : FnR P w K mg base CX0 6 d.Rounding___init__ (fun vs H Q E => (spRInit d.Ratio d.Rounding vs H Q E ∨ spRInit d.Ratio d.Rounding (vs ++ [.bl true]) H Q E) ∨ (spRInitI d.Ratio d.Rounding vs H Q E ∨ spRInitI d.Ratio d.Rounding (vs ++ [.bl true]) H Q E)) :=
  FnR.or (G_Rounding___init__ T) (G_Rounding___init__I T)
theorem rnd_halfD : RndOk (Rat.divInt 1 2) false := ⟨⟨by decide +kernel, by decide +kernel⟩, by decide +kernel, by decide +kernel, by decide +kernel, by decide +kernel⟩
theorem G_Rounding_half_down (T : Tx K mg d) : FnR P w K mg base CX0 8 d.Rounding_half_down (spStat d.Ratio d.Rounding (Rat.divInt 1 2) false) := by
  have G_Ratio___init__ : FnR P w K mg base CX0 2 d.Ratio___init__ _ := G_Ratio___init__ T
  have G_Rounding___init__ : FnR P w K mg base CX0 6 d.Rounding___init__ _ := G_Rounding___init__ T
  obtain ⟨fd, F⟩ := T.F_Rounding_half_down
  refine FnR.imp (FnOk.raw (F.ok sc_Rounding_half_down (k := 7) (sp := spStat d.Ratio d.Rounding (Rat.divInt 1 2) false) (fun vs H Q E h => ?_) (fun cdv A outer s H vs Q E hr h => ?_)) (F.binds fun _ _ _ _ _ _ us hl => match us, hl with | [], _ => rfl) .nil) fun vs H Q E h => by rw [List.append_nil]; exact h
  · obtain ⟨rfl, _⟩ := h
    rfl
  · obtain ⟨rfl, k⟩ := h
    -- slots: 
    refine ⟨_, (pss_one (ps_ret (StX.pe_makeR T.mk_Rounding G_Rounding___init__ (hr.mono (by decide)) rfl T.m_Rounding pass0 (pa_cons (StX.pe_makeR T.mk_Ratio G_Ratio___init__ (hr.mono (by decide)) rfl T.m_Ratio pass0 (pa_cons pe_int (pa_cons pe_int pa_nil))) (pa_cons pe_bl pa_nil))))), ?_⟩
    refine fun p dp np nd ne => Or.inl (made' np nd (by decide) (by decide) fun H1 e1 hp => ⟨rfl, ?_⟩)
    exact fun x dx nx nd ne => Or.inl (rmade nx nd hp rnd_halfD fun H2 e2 R => k x H2 (e1.trans e2) R)
/-- beside what is no rounding == tells False -/
def spREqF (K : PySem.W.Frag) (D : Addr) : Sp := fun vs H Q _ => ∃ (r dx : Addr) (fs : List (Str × V)) (v : V) (t : Value), vs = [.ref r, v] ∧ H r = some (.ins D dx fs) ∧ TyX K H v t ∧ PySem.W.kitOne K t (.ref D) = some false ∧ Q (.bl false) H
theorem G_Rounding___eq__F (T : Tx K mg d) : FnR P w K mg base CX0 3 d.Rounding___eq__ (spREqF K d.Rounding) := by
  have G_eq : FnR P w K mg base CX0 2 d.Ratio___eq__ (spCmp d.Ratio fun x y => decide (x = y)) := G_Ratio___eq__ T
  obtain ⟨fd, F⟩ := T.F_Rounding___eq__
  refine FnR.imp (FnOk.raw (F.ok sc_Rounding___eq__ (k := 2) (sp := spREqF K d.Rounding) (fun vs H Q E h => ?_) (fun cdv A outer s H vs Q E hr h => ?_)) (F.binds fun _ _ _ _ _ _ us hl => match us, hl with | [_, _], _ => rfl) .nil) fun vs H Q E h => by rw [List.append_nil]; exact h
  · obtain ⟨r, dx, fs, v, t, rfl, _⟩ := h
    rfl
  · obtain ⟨r, dx, fs, v, t, rfl, hr1, ty, no, k⟩ := h
    -- slots: 0 self, 1 other
    refine ⟨_, (pss_cons (ps_if (pt_not (pt_val (pe_callB uIsi (by rfl) T.n_isinstance (by decide +kernel) (pa_cons (pv 1) (pa_cons (pe_glob (v := .ref _) rfl T.m_Rounding rfl) pa_nil))))) (pss_one (ps_ret pe_bl)) pss_nil)
      (pss_one (ps_ret (pe_and (pe_cmpR (uEq hr.units) (pe_fld (pv 0) rfl) (pe_fld (pv 1) rfl) (nomark _)) (pe_one (pe_cmpR (uEq hr.units) (pe_fld (pv 0) rfl) (pe_fld (pv 1) rfl) (nomark _))))))), ?_⟩
    exact ⟨_, rfl, Or.inl ⟨_, _, _, _, false, rfl, .own _, ty, no, false, rfl, iteT k⟩⟩
end
/-- the kinds as triples -/
def kset : List (Int × Int × Bool) := [(1, 2, true), (1, 2, false), (1, 1, true), (0, 1, false), (1, 3, true), (2, 3, false), (1, 4, false), (3, 5, true)]
theorem kset_all : (kset.all fun a => kset.all fun b => ((a.1 == b.1) && ((a.2.1 == b.2.1) && (a.2.2 == b.2.2))) == (decide (Rat.divInt a.1 a.2.1 = Rat.divInt b.1 b.2.1) && decide (V.bl a.2.2 = V.bl b.2.2))) = true := by decide +kernel
theorem kind_set {x y : Int} {fr : Bool} (h : [V.int x, V.int y, V.bl fr] ∈ kinds ++ kinds2) : (x, y, fr) ∈ kset := by
  simp only [kinds, kinds2, List.cons_append, List.nil_append, List.mem_cons, List.not_mem_nil, or_false, List.cons.injEq, V.int.injEq, V.bl.injEq, and_true] at h
  rcases h with ⟨rfl, rfl, rfl⟩ | ⟨rfl, rfl, rfl⟩ | ⟨rfl, rfl, rfl⟩ | ⟨rfl, rfl, rfl⟩ | ⟨rfl, rfl, rfl⟩ | ⟨rfl, rfl, rfl⟩ | ⟨rfl, rfl, rfl⟩ | ⟨rfl, rfl, rfl⟩ | ⟨rfl, rfl, rfl⟩ | ⟨rfl, rfl, rfl⟩ | ⟨rfl, rfl, rfl⟩ | ⟨rfl, rfl, rfl⟩ <;> decide +kernel
theorem kinds_eqv {x y x' y' : Int} {fr fr' : Bool} (h : (x, y, fr) ∈ kset) (h' : (x', y', fr') ∈ kset) :
    PyData.eqv (.tuple [.int x, .int y, .bool fr]) (.tuple [.int x', .int y', .bool fr']) = (decide (Rat.divInt x y = Rat.divInt x' y') && decide (V.bl fr = V.bl fr')) := by
  have a := List.all_eq_true.mp (List.all_eq_true.mp kset_all _ h) _ h'
  have b := eq_of_beq a
  rw [← b]
  simp [PyData.eqv, PyData.eqvAll]
theorem rmadeI' {C D x dx : Addr} {j : Int} {fr : Bool} {H : Hp} {W : VK} {E : XK} (nx : H x = none) (nd : H dx = none) (ok : RndOk (j : Rat) fr) (k : ∀ H', Same H H' → IsRnd C D H' x (j : Rat) fr → W .non H') :
    spRInitI C D [.ref x, .int j, .bl fr] (upd (upd H dx (.own x)) x (.ins D dx [])) W E :=
  ⟨x, dx, j, fr, rfl, upd_same, ok, fun H' kp r => k H' (Same.made nx nd kp) r⟩
theorem yes_then {σ : L2.St} {H : Hp} {A B : Hp → Prop} (h : A H) : tYes σ H (fun b H3 => if b = true then A H3 else B H3) := by
  show (if true = true then A H else B H)
  rw [if_pos rfl]
  exact h
def overs : List Int := [-3, -1, 0, 1, 2, 5]
def rowsOf : List (List Int) := [[-2, -1, -1, -2], [-1, 0, 0, -1], [0, 0, 0, 0], [0, 1, 1, 0], [1, 1, 1, 1], [2, 3, 3, 2]]
def fourK : List (Rat × Bool) := [(((1 : Int) : Rat), true), (((0 : Int) : Rat), false), (Rat.divInt 1 2, true), (Rat.divInt 1 2, false)]
theorem rows_right : rowsOf = overs.map fun o => fourK.map fun p => pix p.1 p.2 (Rat.divInt o 2) := by decide +kernel
theorem four_ok : ∀ p ∈ fourK, RndOk p.1 p.2 := by
  intro p h
  simp only [fourK, List.mem_cons, List.not_mem_nil, or_false] at h
  rcases h with rfl | rfl | rfl | rfl
  · exact rnd_down
  · exact rnd_up
  · exact rnd_half
  · exact rnd_halfD
theorem dp_rows {K : PySem.W.Frag} {H : Hp} : ∀ {as : List Addr} {rs : List (List Int)}, Paired (fun a ns => H a = some (.lst (ns.map V.int))) as rs → DpAll K H (as.map V.ref) (rs.map fun ns => .list (ns.map PyData.int))
  | _, _, .nil => .nil
  | _, _, .cons h t => .cons (Dp.lst (SqL.of h) (dp_ints _)) (dp_rows t)
theorem paired_imp {α β : Type} {F G : α → β → Prop} (f : ∀ a b, F a b → G a b) : ∀ {l : List α} {m : List β}, Paired F l m → Paired G l m
  | _, _, .nil => .nil
  | _, _, .cons h t => .cons (f _ _ h) (paired_imp f t)
theorem paired_snoc {α β : Type} {F : α → β → Prop} {a : α} {b : β} (h : F a b) : ∀ {l : List α} {m : List β}, Paired F l m → Paired F (l ++ [a]) (m ++ [b])
  | _, _, .nil => .cons h .nil
  | _, _, .cons g t => .cons g (paired_snoc h t)
/-- one rounding, twice -/
def SameRnd (C D : Addr) : Addr → V → Hp → Prop := fun r v H => ∃ s t fr, v = .ref s ∧ IsRnd C D H r t fr ∧ IsRnd C D H s t fr
theorem srnd_ext {C D : Addr} : ∀ (a : Addr) (b : V) (H H' : Hp), Ext H H' → SameRnd C D a b H → SameRnd C D a b H' := fun _ _ _ _ e ⟨s, t, fr, h, h1, h2⟩ => ⟨s, t, fr, h, h1.same e, h2.same e⟩
abbrev DRnd (C D : Addr) : Eqv := DOwn D (SameRnd C D)
theorem mon_rnd {C D : Addr} : Mon (DRnd C D) := mon_own srnd_ext
section
variable {X : Cx} {C D f : Addr} {k : Nat}
theorem eqG_rnd (M : CmpM X.K D .Eq f) (F : FnR X.prog X.w X.K X.mg X.base CX0 k f (spREq C D)) : EqG X k (DRnd C D) :=
  eqG_own (F.imp fun vs H Q E ⟨a, y, e, ⟨s, t, fr, h, h1, h2⟩, q⟩ => ⟨a, s, t, t, fr, fr, by rw [e, h], h1, h2, fun H' z => by simpa using q H' z⟩) M pass0
theorem dr_mk {H : Hp} {r s : Addr} {t : Rat} {fr : Bool} (h1 : IsRnd C D H r t fr) (h2 : IsRnd C D H s t fr) : DRnd C D (.ref r) (.ref s) H := by
  obtain ⟨_, dx, _, h, _⟩ := id h1
  obtain ⟨_, dy, _, h', _⟩ := id h2
  exact ⟨r, dx, _, rfl, h, Or.inr ⟨s, dy, _, rfl, h'⟩, s, t, fr, rfl, h1, h2⟩
end
abbrev scOver : Scope := { kind := .function, names := [(".0", .local), ("_law_over", .cell), ("_law_some", .cell)], isGenerator := false, isCoroutine := false }
def levelLaw : Nat := 10
def spLaw (K : PySem.W.Frag) : Sp := fun vs H Q _ => ∃ (a : Addr) (ns : List Int), vs = [.ref a] ∧ SqL K H a (ns.map V.int) ∧ ns.length ≤ 63 ∧ ∀ H', Q (.bl true) H'
section
variable {P : Program} {w : World} {K : PySem.W.Frag} {mg : Str → Option Value} {base : Heap} {d : Ad}
theorem G_law (T : Tx K mg d) : FnG P w K mg base CX0 10 d.law (spLaw K) := by
  have G__law_pen : FnR P w K mg base CX0 1 d._law_pen (spPen K) := G__law_pen T
  have G__law_kind : FnR P w K mg base CX0 3 d._law_kind spKind := G__law_kind T
  have G__law_rounding : FnR P w K mg base CX0 8 d._law_rounding (spRounding d.Ratio d.Rounding) := G__law_rounding T
  have G__law_right : FnG P w K mg base CX0 9 d._law_right (spPart 7) := G__law_right T
  have G_Ratio___init__ : FnR P w K mg base CX0 2 d.Ratio___init__ _ := G_Ratio___init__ T
  have G_Rounding___init__ : FnR P w K mg base CX0 6 d.Rounding___init__ _ := G_Rounding___init__O T
  have GK_Rounding___init__ : FnRk P w K mg base CX0 6 d.Rounding___init__ ["is_from", "threshold"] g12 (spRInit d.Ratio d.Rounding) := GK_Rounding___init__ T
  have G_eq : FnR P w K mg base CX0 2 d.Ratio___eq__ (spCmp d.Ratio fun x y => decide (x = y)) := G_Ratio___eq__ T
  have G_req : FnR P w K mg base CX0 3 d.Rounding___eq__ (spREq d.Ratio d.Rounding) := G_Rounding___eq__ T
  have G_reqF : FnR P w K mg base CX0 3 d.Rounding___eq__ (spREqF K d.Rounding) := G_Rounding___eq__F T
  have G_rstr : FnR P w K mg base CX0 5 d.Rounding___str__ (spRStr d.Ratio d.Rounding) := G_Rounding___str__ T
  have G_Rounding___call__ : FnR P w K mg base CX0 7 d.Rounding___call__ (spRnd d.Ratio d.Rounding pix) := G_Rounding___call__ T
  have G_Rounding_half_up : FnR P w K mg base CX0 8 d.Rounding_half_up (spStat d.Ratio d.Rounding (Rat.divInt 1 2) true) := G_Rounding_half_up T
  have G_Rounding_half_down : FnR P w K mg base CX0 8 d.Rounding_half_down (spStat d.Ratio d.Rounding (Rat.divInt 1 2) false) := G_Rounding_half_down T
  have G_Rounding_all_up : FnR P w K mg base CX0 8 d.Rounding_all_up (spStat d.Ratio d.Rounding ((0 : Int) : Rat) false) := G_Rounding_all_up T
  have G_Rounding_all_down : FnR P w K mg base CX0 8 d.Rounding_all_down (spStat d.Ratio d.Rounding ((1 : Int) : Rat) true) := G_Rounding_all_down T
  obtain ⟨fd, F⟩ := T.F_law
  refine fnG_of (k := 9) F sc_law (sp := spLaw K) (fun vs H Q E h => ?_) (fun cdv A outer s H vs Q E ng hr h => ?_) (F.binds fun _ _ _ _ _ _ us hl => match us, hl with | [_], _ => rfl)
  · obtain ⟨a, ns, rfl, _⟩ := h
    rfl
  · obtain ⟨a, ns, rfl, hS, hlen, k⟩ := h
    -- slots: 0 _law_script, 1 _law_pen_here, 2 _law_turn, 3 _law_kind_here, 4 _law_made, 5 _law_other, 6 _law_lap, 7 _law_some, 8 _law_told, 9 _law_one, 10 _law_over
    refine ⟨_, (pss_cons (ps_set (i := 1) sc_law.nd rfl (Or.inl rfl) (pe_fnR G__law_pen (hr.mono (by decide)) T.k__law_pen T.m__law_pen pass0 (pa_cons (pv 0) pa_nil)))
      (pss_cons (ps_for PassesOwn.never rfl (pi_range1 rfl T.n_range (pa_cons pe_int pa_nil)) (pg_name (i := 2) sc_law.nd rfl (Or.inl rfl)) (pss_cons (ps_set (i := 3) sc_law.nd rfl (Or.inl rfl) (pe_fnR G__law_kind (hr.mono (by decide)) T.k__law_kind T.m__law_kind pass0 (pa_cons (pv 1) pa_nil)))
      (pss_cons (ps_set (i := 4) sc_law.nd rfl (Or.inl rfl) (pe_fnR G__law_rounding (hr.mono (by decide)) T.k__law_rounding T.m__law_rounding pass0 (pa_cons (pv 3) pa_nil)))
      (pss_cons (ps_if (PW.pt (pw_or (pt_cmpR (uNeL mon_rnd (eqG_rnd T.q_Rounding_eq G_req) (hr.mono (by decide)) hr.units) (pe_fld (pv 4) rfl) (StX.pe_makeR T.mk_Ratio G_Ratio___init__ (hr.mono (by decide)) rfl T.m_Ratio pass0 (pa_cons (pe_ix ix_seq (pv 3) pe_int (fun _ _ => rfl)) (pa_cons (pe_ix ix_seq (pv 3) pe_int (fun _ _ => rfl)) pa_nil))) (nomark _)) (pw_or (pt_cmpR (uNeL mon_rnd (eqG_rnd T.q_Rounding_eq G_req) (hr.mono (by decide)) hr.units) (pe_callB (uRepr ng hr.units) (by rfl) T.n_repr (by decide +kernel) (pa_cons (pe_fld (pv 4) rfl) pa_nil)) (pe_callB (uRepr ng hr.units) (by rfl) T.n_repr (by decide +kernel) (pa_cons (pe_ix ix_seq (pv 3) pe_int (fun _ _ => rfl)) pa_nil)) (nomark _)) (pw_or1 (pt_not (pt_val (pe_callB uIsi (by rfl) T.n_isinstance (by decide +kernel) (pa_cons (pe_fld (pv 4) rfl) (pa_cons (pe_glob (v := .ref _) rfl T.m_Ratio rfl) pa_nil))))))))) (pss_one (ps_ret pe_bl)) pss_nil)
      (pss_cons (ps_if (PW.pt (pw_or (pt_cmpR (uNeL mon_rnd (eqG_rnd T.q_Rounding_eq G_req) (hr.mono (by decide)) hr.units) (pv 4) (pe_makeRk T.mk_Rounding GK_Rounding___init__ (hr.mono (by decide)) rfl T.m_Rounding pass0 (pk_cons (pe_ix ix_seq (pv 3) pe_int (fun _ _ => rfl)) (pk_cons (StX.pe_makeR T.mk_Ratio G_Ratio___init__ (hr.mono (by decide)) rfl T.m_Ratio pass0 (pa_cons (pe_ix ix_seq (pv 3) pe_int (fun _ _ => rfl)) (pa_cons (pe_ix ix_seq (pv 3) pe_int (fun _ _ => rfl)) pa_nil))) pk_nil))) (nomark _)) (pw_or (pt_cmpR (uEqT hr.units) (pv 4) (pv 3) (nomark _)) (pw_or1 (pt_cmpR (uEqT hr.units) (pv 4) (pe_callTy uStr (by rfl) T.n_str (by decide +kernel) (pa_cons (pv 4) pa_nil)) (nomark _)))))) (pss_one (ps_ret pe_bl)) pss_nil)
      (pss_cons (ps_set (i := 5) sc_law.nd rfl (Or.inl rfl) (pe_fnR G__law_kind (hr.mono (by decide)) T.k__law_kind T.m__law_kind pass0 (pa_cons (pv 1) pa_nil)))
      (pss_cons (ps_if (pt_cmpR (uNeL mon_rnd (eqG_rnd T.q_Rounding_eq G_req) (hr.mono (by decide)) hr.units) (pe_cmpR (uEqT hr.units) (pv 4) (pe_fnR G__law_rounding (hr.mono (by decide)) T.k__law_rounding T.m__law_rounding pass0 (pa_cons (pv 5) pa_nil)) (nomark _)) (pe_cmpR (uEqT hr.units) (pv 3) (pv 5) (nomark _)) (nomark _)) (pss_one (ps_ret pe_bl)) pss_nil)
      (pss_one (ps_for PassesOwn.never rfl (pi_range1 rfl T.n_range (pa_cons pe_int pa_nil)) (pg_name (i := 6) sc_law.nd rfl (Or.inl rfl)) (pss_one (ps_if (pt_not (pt_val (pe_fnG G__law_right ng (hr.mono (by decide)) T.k__law_right T.m__law_right pass0 (pa_cons (pv 1) (pa_cons (pv 3) pa_nil))))) (pss_one (ps_ret pe_bl)) pss_nil)))))))))))
      (pss_cons (ps_set (i := 7) sc_law.nd rfl (Or.inr rfl) (pe_lst (pa_cons (pe_smeth0 (pe_glob (v := .ref _) rfl T.m_Rounding rfl) T.s_Rounding_all_down G_Rounding_all_down (hr.mono (by decide)) pass0) (pa_cons (pe_smeth0 (pe_glob (v := .ref _) rfl T.m_Rounding rfl) T.s_Rounding_all_up G_Rounding_all_up (hr.mono (by decide)) pass0) (pa_cons (pe_smeth0 (pe_glob (v := .ref _) rfl T.m_Rounding rfl) T.s_Rounding_half_up G_Rounding_half_up (hr.mono (by decide)) pass0) (pa_cons (pe_smeth0 (pe_glob (v := .ref _) rfl T.m_Rounding rfl) T.s_Rounding_half_down G_Rounding_half_down (hr.mono (by decide)) pass0) pa_nil))))))
      (pss_cons (ps_if (pt_cmpR (uNeL mon_rnd (eqG_rnd T.q_Rounding_eq G_req) (hr.mono (by decide)) hr.units) (pv 7) (pe_lst (pa_cons (StX.pe_makeR T.mk_Rounding G_Rounding___init__ (hr.mono (by decide)) rfl T.m_Rounding pass0 (pa_cons pe_int pa_nil)) (pa_cons (StX.pe_makeR T.mk_Rounding G_Rounding___init__ (hr.mono (by decide)) rfl T.m_Rounding pass0 (pa_cons pe_int (pa_cons pe_bl pa_nil))) (pa_cons (StX.pe_makeR T.mk_Rounding G_Rounding___init__ (hr.mono (by decide)) rfl T.m_Rounding pass0 (pa_cons (StX.pe_makeR T.mk_Ratio G_Ratio___init__ (hr.mono (by decide)) rfl T.m_Ratio pass0 (pa_cons pe_int (pa_cons pe_int pa_nil))) pa_nil)) (pa_cons (StX.pe_makeR T.mk_Rounding G_Rounding___init__ (hr.mono (by decide)) rfl T.m_Rounding pass0 (pa_cons (StX.pe_makeR T.mk_Ratio G_Ratio___init__ (hr.mono (by decide)) rfl T.m_Ratio pass0 (pa_cons pe_int (pa_cons pe_int pa_nil))) (pa_cons pe_bl pa_nil))) pa_nil))))) (nomark _)) (pss_one (ps_ret pe_bl)) pss_nil)
      (pss_cons (ps_setLc (own := [("_law_over", 10)]) (g := gName 10) (i := 8) (by rfl) sc_law.nd rfl rfl (sw_true rfl rfl rfl rfl) (pi_tup (pe_tup (pa_cons (pe_un uNeg pe_int) (pa_cons (pe_un uNeg pe_int) (pa_cons pe_int (pa_cons pe_int (pa_cons pe_int (pa_cons pe_int pa_nil)))))))) (blkOk_by (own := [("_law_over", 10)]) (N := ["_law_script", "_law_pen_here", "_law_turn", "_law_kind_here", "_law_made", "_law_other", "_law_lap", "_law_some", "_law_told", "_law_one", "_law_over"]) (sc := defScope s_law) (by decide +kernel)) (fun _ _ _ _ _ => pg_name (i := 10) sc_law.nd rfl (Or.inr rfl)) (fun _ _ _ _ _ => pts_nil) (fun _ _ _ _ _ => (pe_lc (own := [("_law_one", 9)]) (g := gName 9) (by rfl) sc_law.nd (pi_listK (K := K) rfl (pv 7)) (blkOk_by (own := [("_law_one", 9)]) (N := ["_law_script", "_law_pen_here", "_law_turn", "_law_kind_here", "_law_made", "_law_other", "_law_lap", "_law_some", "_law_told", "_law_one", "_law_over"]) (sc := scOver) (by decide +kernel)) (fun _ _ _ _ _ => pg_name (i := 9) sc_law.nd rfl (Or.inl rfl)) (fun _ _ _ _ _ => pts_nil) (fun _ _ _ _ _ => (pe_callOF (pv 9) T.o_Rounding G_Rounding___call__ (hr.mono (by decide)) pass0 (pa_cons (StX.pe_makeR T.mk_Ratio G_Ratio___init__ (hr.mono (by decide)) rfl T.m_Ratio pass0 (pa_cons (pv 10) (pa_cons pe_int pa_nil))) pa_nil))))))
      (pss_one (ps_ret (pe_cmpR (uEqT hr.units) (pv 8) (pe_lst (pa_cons (pe_lst (pa_cons (pe_un uNeg pe_int) (pa_cons (pe_un uNeg pe_int) (pa_cons (pe_un uNeg pe_int) (pa_cons (pe_un uNeg pe_int) pa_nil))))) (pa_cons (pe_lst (pa_cons (pe_un uNeg pe_int) (pa_cons pe_int (pa_cons pe_int (pa_cons (pe_un uNeg pe_int) pa_nil))))) (pa_cons (pe_lst (pa_cons pe_int (pa_cons pe_int (pa_cons pe_int (pa_cons pe_int pa_nil))))) (pa_cons (pe_lst (pa_cons pe_int (pa_cons pe_int (pa_cons pe_int (pa_cons pe_int pa_nil))))) (pa_cons (pe_lst (pa_cons pe_int (pa_cons pe_int (pa_cons pe_int (pa_cons pe_int pa_nil))))) (pa_cons (pe_lst (pa_cons pe_int (pa_cons pe_int (pa_cons pe_int (pa_cons pe_int pa_nil))))) pa_nil))))))) (nomark _))))))))), ?_⟩
    refine ⟨_, rfl, ⟨a, ns, rfl, hS, hlen, fun p H1 np e1 hp => ?_⟩⟩
    refine ⟨8, rfl, by decide, by decide, for_range (n := 8) (fun i σ H' => ∃ z1 z2 z3 z4 z5, σ = [some (.ref a), some (.ref p), z1, z2, z3, z4, z5, none, none, none, none] ∧ PenAt H' p (30 * i)) ⟨none, none, none, none, none, rfl, hp⟩ (fun i σ H' hi h => ?_) (fun σ H' h => ?_)⟩
    · obtain ⟨z1, z2, z3, z4, z5, rfl, hp⟩ := h
      refine ⟨_, rfl, ⟨p, 30 * i, rfl, hp, by omega, fun v0 ka c H2 ev hka hc p2 u2 => ?_⟩⟩
      subst ev
      obtain ⟨x, y, fr, rfl, kok⟩ := kind_ok c hc
      have hk1 := kind_set hc
      refine ⟨_, rfl, ⟨ka, x, y, fr, rfl, ⟨hka, kok⟩, fun r H3 e3 hR => ?_⟩⟩
      have hka := e3 _ _ hka
      have P3 := p2.up e3
      clear e3 p2 hp u2 hc
      obtain ⟨rok, dr, br, hr0, hbr⟩ := id hR
      obtain ⟨db, hbb⟩ := id hbr
      try dsimp only [tNext, gName]
      refine sif (fun Q' q => ?_) (fun H4 e4 => ?_)
      · refine ⟨_, rfl, r, _, dr, _, _, rfl, hr0, T.c_Rounding, T.a_Rounding_threshold, rfl, _, rfl, Or.inr (Or.inl ⟨ka, _, 0, _, rfl, rfl, SqT.of hka, at_of (j := 0) rfl rfl, ⟨_, rfl, Or.inr (Or.inl ⟨ka, _, 1, _, rfl, rfl, SqT.of hka, at_of (j := 1) rfl rfl, ?_⟩)⟩⟩)⟩
        intro b db' nb ndb neb
        refine Or.inl (made' nb ndb kok.ne (Nat.lt_of_lt_of_le kok.small (Nat.pow_le_pow_right (by decide) (by decide))) fun Hc ec hb => ⟨rfl, ?_⟩)
        refine Or.inr (Or.inl (own_ne T.z_Ratio G_eq (hr.mono (by decide)) (hbr.same ec) (num_r hb) (kok.sz.mono (by decide)) (kok.sz.mono (by decide)) fun Hd ed => ⟨_, rfl, ifF (by simp) ?_⟩))
        have ecd := ec.trans ed
        refine ⟨_, rfl, r, _, dr, _, _, rfl, ecd _ _ hr0, T.c_Rounding, T.a_Rounding_is_from, rfl, Or.inl ⟨_, rfl, ⟨_, rfl, Or.inr (Or.inl ⟨ka, _, 2, _, rfl, rfl, SqT.of (ecd _ _ hka), at_of (j := 2) rfl rfl, Or.inl ⟨_, rfl, Or.inl ⟨rfl, _, rfl, ifF (by simp) ?_⟩⟩⟩)⟩⟩⟩
        refine ⟨_, rfl, r, _, dr, _, _, rfl, ecd _ _ hr0, T.c_Rounding, T.a_Rounding_threshold, rfl, Or.inl ⟨_, _, _, _, true, rfl, .own _, T.y_Ratio.ty T.c_Ratio (ecd _ _ hbb), T.i_Ratio_is_Ratio, true, rfl, q _ ecd⟩⟩
      have hR := hR.same e4
      have hka := e4 _ _ hka
      have P4 := P3.up e4
      have hr4 := e4 _ _ hr0
      clear e4 P3 hr0
      try dsimp only [tNext, gName]
      refine sif (fun Q' q => ?_) (fun H5 e5 => ?_)
      · refine ⟨_, rfl, ⟨_, rfl, Or.inr (Or.inl ⟨ka, _, 2, _, rfl, rfl, SqT.of hka, at_of (j := 2) rfl rfl, ?_⟩)⟩⟩
        refine ⟨_, rfl, Or.inr (Or.inl ⟨ka, _, 0, _, rfl, rfl, SqT.of hka, at_of (j := 0) rfl rfl, ⟨_, rfl, Or.inr (Or.inl ⟨ka, _, 1, _, rfl, rfl, SqT.of hka, at_of (j := 1) rfl rfl, ?_⟩)⟩⟩)⟩
        intro b db' nb ndb neb
        refine Or.inl (made' nb ndb kok.ne (Nat.lt_of_lt_of_le kok.small (Nat.pow_le_pow_right (by decide) (by decide))) fun Hc ec hb => ⟨rfl, ?_⟩)
        intro s ds ns' nds nes
        refine rmade' ns' nds hb kok.rnd fun Hd ed hs => ⟨rfl, ?_⟩
        have ecd := ec.trans ed
        refine Or.inr (Or.inl (rnd_ne T.z_Rounding G_req (hr.mono (by decide)) (hR.same ecd) hs fun He ee => ⟨_, rfl, ifF (by simp) ?_⟩))
        have e6 := ecd.trans ee
        refine ⟨_, rfl, _, rfl, Or.inr (Or.inr (Or.inl ⟨"tuple", r, _, dr, _, _, CX0, 3, _, E0, rfl, e6 _ _ hr4, Or.inr ⟨rfl, ka, _, rfl, e6 _ _ hka⟩, T.w_Rounding_tuple, T.q_Rounding_eq, G_reqF, hr.mono (by decide), pass0, ⟨r, dr, _, _, _, rfl, e6 _ _ hr4, .base (.tup (e6 _ _ hka)), T.i_tuple_is_Rounding, ?_⟩⟩))⟩
        refine ⟨_, rfl, iteF ?_⟩
        refine ⟨_, rfl, _, rfl, Or.inr ⟨_, rfl, r, _, dr, _, _, CX0, 5, _, E0, rfl, e6 _ _ hr4, T.t_Rounding, G_rstr, hr.mono (by decide), pass0, ⟨r, _, _, rfl, hR.same e6, _, rfl, ?_⟩⟩⟩
        refine Or.inr (Or.inr (Or.inl ⟨"str", r, _, dr, _, _, CX0, 3, _, E0, rfl, e6 _ _ hr4, Or.inl ⟨rfl, _, rfl⟩, T.w_Rounding_str, T.q_Rounding_eq, G_reqF, hr.mono (by decide), pass0, ⟨r, dr, _, _, _, rfl, e6 _ _ hr4, .base (.str _), T.i_str_is_Rounding, ?_⟩⟩))
        exact ⟨_, rfl, q _ e6⟩
      have hR := hR.same e5
      have hka := e5 _ _ hka
      have P5 := P4.up e5
      clear e5 P4 hr4
      refine ⟨_, rfl, ⟨p, 30 * i + 1, rfl, P5, by omega, fun v1 kb c' H6 ev hkb hc' p6 u6 => ?_⟩⟩
      subst ev
      obtain ⟨x', y', fr', rfl, kok'⟩ := kind_ok c' hc'
      have hk2 := kind_set hc'
      have hR := hR.up u6
      have hka := u6.tup hka
      clear u6 P5 hc'
      try dsimp only [tNext, gName]
      refine sif (fun Q' q => ?_) (fun H7 e7 => ?_)
      · refine ⟨_, rfl, _, rfl, ⟨kb, x', y', fr', rfl, ⟨hkb, kok'⟩, fun s Ha ea hs => ?_⟩⟩
        refine Or.inr (Or.inl (rnd_eq T.q_Rounding_eq G_req (hr.mono (by decide)) (hR.same ea) hs fun Hb eb => ?_))
        have eab := ea.trans eb
        refine ⟨_, rfl, _, rfl, Or.inr (Or.inr (Or.inr ⟨.tuple [.int x, .int y, .bool fr], .tuple [.int x', .int y', .bool fr'], Dp.tup (SqT.of (eab _ _ hka)) (.cons (.int x) (.cons (.int y) (.cons (.bl fr) .nil))), Dp.tup (SqT.of (eab _ _ hkb)) (.cons (.int x') (.cons (.int y') (.cons (.bl fr') .nil))), ?_, ?_, ?_⟩))⟩
        · simp [SeqAt.shaped, PyData.canLay0, PyData.canLayAll0, PyData.depth, PyData.depthAll]
        · simp [SeqAt.shaped, PyData.canLay0, PyData.canLayAll0, PyData.depth, PyData.depthAll]
        rw [kinds_eqv hk1 hk2]
        exact Or.inl ⟨rfl, _, rfl, qb (by simp) (q _ eab)⟩
      have hka := e7 _ _ hka
      have P7 := p6.up e7
      clear e7 p6 hR hkb
      refine ⟨4, rfl, by decide, by decide, for_range (n := 4) (fun j σ H' => ∃ z, σ = [some (.ref a), some (.ref p), some (.int (0 + (i : Int))), some (.ref ka), some (.ref r), some (.ref kb), z, none, none, none, none] ∧ PenAt H' p (30 * i + 2 + 7 * j) ∧ KindAt H' ka x y fr) ⟨_, rfl, P7, hka, kok⟩ (fun j σ H8 hj h => ?_) (fun σ H8 h => ?_)⟩
      · obtain ⟨z, rfl, p8, hk8⟩ := h
        refine ⟨_, rfl, _, rfl, ⟨p, ka, 30 * i + 2 + 7 * j, x, y, fr, rfl, p8, by omega, hk8, fun H9 p9 u9 => ⟨_, rfl, iteF ?_⟩⟩⟩
        exact ⟨_, rfl, p9, hk8.up u9⟩
      · obtain ⟨z, rfl, p8, hk8⟩ := h
        exact ⟨_, _, _, _, _, rfl, p8.mono (by omega)⟩
    · obtain ⟨z1, z2, z3, z4, z5, rfl, hp⟩ := h
      clear hS hlen
      refine ⟨rfl, rfl, fun r1 Ha ea h1 => ⟨rfl, rfl, fun r2 Hb eb h2 => ⟨rfl, rfl, fun r3 Hc ec h3 => ⟨rfl, rfl, fun r4 Hd ed h4 => ⟨(by show 4 ≤ sizeLine; decide), fun l hl => ?_⟩⟩⟩⟩⟩
      have s0 := sameNew (o := HO.lst [.ref r1, .ref r2, .ref r3, .ref r4]) hl
      have L : upd Hd l (.lst [.ref r1, .ref r2, .ref r3, .ref r4]) l = some (.lst [.ref r1, .ref r2, .ref r3, .ref r4]) := upd_same
      have h1 := (((h1.same eb).same ec).same ed).same s0
      have h2 := ((h2.same ec).same ed).same s0
      have h3 := (h3.same ed).same s0
      have h4 := h4.same s0
      generalize upd Hd l (.lst [.ref r1, .ref r2, .ref r3, .ref r4]) = H1' at *
      clear s0 ea eb ec ed hl hp
      try dsimp only [tNext, gName]
      refine sif (fun Q' q => ?_) (fun H2 e2 => ?_)
      · refine ⟨_, rfl, fun x1 dx1 n1 m1 _ => Or.inr (Or.inr (rmadeI' n1 m1 rnd_down fun He ee g1 => ⟨rfl, fun x2 dx2 n2 m2 _ => Or.inr (Or.inl (rmadeI' n2 m2 rnd_up fun Hf ef g2 => ⟨rfl, ?_⟩))⟩))⟩
        refine fun b db nb ndb neb => Or.inl (made' nb ndb (by decide) (by decide) fun Hg eg hb => ⟨rfl, ?_⟩)
        refine fun x3 dx3 n3 m3 _ => Or.inl (Or.inr (rmade' n3 m3 hb rnd_half fun Hh eh g3 => ⟨rfl, ?_⟩))
        refine fun c dc nc ndc nec => Or.inl (made' nc ndc (by decide) (by decide) fun Hi ei hc => ⟨rfl, ?_⟩)
        refine fun x4 dx4 n4 m4 _ => Or.inl (Or.inl (rmade' n4 m4 hc rnd_halfD fun Hj ej g4 => ⟨rfl, ?_⟩))
        refine ⟨(by show 4 ≤ sizeLine; decide), fun l2 hl2 => ?_⟩
        have s2 := sameNew (o := HO.lst [.ref x1, .ref x2, .ref x3, .ref x4]) hl2
        have ej2 := ej.trans s2
        have ei2 := ei.trans ej2
        have eh2 := eh.trans ei2
        have eg2 := eg.trans eh2
        have ef2 := ef.trans eg2
        have ee2 := ee.trans ef2
        refine Or.inr (Or.inr (Or.inl ⟨⟨l, l2, _, _, rfl, rfl, ee2 _ _ L, upd_same, ?_⟩, fun Hk ek => ⟨_, rfl, q _ (ee2.trans ek)⟩⟩))
        exact .cons (dr_mk (h1.same ee2) (g1.same ef2)) (.cons (dr_mk (h2.same ee2) (g2.same eg2)) (.cons (dr_mk (h3.same ee2) (g3.same ei2)) (.cons (dr_mk (h4.same ee2) (g4.same s2)) .nil)))
      have h1 := h1.same e2
      have h2 := h2.same e2
      have h3 := h3.same e2
      have h4 := h4.same e2
      have L := e2 _ _ L
      clear e2
      refine Or.inl ⟨_, rfl, Or.inl ⟨_, rfl, (by show 6 ≤ sizeLine; decide), fun t ht => ⟨t, rfl, ⟨_, SqT.of upd_same⟩, fun D hD => ?_⟩⟩⟩
      have st := sameNew (o := HO.tup (overs.map V.int)) ht
      have sD := sameNew (o := HO.lst []) hD
      have h1 := (h1.same st).same sD
      have h2 := (h2.same st).same sD
      have h3 := (h3.same st).same sD
      have h4 := (h4.same st).same sD
      have lD : l ≠ D := ne_of_none (st _ _ L) hD
      have L := sD _ _ (st _ _ L)
      have Tt := sD t (HO.tup (overs.map V.int)) upd_same
      have z900 : ∀ o : Int, o ∈ overs → Sz 900 (Rat.divInt o 2) := fun o h => by
        simp only [overs, List.mem_cons, List.not_mem_nil, or_false] at h
        rcases h with rfl | rfl | rfl | rfl | rfl | rfl <;> exact ⟨by decide +kernel, by decide +kernel⟩
      refine lc_tup (K := K) (a := t) (xs := overs.map V.int) (fun i H' => Up D (upd (upd H2 t (.tup (overs.map V.int))) D (.lst [])) H' ∧ ∃ as : List Addr, H' D = some (.lst (as.map V.ref)) ∧ Paired (fun a ns => a ≠ D ∧ H' a = some (.lst (ns.map V.int))) as (rowsOf.take i))
        ⟨Up.refl _ _, [], upd_same, .nil⟩ (fun i H' _ h => SqT.of (h.1.tup Tt)) (fun i v H' hv h => ?_) (fun H' h => ?_)
      · obtain ⟨u, as, hDl, hp⟩ := h
        rw [List.getElem?_map] at hv
        cases eo : overs[i]? with
        | none => rw [eo] at hv; cases hv
        | some o =>
          rw [eo] at hv
          cases (Option.some.inj hv)
          have ho : o ∈ overs := List.mem_of_getElem? eo
          have hi : i < 6 := by
            have := (List.getElem?_eq_some_iff.mp eo).1
            exact this
          have hrow : rowsOf[i]? = some (fourK.map fun p => pix p.1 p.2 (Rat.divInt o 2)) := by
            rw [rows_right, List.getElem?_map, eo]; rfl
          have h1 := h1.up u
          have h2 := h2.up u
          have h3 := h3.up u
          have h4 := h4.up u
          have L := u.lst L lD
          refine ⟨rfl, ?_⟩
          refine yes_then ?_
          have u0 := u
          clear u
          refine ⟨_, rfl, l, rfl, ⟨_, SqL.of L⟩, fun D2 hD2 => ?_⟩
          refine lc_list (K := K) (a := l) (xs := [.ref r1, .ref r2, .ref r3, .ref r4]) (fun j H'' => Same H' H'' ∧ H'' D2 = some (.lst (((fourK.take j).map fun p => pix p.1 p.2 (Rat.divInt o 2)).map V.int)))
            ⟨sameNew hD2, upd_same⟩ (fun j H'' _ g => SqL.of (g.1 _ _ L)) (fun j v H'' hv g => ?_) (fun H'' g => ?_)
          · obtain ⟨r, tf, rfl, htf, hR⟩ : ∃ r tf, v = V.ref r ∧ fourK[j]? = some tf ∧ IsRnd d.Ratio d.Rounding H'' r tf.1 tf.2 := by
              rcases j with _ | _ | _ | _ | j
              · cases hv; exact ⟨r1, _, rfl, rfl, h1.same g.1⟩
              · cases hv; exact ⟨r2, _, rfl, rfl, h2.same g.1⟩
              · cases hv; exact ⟨r3, _, rfl, rfl, h3.same g.1⟩
              · cases hv; exact ⟨r4, _, rfl, rfl, h4.same g.1⟩
              · cases hv
            refine ⟨rfl, ?_⟩
            refine yes_then ?_
            refine ⟨_, rfl, r, rfl, _, rfl, fun b db nb ndb neb => Or.inl (made' nb ndb (by decide) (by decide) fun Hx ex hb => ⟨rfl, ?_⟩)⟩
            refine ⟨insR (X := cxOf CX0 P w K mg base [] "" (defScope s_law) d.law cdv A outer s H E) (hR.same ex), ⟨r, _, tf.1, tf.2, _, rfl, hR.same ex, num_r hb, z900 o ho, fun Hy ey => ?_⟩⟩
            have exy := ex.trans ey
            refine ⟨_, exy _ _ g.2, ?_, fun b2 o2 e2 => ?_, ?_⟩
            · rw [List.length_map, List.length_map, List.length_take]
              exact Nat.lt_of_le_of_lt (Nat.min_le_right _ _) (by show 4 < sizeLine; decide)
            · rw [upd_ne (ne_of_none e2 hD2)]; exact exy _ _ (g.1 _ _ e2)
            · rw [upd_same, List.take_add_one, htf]
              simp only [Option.toList_some, List.map_append, List.map_cons, List.map_nil]
          · have nD : D2 ≠ D := (ne_of_none hDl hD2).symm
            have ul := Up.put (o := HO.lst (as.map V.ref ++ [V.ref D2])) (g.1 _ _ hDl)
            refine ⟨as.map V.ref, g.1 _ _ hDl, ?_, u0.trans ((Up.same g.1).trans ul), as ++ [D2], ?_, ?_⟩
            · rw [List.length_map, hp.length, List.length_take]
              exact Nat.lt_of_le_of_lt (Nat.min_le_right _ _) (by show 6 < sizeLine; decide)
            · rw [upd_same, List.map_append]; rfl
            · rw [List.take_add_one, hrow]
              refine paired_snoc ⟨nD, ?_⟩ (paired_imp (fun a' ns' f => ⟨f.1, ?_⟩) hp)
              · rw [upd_ne nD]; exact g.2
              · rw [upd_ne f.1]; exact g.1 _ _ f.2
      · obtain ⟨u, as, hDl, hp⟩ := h
        have hp : Paired (fun a' ns' => a' ≠ D ∧ H' a' = some (HO.lst (ns'.map V.int))) as rowsOf := hp
        try dsimp only [tNext, gName]
        refine ⟨_, rfl, Or.inl ⟨_, rfl, Or.inl ⟨_, rfl, Or.inl ⟨_, rfl, Or.inl ⟨_, rfl, (by show 4 ≤ sizeLine; decide), fun q1 m1 => ?_⟩⟩⟩⟩⟩
        refine Or.inl ⟨_, rfl, Or.inl ⟨_, rfl, (by show 4 ≤ sizeLine; decide), fun q2 m2 => ⟨(by show 4 ≤ sizeLine; decide), fun q3 m3 => ⟨(by show 4 ≤ sizeLine; decide), fun q4 m4 => ⟨(by show 4 ≤ sizeLine; decide), fun q5 m5 => ⟨(by show 4 ≤ sizeLine; decide), fun q6 m6 => ⟨(by show 6 ≤ sizeLine; decide), fun q7 m7 => ?_⟩⟩⟩⟩⟩⟩⟩
        have S1 := sameNew (o := HO.lst ([-2, -1, -1, -2].map V.int)) m1
        have S2 := sameNew (o := HO.lst ([-1, 0, 0, -1].map V.int)) m2
        have S3 := sameNew (o := HO.lst ([0, 0, 0, 0].map V.int)) m3
        have S4 := sameNew (o := HO.lst ([0, 1, 1, 0].map V.int)) m4
        have S5 := sameNew (o := HO.lst ([1, 1, 1, 1].map V.int)) m5
        have S6 := sameNew (o := HO.lst ([2, 3, 3, 2].map V.int)) m6
        have S7 := sameNew (o := HO.lst [.ref q1, .ref q2, .ref q3, .ref q4, .ref q5, .ref q6]) m7
        have A6 := S6.trans S7
        have A5 := S5.trans A6
        have A4 := S4.trans A5
        have A3 := S3.trans A4
        have A2 := S2.trans A3
        have A1 := S1.trans A2
        have left := dp_rows (K := K) (paired_imp (fun a' ns' f => A1 a' _ f.2) hp)
        have right := dp_rows (K := K) (as := [q1, q2, q3, q4, q5, q6]) (rs := rowsOf) (.cons (A2 _ _ upd_same) (.cons (A3 _ _ upd_same) (.cons (A4 _ _ upd_same) (.cons (A5 _ _ upd_same) (.cons (A6 _ _ upd_same) (.cons (S7 _ _ upd_same) .nil))))))
        refine Or.inr (Or.inr (Or.inr ⟨.list (rowsOf.map fun (ns : List Int) => PyData.list (ns.map PyData.int)), .list (rowsOf.map fun (ns : List Int) => PyData.list (ns.map PyData.int)), Dp.lst (SqL.of (A1 _ _ hDl)) left, Dp.lst (SqL.of upd_same) right, by decide +kernel, by decide +kernel, ?_⟩))
        exact vb (by decide +kernel) (k _)
theorem law_end {fa : Addr} {h : Heap} (hfa : mg "law" = some (.ref fa)) (T : Tx K mg d) : ∀ base : Heap, K.In base → base.Ns mainGlobals mg → FnG P w K mg base CX0 levelLaw fa (spLaw K) := by
  have e := hfa.symm.trans T.m_law
  cases e
  exact fun base _ _ => G_law T
end

end AZ
namespace AZ
open PySem L2
theorem tx_mk {K : PySem.W.Frag} {h : Heap} {mg : Str → Option Value} {A__law_pen A__law_draw A__law_pick A_Ratio A_is_integer A_Ratio___init__ A_Ratio_of A_Ratio___add__ A_Ratio___sub__ A_Ratio___mul__ A_Ratio___lt__ A_Ratio___le__ A_Ratio___gt__ A_Ratio___ge__ A_Ratio___eq__ A_Ratio_floor A_Ratio_ceiling A_is_number A_fraction_of A_Rounding_drawn_at A_Rounding A_Ratio___rsub__ A_Rounding___call__ A_Rounding_before A_Rounding_behind A_Rounding_is_step A_Rounding___init__ A_Ratio___neg__ A_Rounding___eq__ A_Rounding___invert__ A_Ratio___str__ A_Rounding___str__ A_Rounding_all_down A_Rounding_all_up A_Rounding_half_up A__law_frac A__law_kind A__law_number A__law_rounding A__law_plus A__law_ratio A__law_round A__law_beside A__law_near A__law_right A_Rounding_half_down A_law : Addr} {cd_Ratio___add__ cd_Ratio___eq__ cd_Ratio___ge__ cd_Ratio___gt__ cd_Ratio___init__ cd_Ratio___le__ cd_Ratio___lt__ cd_Ratio___mul__ cd_Ratio___neg__ cd_Ratio___rsub__ cd_Ratio___str__ cd_Ratio___sub__ cd_Ratio_ceiling cd_Ratio_floor cd_Ratio_of cd_Rounding___call__ cd_Rounding___eq__ cd_Rounding___init__ cd_Rounding___invert__ cd_Rounding___str__ cd_Rounding_all_down cd_Rounding_all_up cd_Rounding_before cd_Rounding_behind cd_Rounding_drawn_at cd_Rounding_half_down cd_Rounding_half_up cd_Rounding_is_step cd__law_beside cd__law_draw cd__law_frac cd__law_kind cd__law_near cd__law_number cd__law_pen cd__law_pick cd__law_plus cd__law_ratio cd__law_right cd__law_round cd__law_rounding cd_fraction_of cd_is_integer cd_is_number cd_law ct_Ratio___add__ ct_Ratio___eq__ ct_Ratio___ge__ ct_Ratio___gt__ ct_Ratio___init__ ct_Ratio___le__ ct_Ratio___lt__ ct_Ratio___mul__ ct_Ratio___neg__ ct_Ratio___rsub__ ct_Ratio___str__ ct_Ratio___sub__ ct_Ratio_ceiling ct_Ratio_floor ct_Ratio_of ct_Rounding___call__ ct_Rounding___eq__ ct_Rounding___init__ ct_Rounding___invert__ ct_Rounding___str__ ct_Rounding_all_down ct_Rounding_all_up ct_Rounding_before ct_Rounding_behind ct_Rounding_drawn_at ct_Rounding_half_down ct_Rounding_half_up ct_Rounding_is_step ct__law_beside ct__law_draw ct__law_frac ct__law_kind ct__law_near ct__law_number ct__law_pen ct__law_pick ct__law_plus ct__law_ratio ct__law_right ct__law_round ct__law_rounding ct_fraction_of ct_is_integer ct_is_number ct_law dc_Ratio___add__ dc_Ratio___eq__ dc_Ratio___ge__ dc_Ratio___gt__ dc_Ratio___init__ dc_Ratio___le__ dc_Ratio___lt__ dc_Ratio___mul__ dc_Ratio___neg__ dc_Ratio___rsub__ dc_Ratio___str__ dc_Ratio___sub__ dc_Ratio_ceiling dc_Ratio_floor dc_Ratio_of dc_Rounding___call__ dc_Rounding___eq__ dc_Rounding___init__ dc_Rounding___invert__ dc_Rounding___str__ dc_Rounding_all_down dc_Rounding_all_up dc_Rounding_before dc_Rounding_behind dc_Rounding_drawn_at dc_Rounding_half_down dc_Rounding_half_up dc_Rounding_is_step dc__law_beside dc__law_draw dc__law_frac dc__law_kind dc__law_near dc__law_number dc__law_pen dc__law_pick dc__law_plus dc__law_ratio dc__law_right dc__law_round dc__law_rounding dc_fraction_of dc_is_integer dc_is_number dc_law kV_Ratio___add__ kV_Ratio___eq__ kV_Ratio___ge__ kV_Ratio___gt__ kV_Ratio___init__ kV_Ratio___le__ kV_Ratio___lt__ kV_Ratio___mul__ kV_Ratio___neg__ kV_Ratio___rsub__ kV_Ratio___str__ kV_Ratio___sub__ kV_Ratio_ceiling kV_Ratio_floor kV_Ratio_of kV_Rounding___call__ kV_Rounding___eq__ kV_Rounding___init__ kV_Rounding___invert__ kV_Rounding___str__ kV_Rounding_all_down kV_Rounding_all_up kV_Rounding_before kV_Rounding_behind kV_Rounding_drawn_at kV_Rounding_half_down kV_Rounding_half_up kV_Rounding_is_step kV__law_beside kV__law_draw kV__law_frac kV__law_kind kV__law_near kV__law_number kV__law_pen kV__law_pick kV__law_plus kV__law_ratio kV__law_right kV__law_round kV__law_rounding kV_fraction_of kV_is_integer kV_is_number kV_law oc_Ratio___add__ oc_Ratio___eq__ oc_Ratio___ge__ oc_Ratio___gt__ oc_Ratio___init__ oc_Ratio___le__ oc_Ratio___lt__ oc_Ratio___mul__ oc_Ratio___neg__ oc_Ratio___rsub__ oc_Ratio___str__ oc_Ratio___sub__ oc_Ratio_ceiling oc_Ratio_floor oc_Ratio_of oc_Rounding___call__ oc_Rounding___eq__ oc_Rounding___init__ oc_Rounding___invert__ oc_Rounding___str__ oc_Rounding_all_down oc_Rounding_all_up oc_Rounding_before oc_Rounding_behind oc_Rounding_drawn_at oc_Rounding_half_down oc_Rounding_half_up oc_Rounding_is_step oc__law_beside oc__law_draw oc__law_frac oc__law_kind oc__law_near oc__law_number oc__law_pen oc__law_pick oc__law_plus oc__law_ratio oc__law_right oc__law_round oc__law_rounding oc_fraction_of oc_is_integer oc_is_number oc_law pm_Ratio___add__ pm_Ratio___eq__ pm_Ratio___ge__ pm_Ratio___gt__ pm_Ratio___init__ pm_Ratio___le__ pm_Ratio___lt__ pm_Ratio___mul__ pm_Ratio___neg__ pm_Ratio___rsub__ pm_Ratio___str__ pm_Ratio___sub__ pm_Ratio_ceiling pm_Ratio_floor pm_Ratio_of pm_Rounding___call__ pm_Rounding___eq__ pm_Rounding___init__ pm_Rounding___invert__ pm_Rounding___str__ pm_Rounding_all_down pm_Rounding_all_up pm_Rounding_before pm_Rounding_behind pm_Rounding_drawn_at pm_Rounding_half_down pm_Rounding_half_up pm_Rounding_is_step pm__law_beside pm__law_draw pm__law_frac pm__law_kind pm__law_near pm__law_number pm__law_pen pm__law_pick pm__law_plus pm__law_ratio pm__law_right pm__law_round pm__law_rounding pm_fraction_of pm_is_integer pm_is_number pm_law tc_Ratio___init__ tc_Rounding___init__ tc__law_plus : Value} {an_Ratio___add__ an_Ratio___eq__ an_Ratio___ge__ an_Ratio___gt__ an_Ratio___init__ an_Ratio___le__ an_Ratio___lt__ an_Ratio___mul__ an_Ratio___neg__ an_Ratio___rsub__ an_Ratio___str__ an_Ratio___sub__ an_Ratio_ceiling an_Ratio_floor an_Ratio_of an_Rounding___call__ an_Rounding___eq__ an_Rounding___init__ an_Rounding___invert__ an_Rounding___str__ an_Rounding_all_down an_Rounding_all_up an_Rounding_before an_Rounding_behind an_Rounding_drawn_at an_Rounding_half_down an_Rounding_half_up an_Rounding_is_step an__law_beside an__law_draw an__law_frac an__law_kind an__law_near an__law_number an__law_pen an__law_pick an__law_plus an__law_ratio an__law_right an__law_round an__law_rounding an_fraction_of an_is_integer an_is_number an_law od_Ratio___add__ od_Ratio___eq__ od_Ratio___ge__ od_Ratio___gt__ od_Ratio___init__ od_Ratio___le__ od_Ratio___lt__ od_Ratio___mul__ od_Ratio___neg__ od_Ratio___rsub__ od_Ratio___str__ od_Ratio___sub__ od_Ratio_ceiling od_Ratio_floor od_Ratio_of od_Rounding___call__ od_Rounding___eq__ od_Rounding___init__ od_Rounding___invert__ od_Rounding___str__ od_Rounding_all_down od_Rounding_all_up od_Rounding_before od_Rounding_behind od_Rounding_drawn_at od_Rounding_half_down od_Rounding_half_up od_Rounding_is_step od__law_beside od__law_draw od__law_frac od__law_kind od__law_near od__law_number od__law_pen od__law_pick od__law_plus od__law_ratio od__law_right od__law_round od__law_rounding od_fraction_of od_is_integer od_is_number od_law td_Ratio___init__ td_Rounding___init__ td__law_plus : Option Addr} {sl_Ratio___add__ sl_Ratio___eq__ sl_Ratio___ge__ sl_Ratio___gt__ sl_Ratio___init__ sl_Ratio___le__ sl_Ratio___lt__ sl_Ratio___mul__ sl_Ratio___neg__ sl_Ratio___rsub__ sl_Ratio___str__ sl_Ratio___sub__ sl_Ratio_ceiling sl_Ratio_floor sl_Ratio_of sl_Rounding___call__ sl_Rounding___eq__ sl_Rounding___init__ sl_Rounding___invert__ sl_Rounding___str__ sl_Rounding_all_down sl_Rounding_all_up sl_Rounding_before sl_Rounding_behind sl_Rounding_drawn_at sl_Rounding_half_down sl_Rounding_half_up sl_Rounding_is_step sl__law_beside sl__law_draw sl__law_frac sl__law_kind sl__law_near sl__law_number sl__law_pen sl__law_pick sl__law_plus sl__law_ratio sl__law_right sl__law_round sl__law_rounding sl_fraction_of sl_is_integer sl_is_number sl_law ts_Ratio___init__ ts_Rounding___init__ ts__law_plus : Array (Option Value)} {tn_Ratio___init__ tn_Rounding___init__ tn__law_plus : Nat} {tk0_Ratio___init__ tk0__law_plus : Tok} {dT_Ratio___init__ dT_Rounding___init__ dT__law_plus pp_Ratio_of pp_Rounding_all_down pp_Rounding_all_up pp_Rounding_half_down pp_Rounding_half_up : Addr} {rr_Ratio_of rr_Rounding_all_down rr_Rounding_all_up rr_Rounding_half_down rr_Rounding_half_up : List Value} {fo_Ratio_sub ro_Ratio_sub : Option Value} (X : K.In h) (G : h.Ns mainGlobals mg)
    (L__law_pen : PySem.W.nsIn K mainGlobals "_law_pen" = some (some (.ref A__law_pen)))
    (L__law_draw : PySem.W.nsIn K mainGlobals "_law_draw" = some (some (.ref A__law_draw)))
    (L__law_pick : PySem.W.nsIn K mainGlobals "_law_pick" = some (some (.ref A__law_pick)))
    (L_Ratio : PySem.W.nsIn K mainGlobals "Ratio" = some (some (.ref A_Ratio)))
    (L_is_integer : PySem.W.nsIn K mainGlobals "is_integer" = some (some (.ref A_is_integer)))
    (L_is_number : PySem.W.nsIn K mainGlobals "is_number" = some (some (.ref A_is_number)))
    (L_fraction_of : PySem.W.nsIn K mainGlobals "fraction_of" = some (some (.ref A_fraction_of)))
    (L_Rounding : PySem.W.nsIn K mainGlobals "Rounding" = some (some (.ref A_Rounding)))
    (L__law_frac : PySem.W.nsIn K mainGlobals "_law_frac" = some (some (.ref A__law_frac)))
    (L__law_kind : PySem.W.nsIn K mainGlobals "_law_kind" = some (some (.ref A__law_kind)))
    (L__law_number : PySem.W.nsIn K mainGlobals "_law_number" = some (some (.ref A__law_number)))
    (L__law_rounding : PySem.W.nsIn K mainGlobals "_law_rounding" = some (some (.ref A__law_rounding)))
    (L__law_plus : PySem.W.nsIn K mainGlobals "_law_plus" = some (some (.ref A__law_plus)))
    (L__law_ratio : PySem.W.nsIn K mainGlobals "_law_ratio" = some (some (.ref A__law_ratio)))
    (L__law_round : PySem.W.nsIn K mainGlobals "_law_round" = some (some (.ref A__law_round)))
    (L__law_beside : PySem.W.nsIn K mainGlobals "_law_beside" = some (some (.ref A__law_beside)))
    (L__law_near : PySem.W.nsIn K mainGlobals "_law_near" = some (some (.ref A__law_near)))
    (L__law_right : PySem.W.nsIn K mainGlobals "_law_right" = some (some (.ref A__law_right)))
    (L_law : PySem.W.nsIn K mainGlobals "law" = some (some (.ref A_law)))
    (L_Ratio___init__ : PySem.W.findIn K (.ref A_Ratio) "__init__" = some (some (.ref A_Ratio___init__)))
    (L_Ratio___add__ : PySem.W.findIn K (.ref A_Ratio) "__add__" = some (some (.ref A_Ratio___add__)))
    (L_Ratio___sub__ : PySem.W.findIn K (.ref A_Ratio) "__sub__" = some (some (.ref A_Ratio___sub__)))
    (L_Ratio___mul__ : PySem.W.findIn K (.ref A_Ratio) "__mul__" = some (some (.ref A_Ratio___mul__)))
    (L_Ratio___lt__ : PySem.W.findIn K (.ref A_Ratio) "__lt__" = some (some (.ref A_Ratio___lt__)))
    (L_Ratio___le__ : PySem.W.findIn K (.ref A_Ratio) "__le__" = some (some (.ref A_Ratio___le__)))
    (L_Ratio___gt__ : PySem.W.findIn K (.ref A_Ratio) "__gt__" = some (some (.ref A_Ratio___gt__)))
    (L_Ratio___ge__ : PySem.W.findIn K (.ref A_Ratio) "__ge__" = some (some (.ref A_Ratio___ge__)))
    (L_Ratio___eq__ : PySem.W.findIn K (.ref A_Ratio) "__eq__" = some (some (.ref A_Ratio___eq__)))
    (L_Ratio_floor : PySem.W.findIn K (.ref A_Ratio) "floor" = some (some (.ref A_Ratio_floor)))
    (L_Ratio_ceiling : PySem.W.findIn K (.ref A_Ratio) "ceiling" = some (some (.ref A_Ratio_ceiling)))
    (L_Rounding_drawn_at : PySem.W.findIn K (.ref A_Rounding) "drawn_at" = some (some (.ref A_Rounding_drawn_at)))
    (L_Ratio___rsub__ : PySem.W.findIn K (.ref A_Ratio) "__rsub__" = some (some (.ref A_Ratio___rsub__)))
    (L_Rounding___call__ : PySem.W.findIn K (.ref A_Rounding) "__call__" = some (some (.ref A_Rounding___call__)))
    (L_Rounding_before : PySem.W.findIn K (.ref A_Rounding) "before" = some (some (.ref A_Rounding_before)))
    (L_Rounding_behind : PySem.W.findIn K (.ref A_Rounding) "behind" = some (some (.ref A_Rounding_behind)))
    (L_Rounding_is_step : PySem.W.findIn K (.ref A_Rounding) "is_step" = some (some (.ref A_Rounding_is_step)))
    (L_Rounding___init__ : PySem.W.findIn K (.ref A_Rounding) "__init__" = some (some (.ref A_Rounding___init__)))
    (L_Ratio___neg__ : PySem.W.findIn K (.ref A_Ratio) "__neg__" = some (some (.ref A_Ratio___neg__)))
    (L_Rounding___eq__ : PySem.W.findIn K (.ref A_Rounding) "__eq__" = some (some (.ref A_Rounding___eq__)))
    (L_Rounding___invert__ : PySem.W.findIn K (.ref A_Rounding) "__invert__" = some (some (.ref A_Rounding___invert__)))
    (L_Ratio___str__ : PySem.W.findIn K (.ref A_Ratio) "__str__" = some (some (.ref A_Ratio___str__)))
    (L_Rounding___str__ : PySem.W.findIn K (.ref A_Rounding) "__str__" = some (some (.ref A_Rounding___str__)))
    (s_Ratio_of_r : PySem.W.readsIn K A_Ratio (.type "type") = true)
    (s_Rounding_all_down_r : PySem.W.readsIn K A_Rounding (.type "type") = true)
    (s_Rounding_all_up_r : PySem.W.readsIn K A_Rounding (.type "type") = true)
    (s_Rounding_half_up_r : PySem.W.readsIn K A_Rounding (.type "type") = true)
    (s_Rounding_half_down_r : PySem.W.readsIn K A_Rounding (.type "type") = true)
    (s_Ratio_of_a : PySem.W.findCls K (.ref A_Ratio) (.type "type") "of" = some (.get (.builtin "staticmethod.__get__") (.ref pp_Ratio_of) .none (.ref A_Ratio)))
    (s_Rounding_all_down_a : PySem.W.findCls K (.ref A_Rounding) (.type "type") "all_down" = some (.get (.builtin "staticmethod.__get__") (.ref pp_Rounding_all_down) .none (.ref A_Rounding)))
    (s_Rounding_all_up_a : PySem.W.findCls K (.ref A_Rounding) (.type "type") "all_up" = some (.get (.builtin "staticmethod.__get__") (.ref pp_Rounding_all_up) .none (.ref A_Rounding)))
    (s_Rounding_half_up_a : PySem.W.findCls K (.ref A_Rounding) (.type "type") "half_up" = some (.get (.builtin "staticmethod.__get__") (.ref pp_Rounding_half_up) .none (.ref A_Rounding)))
    (s_Rounding_half_down_a : PySem.W.findCls K (.ref A_Rounding) (.type "type") "half_down" = some (.get (.builtin "staticmethod.__get__") (.ref pp_Rounding_half_down) .none (.ref A_Rounding)))
    (s_Ratio_of_q : PySem.W.recIn K pp_Ratio_of "staticmethod" = some (.ref A_Ratio_of :: rr_Ratio_of))
    (s_Rounding_all_down_q : PySem.W.recIn K pp_Rounding_all_down "staticmethod" = some (.ref A_Rounding_all_down :: rr_Rounding_all_down))
    (s_Rounding_all_up_q : PySem.W.recIn K pp_Rounding_all_up "staticmethod" = some (.ref A_Rounding_all_up :: rr_Rounding_all_up))
    (s_Rounding_half_up_q : PySem.W.recIn K pp_Rounding_half_up "staticmethod" = some (.ref A_Rounding_half_up :: rr_Rounding_half_up))
    (s_Rounding_half_down_q : PySem.W.recIn K pp_Rounding_half_down "staticmethod" = some (.ref A_Rounding_half_down :: rr_Rounding_half_down))
    (F__law_pen_l : K.lookup A__law_pen = some ⟨oc__law_pen, od__law_pen, .func (PySem.W.fnOf "_law_pen" "_law_pen" (defArgs s__law_pen) (defBody s__law_pen) (defScope s__law_pen) .none kV__law_pen dc__law_pen pm__law_pen an__law_pen cd__law_pen ct__law_pen), sl__law_pen⟩)
    (F__law_draw_l : K.lookup A__law_draw = some ⟨oc__law_draw, od__law_draw, .func (PySem.W.fnOf "_law_draw" "_law_draw" (defArgs s__law_draw) (defBody s__law_draw) (defScope s__law_draw) .none kV__law_draw dc__law_draw pm__law_draw an__law_draw cd__law_draw ct__law_draw), sl__law_draw⟩)
    (F__law_pick_l : K.lookup A__law_pick = some ⟨oc__law_pick, od__law_pick, .func (PySem.W.fnOf "_law_pick" "_law_pick" (defArgs s__law_pick) (defBody s__law_pick) (defScope s__law_pick) .none kV__law_pick dc__law_pick pm__law_pick an__law_pick cd__law_pick ct__law_pick), sl__law_pick⟩)
    (F_is_integer_l : K.lookup A_is_integer = some ⟨oc_is_integer, od_is_integer, .func (PySem.W.fnOf "is_integer" "is_integer" (defArgs s_is_integer) (defBody s_is_integer) (defScope s_is_integer) .none kV_is_integer dc_is_integer pm_is_integer an_is_integer cd_is_integer ct_is_integer), sl_is_integer⟩)
    (D_Ratio___init___l : K.lookup A_Ratio___init__ = some ⟨oc_Ratio___init__, od_Ratio___init__, .func (PySem.W.fnOf "__init__" "Ratio.__init__" (defArgs s_Ratio___init__) (defBody s_Ratio___init__) (defScope s_Ratio___init__) (.ref dT_Ratio___init__) kV_Ratio___init__ dc_Ratio___init__ pm_Ratio___init__ an_Ratio___init__ cd_Ratio___init__ ct_Ratio___init__), sl_Ratio___init__⟩)
    (F_Ratio_of_l : K.lookup A_Ratio_of = some ⟨oc_Ratio_of, od_Ratio_of, .func (PySem.W.fnOf "of" "Ratio.of" (defArgs s_Ratio_of) (defBody s_Ratio_of) (defScope s_Ratio_of) .none kV_Ratio_of dc_Ratio_of pm_Ratio_of an_Ratio_of cd_Ratio_of ct_Ratio_of), sl_Ratio_of⟩)
    (F_Ratio___add___l : K.lookup A_Ratio___add__ = some ⟨oc_Ratio___add__, od_Ratio___add__, .func (PySem.W.fnOf "__add__" "Ratio.__add__" (defArgs s_Ratio___add__) (defBody s_Ratio___add__) (defScope s_Ratio___add__) .none kV_Ratio___add__ dc_Ratio___add__ pm_Ratio___add__ an_Ratio___add__ cd_Ratio___add__ ct_Ratio___add__), sl_Ratio___add__⟩)
    (F_Ratio___sub___l : K.lookup A_Ratio___sub__ = some ⟨oc_Ratio___sub__, od_Ratio___sub__, .func (PySem.W.fnOf "__sub__" "Ratio.__sub__" (defArgs s_Ratio___sub__) (defBody s_Ratio___sub__) (defScope s_Ratio___sub__) .none kV_Ratio___sub__ dc_Ratio___sub__ pm_Ratio___sub__ an_Ratio___sub__ cd_Ratio___sub__ ct_Ratio___sub__), sl_Ratio___sub__⟩)
    (F_Ratio___mul___l : K.lookup A_Ratio___mul__ = some ⟨oc_Ratio___mul__, od_Ratio___mul__, .func (PySem.W.fnOf "__mul__" "Ratio.__mul__" (defArgs s_Ratio___mul__) (defBody s_Ratio___mul__) (defScope s_Ratio___mul__) .none kV_Ratio___mul__ dc_Ratio___mul__ pm_Ratio___mul__ an_Ratio___mul__ cd_Ratio___mul__ ct_Ratio___mul__), sl_Ratio___mul__⟩)
    (F_Ratio___lt___l : K.lookup A_Ratio___lt__ = some ⟨oc_Ratio___lt__, od_Ratio___lt__, .func (PySem.W.fnOf "__lt__" "Ratio.__lt__" (defArgs s_Ratio___lt__) (defBody s_Ratio___lt__) (defScope s_Ratio___lt__) .none kV_Ratio___lt__ dc_Ratio___lt__ pm_Ratio___lt__ an_Ratio___lt__ cd_Ratio___lt__ ct_Ratio___lt__), sl_Ratio___lt__⟩)
    (F_Ratio___le___l : K.lookup A_Ratio___le__ = some ⟨oc_Ratio___le__, od_Ratio___le__, .func (PySem.W.fnOf "__le__" "Ratio.__le__" (defArgs s_Ratio___le__) (defBody s_Ratio___le__) (defScope s_Ratio___le__) .none kV_Ratio___le__ dc_Ratio___le__ pm_Ratio___le__ an_Ratio___le__ cd_Ratio___le__ ct_Ratio___le__), sl_Ratio___le__⟩)
    (F_Ratio___gt___l : K.lookup A_Ratio___gt__ = some ⟨oc_Ratio___gt__, od_Ratio___gt__, .func (PySem.W.fnOf "__gt__" "Ratio.__gt__" (defArgs s_Ratio___gt__) (defBody s_Ratio___gt__) (defScope s_Ratio___gt__) .none kV_Ratio___gt__ dc_Ratio___gt__ pm_Ratio___gt__ an_Ratio___gt__ cd_Ratio___gt__ ct_Ratio___gt__), sl_Ratio___gt__⟩)
    (F_Ratio___ge___l : K.lookup A_Ratio___ge__ = some ⟨oc_Ratio___ge__, od_Ratio___ge__, .func (PySem.W.fnOf "__ge__" "Ratio.__ge__" (defArgs s_Ratio___ge__) (defBody s_Ratio___ge__) (defScope s_Ratio___ge__) .none kV_Ratio___ge__ dc_Ratio___ge__ pm_Ratio___ge__ an_Ratio___ge__ cd_Ratio___ge__ ct_Ratio___ge__), sl_Ratio___ge__⟩)
    (F_Ratio___eq___l : K.lookup A_Ratio___eq__ = some ⟨oc_Ratio___eq__, od_Ratio___eq__, .func (PySem.W.fnOf "__eq__" "Ratio.__eq__" (defArgs s_Ratio___eq__) (defBody s_Ratio___eq__) (defScope s_Ratio___eq__) .none kV_Ratio___eq__ dc_Ratio___eq__ pm_Ratio___eq__ an_Ratio___eq__ cd_Ratio___eq__ ct_Ratio___eq__), sl_Ratio___eq__⟩)
    (F_Ratio_floor_l : K.lookup A_Ratio_floor = some ⟨oc_Ratio_floor, od_Ratio_floor, .func (PySem.W.fnOf "floor" "Ratio.floor" (defArgs s_Ratio_floor) (defBody s_Ratio_floor) (defScope s_Ratio_floor) .none kV_Ratio_floor dc_Ratio_floor pm_Ratio_floor an_Ratio_floor cd_Ratio_floor ct_Ratio_floor), sl_Ratio_floor⟩)
    (F_Ratio_ceiling_l : K.lookup A_Ratio_ceiling = some ⟨oc_Ratio_ceiling, od_Ratio_ceiling, .func (PySem.W.fnOf "ceiling" "Ratio.ceiling" (defArgs s_Ratio_ceiling) (defBody s_Ratio_ceiling) (defScope s_Ratio_ceiling) .none kV_Ratio_ceiling dc_Ratio_ceiling pm_Ratio_ceiling an_Ratio_ceiling cd_Ratio_ceiling ct_Ratio_ceiling), sl_Ratio_ceiling⟩)
    (F_is_number_l : K.lookup A_is_number = some ⟨oc_is_number, od_is_number, .func (PySem.W.fnOf "is_number" "is_number" (defArgs s_is_number) (defBody s_is_number) (defScope s_is_number) .none kV_is_number dc_is_number pm_is_number an_is_number cd_is_number ct_is_number), sl_is_number⟩)
    (F_fraction_of_l : K.lookup A_fraction_of = some ⟨oc_fraction_of, od_fraction_of, .func (PySem.W.fnOf "fraction_of" "fraction_of" (defArgs s_fraction_of) (defBody s_fraction_of) (defScope s_fraction_of) .none kV_fraction_of dc_fraction_of pm_fraction_of an_fraction_of cd_fraction_of ct_fraction_of), sl_fraction_of⟩)
    (F_Rounding_drawn_at_l : K.lookup A_Rounding_drawn_at = some ⟨oc_Rounding_drawn_at, od_Rounding_drawn_at, .func (PySem.W.fnOf "drawn_at" "Rounding.drawn_at" (defArgs s_Rounding_drawn_at) (defBody s_Rounding_drawn_at) (defScope s_Rounding_drawn_at) .none kV_Rounding_drawn_at dc_Rounding_drawn_at pm_Rounding_drawn_at an_Rounding_drawn_at cd_Rounding_drawn_at ct_Rounding_drawn_at), sl_Rounding_drawn_at⟩)
    (F_Rounding___call___l : K.lookup A_Rounding___call__ = some ⟨oc_Rounding___call__, od_Rounding___call__, .func (PySem.W.fnOf "__call__" "Rounding.__call__" (defArgs s_Rounding___call__) (defBody s_Rounding___call__) (defScope s_Rounding___call__) .none kV_Rounding___call__ dc_Rounding___call__ pm_Rounding___call__ an_Rounding___call__ cd_Rounding___call__ ct_Rounding___call__), sl_Rounding___call__⟩)
    (F_Rounding_before_l : K.lookup A_Rounding_before = some ⟨oc_Rounding_before, od_Rounding_before, .func (PySem.W.fnOf "before" "Rounding.before" (defArgs s_Rounding_before) (defBody s_Rounding_before) (defScope s_Rounding_before) .none kV_Rounding_before dc_Rounding_before pm_Rounding_before an_Rounding_before cd_Rounding_before ct_Rounding_before), sl_Rounding_before⟩)
    (F_Rounding_behind_l : K.lookup A_Rounding_behind = some ⟨oc_Rounding_behind, od_Rounding_behind, .func (PySem.W.fnOf "behind" "Rounding.behind" (defArgs s_Rounding_behind) (defBody s_Rounding_behind) (defScope s_Rounding_behind) .none kV_Rounding_behind dc_Rounding_behind pm_Rounding_behind an_Rounding_behind cd_Rounding_behind ct_Rounding_behind), sl_Rounding_behind⟩)
    (F_Rounding_is_step_l : K.lookup A_Rounding_is_step = some ⟨oc_Rounding_is_step, od_Rounding_is_step, .func (PySem.W.fnOf "is_step" "Rounding.is_step" (defArgs s_Rounding_is_step) (defBody s_Rounding_is_step) (defScope s_Rounding_is_step) .none kV_Rounding_is_step dc_Rounding_is_step pm_Rounding_is_step an_Rounding_is_step cd_Rounding_is_step ct_Rounding_is_step), sl_Rounding_is_step⟩)
    (D_Rounding___init___l : K.lookup A_Rounding___init__ = some ⟨oc_Rounding___init__, od_Rounding___init__, .func (PySem.W.fnOf "__init__" "Rounding.__init__" (defArgs s_Rounding___init__) (defBody s_Rounding___init__) (defScope s_Rounding___init__) (.ref dT_Rounding___init__) kV_Rounding___init__ dc_Rounding___init__ pm_Rounding___init__ an_Rounding___init__ cd_Rounding___init__ ct_Rounding___init__), sl_Rounding___init__⟩)
    (F_Ratio___neg___l : K.lookup A_Ratio___neg__ = some ⟨oc_Ratio___neg__, od_Ratio___neg__, .func (PySem.W.fnOf "__neg__" "Ratio.__neg__" (defArgs s_Ratio___neg__) (defBody s_Ratio___neg__) (defScope s_Ratio___neg__) .none kV_Ratio___neg__ dc_Ratio___neg__ pm_Ratio___neg__ an_Ratio___neg__ cd_Ratio___neg__ ct_Ratio___neg__), sl_Ratio___neg__⟩)
    (F_Ratio___rsub___l : K.lookup A_Ratio___rsub__ = some ⟨oc_Ratio___rsub__, od_Ratio___rsub__, .func (PySem.W.fnOf "__rsub__" "Ratio.__rsub__" (defArgs s_Ratio___rsub__) (defBody s_Ratio___rsub__) (defScope s_Ratio___rsub__) .none kV_Ratio___rsub__ dc_Ratio___rsub__ pm_Ratio___rsub__ an_Ratio___rsub__ cd_Ratio___rsub__ ct_Ratio___rsub__), sl_Ratio___rsub__⟩)
    (F_Rounding___eq___l : K.lookup A_Rounding___eq__ = some ⟨oc_Rounding___eq__, od_Rounding___eq__, .func (PySem.W.fnOf "__eq__" "Rounding.__eq__" (defArgs s_Rounding___eq__) (defBody s_Rounding___eq__) (defScope s_Rounding___eq__) .none kV_Rounding___eq__ dc_Rounding___eq__ pm_Rounding___eq__ an_Rounding___eq__ cd_Rounding___eq__ ct_Rounding___eq__), sl_Rounding___eq__⟩)
    (F_Rounding___invert___l : K.lookup A_Rounding___invert__ = some ⟨oc_Rounding___invert__, od_Rounding___invert__, .func (PySem.W.fnOf "__invert__" "Rounding.__invert__" (defArgs s_Rounding___invert__) (defBody s_Rounding___invert__) (defScope s_Rounding___invert__) .none kV_Rounding___invert__ dc_Rounding___invert__ pm_Rounding___invert__ an_Rounding___invert__ cd_Rounding___invert__ ct_Rounding___invert__), sl_Rounding___invert__⟩)
    (F_Ratio___str___l : K.lookup A_Ratio___str__ = some ⟨oc_Ratio___str__, od_Ratio___str__, .func (PySem.W.fnOf "__str__" "Ratio.__str__" (defArgs s_Ratio___str__) (defBody s_Ratio___str__) (defScope s_Ratio___str__) .none kV_Ratio___str__ dc_Ratio___str__ pm_Ratio___str__ an_Ratio___str__ cd_Ratio___str__ ct_Ratio___str__), sl_Ratio___str__⟩)
    (F_Rounding___str___l : K.lookup A_Rounding___str__ = some ⟨oc_Rounding___str__, od_Rounding___str__, .func (PySem.W.fnOf "__str__" "Rounding.__str__" (defArgs s_Rounding___str__) (defBody s_Rounding___str__) (defScope s_Rounding___str__) .none kV_Rounding___str__ dc_Rounding___str__ pm_Rounding___str__ an_Rounding___str__ cd_Rounding___str__ ct_Rounding___str__), sl_Rounding___str__⟩)
    (F_Rounding_all_down_l : K.lookup A_Rounding_all_down = some ⟨oc_Rounding_all_down, od_Rounding_all_down, .func (PySem.W.fnOf "all_down" "Rounding.all_down" (defArgs s_Rounding_all_down) (defBody s_Rounding_all_down) (defScope s_Rounding_all_down) .none kV_Rounding_all_down dc_Rounding_all_down pm_Rounding_all_down an_Rounding_all_down cd_Rounding_all_down ct_Rounding_all_down), sl_Rounding_all_down⟩)
    (F_Rounding_all_up_l : K.lookup A_Rounding_all_up = some ⟨oc_Rounding_all_up, od_Rounding_all_up, .func (PySem.W.fnOf "all_up" "Rounding.all_up" (defArgs s_Rounding_all_up) (defBody s_Rounding_all_up) (defScope s_Rounding_all_up) .none kV_Rounding_all_up dc_Rounding_all_up pm_Rounding_all_up an_Rounding_all_up cd_Rounding_all_up ct_Rounding_all_up), sl_Rounding_all_up⟩)
    (F_Rounding_half_up_l : K.lookup A_Rounding_half_up = some ⟨oc_Rounding_half_up, od_Rounding_half_up, .func (PySem.W.fnOf "half_up" "Rounding.half_up" (defArgs s_Rounding_half_up) (defBody s_Rounding_half_up) (defScope s_Rounding_half_up) .none kV_Rounding_half_up dc_Rounding_half_up pm_Rounding_half_up an_Rounding_half_up cd_Rounding_half_up ct_Rounding_half_up), sl_Rounding_half_up⟩)
    (F__law_frac_l : K.lookup A__law_frac = some ⟨oc__law_frac, od__law_frac, .func (PySem.W.fnOf "_law_frac" "_law_frac" (defArgs s__law_frac) (defBody s__law_frac) (defScope s__law_frac) .none kV__law_frac dc__law_frac pm__law_frac an__law_frac cd__law_frac ct__law_frac), sl__law_frac⟩)
    (F__law_kind_l : K.lookup A__law_kind = some ⟨oc__law_kind, od__law_kind, .func (PySem.W.fnOf "_law_kind" "_law_kind" (defArgs s__law_kind) (defBody s__law_kind) (defScope s__law_kind) .none kV__law_kind dc__law_kind pm__law_kind an__law_kind cd__law_kind ct__law_kind), sl__law_kind⟩)
    (F__law_number_l : K.lookup A__law_number = some ⟨oc__law_number, od__law_number, .func (PySem.W.fnOf "_law_number" "_law_number" (defArgs s__law_number) (defBody s__law_number) (defScope s__law_number) .none kV__law_number dc__law_number pm__law_number an__law_number cd__law_number ct__law_number), sl__law_number⟩)
    (F__law_rounding_l : K.lookup A__law_rounding = some ⟨oc__law_rounding, od__law_rounding, .func (PySem.W.fnOf "_law_rounding" "_law_rounding" (defArgs s__law_rounding) (defBody s__law_rounding) (defScope s__law_rounding) .none kV__law_rounding dc__law_rounding pm__law_rounding an__law_rounding cd__law_rounding ct__law_rounding), sl__law_rounding⟩)
    (D__law_plus_l : K.lookup A__law_plus = some ⟨oc__law_plus, od__law_plus, .func (PySem.W.fnOf "_law_plus" "_law_plus" (defArgs s__law_plus) (defBody s__law_plus) (defScope s__law_plus) (.ref dT__law_plus) kV__law_plus dc__law_plus pm__law_plus an__law_plus cd__law_plus ct__law_plus), sl__law_plus⟩)
    (F__law_ratio_l : K.lookup A__law_ratio = some ⟨oc__law_ratio, od__law_ratio, .func (PySem.W.fnOf "_law_ratio" "_law_ratio" (defArgs s__law_ratio) (defBody s__law_ratio) (defScope s__law_ratio) .none kV__law_ratio dc__law_ratio pm__law_ratio an__law_ratio cd__law_ratio ct__law_ratio), sl__law_ratio⟩)
    (F__law_round_l : K.lookup A__law_round = some ⟨oc__law_round, od__law_round, .func (PySem.W.fnOf "_law_round" "_law_round" (defArgs s__law_round) (defBody s__law_round) (defScope s__law_round) .none kV__law_round dc__law_round pm__law_round an__law_round cd__law_round ct__law_round), sl__law_round⟩)
    (F__law_beside_l : K.lookup A__law_beside = some ⟨oc__law_beside, od__law_beside, .func (PySem.W.fnOf "_law_beside" "_law_beside" (defArgs s__law_beside) (defBody s__law_beside) (defScope s__law_beside) .none kV__law_beside dc__law_beside pm__law_beside an__law_beside cd__law_beside ct__law_beside), sl__law_beside⟩)
    (F__law_near_l : K.lookup A__law_near = some ⟨oc__law_near, od__law_near, .func (PySem.W.fnOf "_law_near" "_law_near" (defArgs s__law_near) (defBody s__law_near) (defScope s__law_near) .none kV__law_near dc__law_near pm__law_near an__law_near cd__law_near ct__law_near), sl__law_near⟩)
    (F__law_right_l : K.lookup A__law_right = some ⟨oc__law_right, od__law_right, .func (PySem.W.fnOf "_law_right" "_law_right" (defArgs s__law_right) (defBody s__law_right) (defScope s__law_right) .none kV__law_right dc__law_right pm__law_right an__law_right cd__law_right ct__law_right), sl__law_right⟩)
    (F_Rounding_half_down_l : K.lookup A_Rounding_half_down = some ⟨oc_Rounding_half_down, od_Rounding_half_down, .func (PySem.W.fnOf "half_down" "Rounding.half_down" (defArgs s_Rounding_half_down) (defBody s_Rounding_half_down) (defScope s_Rounding_half_down) .none kV_Rounding_half_down dc_Rounding_half_down pm_Rounding_half_down an_Rounding_half_down cd_Rounding_half_down ct_Rounding_half_down), sl_Rounding_half_down⟩)
    (F_law_l : K.lookup A_law = some ⟨oc_law, od_law, .func (PySem.W.fnOf "law" "law" (defArgs s_law) (defBody s_law) (defScope s_law) .none kV_law dc_law pm_law an_law cd_law ct_law), sl_law⟩)
    (F__law_pen_c : PySem.W.codeIn K cd__law_pen "_law_pen" = true)
    (F__law_pen_k : PySem.W.keepIn K (.ref A__law_pen) = true)
    (n_list_a : PySem.W.nsIn K mainGlobals "list" = some none)
    (F__law_draw_c : PySem.W.codeIn K cd__law_draw "_law_draw" = true)
    (F__law_draw_k : PySem.W.keepIn K (.ref A__law_draw) = true)
    (n_int_a : PySem.W.nsIn K mainGlobals "int" = some none)
    (n_len_a : PySem.W.nsIn K mainGlobals "len" = some none)
    (n_abs_a : PySem.W.nsIn K mainGlobals "abs" = some none)
    (F__law_pick_c : PySem.W.codeIn K cd__law_pick "_law_pick" = true)
    (F__law_pick_k : PySem.W.keepIn K (.ref A__law_pick) = true)
    (k__law_draw_a : PySem.W.keepIn K (.ref A__law_draw) = true)
    (m__law_draw_a : PySem.W.nsIn K mainGlobals "_law_draw" = some (some (.ref A__law_draw)))
    (y_Ratio_a : PySem.W.findIn K (.ref A_Ratio) "__class__" = some (some (.builtin "object.__class__")))
    (y_Ratio_n : PySem.W.specialIn K (.builtin "object.__class__") "__get__" = some (some (.builtin "getset_descriptor.__get__")))
    (y_Ratio_t : PySem.W.takesIn K (.builtin "object.__class__") = some true)
    (y_Ratio_m : PySem.W.mroIn K A_Ratio (.type "object") = some true)
    (c_Ratio_p : PySem.W.plainGet K A_Ratio Str.empty = true)
    (c_Ratio_h : PySem.W.hasDictIn K A_Ratio = true)
    (c_Ratio_o : PySem.W.plainOver K A_Ratio = true)
    (c_Ratio_s : PySem.W.findIn K (.ref A_Ratio) "__setattr__" = some (some (.builtin "object.__setattr__")))
    (i_Ratio_is_int_a : PySem.W.subIn K (.ref A_Ratio) (.type "int") = some false)
    (i_Ratio_is_bool_a : PySem.W.subIn K (.ref A_Ratio) (.type "bool") = some false)
    (F_is_integer_c : PySem.W.codeIn K cd_is_integer "is_integer" = true)
    (F_is_integer_k : PySem.W.keepIn K (.ref A_is_integer) = true)
    (n_isinstance_a : PySem.W.nsIn K mainGlobals "isinstance" = some none)
    (n_bool_a : PySem.W.nsIn K mainGlobals "bool" = some none)
    (D_Ratio___init___c : PySem.W.codeIn K cd_Ratio___init__ "Ratio.__init__" = true)
    (D_Ratio___init___k : PySem.W.keepIn K (.ref A_Ratio___init__) = true)
    (D_Ratio___init___t : K.lookup dT_Ratio___init__ = some ⟨tc_Ratio___init__, td_Ratio___init__, .seq (List.toArray [.int 1 tk0_Ratio___init__]) tn_Ratio___init__, ts_Ratio___init__⟩)
    (k_is_integer_a : PySem.W.keepIn K (.ref A_is_integer) = true)
    (m_is_integer_a : PySem.W.nsIn K mainGlobals "is_integer" = some (some (.ref A_is_integer)))
    (m_gcd_a : PySem.W.nsIn K mainGlobals "gcd" = some (some (.builtin "math.gcd")))
    (a_Ratio_over_a : PySem.W.findIn K (.ref A_Ratio) "over" = some none)
    (a_Ratio_under_a : PySem.W.findIn K (.ref A_Ratio) "under" = some none)
    (F_Ratio_of_c : PySem.W.codeIn K cd_Ratio_of "Ratio.of" = true)
    (F_Ratio_of_k : PySem.W.keepIn K (.ref A_Ratio_of) = true)
    (m_Ratio_a : PySem.W.nsIn K mainGlobals "Ratio" = some (some (.ref A_Ratio)))
    (mk_Ratio_m : PySem.W.makesIn K A_Ratio = true)
    (mk_Ratio_i : PySem.W.findIn K (.ref A_Ratio) "__init__" = some (some (.ref A_Ratio___init__)))
    (mk_Ratio_f : PySem.W.isFn K (.ref A_Ratio___init__) = true)
    (mk_Ratio_k : PySem.W.keepIn K (.ref A_Ratio) = true)
    (i_int_is_Ratio_c : PySem.W.isClsIn K A_Ratio = true)
    (i_int_is_Ratio_t : PySem.W.typeIn K (.ref A_Ratio) = some (.type "type"))
    (i_int_is_Ratio_a : PySem.W.subIn K (.type "int") (.ref A_Ratio) = some false)
    (F_Ratio___add___c : PySem.W.codeIn K cd_Ratio___add__ "Ratio.__add__" = true)
    (F_Ratio___add___k : PySem.W.keepIn K (.ref A_Ratio___add__) = true)
    (s_Ratio_of_g : PySem.W.specialIn K (.ref A_Ratio) "__getattribute__" = some (some (.builtin "type.__getattribute__")))
    (s_Ratio_of_k : PySem.W.keepIn K (.ref A_Ratio_of) = true)
    (F_Ratio___sub___c : PySem.W.codeIn K cd_Ratio___sub__ "Ratio.__sub__" = true)
    (F_Ratio___sub___k : PySem.W.keepIn K (.ref A_Ratio___sub__) = true)
    (F_Ratio___mul___c : PySem.W.codeIn K cd_Ratio___mul__ "Ratio.__mul__" = true)
    (F_Ratio___mul___k : PySem.W.keepIn K (.ref A_Ratio___mul__) = true)
    (F_Ratio___lt___c : PySem.W.codeIn K cd_Ratio___lt__ "Ratio.__lt__" = true)
    (F_Ratio___lt___k : PySem.W.keepIn K (.ref A_Ratio___lt__) = true)
    (F_Ratio___le___c : PySem.W.codeIn K cd_Ratio___le__ "Ratio.__le__" = true)
    (F_Ratio___le___k : PySem.W.keepIn K (.ref A_Ratio___le__) = true)
    (F_Ratio___gt___c : PySem.W.codeIn K cd_Ratio___gt__ "Ratio.__gt__" = true)
    (F_Ratio___gt___k : PySem.W.keepIn K (.ref A_Ratio___gt__) = true)
    (F_Ratio___ge___c : PySem.W.codeIn K cd_Ratio___ge__ "Ratio.__ge__" = true)
    (F_Ratio___ge___k : PySem.W.keepIn K (.ref A_Ratio___ge__) = true)
    (F_Ratio___eq___c : PySem.W.codeIn K cd_Ratio___eq__ "Ratio.__eq__" = true)
    (F_Ratio___eq___k : PySem.W.keepIn K (.ref A_Ratio___eq__) = true)
    (F_Ratio_floor_c : PySem.W.codeIn K cd_Ratio_floor "Ratio.floor" = true)
    (F_Ratio_floor_k : PySem.W.keepIn K (.ref A_Ratio_floor) = true)
    (F_Ratio_ceiling_c : PySem.W.codeIn K cd_Ratio_ceiling "Ratio.ceiling" = true)
    (F_Ratio_ceiling_k : PySem.W.keepIn K (.ref A_Ratio_ceiling) = true)
    (F_is_number_c : PySem.W.codeIn K cd_is_number "is_number" = true)
    (F_is_number_k : PySem.W.keepIn K (.ref A_is_number) = true)
    (F_fraction_of_c : PySem.W.codeIn K cd_fraction_of "fraction_of" = true)
    (F_fraction_of_k : PySem.W.keepIn K (.ref A_fraction_of) = true)
    (k_is_number_a : PySem.W.keepIn K (.ref A_is_number) = true)
    (m_is_number_a : PySem.W.nsIn K mainGlobals "is_number" = some (some (.ref A_is_number)))
    (F_Rounding_drawn_at_c : PySem.W.codeIn K cd_Rounding_drawn_at "Rounding.drawn_at" = true)
    (F_Rounding_drawn_at_k : PySem.W.keepIn K (.ref A_Rounding_drawn_at) = true)
    (h_Ratio_floor_a : PySem.W.findIn K (.ref A_Ratio) "floor" = some (some (.ref A_Ratio_floor)))
    (h_Ratio_floor_f : PySem.W.isFn K (.ref A_Ratio_floor) = true)
    (h_Ratio_floor_k : PySem.W.keepIn K (.ref A_Ratio_floor) = true)
    (h_Ratio_ceiling_a : PySem.W.findIn K (.ref A_Ratio) "ceiling" = some (some (.ref A_Ratio_ceiling)))
    (h_Ratio_ceiling_f : PySem.W.isFn K (.ref A_Ratio_ceiling) = true)
    (h_Ratio_ceiling_k : PySem.W.keepIn K (.ref A_Ratio_ceiling) = true)
    (c_Rounding_p : PySem.W.plainGet K A_Rounding Str.empty = true)
    (c_Rounding_h : PySem.W.hasDictIn K A_Rounding = true)
    (c_Rounding_o : PySem.W.plainOver K A_Rounding = true)
    (c_Rounding_s : PySem.W.findIn K (.ref A_Rounding) "__setattr__" = some (some (.builtin "object.__setattr__")))
    (a_Rounding_threshold_a : PySem.W.findIn K (.ref A_Rounding) "threshold" = some none)
    (b_Ratio_sub_s : PySem.W.findIn K (.ref A_Ratio) "__sub__" = some (some (.ref A_Ratio___sub__)))
    (b_Ratio_sub_f : PySem.W.isFn K (.ref A_Ratio___sub__) = true)
    (b_Ratio_sub_c : PySem.W.selfFirst K A_Ratio = true)
    (b_Ratio_sub_r : PySem.W.findIn K (.ref A_Ratio) "__rsub__" = some (some (.ref A_Ratio___rsub__)))
    (b_Ratio_sub_t : PySem.W.findIn K (.type "int") "__sub__" = some fo_Ratio_sub)
    (b_Ratio_sub_u : PySem.W.findIn K (.type "int") "__rsub__" = some ro_Ratio_sub)
    (b_Ratio_sub_w : PySem.W.subIn K (.type "int") (.ref A_Ratio) = some false)
    (a_Rounding_is_from_a : PySem.W.findIn K (.ref A_Rounding) "is_from" = some none)
    (F_Rounding___call___c : PySem.W.codeIn K cd_Rounding___call__ "Rounding.__call__" = true)
    (F_Rounding___call___k : PySem.W.keepIn K (.ref A_Rounding___call__) = true)
    (h_Rounding_drawn_at_a : PySem.W.findIn K (.ref A_Rounding) "drawn_at" = some (some (.ref A_Rounding_drawn_at)))
    (h_Rounding_drawn_at_f : PySem.W.isFn K (.ref A_Rounding_drawn_at) = true)
    (h_Rounding_drawn_at_k : PySem.W.keepIn K (.ref A_Rounding_drawn_at) = true)
    (k_fraction_of_a : PySem.W.keepIn K (.ref A_fraction_of) = true)
    (m_fraction_of_a : PySem.W.nsIn K mainGlobals "fraction_of" = some (some (.ref A_fraction_of)))
    (F_Rounding_before_c : PySem.W.codeIn K cd_Rounding_before "Rounding.before" = true)
    (F_Rounding_before_k : PySem.W.keepIn K (.ref A_Rounding_before) = true)
    (F_Rounding_behind_c : PySem.W.codeIn K cd_Rounding_behind "Rounding.behind" = true)
    (F_Rounding_behind_k : PySem.W.keepIn K (.ref A_Rounding_behind) = true)
    (F_Rounding_is_step_c : PySem.W.codeIn K cd_Rounding_is_step "Rounding.is_step" = true)
    (F_Rounding_is_step_k : PySem.W.keepIn K (.ref A_Rounding_is_step) = true)
    (D_Rounding___init___c : PySem.W.codeIn K cd_Rounding___init__ "Rounding.__init__" = true)
    (D_Rounding___init___k : PySem.W.keepIn K (.ref A_Rounding___init__) = true)
    (D_Rounding___init___t : K.lookup dT_Rounding___init__ = some ⟨tc_Rounding___init__, td_Rounding___init__, .seq (List.toArray [.bool true]) tn_Rounding___init__, ts_Rounding___init__⟩)
    (q_Ratio_lt_s : PySem.W.findIn K (.ref A_Ratio) "__lt__" = some (some (.ref A_Ratio___lt__)))
    (q_Ratio_lt_f : PySem.W.isFn K (.ref A_Ratio___lt__) = true)
    (q_Ratio_lt_n : PySem.W.notFirst K A_Ratio (.type "int") = true)
    (q_Ratio_gt_s : PySem.W.findIn K (.ref A_Ratio) "__gt__" = some (some (.ref A_Ratio___gt__)))
    (q_Ratio_gt_f : PySem.W.isFn K (.ref A_Ratio___gt__) = true)
    (q_Ratio_gt_n : PySem.W.notFirst K A_Ratio (.type "int") = true)
    (q_Ratio_eq_s : PySem.W.findIn K (.ref A_Ratio) "__eq__" = some (some (.ref A_Ratio___eq__)))
    (q_Ratio_eq_f : PySem.W.isFn K (.ref A_Ratio___eq__) = true)
    (q_Ratio_eq_n : PySem.W.notFirst K A_Ratio (.type "int") = true)
    (F_Ratio___neg___c : PySem.W.codeIn K cd_Ratio___neg__ "Ratio.__neg__" = true)
    (F_Ratio___neg___k : PySem.W.keepIn K (.ref A_Ratio___neg__) = true)
    (F_Ratio___rsub___c : PySem.W.codeIn K cd_Ratio___rsub__ "Ratio.__rsub__" = true)
    (F_Ratio___rsub___k : PySem.W.keepIn K (.ref A_Ratio___rsub__) = true)
    (F_Rounding___eq___c : PySem.W.codeIn K cd_Rounding___eq__ "Rounding.__eq__" = true)
    (F_Rounding___eq___k : PySem.W.keepIn K (.ref A_Rounding___eq__) = true)
    (m_Rounding_a : PySem.W.nsIn K mainGlobals "Rounding" = some (some (.ref A_Rounding)))
    (y_Rounding_a : PySem.W.findIn K (.ref A_Rounding) "__class__" = some (some (.builtin "object.__class__")))
    (y_Rounding_n : PySem.W.specialIn K (.builtin "object.__class__") "__get__" = some (some (.builtin "getset_descriptor.__get__")))
    (y_Rounding_t : PySem.W.takesIn K (.builtin "object.__class__") = some true)
    (y_Rounding_m : PySem.W.mroIn K A_Rounding (.type "object") = some true)
    (F_Rounding___invert___c : PySem.W.codeIn K cd_Rounding___invert__ "Rounding.__invert__" = true)
    (F_Rounding___invert___k : PySem.W.keepIn K (.ref A_Rounding___invert__) = true)
    (mk_Rounding_m : PySem.W.makesIn K A_Rounding = true)
    (mk_Rounding_i : PySem.W.findIn K (.ref A_Rounding) "__init__" = some (some (.ref A_Rounding___init__)))
    (mk_Rounding_f : PySem.W.isFn K (.ref A_Rounding___init__) = true)
    (mk_Rounding_k : PySem.W.keepIn K (.ref A_Rounding) = true)
    (v_Ratio_sub_s : PySem.W.findIn K (.ref A_Ratio) "__sub__" = some (some (.ref A_Ratio___sub__)))
    (v_Ratio_sub_r : PySem.W.findIn K (.ref A_Ratio) "__rsub__" = some (some (.ref A_Ratio___rsub__)))
    (v_Ratio_sub_f : PySem.W.isFn K (.ref A_Ratio___rsub__) = true)
    (v_Ratio_sub_c : PySem.W.selfFirst K A_Ratio = true)
    (v_Ratio_sub_u : PySem.W.subIn K (.ref A_Ratio) (.type "int") = some false)
    (F_Ratio___str___c : PySem.W.codeIn K cd_Ratio___str__ "Ratio.__str__" = true)
    (F_Ratio___str___k : PySem.W.keepIn K (.ref A_Ratio___str__) = true)
    (n_str_a : PySem.W.nsIn K mainGlobals "str" = some none)
    (F_Rounding___str___c : PySem.W.codeIn K cd_Rounding___str__ "Rounding.__str__" = true)
    (F_Rounding___str___k : PySem.W.keepIn K (.ref A_Rounding___str__) = true)
    (t_Ratio_s : PySem.W.findIn K (.ref A_Ratio) "__str__" = some (some (.ref A_Ratio___str__)))
    (t_Ratio_f : PySem.W.isFn K (.ref A_Ratio___str__) = true)
    (t_Ratio_g : PySem.W.findIn K (.ref A_Ratio) "__format__" = some (some (.builtin "object.__format__")))
    (t_Ratio_m : PySem.W.mroIn K A_Ratio (.type "object") = some true)
    (F_Rounding_all_down_c : PySem.W.codeIn K cd_Rounding_all_down "Rounding.all_down" = true)
    (F_Rounding_all_down_k : PySem.W.keepIn K (.ref A_Rounding_all_down) = true)
    (F_Rounding_all_up_c : PySem.W.codeIn K cd_Rounding_all_up "Rounding.all_up" = true)
    (F_Rounding_all_up_k : PySem.W.keepIn K (.ref A_Rounding_all_up) = true)
    (F_Rounding_half_up_c : PySem.W.codeIn K cd_Rounding_half_up "Rounding.half_up" = true)
    (F_Rounding_half_up_k : PySem.W.keepIn K (.ref A_Rounding_half_up) = true)
    (F__law_frac_c : PySem.W.codeIn K cd__law_frac "_law_frac" = true)
    (F__law_frac_k : PySem.W.keepIn K (.ref A__law_frac) = true)
    (F__law_kind_c : PySem.W.codeIn K cd__law_kind "_law_kind" = true)
    (F__law_kind_k : PySem.W.keepIn K (.ref A__law_kind) = true)
    (k__law_pick_a : PySem.W.keepIn K (.ref A__law_pick) = true)
    (m__law_pick_a : PySem.W.nsIn K mainGlobals "_law_pick" = some (some (.ref A__law_pick)))
    (F__law_number_c : PySem.W.codeIn K cd__law_number "_law_number" = true)
    (F__law_number_k : PySem.W.keepIn K (.ref A__law_number) = true)
    (k__law_frac_a : PySem.W.keepIn K (.ref A__law_frac) = true)
    (m__law_frac_a : PySem.W.nsIn K mainGlobals "_law_frac" = some (some (.ref A__law_frac)))
    (F__law_rounding_c : PySem.W.codeIn K cd__law_rounding "_law_rounding" = true)
    (F__law_rounding_k : PySem.W.keepIn K (.ref A__law_rounding) = true)
    (D__law_plus_c : PySem.W.codeIn K cd__law_plus "_law_plus" = true)
    (D__law_plus_k : PySem.W.keepIn K (.ref A__law_plus) = true)
    (D__law_plus_t : K.lookup dT__law_plus = some ⟨tc__law_plus, td__law_plus, .seq (List.toArray [.int 1 tk0__law_plus]) tn__law_plus, ts__law_plus⟩)
    (F__law_ratio_c : PySem.W.codeIn K cd__law_ratio "_law_ratio" = true)
    (F__law_ratio_k : PySem.W.keepIn K (.ref A__law_ratio) = true)
    (F__law_round_c : PySem.W.codeIn K cd__law_round "_law_round" = true)
    (F__law_round_k : PySem.W.keepIn K (.ref A__law_round) = true)
    (F__law_beside_c : PySem.W.codeIn K cd__law_beside "_law_beside" = true)
    (F__law_beside_k : PySem.W.keepIn K (.ref A__law_beside) = true)
    (k__law_round_a : PySem.W.keepIn K (.ref A__law_round) = true)
    (m__law_round_a : PySem.W.nsIn K mainGlobals "_law_round" = some (some (.ref A__law_round)))
    (k__law_plus_a : PySem.W.keepIn K (.ref A__law_plus) = true)
    (m__law_plus_a : PySem.W.nsIn K mainGlobals "_law_plus" = some (some (.ref A__law_plus)))
    (F__law_near_c : PySem.W.codeIn K cd__law_near "_law_near" = true)
    (F__law_near_k : PySem.W.keepIn K (.ref A__law_near) = true)
    (k__law_number_a : PySem.W.keepIn K (.ref A__law_number) = true)
    (m__law_number_a : PySem.W.nsIn K mainGlobals "_law_number" = some (some (.ref A__law_number)))
    (F__law_right_c : PySem.W.codeIn K cd__law_right "_law_right" = true)
    (F__law_right_k : PySem.W.keepIn K (.ref A__law_right) = true)
    (k__law_near_a : PySem.W.keepIn K (.ref A__law_near) = true)
    (m__law_near_a : PySem.W.nsIn K mainGlobals "_law_near" = some (some (.ref A__law_near)))
    (k__law_rounding_a : PySem.W.keepIn K (.ref A__law_rounding) = true)
    (m__law_rounding_a : PySem.W.nsIn K mainGlobals "_law_rounding" = some (some (.ref A__law_rounding)))
    (k__law_ratio_a : PySem.W.keepIn K (.ref A__law_ratio) = true)
    (m__law_ratio_a : PySem.W.nsIn K mainGlobals "_law_ratio" = some (some (.ref A__law_ratio)))
    (k__law_beside_a : PySem.W.keepIn K (.ref A__law_beside) = true)
    (m__law_beside_a : PySem.W.nsIn K mainGlobals "_law_beside" = some (some (.ref A__law_beside)))
    (o_Rounding_s : PySem.W.findIn K (.ref A_Rounding) "__call__" = some (some (.ref A_Rounding___call__)))
    (o_Rounding_f : PySem.W.isFn K (.ref A_Rounding___call__) = true)
    (o_Rounding_i : PySem.W.fnIn K A_Rounding___call__ = true)
    (h_Rounding_before_a : PySem.W.findIn K (.ref A_Rounding) "before" = some (some (.ref A_Rounding_before)))
    (h_Rounding_before_f : PySem.W.isFn K (.ref A_Rounding_before) = true)
    (h_Rounding_before_k : PySem.W.keepIn K (.ref A_Rounding_before) = true)
    (h_Rounding_behind_a : PySem.W.findIn K (.ref A_Rounding) "behind" = some (some (.ref A_Rounding_behind)))
    (h_Rounding_behind_f : PySem.W.isFn K (.ref A_Rounding_behind) = true)
    (h_Rounding_behind_k : PySem.W.keepIn K (.ref A_Rounding_behind) = true)
    (n_repr_a : PySem.W.nsIn K mainGlobals "repr" = some none)
    (h_Rounding_is_step_a : PySem.W.findIn K (.ref A_Rounding) "is_step" = some (some (.ref A_Rounding_is_step)))
    (h_Rounding_is_step_f : PySem.W.isFn K (.ref A_Rounding_is_step) = true)
    (h_Rounding_is_step_k : PySem.W.keepIn K (.ref A_Rounding_is_step) = true)
    (F_Rounding_half_down_c : PySem.W.codeIn K cd_Rounding_half_down "Rounding.half_down" = true)
    (F_Rounding_half_down_k : PySem.W.keepIn K (.ref A_Rounding_half_down) = true)
    (F_law_c : PySem.W.codeIn K cd_law "law" = true)
    (F_law_k : PySem.W.keepIn K (.ref A_law) = true)
    (k__law_pen_a : PySem.W.keepIn K (.ref A__law_pen) = true)
    (m__law_pen_a : PySem.W.nsIn K mainGlobals "_law_pen" = some (some (.ref A__law_pen)))
    (n_range_a : PySem.W.nsIn K mainGlobals "range" = some none)
    (k__law_kind_a : PySem.W.keepIn K (.ref A__law_kind) = true)
    (m__law_kind_a : PySem.W.nsIn K mainGlobals "_law_kind" = some (some (.ref A__law_kind)))
    (q_Rounding_eq_s : PySem.W.findIn K (.ref A_Rounding) "__eq__" = some (some (.ref A_Rounding___eq__)))
    (q_Rounding_eq_f : PySem.W.isFn K (.ref A_Rounding___eq__) = true)
    (q_Rounding_eq_n : PySem.W.notFirst K A_Rounding (.type "int") = true)
    (k__law_right_a : PySem.W.keepIn K (.ref A__law_right) = true)
    (m__law_right_a : PySem.W.nsIn K mainGlobals "_law_right" = some (some (.ref A__law_right)))
    (s_Rounding_all_down_g : PySem.W.specialIn K (.ref A_Rounding) "__getattribute__" = some (some (.builtin "type.__getattribute__")))
    (s_Rounding_all_down_k : PySem.W.keepIn K (.ref A_Rounding_all_down) = true)
    (s_Rounding_all_up_g : PySem.W.specialIn K (.ref A_Rounding) "__getattribute__" = some (some (.builtin "type.__getattribute__")))
    (s_Rounding_all_up_k : PySem.W.keepIn K (.ref A_Rounding_all_up) = true)
    (s_Rounding_half_up_g : PySem.W.specialIn K (.ref A_Rounding) "__getattribute__" = some (some (.builtin "type.__getattribute__")))
    (s_Rounding_half_up_k : PySem.W.keepIn K (.ref A_Rounding_half_up) = true)
    (s_Rounding_half_down_g : PySem.W.specialIn K (.ref A_Rounding) "__getattribute__" = some (some (.builtin "type.__getattribute__")))
    (s_Rounding_half_down_k : PySem.W.keepIn K (.ref A_Rounding_half_down) = true)
    (z_Ratio_e : PySem.W.findIn K (.ref A_Ratio) "__ne__" = some (some (.builtin "object.__ne__")))
    (z_Ratio_s : PySem.W.findIn K (.ref A_Ratio) "__eq__" = some (some (.ref A_Ratio___eq__)))
    (z_Ratio_f : PySem.W.isFn K (.ref A_Ratio___eq__) = true)
    (z_Ratio_m : PySem.W.mroIn K A_Ratio (.type "object") = some true)
    (z_Ratio_n : PySem.W.notFirst K A_Ratio (.type "int") = true)
    (z_Rounding_e : PySem.W.findIn K (.ref A_Rounding) "__ne__" = some (some (.builtin "object.__ne__")))
    (z_Rounding_s : PySem.W.findIn K (.ref A_Rounding) "__eq__" = some (some (.ref A_Rounding___eq__)))
    (z_Rounding_f : PySem.W.isFn K (.ref A_Rounding___eq__) = true)
    (z_Rounding_m : PySem.W.mroIn K A_Rounding (.type "object") = some true)
    (z_Rounding_n : PySem.W.notFirst K A_Rounding (.type "int") = true)
    (w_Rounding_tuple_n : PySem.W.notFirst K A_Rounding (.type "tuple") = true)
    (i_tuple_is_Rounding_c : PySem.W.isClsIn K A_Rounding = true)
    (i_tuple_is_Rounding_t : PySem.W.typeIn K (.ref A_Rounding) = some (.type "type"))
    (i_tuple_is_Rounding_a : PySem.W.subIn K (.type "tuple") (.ref A_Rounding) = some false)
    (t_Rounding_s : PySem.W.findIn K (.ref A_Rounding) "__str__" = some (some (.ref A_Rounding___str__)))
    (t_Rounding_f : PySem.W.isFn K (.ref A_Rounding___str__) = true)
    (t_Rounding_g : PySem.W.findIn K (.ref A_Rounding) "__format__" = some (some (.builtin "object.__format__")))
    (t_Rounding_m : PySem.W.mroIn K A_Rounding (.type "object") = some true)
    (w_Rounding_str_n : PySem.W.notFirst K A_Rounding (.type "str") = true)
    (i_str_is_Rounding_c : PySem.W.isClsIn K A_Rounding = true)
    (i_str_is_Rounding_t : PySem.W.typeIn K (.ref A_Rounding) = some (.type "type"))
    (i_str_is_Rounding_a : PySem.W.subIn K (.type "str") (.ref A_Rounding) = some false)
    (m_law_a : PySem.W.nsIn K mainGlobals "law" = some (some (.ref A_law)))
    : Tx K mg ⟨A__law_pen, A__law_draw, A__law_pick, A_Ratio, A_is_integer, A_Ratio___init__, A_Ratio_of, A_Ratio___add__, A_Ratio___sub__, A_Ratio___mul__, A_Ratio___lt__, A_Ratio___le__, A_Ratio___gt__, A_Ratio___ge__, A_Ratio___eq__, A_Ratio_floor, A_Ratio_ceiling, A_is_number, A_fraction_of, A_Rounding_drawn_at, A_Rounding, A_Ratio___rsub__, A_Rounding___call__, A_Rounding_before, A_Rounding_behind, A_Rounding_is_step, A_Rounding___init__, A_Ratio___neg__, A_Rounding___eq__, A_Rounding___invert__, A_Ratio___str__, A_Rounding___str__, A_Rounding_all_down, A_Rounding_all_up, A_Rounding_half_up, A__law_frac, A__law_kind, A__law_number, A__law_rounding, A__law_plus, A__law_ratio, A__law_round, A__law_beside, A__law_near, A__law_right, A_Rounding_half_down, A_law⟩ where
    F__law_pen := ⟨_, fun_mk (st := s__law_pen) F__law_pen_l F__law_pen_c F__law_pen_k⟩
    n_list := PySem.W.mg_none_of X G n_list_a
    F__law_draw := ⟨_, fun_mk (st := s__law_draw) F__law_draw_l F__law_draw_c F__law_draw_k⟩
    n_int := PySem.W.mg_none_of X G n_int_a
    n_len := PySem.W.mg_none_of X G n_len_a
    n_abs := PySem.W.mg_none_of X G n_abs_a
    F__law_pick := ⟨_, fun_mk (st := s__law_pick) F__law_pick_l F__law_pick_c F__law_pick_k⟩
    k__law_draw := k__law_draw_a
    m__law_draw := PySem.W.mg_of X G m__law_draw_a
    i_int_is_int := L2.kit_ty (by decide +kernel)
    i_int_is_bool := L2.kit_ty (by decide +kernel)
    y_Ratio := ⟨y_Ratio_a, y_Ratio_n, y_Ratio_t, y_Ratio_m⟩
    c_Ratio := ⟨c_Ratio_p, c_Ratio_h, c_Ratio_o, c_Ratio_s⟩
    i_Ratio_is_int := kit_rt (by decide +kernel) i_Ratio_is_int_a
    i_Ratio_is_bool := kit_rt (by decide +kernel) i_Ratio_is_bool_a
    F_is_integer := ⟨_, fun_mk (st := s_is_integer) F_is_integer_l F_is_integer_c F_is_integer_k⟩
    n_isinstance := PySem.W.mg_none_of X G n_isinstance_a
    n_bool := PySem.W.mg_none_of X G n_bool_a
    D_Ratio___init__ := ⟨_, ⟨_, _, _, _, _, _, _, _, _, _, rfl, D_Ratio___init___l, D_Ratio___init___c, Or.inr ⟨by simp, _, _, _, _, rfl, D_Ratio___init___t, rfl, (Paired.cons ⟨_, rfl⟩ Paired.nil)⟩, Or.inl rfl⟩, D_Ratio___init___k⟩
    k_is_integer := k_is_integer_a
    m_is_integer := PySem.W.mg_of X G m_is_integer_a
    m_gcd := PySem.W.mg_of X G m_gcd_a
    a_Ratio_over := a_Ratio_over_a
    a_Ratio_under := a_Ratio_under_a
    F_Ratio_of := ⟨_, fun_mk (st := s_Ratio_of) F_Ratio_of_l F_Ratio_of_c F_Ratio_of_k⟩
    m_Ratio := PySem.W.mg_of X G m_Ratio_a
    mk_Ratio := ⟨mk_Ratio_m, mk_Ratio_i, mk_Ratio_f, mk_Ratio_k⟩
    i_int_is_Ratio := kit_tr i_int_is_Ratio_c i_int_is_Ratio_t i_int_is_Ratio_a
    i_Ratio_is_Ratio := kit_rr
    F_Ratio___add__ := ⟨_, fun_mk (st := s_Ratio___add__) F_Ratio___add___l F_Ratio___add___c F_Ratio___add___k⟩
    s_Ratio_of := ⟨⟨_, _, _, ⟨s_Ratio_of_r, s_Ratio_of_g⟩, s_Ratio_of_a, s_Ratio_of_q⟩, s_Ratio_of_k⟩
    F_Ratio___sub__ := ⟨_, fun_mk (st := s_Ratio___sub__) F_Ratio___sub___l F_Ratio___sub___c F_Ratio___sub___k⟩
    F_Ratio___mul__ := ⟨_, fun_mk (st := s_Ratio___mul__) F_Ratio___mul___l F_Ratio___mul___c F_Ratio___mul___k⟩
    F_Ratio___lt__ := ⟨_, fun_mk (st := s_Ratio___lt__) F_Ratio___lt___l F_Ratio___lt___c F_Ratio___lt___k⟩
    F_Ratio___le__ := ⟨_, fun_mk (st := s_Ratio___le__) F_Ratio___le___l F_Ratio___le___c F_Ratio___le___k⟩
    F_Ratio___gt__ := ⟨_, fun_mk (st := s_Ratio___gt__) F_Ratio___gt___l F_Ratio___gt___c F_Ratio___gt___k⟩
    F_Ratio___ge__ := ⟨_, fun_mk (st := s_Ratio___ge__) F_Ratio___ge___l F_Ratio___ge___c F_Ratio___ge___k⟩
    F_Ratio___eq__ := ⟨_, fun_mk (st := s_Ratio___eq__) F_Ratio___eq___l F_Ratio___eq___c F_Ratio___eq___k⟩
    F_Ratio_floor := ⟨_, fun_mk (st := s_Ratio_floor) F_Ratio_floor_l F_Ratio_floor_c F_Ratio_floor_k⟩
    F_Ratio_ceiling := ⟨_, fun_mk (st := s_Ratio_ceiling) F_Ratio_ceiling_l F_Ratio_ceiling_c F_Ratio_ceiling_k⟩
    F_is_number := ⟨_, fun_mk (st := s_is_number) F_is_number_l F_is_number_c F_is_number_k⟩
    F_fraction_of := ⟨_, fun_mk (st := s_fraction_of) F_fraction_of_l F_fraction_of_c F_fraction_of_k⟩
    k_is_number := k_is_number_a
    m_is_number := PySem.W.mg_of X G m_is_number_a
    F_Rounding_drawn_at := ⟨_, fun_mk (st := s_Rounding_drawn_at) F_Rounding_drawn_at_l F_Rounding_drawn_at_c F_Rounding_drawn_at_k⟩
    h_Ratio_floor := ⟨h_Ratio_floor_a, h_Ratio_floor_f, h_Ratio_floor_k⟩
    h_Ratio_ceiling := ⟨h_Ratio_ceiling_a, h_Ratio_ceiling_f, h_Ratio_ceiling_k⟩
    c_Rounding := ⟨c_Rounding_p, c_Rounding_h, c_Rounding_o, c_Rounding_s⟩
    a_Rounding_threshold := a_Rounding_threshold_a
    b_Ratio_sub := ⟨b_Ratio_sub_s, b_Ratio_sub_f, b_Ratio_sub_c, ⟨_, b_Ratio_sub_r, Or.inr ⟨_, rfl⟩⟩, ⟨_, _, b_Ratio_sub_t, b_Ratio_sub_u⟩, b_Ratio_sub_w⟩
    a_Rounding_is_from := a_Rounding_is_from_a
    F_Rounding___call__ := ⟨_, fun_mk (st := s_Rounding___call__) F_Rounding___call___l F_Rounding___call___c F_Rounding___call___k⟩
    h_Rounding_drawn_at := ⟨h_Rounding_drawn_at_a, h_Rounding_drawn_at_f, h_Rounding_drawn_at_k⟩
    k_fraction_of := k_fraction_of_a
    m_fraction_of := PySem.W.mg_of X G m_fraction_of_a
    F_Rounding_before := ⟨_, fun_mk (st := s_Rounding_before) F_Rounding_before_l F_Rounding_before_c F_Rounding_before_k⟩
    F_Rounding_behind := ⟨_, fun_mk (st := s_Rounding_behind) F_Rounding_behind_l F_Rounding_behind_c F_Rounding_behind_k⟩
    F_Rounding_is_step := ⟨_, fun_mk (st := s_Rounding_is_step) F_Rounding_is_step_l F_Rounding_is_step_c F_Rounding_is_step_k⟩
    D_Rounding___init__ := ⟨_, ⟨_, _, _, _, _, _, _, _, _, _, rfl, D_Rounding___init___l, D_Rounding___init___c, Or.inr ⟨by simp, _, _, _, _, rfl, D_Rounding___init___t, rfl, (Paired.cons rfl Paired.nil)⟩, Or.inl rfl⟩, D_Rounding___init___k⟩
    q_Ratio_lt := ⟨q_Ratio_lt_s, q_Ratio_lt_f, q_Ratio_lt_n⟩
    q_Ratio_gt := ⟨q_Ratio_gt_s, q_Ratio_gt_f, q_Ratio_gt_n⟩
    i_bool_is_bool := L2.kit_ty (by decide +kernel)
    q_Ratio_eq := ⟨q_Ratio_eq_s, q_Ratio_eq_f, q_Ratio_eq_n⟩
    F_Ratio___neg__ := ⟨_, fun_mk (st := s_Ratio___neg__) F_Ratio___neg___l F_Ratio___neg___c F_Ratio___neg___k⟩
    F_Ratio___rsub__ := ⟨_, fun_mk (st := s_Ratio___rsub__) F_Ratio___rsub___l F_Ratio___rsub___c F_Ratio___rsub___k⟩
    F_Rounding___eq__ := ⟨_, fun_mk (st := s_Rounding___eq__) F_Rounding___eq___l F_Rounding___eq___c F_Rounding___eq___k⟩
    m_Rounding := PySem.W.mg_of X G m_Rounding_a
    y_Rounding := ⟨y_Rounding_a, y_Rounding_n, y_Rounding_t, y_Rounding_m⟩
    i_Rounding_is_Rounding := kit_rr
    F_Rounding___invert__ := ⟨_, fun_mk (st := s_Rounding___invert__) F_Rounding___invert___l F_Rounding___invert___c F_Rounding___invert___k⟩
    mk_Rounding := ⟨mk_Rounding_m, mk_Rounding_i, mk_Rounding_f, mk_Rounding_k⟩
    v_Ratio_sub := ⟨v_Ratio_sub_s, v_Ratio_sub_r, v_Ratio_sub_f, v_Ratio_sub_c, v_Ratio_sub_u⟩
    F_Ratio___str__ := ⟨_, fun_mk (st := s_Ratio___str__) F_Ratio___str___l F_Ratio___str___c F_Ratio___str___k⟩
    n_str := PySem.W.mg_none_of X G n_str_a
    F_Rounding___str__ := ⟨_, fun_mk (st := s_Rounding___str__) F_Rounding___str___l F_Rounding___str___c F_Rounding___str___k⟩
    t_Ratio := ⟨t_Ratio_s, t_Ratio_f, t_Ratio_g, t_Ratio_m⟩
    F_Rounding_all_down := ⟨_, fun_mk (st := s_Rounding_all_down) F_Rounding_all_down_l F_Rounding_all_down_c F_Rounding_all_down_k⟩
    F_Rounding_all_up := ⟨_, fun_mk (st := s_Rounding_all_up) F_Rounding_all_up_l F_Rounding_all_up_c F_Rounding_all_up_k⟩
    F_Rounding_half_up := ⟨_, fun_mk (st := s_Rounding_half_up) F_Rounding_half_up_l F_Rounding_half_up_c F_Rounding_half_up_k⟩
    F__law_frac := ⟨_, fun_mk (st := s__law_frac) F__law_frac_l F__law_frac_c F__law_frac_k⟩
    F__law_kind := ⟨_, fun_mk (st := s__law_kind) F__law_kind_l F__law_kind_c F__law_kind_k⟩
    k__law_pick := k__law_pick_a
    m__law_pick := PySem.W.mg_of X G m__law_pick_a
    F__law_number := ⟨_, fun_mk (st := s__law_number) F__law_number_l F__law_number_c F__law_number_k⟩
    k__law_frac := k__law_frac_a
    m__law_frac := PySem.W.mg_of X G m__law_frac_a
    F__law_rounding := ⟨_, fun_mk (st := s__law_rounding) F__law_rounding_l F__law_rounding_c F__law_rounding_k⟩
    D__law_plus := ⟨_, ⟨_, _, _, _, _, _, _, _, _, _, rfl, D__law_plus_l, D__law_plus_c, Or.inr ⟨by simp, _, _, _, _, rfl, D__law_plus_t, rfl, (Paired.cons ⟨_, rfl⟩ Paired.nil)⟩, Or.inl rfl⟩, D__law_plus_k⟩
    F__law_ratio := ⟨_, fun_mk (st := s__law_ratio) F__law_ratio_l F__law_ratio_c F__law_ratio_k⟩
    F__law_round := ⟨_, fun_mk (st := s__law_round) F__law_round_l F__law_round_c F__law_round_k⟩
    F__law_beside := ⟨_, fun_mk (st := s__law_beside) F__law_beside_l F__law_beside_c F__law_beside_k⟩
    k__law_round := k__law_round_a
    m__law_round := PySem.W.mg_of X G m__law_round_a
    k__law_plus := k__law_plus_a
    m__law_plus := PySem.W.mg_of X G m__law_plus_a
    F__law_near := ⟨_, fun_mk (st := s__law_near) F__law_near_l F__law_near_c F__law_near_k⟩
    k__law_number := k__law_number_a
    m__law_number := PySem.W.mg_of X G m__law_number_a
    F__law_right := ⟨_, fun_mk (st := s__law_right) F__law_right_l F__law_right_c F__law_right_k⟩
    k__law_near := k__law_near_a
    m__law_near := PySem.W.mg_of X G m__law_near_a
    k__law_rounding := k__law_rounding_a
    m__law_rounding := PySem.W.mg_of X G m__law_rounding_a
    k__law_ratio := k__law_ratio_a
    m__law_ratio := PySem.W.mg_of X G m__law_ratio_a
    k__law_beside := k__law_beside_a
    m__law_beside := PySem.W.mg_of X G m__law_beside_a
    o_Rounding := ⟨o_Rounding_s, o_Rounding_f, o_Rounding_i⟩
    h_Rounding_before := ⟨h_Rounding_before_a, h_Rounding_before_f, h_Rounding_before_k⟩
    h_Rounding_behind := ⟨h_Rounding_behind_a, h_Rounding_behind_f, h_Rounding_behind_k⟩
    n_repr := PySem.W.mg_none_of X G n_repr_a
    h_Rounding_is_step := ⟨h_Rounding_is_step_a, h_Rounding_is_step_f, h_Rounding_is_step_k⟩
    F_Rounding_half_down := ⟨_, fun_mk (st := s_Rounding_half_down) F_Rounding_half_down_l F_Rounding_half_down_c F_Rounding_half_down_k⟩
    F_law := ⟨_, fun_mk (st := s_law) F_law_l F_law_c F_law_k⟩
    k__law_pen := k__law_pen_a
    m__law_pen := PySem.W.mg_of X G m__law_pen_a
    n_range := PySem.W.mg_none_of X G n_range_a
    k__law_kind := k__law_kind_a
    m__law_kind := PySem.W.mg_of X G m__law_kind_a
    q_Rounding_eq := ⟨q_Rounding_eq_s, q_Rounding_eq_f, q_Rounding_eq_n⟩
    k__law_right := k__law_right_a
    m__law_right := PySem.W.mg_of X G m__law_right_a
    s_Rounding_all_down := ⟨⟨_, _, _, ⟨s_Rounding_all_down_r, s_Rounding_all_down_g⟩, s_Rounding_all_down_a, s_Rounding_all_down_q⟩, s_Rounding_all_down_k⟩
    s_Rounding_all_up := ⟨⟨_, _, _, ⟨s_Rounding_all_up_r, s_Rounding_all_up_g⟩, s_Rounding_all_up_a, s_Rounding_all_up_q⟩, s_Rounding_all_up_k⟩
    s_Rounding_half_up := ⟨⟨_, _, _, ⟨s_Rounding_half_up_r, s_Rounding_half_up_g⟩, s_Rounding_half_up_a, s_Rounding_half_up_q⟩, s_Rounding_half_up_k⟩
    s_Rounding_half_down := ⟨⟨_, _, _, ⟨s_Rounding_half_down_r, s_Rounding_half_down_g⟩, s_Rounding_half_down_a, s_Rounding_half_down_q⟩, s_Rounding_half_down_k⟩
    z_Ratio := ⟨z_Ratio_e, z_Ratio_s, z_Ratio_f, z_Ratio_m, z_Ratio_n⟩
    z_Rounding := ⟨z_Rounding_e, z_Rounding_s, z_Rounding_f, z_Rounding_m, z_Rounding_n⟩
    w_Rounding_tuple := w_Rounding_tuple_n
    i_tuple_is_Rounding := kit_tr i_tuple_is_Rounding_c i_tuple_is_Rounding_t i_tuple_is_Rounding_a
    t_Rounding := ⟨t_Rounding_s, t_Rounding_f, t_Rounding_g, t_Rounding_m⟩
    w_Rounding_str := w_Rounding_str_n
    i_str_is_Rounding := kit_tr i_str_is_Rounding_c i_str_is_Rounding_t i_str_is_Rounding_a
    m_law := PySem.W.mg_of X G m_law_a
theorem walk {l : PySem.W.OpenLaw} {q : Program} {loose : List Str} {XP : (Str → Option Value) → Heap → Prop} {YP : World → Heap → Prop} {r : DefRec} {K : Params → PySem.W.Frag} (hn : l.most = some 63) (hdf : r.params.defaults = [])
    (hY : ∀ (w : World) (h : Heap), YP w h → (K w.params).In h)
    (F : ∀ (w : World) (mg : Str → Option Value) (fa : Addr) (h : Heap), (K w.params).In h → h.Ns mainGlobals mg → mg r.name = some (.ref fa) →
      ∀ base : Heap, (K w.params).In base → base.Ns mainGlobals mg → FnG l.prog w (K w.params) mg base CX0 levelLaw fa (spLaw (K w.params))) :
    PySem.W.WalkO q loose XP YP l.row.toRowW r [] (fun f vs => PySem.call f vs) :=
  walkG (n := 63) (k := levelLaw) (sp := spLaw) hn (by decide) hdf ⟨rfl, by decide, by decide⟩ hY F fun _ _ a ns hl _ hS => ⟨a, ns, rfl, hS, hl, fun _ => rfl⟩
end AZ
open PySem PySem.W PyProof.Rows
set_option maxRecDepth 100000 in
set_option maxHeartbeats 0 in
theorem PySem.Challenge.cw_allzooms_k07_roundings_made_and_called_holds : PySem.Challenge.rw_allzooms_k07_roundings_made_and_called.Holds := by
  w_on; o_law; k_head; (case hw => w_witness2)
  k_fill
  refine AZ.walk (l := PySem.Challenge.rw_allzooms_k07_roundings_made_and_called) rfl rfl (fun w h Y => PySem.W.kIn_of Y) ?F
  case F =>
    intro w mg fa h KX G hmg
    refine' AZ.law_end (P := (PySem.Challenge.rw_allzooms_k07_roundings_made_and_called).prog) (h := h) hmg (AZ.tx_mk KX G ?L__law_pen ?L__law_draw ?L__law_pick ?L_Ratio ?L_is_integer ?L_is_number ?L_fraction_of ?L_Rounding ?L__law_frac ?L__law_kind ?L__law_number ?L__law_rounding ?L__law_plus ?L__law_ratio ?L__law_round ?L__law_beside ?L__law_near ?L__law_right ?L_law ?L_Ratio___init__ ?L_Ratio___add__ ?L_Ratio___sub__ ?L_Ratio___mul__ ?L_Ratio___lt__ ?L_Ratio___le__ ?L_Ratio___gt__ ?L_Ratio___ge__ ?L_Ratio___eq__ ?L_Ratio_floor ?L_Ratio_ceiling ?L_Rounding_drawn_at ?L_Ratio___rsub__ ?L_Rounding___call__ ?L_Rounding_before ?L_Rounding_behind ?L_Rounding_is_step ?L_Rounding___init__ ?L_Ratio___neg__ ?L_Rounding___eq__ ?L_Rounding___invert__ ?L_Ratio___str__ ?L_Rounding___str__ ?s_Ratio_of_r ?s_Rounding_all_down_r ?s_Rounding_all_up_r ?s_Rounding_half_up_r ?s_Rounding_half_down_r ?s_Ratio_of_a ?s_Rounding_all_down_a ?s_Rounding_all_up_a ?s_Rounding_half_up_a ?s_Rounding_half_down_a ?s_Ratio_of_q ?s_Rounding_all_down_q ?s_Rounding_all_up_q ?s_Rounding_half_up_q ?s_Rounding_half_down_q ?F__law_pen_l ?F__law_draw_l ?F__law_pick_l ?F_is_integer_l ?D_Ratio___init___l ?F_Ratio_of_l ?F_Ratio___add___l ?F_Ratio___sub___l ?F_Ratio___mul___l ?F_Ratio___lt___l ?F_Ratio___le___l ?F_Ratio___gt___l ?F_Ratio___ge___l ?F_Ratio___eq___l ?F_Ratio_floor_l ?F_Ratio_ceiling_l ?F_is_number_l ?F_fraction_of_l ?F_Rounding_drawn_at_l ?F_Rounding___call___l ?F_Rounding_before_l ?F_Rounding_behind_l ?F_Rounding_is_step_l ?D_Rounding___init___l ?F_Ratio___neg___l ?F_Ratio___rsub___l ?F_Rounding___eq___l ?F_Rounding___invert___l ?F_Ratio___str___l ?F_Rounding___str___l ?F_Rounding_all_down_l ?F_Rounding_all_up_l ?F_Rounding_half_up_l ?F__law_frac_l ?F__law_kind_l ?F__law_number_l ?F__law_rounding_l ?D__law_plus_l ?F__law_ratio_l ?F__law_round_l ?F__law_beside_l ?F__law_near_l ?F__law_right_l ?F_Rounding_half_down_l ?F_law_l ?F__law_pen_c ?F__law_pen_k ?n_list_a ?F__law_draw_c ?F__law_draw_k ?n_int_a ?n_len_a ?n_abs_a ?F__law_pick_c ?F__law_pick_k ?k__law_draw_a ?m__law_draw_a ?y_Ratio_a ?y_Ratio_n ?y_Ratio_t ?y_Ratio_m ?c_Ratio_p ?c_Ratio_h ?c_Ratio_o ?c_Ratio_s ?i_Ratio_is_int_a ?i_Ratio_is_bool_a ?F_is_integer_c ?F_is_integer_k ?n_isinstance_a ?n_bool_a ?D_Ratio___init___c ?D_Ratio___init___k ?D_Ratio___init___t ?k_is_integer_a ?m_is_integer_a ?m_gcd_a ?a_Ratio_over_a ?a_Ratio_under_a ?F_Ratio_of_c ?F_Ratio_of_k ?m_Ratio_a ?mk_Ratio_m ?mk_Ratio_i ?mk_Ratio_f ?mk_Ratio_k ?i_int_is_Ratio_c ?i_int_is_Ratio_t ?i_int_is_Ratio_a ?F_Ratio___add___c ?F_Ratio___add___k ?s_Ratio_of_g ?s_Ratio_of_k ?F_Ratio___sub___c ?F_Ratio___sub___k ?F_Ratio___mul___c ?F_Ratio___mul___k ?F_Ratio___lt___c ?F_Ratio___lt___k ?F_Ratio___le___c ?F_Ratio___le___k ?F_Ratio___gt___c ?F_Ratio___gt___k ?F_Ratio___ge___c ?F_Ratio___ge___k ?F_Ratio___eq___c ?F_Ratio___eq___k ?F_Ratio_floor_c ?F_Ratio_floor_k ?F_Ratio_ceiling_c ?F_Ratio_ceiling_k ?F_is_number_c ?F_is_number_k ?F_fraction_of_c ?F_fraction_of_k ?k_is_number_a ?m_is_number_a ?F_Rounding_drawn_at_c ?F_Rounding_drawn_at_k ?h_Ratio_floor_a ?h_Ratio_floor_f ?h_Ratio_floor_k ?h_Ratio_ceiling_a ?h_Ratio_ceiling_f ?h_Ratio_ceiling_k ?c_Rounding_p ?c_Rounding_h ?c_Rounding_o ?c_Rounding_s ?a_Rounding_threshold_a ?b_Ratio_sub_s ?b_Ratio_sub_f ?b_Ratio_sub_c ?b_Ratio_sub_r ?b_Ratio_sub_t ?b_Ratio_sub_u ?b_Ratio_sub_w ?a_Rounding_is_from_a ?F_Rounding___call___c ?F_Rounding___call___k ?h_Rounding_drawn_at_a ?h_Rounding_drawn_at_f ?h_Rounding_drawn_at_k ?k_fraction_of_a ?m_fraction_of_a ?F_Rounding_before_c ?F_Rounding_before_k ?F_Rounding_behind_c ?F_Rounding_behind_k ?F_Rounding_is_step_c ?F_Rounding_is_step_k ?D_Rounding___init___c ?D_Rounding___init___k ?D_Rounding___init___t ?q_Ratio_lt_s ?q_Ratio_lt_f ?q_Ratio_lt_n ?q_Ratio_gt_s ?q_Ratio_gt_f ?q_Ratio_gt_n ?q_Ratio_eq_s ?q_Ratio_eq_f ?q_Ratio_eq_n ?F_Ratio___neg___c ?F_Ratio___neg___k ?F_Ratio___rsub___c ?F_Ratio___rsub___k ?F_Rounding___eq___c ?F_Rounding___eq___k ?m_Rounding_a ?y_Rounding_a ?y_Rounding_n ?y_Rounding_t ?y_Rounding_m ?F_Rounding___invert___c ?F_Rounding___invert___k ?mk_Rounding_m ?mk_Rounding_i ?mk_Rounding_f ?mk_Rounding_k ?v_Ratio_sub_s ?v_Ratio_sub_r ?v_Ratio_sub_f ?v_Ratio_sub_c ?v_Ratio_sub_u ?F_Ratio___str___c ?F_Ratio___str___k ?n_str_a ?F_Rounding___str___c ?F_Rounding___str___k ?t_Ratio_s ?t_Ratio_f ?t_Ratio_g ?t_Ratio_m ?F_Rounding_all_down_c ?F_Rounding_all_down_k ?F_Rounding_all_up_c ?F_Rounding_all_up_k ?F_Rounding_half_up_c ?F_Rounding_half_up_k ?F__law_frac_c ?F__law_frac_k ?F__law_kind_c ?F__law_kind_k ?k__law_pick_a ?m__law_pick_a ?F__law_number_c ?F__law_number_k ?k__law_frac_a ?m__law_frac_a ?F__law_rounding_c ?F__law_rounding_k ?D__law_plus_c ?D__law_plus_k ?D__law_plus_t ?F__law_ratio_c ?F__law_ratio_k ?F__law_round_c ?F__law_round_k ?F__law_beside_c ?F__law_beside_k ?k__law_round_a ?m__law_round_a ?k__law_plus_a ?m__law_plus_a ?F__law_near_c ?F__law_near_k ?k__law_number_a ?m__law_number_a ?F__law_right_c ?F__law_right_k ?k__law_near_a ?m__law_near_a ?k__law_rounding_a ?m__law_rounding_a ?k__law_ratio_a ?m__law_ratio_a ?k__law_beside_a ?m__law_beside_a ?o_Rounding_s ?o_Rounding_f ?o_Rounding_i ?h_Rounding_before_a ?h_Rounding_before_f ?h_Rounding_before_k ?h_Rounding_behind_a ?h_Rounding_behind_f ?h_Rounding_behind_k ?n_repr_a ?h_Rounding_is_step_a ?h_Rounding_is_step_f ?h_Rounding_is_step_k ?F_Rounding_half_down_c ?F_Rounding_half_down_k ?F_law_c ?F_law_k ?k__law_pen_a ?m__law_pen_a ?n_range_a ?k__law_kind_a ?m__law_kind_a ?q_Rounding_eq_s ?q_Rounding_eq_f ?q_Rounding_eq_n ?k__law_right_a ?m__law_right_a ?s_Rounding_all_down_g ?s_Rounding_all_down_k ?s_Rounding_all_up_g ?s_Rounding_all_up_k ?s_Rounding_half_up_g ?s_Rounding_half_up_k ?s_Rounding_half_down_g ?s_Rounding_half_down_k ?z_Ratio_e ?z_Ratio_s ?z_Ratio_f ?z_Ratio_m ?z_Ratio_n ?z_Rounding_e ?z_Rounding_s ?z_Rounding_f ?z_Rounding_m ?z_Rounding_n ?w_Rounding_tuple_n ?i_tuple_is_Rounding_c ?i_tuple_is_Rounding_t ?i_tuple_is_Rounding_a ?t_Rounding_s ?t_Rounding_f ?t_Rounding_g ?t_Rounding_m ?w_Rounding_str_n ?i_str_is_Rounding_c ?i_str_is_Rounding_t ?i_str_is_Rounding_a ?m_law_a)
    (case L__law_pen => k_is)
    (case L__law_draw => k_is)
    (case L__law_pick => k_is)
    (case L_Ratio => k_is)
    (case L_is_integer => k_is)
    (case L_is_number => k_is)
    (case L_fraction_of => k_is)
    (case L_Rounding => k_is)
    (case L__law_frac => k_is)
    (case L__law_kind => k_is)
    (case L__law_number => k_is)
    (case L__law_rounding => k_is)
    (case L__law_plus => k_is)
    (case L__law_ratio => k_is)
    (case L__law_round => k_is)
    (case L__law_beside => k_is)
    (case L__law_near => k_is)
    (case L__law_right => k_is)
    (case L_law => k_is)
    (case L_Ratio___init__ => k_is)
    (case L_Ratio___add__ => k_is)
    (case L_Ratio___sub__ => k_is)
    (case L_Ratio___mul__ => k_is)
    (case L_Ratio___lt__ => k_is)
    (case L_Ratio___le__ => k_is)
    (case L_Ratio___gt__ => k_is)
    (case L_Ratio___ge__ => k_is)
    (case L_Ratio___eq__ => k_is)
    (case L_Ratio_floor => k_is)
    (case L_Ratio_ceiling => k_is)
    (case L_Rounding_drawn_at => k_is)
    (case L_Ratio___rsub__ => k_is)
    (case L_Rounding___call__ => k_is)
    (case L_Rounding_before => k_is)
    (case L_Rounding_behind => k_is)
    (case L_Rounding_is_step => k_is)
    (case L_Rounding___init__ => k_is)
    (case L_Ratio___neg__ => k_is)
    (case L_Rounding___eq__ => k_is)
    (case L_Rounding___invert__ => k_is)
    (case L_Ratio___str__ => k_is)
    (case L_Rounding___str__ => k_is)
    (case s_Ratio_of_r => k_is)
    (case s_Rounding_all_down_r => k_is)
    (case s_Rounding_all_up_r => k_is)
    (case s_Rounding_half_up_r => k_is)
    (case s_Rounding_half_down_r => k_is)
    (case s_Ratio_of_a => k_is)
    (case s_Rounding_all_down_a => k_is)
    (case s_Rounding_all_up_a => k_is)
    (case s_Rounding_half_up_a => k_is)
    (case s_Rounding_half_down_a => k_is)
    (case s_Ratio_of_q => k_is)
    (case s_Rounding_all_down_q => k_is)
    (case s_Rounding_all_up_q => k_is)
    (case s_Rounding_half_up_q => k_is)
    (case s_Rounding_half_down_q => k_is)
    (case F__law_pen_l => k_is)
    (case F__law_draw_l => k_is)
    (case F__law_pick_l => k_is)
    (case F_is_integer_l => k_is)
    (case D_Ratio___init___l => k_is)
    (case F_Ratio_of_l => k_is)
    (case F_Ratio___add___l => k_is)
    (case F_Ratio___sub___l => k_is)
    (case F_Ratio___mul___l => k_is)
    (case F_Ratio___lt___l => k_is)
    (case F_Ratio___le___l => k_is)
    (case F_Ratio___gt___l => k_is)
    (case F_Ratio___ge___l => k_is)
    (case F_Ratio___eq___l => k_is)
    (case F_Ratio_floor_l => k_is)
    (case F_Ratio_ceiling_l => k_is)
    (case F_is_number_l => k_is)
    (case F_fraction_of_l => k_is)
    (case F_Rounding_drawn_at_l => k_is)
    (case F_Rounding___call___l => k_is)
    (case F_Rounding_before_l => k_is)
    (case F_Rounding_behind_l => k_is)
    (case F_Rounding_is_step_l => k_is)
    (case D_Rounding___init___l => k_is)
    (case F_Ratio___neg___l => k_is)
    (case F_Ratio___rsub___l => k_is)
    (case F_Rounding___eq___l => k_is)
    (case F_Rounding___invert___l => k_is)
    (case F_Ratio___str___l => k_is)
    (case F_Rounding___str___l => k_is)
    (case F_Rounding_all_down_l => k_is)
    (case F_Rounding_all_up_l => k_is)
    (case F_Rounding_half_up_l => k_is)
    (case F__law_frac_l => k_is)
    (case F__law_kind_l => k_is)
    (case F__law_number_l => k_is)
    (case F__law_rounding_l => k_is)
    (case D__law_plus_l => k_is)
    (case F__law_ratio_l => k_is)
    (case F__law_round_l => k_is)
    (case F__law_beside_l => k_is)
    (case F__law_near_l => k_is)
    (case F__law_right_l => k_is)
    (case F_Rounding_half_down_l => k_is)
    (case F_law_l => k_is)
    (case F__law_pen_c => k_is)
    (case F__law_pen_k => k_is)
    (case n_list_a => k_is)
    (case F__law_draw_c => k_is)
    (case F__law_draw_k => k_is)
    (case n_int_a => k_is)
    (case n_len_a => k_is)
    (case n_abs_a => k_is)
    (case F__law_pick_c => k_is)
    (case F__law_pick_k => k_is)
    (case k__law_draw_a => k_is)
    (case m__law_draw_a => k_is)
    (case y_Ratio_a => k_is)
    (case y_Ratio_n => k_is)
    (case y_Ratio_t => k_is)
    (case y_Ratio_m => k_is)
    (case c_Ratio_p => k_is)
    (case c_Ratio_h => k_is)
    (case c_Ratio_o => k_is)
    (case c_Ratio_s => k_is)
    (case i_Ratio_is_int_a => k_is)
    (case i_Ratio_is_bool_a => k_is)
    (case F_is_integer_c => k_is)
    (case F_is_integer_k => k_is)
    (case n_isinstance_a => k_is)
    (case n_bool_a => k_is)
    (case D_Ratio___init___c => k_is)
    (case D_Ratio___init___k => k_is)
    (case D_Ratio___init___t => k_is)
    (case k_is_integer_a => k_is)
    (case m_is_integer_a => k_is)
    (case m_gcd_a => k_is)
    (case a_Ratio_over_a => k_is)
    (case a_Ratio_under_a => k_is)
    (case F_Ratio_of_c => k_is)
    (case F_Ratio_of_k => k_is)
    (case m_Ratio_a => k_is)
    (case mk_Ratio_m => k_is)
    (case mk_Ratio_i => k_is)
    (case mk_Ratio_f => k_is)
    (case mk_Ratio_k => k_is)
    (case i_int_is_Ratio_c => k_is)
    (case i_int_is_Ratio_t => k_is)
    (case i_int_is_Ratio_a => k_is)
    (case F_Ratio___add___c => k_is)
    (case F_Ratio___add___k => k_is)
    (case s_Ratio_of_g => k_is)
    (case s_Ratio_of_k => k_is)
    (case F_Ratio___sub___c => k_is)
    (case F_Ratio___sub___k => k_is)
    (case F_Ratio___mul___c => k_is)
    (case F_Ratio___mul___k => k_is)
    (case F_Ratio___lt___c => k_is)
    (case F_Ratio___lt___k => k_is)
    (case F_Ratio___le___c => k_is)
    (case F_Ratio___le___k => k_is)
    (case F_Ratio___gt___c => k_is)
    (case F_Ratio___gt___k => k_is)
    (case F_Ratio___ge___c => k_is)
    (case F_Ratio___ge___k => k_is)
    (case F_Ratio___eq___c => k_is)
    (case F_Ratio___eq___k => k_is)
    (case F_Ratio_floor_c => k_is)
    (case F_Ratio_floor_k => k_is)
    (case F_Ratio_ceiling_c => k_is)
    (case F_Ratio_ceiling_k => k_is)
    (case F_is_number_c => k_is)
    (case F_is_number_k => k_is)
    (case F_fraction_of_c => k_is)
    (case F_fraction_of_k => k_is)
    (case k_is_number_a => k_is)
    (case m_is_number_a => k_is)
    (case F_Rounding_drawn_at_c => k_is)
    (case F_Rounding_drawn_at_k => k_is)
    (case h_Ratio_floor_a => k_is)
    (case h_Ratio_floor_f => k_is)
    (case h_Ratio_floor_k => k_is)
    (case h_Ratio_ceiling_a => k_is)
    (case h_Ratio_ceiling_f => k_is)
    (case h_Ratio_ceiling_k => k_is)
    (case c_Rounding_p => k_is)
    (case c_Rounding_h => k_is)
    (case c_Rounding_o => k_is)
    (case c_Rounding_s => k_is)
    (case a_Rounding_threshold_a => k_is)
    (case b_Ratio_sub_s => k_is)
    (case b_Ratio_sub_f => k_is)
    (case b_Ratio_sub_c => k_is)
    (case b_Ratio_sub_r => k_is)
    (case b_Ratio_sub_t => k_is)
    (case b_Ratio_sub_u => k_is)
    (case b_Ratio_sub_w => k_is)
    (case a_Rounding_is_from_a => k_is)
    (case F_Rounding___call___c => k_is)
    (case F_Rounding___call___k => k_is)
    (case h_Rounding_drawn_at_a => k_is)
    (case h_Rounding_drawn_at_f => k_is)
    (case h_Rounding_drawn_at_k => k_is)
    (case k_fraction_of_a => k_is)
    (case m_fraction_of_a => k_is)
    (case F_Rounding_before_c => k_is)
    (case F_Rounding_before_k => k_is)
    (case F_Rounding_behind_c => k_is)
    (case F_Rounding_behind_k => k_is)
    (case F_Rounding_is_step_c => k_is)
    (case F_Rounding_is_step_k => k_is)
    (case D_Rounding___init___c => k_is)
    (case D_Rounding___init___k => k_is)
    (case D_Rounding___init___t => k_is)
    (case q_Ratio_lt_s => k_is)
    (case q_Ratio_lt_f => k_is)
    (case q_Ratio_lt_n => k_is)
    (case q_Ratio_gt_s => k_is)
    (case q_Ratio_gt_f => k_is)
    (case q_Ratio_gt_n => k_is)
    (case q_Ratio_eq_s => k_is)
    (case q_Ratio_eq_f => k_is)
    (case q_Ratio_eq_n => k_is)
    (case F_Ratio___neg___c => k_is)
    (case F_Ratio___neg___k => k_is)
    (case F_Ratio___rsub___c => k_is)
    (case F_Ratio___rsub___k => k_is)
    (case F_Rounding___eq___c => k_is)
    (case F_Rounding___eq___k => k_is)
    (case m_Rounding_a => k_is)
    (case y_Rounding_a => k_is)
    (case y_Rounding_n => k_is)
    (case y_Rounding_t => k_is)
    (case y_Rounding_m => k_is)
    (case F_Rounding___invert___c => k_is)
    (case F_Rounding___invert___k => k_is)
    (case mk_Rounding_m => k_is)
    (case mk_Rounding_i => k_is)
    (case mk_Rounding_f => k_is)
    (case mk_Rounding_k => k_is)
    (case v_Ratio_sub_s => k_is)
    (case v_Ratio_sub_r => k_is)
    (case v_Ratio_sub_f => k_is)
    (case v_Ratio_sub_c => k_is)
    (case v_Ratio_sub_u => k_is)
    (case F_Ratio___str___c => k_is)
    (case F_Ratio___str___k => k_is)
    (case n_str_a => k_is)
    (case F_Rounding___str___c => k_is)
    (case F_Rounding___str___k => k_is)
    (case t_Ratio_s => k_is)
    (case t_Ratio_f => k_is)
    (case t_Ratio_g => k_is)
    (case t_Ratio_m => k_is)
    (case F_Rounding_all_down_c => k_is)
    (case F_Rounding_all_down_k => k_is)
    (case F_Rounding_all_up_c => k_is)
    (case F_Rounding_all_up_k => k_is)
    (case F_Rounding_half_up_c => k_is)
    (case F_Rounding_half_up_k => k_is)
    (case F__law_frac_c => k_is)
    (case F__law_frac_k => k_is)
    (case F__law_kind_c => k_is)
    (case F__law_kind_k => k_is)
    (case k__law_pick_a => k_is)
    (case m__law_pick_a => k_is)
    (case F__law_number_c => k_is)
    (case F__law_number_k => k_is)
    (case k__law_frac_a => k_is)
    (case m__law_frac_a => k_is)
    (case F__law_rounding_c => k_is)
    (case F__law_rounding_k => k_is)
    (case D__law_plus_c => k_is)
    (case D__law_plus_k => k_is)
    (case D__law_plus_t => k_is)
    (case F__law_ratio_c => k_is)
    (case F__law_ratio_k => k_is)
    (case F__law_round_c => k_is)
    (case F__law_round_k => k_is)
    (case F__law_beside_c => k_is)
    (case F__law_beside_k => k_is)
    (case k__law_round_a => k_is)
    (case m__law_round_a => k_is)
    (case k__law_plus_a => k_is)
    (case m__law_plus_a => k_is)
    (case F__law_near_c => k_is)
    (case F__law_near_k => k_is)
    (case k__law_number_a => k_is)
    (case m__law_number_a => k_is)
    (case F__law_right_c => k_is)
    (case F__law_right_k => k_is)
    (case k__law_near_a => k_is)
    (case m__law_near_a => k_is)
    (case k__law_rounding_a => k_is)
    (case m__law_rounding_a => k_is)
    (case k__law_ratio_a => k_is)
    (case m__law_ratio_a => k_is)
    (case k__law_beside_a => k_is)
    (case m__law_beside_a => k_is)
    (case o_Rounding_s => k_is)
    (case o_Rounding_f => k_is)
    (case o_Rounding_i => k_is)
    (case h_Rounding_before_a => k_is)
    (case h_Rounding_before_f => k_is)
    (case h_Rounding_before_k => k_is)
    (case h_Rounding_behind_a => k_is)
    (case h_Rounding_behind_f => k_is)
    (case h_Rounding_behind_k => k_is)
    (case n_repr_a => k_is)
    (case h_Rounding_is_step_a => k_is)
    (case h_Rounding_is_step_f => k_is)
    (case h_Rounding_is_step_k => k_is)
    (case F_Rounding_half_down_c => k_is)
    (case F_Rounding_half_down_k => k_is)
    (case F_law_c => k_is)
    (case F_law_k => k_is)
    (case k__law_pen_a => k_is)
    (case m__law_pen_a => k_is)
    (case n_range_a => k_is)
    (case k__law_kind_a => k_is)
    (case m__law_kind_a => k_is)
    (case q_Rounding_eq_s => k_is)
    (case q_Rounding_eq_f => k_is)
    (case q_Rounding_eq_n => k_is)
    (case k__law_right_a => k_is)
    (case m__law_right_a => k_is)
    (case s_Rounding_all_down_g => k_is)
    (case s_Rounding_all_down_k => k_is)
    (case s_Rounding_all_up_g => k_is)
    (case s_Rounding_all_up_k => k_is)
    (case s_Rounding_half_up_g => k_is)
    (case s_Rounding_half_up_k => k_is)
    (case s_Rounding_half_down_g => k_is)
    (case s_Rounding_half_down_k => k_is)
    (case z_Ratio_e => k_is)
    (case z_Ratio_s => k_is)
    (case z_Ratio_f => k_is)
    (case z_Ratio_m => k_is)
    (case z_Ratio_n => k_is)
    (case z_Rounding_e => k_is)
    (case z_Rounding_s => k_is)
    (case z_Rounding_f => k_is)
    (case z_Rounding_m => k_is)
    (case z_Rounding_n => k_is)
    (case w_Rounding_tuple_n => k_is)
    (case i_tuple_is_Rounding_c => k_is)
    (case i_tuple_is_Rounding_t => k_is)
    (case i_tuple_is_Rounding_a => k_is)
    (case t_Rounding_s => k_is)
    (case t_Rounding_f => k_is)
    (case t_Rounding_g => k_is)
    (case t_Rounding_m => k_is)
    (case w_Rounding_str_n => k_is)
    (case i_str_is_Rounding_c => k_is)
    (case i_str_is_Rounding_t => k_is)
    (case i_str_is_Rounding_a => k_is)
    (case m_law_a => k_is)
