import PyProof.Rows.All
import Wide.All
import OpenK.AllK
import Wide.FinOn
import HandS.ForExc
import HandS.Comp
import HandS.More
import HandS.Star
import HandS.Gcd
import HandS.Defaults
import HandS.IsInst
import HandS.Wide
import HandS.ClsMeth
import HandS.Flow
import HandS.Style
import HandS.SortInts
import HandS.OwnEq
import HandS.FStr
import PyProof.Rows.ReprR
import HandS.MakeKw
import HandS.ExcInit
import HandS.ExcIs
import HandS.ExcField
import HandS.Dict
import PyProof.ReprRoads
import KE.KExcIs
import HandS.Lambda
import HandS.WordsExc
import HandS.HeadWalk
import KE.KCallOwn
import PySem.Challenge.RW_allzooms_k06_whole_greatest_least_and_co
set_option Elab.async false
set_option maxRecDepth 100000
set_option maxHeartbeats 4000000
set_option linter.all false
namespace AZ
open PySem L2
/-! ## fractions -/
theorem num_di (a b : Int) (hb : b ≠ 0) : (Rat.divInt a b).num = a.fdiv (if b < 0 then -(Int.gcd a b : Int) else (Int.gcd a b : Int)) := by
  rw [Rat.num_divInt, Int.gcd_comm]
  obtain ⟨x, hx⟩ : (Int.gcd a b : Int) ∣ a := Int.gcd_dvd_left ..
  have hg : (Int.gcd a b : Int) ≠ 0 := by
    intro h
    have h2 : Int.gcd a b = 0 := by omega
    exact hb (Int.gcd_eq_zero_iff.mp h2).2
  generalize (Int.gcd a b : Int) = g at hx hg
  subst hx
  by_cases h : b < 0
  · rw [if_pos h, Int.sign_eq_neg_one_of_neg h, show -1 * (g * x) = g * -x by grind, Int.mul_ediv_cancel_left _ hg, show g * x = -g * -x by grind, Int.mul_fdiv_cancel_left _ (by omega)]
  · have hp : 0 < b := by omega
    rw [if_neg h, Int.sign_eq_one_of_pos hp, Int.one_mul, Int.mul_ediv_cancel_left _ hg, Int.mul_fdiv_cancel_left _ hg]
theorem den_di (a b : Int) (hb : b ≠ 0) : ((Rat.divInt a b).den : Int) = b.fdiv (if b < 0 then -(Int.gcd a b : Int) else (Int.gcd a b : Int)) := by
  rw [Rat.den_divInt, if_neg hb, Int.gcd_comm, Int.natCast_ediv]
  obtain ⟨x, hx⟩ : (Int.gcd a b : Int) ∣ b := Int.gcd_dvd_right ..
  have hg : (Int.gcd a b : Int) ≠ 0 := by
    intro h
    have h2 : Int.gcd a b = 0 := by omega
    exact hb (Int.gcd_eq_zero_iff.mp h2).2
  generalize hgd : (Int.gcd a b : Int) = g at hx hg
  by_cases h : b < 0
  · rw [if_pos h, show (b.natAbs : Int) = -b by omega, hx, show -(g * x) = g * -x by grind, Int.mul_ediv_cancel_left _ hg, show g * x = -g * -x by grind, Int.mul_fdiv_cancel_left _ (by omega)]
  · rw [if_neg h, show (b.natAbs : Int) = b by omega, hx, Int.mul_ediv_cancel_left _ hg, Int.mul_fdiv_cancel_left _ hg]
theorem dpos (q : Rat) : (0:Int) < q.den := Int.natCast_pos.mpr q.den_pos
theorem dne (q : Rat) : (q.den : Int) ≠ 0 := Int.ne_of_gt (dpos q)
theorem rdq (q : Rat) : Rat.divInt q.num q.den = q := Rat.num_divInt_den q
theorem r_add (x y : Rat) : Rat.divInt (x.num * y.den + y.num * x.den) (x.den * y.den) = x + y := by
  rw [← Rat.divInt_add_divInt _ _ (dne x) (dne y), rdq, rdq]
theorem r_sub (x y : Rat) : Rat.divInt (x.num * y.den - y.num * x.den) (x.den * y.den) = x - y := by
  rw [← Rat.divInt_sub_divInt _ _ (dne x) (dne y), rdq, rdq]
theorem r_mul (x y : Rat) : Rat.divInt (x.num * y.num) (x.den * y.den) = x * y := by
  rw [← Rat.divInt_mul_divInt, rdq, rdq]
theorem r_neg (x : Rat) : Rat.divInt (-x.num) x.den = -x := by
  rw [← Rat.neg_divInt, rdq]
theorem r_div (x y : Rat) : Rat.divInt (x.num * y.den) (x.den * y.num) = x / y := by
  rw [← Rat.divInt_mul_divInt, rdq, Rat.div_def, ← Rat.inv_divInt, rdq]
theorem r_floor (q : Rat) : q.num.fdiv q.den = q.floor := by
  rw [Rat.floor_def, Int.fdiv_eq_ediv_of_nonneg _ (Int.le_of_lt (dpos q))]
theorem r_ceil (q : Rat) : -((-q.num).fdiv q.den) = q.ceil := by
  rw [Rat.ceil_eq_neg_floor_neg, ← r_floor, Rat.neg_num, Rat.neg_den]
theorem r_int (n : Int) : Rat.divInt n 1 = (n : Rat) := by
  rw [Rat.divInt_eq_div]; show (n : Rat) / ((1 : Int) : Rat) = n; rw [Rat.intCast_one]; grind
theorem gcd_pos (a b : Int) (hb : b ≠ 0) : 0 < Int.gcd a b := Nat.pos_of_ne_zero fun h => hb (Int.gcd_eq_zero_iff.mp h).2
theorem gcd_le (a b : Int) (hb : b ≠ 0) : Int.gcd a b ≤ b.natAbs := Nat.le_of_dvd (by omega) (Nat.gcd_dvd_right _ _)
/-- sizes -/
def Sz (n : Nat) (q : Rat) : Prop := q.num.natAbs < 2 ^ n ∧ q.den < 2 ^ n
theorem sz_di {a b : Int} {n : Nat} (hb : b ≠ 0) (h1 : a.natAbs < 2 ^ n) (h2 : b.natAbs < 2 ^ n) : Sz n (Rat.divInt a b) := by
  constructor
  · rw [Rat.num_divInt]
    refine Nat.lt_of_le_of_lt (Int.natAbs_ediv_le_natAbs _ _) ?_
    rw [Int.natAbs_mul, Int.natAbs_sign_of_ne_zero hb, Nat.one_mul]
    exact h1
  · rw [Rat.den_divInt, if_neg hb]
    exact Nat.lt_of_le_of_lt (Nat.div_le_self _ _) h2
theorem Sz.mono {n m : Nat} {q : Rat} (h : Sz n q) (e : n ≤ m) : Sz m q :=
  ⟨Nat.lt_of_lt_of_le h.1 (Nat.pow_le_pow_right (by decide) e), Nat.lt_of_lt_of_le h.2 (Nat.pow_le_pow_right (by decide) e)⟩
theorem mul_lt2 {x y a b : Nat} (h1 : x < 2 ^ a) (h2 : y < 2 ^ b) : x * y < 2 ^ (a + b) := by
  rw [Nat.pow_add]; exact Nat.mul_lt_mul'' h1 h2

/-! ## operators of own classes, by promises -/
section
variable {X : Cx}
/-- what binary operators ask of the class at C: the def at f -/
structure BinM (K : PySem.W.Frag) (C : Addr) (op : Operator) (f : Addr) : Prop where
  hs : PySem.W.findIn K (.ref C) (PySem.dunder op.info.2) = some (some (.ref f))
  hf : PySem.W.isFn K (.ref f) = true
  hc : PySem.W.selfFirst K C = true
  hr : ∃ rc, PySem.W.findIn K (.ref C) (dunderR op.info.2) = some rc ∧ (rc = none ∨ ∃ g : Addr, rc = some (.ref g))
  ht : ∃ fo ro, PySem.W.findIn K (.type "int") (PySem.dunder op.info.2) = some fo ∧ PySem.W.findIn K (.type "int") (dunderR op.info.2) = some ro
  hu : PySem.W.subIn K (.type "int") (.ref C) = some false
/-- the right side: an int or another one of C -/
def RightI (C : Addr) (H : Hp) (y : V) : Prop := (∃ j, y = .int j) ∨ ∃ b dy gs, y = .ref b ∧ H b = some (.ins C dy gs)
def rOwn (X : Cx) (op : Operator) : R2 := fun x y H Q => ∃ (a C dx : Addr) (fs : List (Str × V)) (f : Addr) (CX : CXT) (k : Nat) (sp : Sp) (E : XK),
  x = .ref a ∧ H a = some (.ins C dx fs) ∧ RightI C H y ∧ BinM X.K C op f ∧ FnR X.prog X.w X.K X.mg X.base CX k f sp ∧ Room k X.A ∧ Passes CX X E ∧ sp [x, y] H Q E
theorem cmpBack_of {pins : List (Addr × Obj)} {σ : St} {Q : VK} {v : Value} {s : Shared} (h : EP X pins σ Q v s) : PySem.W.CmpBack (EP X pins σ Q) v s := by
  cases v <;> first
  | exact h
  | (obtain ⟨z, _, _, rz, _⟩ := h
     exfalso
     cases z <;> simp [RelV] at rz)
theorem op_ownB (op : Operator) : OpR X (binaryOp op) (rOwn X op) := by
  intro pins s σ H x y v u Q I rx ry h
  obtain ⟨a, C, dx, fs, f, CX, k, sp, E, rfl, ha, hR, hM, F, hr, hx, hs⟩ := h
  obtain rfl : v = Value.ref a := rx
  have hc : wpAny (model X.prog X.w) X.A (call (.ref f) [.ref a, u]) (PySem.W.CmpBack (EP X pins σ Q)) X.xe s :=
    thn (wpAny_call (run_fnR (us := [.ref a, u]) (vs := [.ref a, y]) F hr hx I (.cons rfl (.cons ry .nil)) hs)) fun _ _ z => cmpBack_of z
  obtain ⟨mA, J, _⟩ := ins_get I.hok ha
  obtain ⟨od, J, _⟩ := J.look
  obtain ⟨m, hF⟩ := I.fr
  rcases hR with ⟨j, rfl⟩ | ⟨b, dy, gs, rfl, hb⟩
  · obtain ⟨t, rfl⟩ := ry
    obtain ⟨rc, hrc, hp⟩ := hM.hr
    obtain ⟨fo, ro, h1, h2⟩ := hM.ht
    exact PySem.W.ksp_binT hF I.ok.mod.kin J rfl hM.hc hM.hs hM.hf hrc hp h1 h2 hM.hu hc
  · obtain rfl : u = Value.ref b := ry
    obtain ⟨mB, J2, _⟩ := ins_get I.hok hb
    obtain ⟨od2, J2, _⟩ := J2.look
    exact PySem.W.binop_K hF I.ok.mod.kin J J2.type hM.hc hM.hs hM.hf hc
/-- comparisons -/
structure CmpM (K : PySem.W.Frag) (C : Addr) (op : CmpOp) (f : Addr) : Prop where
  hs : PySem.W.findIn K (.ref C) (cmpInfo op).2.1 = some (some (.ref f))
  hf : PySem.W.isFn K (.ref f) = true
  hn : PySem.W.notFirst K C (.type "int") = true
def rOwnC (X : Cx) (op : CmpOp) : R2 := fun x y H Q => ∃ (a C dx : Addr) (fs : List (Str × V)) (f : Addr) (CX : CXT) (k : Nat) (sp : Sp) (E : XK),
  x = .ref a ∧ H a = some (.ins C dx fs) ∧ RightI C H y ∧ CmpM X.K C op f ∧ FnR X.prog X.w X.K X.mg X.base CX k f sp ∧ Room k X.A ∧ Passes CX X E ∧ sp [x, y] H Q E
theorem op_ownC (op : CmpOp) (hop : ∀ a b, compareOp op a b = richCompare op a b := by intro _ _; rfl) : OpR X (compareOp op) (rOwnC X op) := by
  intro pins s σ H x y v u Q I rx ry h
  obtain ⟨a, C, dx, fs, f, CX, k, sp, E, rfl, ha, hR, hM, F, hr, hx, hs⟩ := h
  obtain rfl : v = Value.ref a := rx
  have hc : wpAny (model X.prog X.w) X.A (call (.ref f) [.ref a, u]) (PySem.W.CmpBack (EP X pins σ Q)) X.xe s :=
    thn (wpAny_call (run_fnR (us := [.ref a, u]) (vs := [.ref a, y]) F hr hx I (.cons rfl (.cons ry .nil)) hs)) fun _ _ z => cmpBack_of z
  obtain ⟨mA, J, _⟩ := ins_get I.hok ha
  obtain ⟨od, J, _⟩ := J.look
  obtain ⟨m, hF⟩ := I.fr
  rw [hop]
  rcases hR with ⟨j, rfl⟩ | ⟨b, dy, gs, rfl, hb⟩
  · obtain ⟨t, rfl⟩ := ry
    exact PySem.W.cmp_K (tb := .type "int") hr.units0 hF I.ok.mod.kin J (PySem.W.Looks.of_pure rfl) hM.hn hM.hs hM.hf hc
  · obtain rfl : u = Value.ref b := ry
    obtain ⟨mB, J2, _⟩ := ins_get I.hok hb
    obtain ⟨od2, J2, _⟩ := J2.look
    exact PySem.W.cmp_K (tb := .ref C) hr.units0 hF I.ok.mod.kin J J2.type (by simp [PySem.W.notFirst]) hM.hs hM.hf hc
/-- one-place operators -/
structure UnM (K : PySem.W.Frag) (C : Addr) (nm : Str) (f : Addr) : Prop where
  hs : PySem.W.findIn K (.ref C) nm = some (some (.ref f))
  hf : PySem.W.isFn K (.ref f) = true
def rOwnU (X : Cx) (nm : Str) : V → Hp → VK → Prop := fun x H Q => ∃ (a C dx : Addr) (fs : List (Str × V)) (f : Addr) (CX : CXT) (k : Nat) (sp : Sp) (E : XK),
  x = .ref a ∧ H a = some (.ins C dx fs) ∧ UnM X.K C nm f ∧ FnR X.prog X.w X.K X.mg X.base CX k f sp ∧ Room k X.A ∧ Passes CX X E ∧ sp [x] H Q E
theorem un_ownNeg : UnR X (unaryOp .USub) (rOwnU X "__neg__") := by
  intro pins s σ H x v Q I rx h
  obtain ⟨a, C, dx, fs, f, CX, k, sp, E, rfl, ha, hM, F, hr, hx, hs⟩ := h
  obtain rfl : v = Value.ref a := rx
  obtain ⟨mA, J, _⟩ := ins_get I.hok ha
  obtain ⟨od, J, _⟩ := J.look
  obtain ⟨m, hF⟩ := I.fr
  exact PySem.W.ksp_neg hF I.ok.mod.kin J hM.hs hM.hf (wpAny_call (run_fnR (us := [.ref a]) (vs := [.ref a]) F hr hx I (.cons rfl .nil) hs))
theorem un_ownInv : UnR X (unaryOp .Invert) (rOwnU X "__invert__") := by
  intro pins s σ H x v Q I rx h
  obtain ⟨a, C, dx, fs, f, CX, k, sp, E, rfl, ha, hM, F, hr, hx, hs⟩ := h
  obtain rfl : v = Value.ref a := rx
  obtain ⟨mA, J, _⟩ := ins_get I.hok ha
  obtain ⟨od, J, _⟩ := J.look
  obtain ⟨m, hF⟩ := I.fr
  exact PySem.W.ksp_inv hF I.ok.mod.kin J hM.hs hM.hf (wpAny_call (run_fnR (us := [.ref a]) (vs := [.ref a]) F hr hx I (.cons rfl .nil) hs))
/-! ## static methods, methods, defs by positional promises -/
structure SMet (K : PySem.W.Frag) (C : Addr) (m : Str) (g : Addr) : Prop where
  ex : ∃ (mc : Value) (p : Addr) (rest : List Value), ClX.CRead K C mc ∧ PySem.W.findCls K (.ref C) mc m = some (.get (.builtin "staticmethod.__get__") (.ref p) .none (.ref C)) ∧ PySem.W.recIn K p "staticmethod" = some (.ref g :: rest)
  kp : PySem.W.keepIn K (.ref g) = true
variable {CX : CXT} {k : Nat} {C g : Addr} {sp : Sp} {E : XK} {o e : Expr} {es : List Expr} {m x : Str} {p pos apos : Pos} {ta : TE} {t : TA}
def tSM (C : Addr) (sp : Sp) (E : XK) (ta : TE) (t : TA) : TE := fun σ H Q => ta σ H fun x H1 => x = .ref C ∧ t σ H1 fun vs H2 => sp vs H2 Q E
theorem pe_smeth {pl : Sem Bool} (he : PE X o ta) (c : SMet X.K C m g) (F : FnR X.prog X.w X.K X.mg X.base CX k g sp) (hr : Room k X.A) (hx : Passes CX X E) (ha : PA X (e :: es) t)
    (hst : starEach (e :: es) X.env = (false, eval e X.env) :: starEach es X.env := by rfl) (hpl : (backTo pos (starEach es X.env)).any (·.1) = false := by rfl)
    (ht : eval (.Call (.Attribute o m apos) (e :: es) [] pos) X.env = (eval o X.env >>= fun ov => standAt apos.atName >>= fun _ => holding [ov] (getMethod ov m pl) >>= fun r =>
      callWith pos r.1 r.2 (backTo pos (starEach (e :: es) X.env)) (backToKw pos (keywordEach [] X.env))) := by rfl) :
    PE X (.Call (.Attribute o m apos) (e :: es) [] pos) (tSM C sp E ta t) := by
  refine ⟨fun pins s σ H Q I h => ?_⟩
  refine PySem.W.methodCall_KW (pl := pl) (thn (he.run pins s σ H _ I h) fun u s1 ⟨x, H1, I1, rx, ex, q⟩ => ?_) ht
  subst ex
  obtain rfl : u = Value.ref C := rx
  obtain ⟨mc, p, rest, r, at_, rc⟩ := c.ex
  refine PySem.W.method_cls I1.kIn r.ga ?_
  refine PySem.W.cls_bind I1.kIn r.rd at_ (wpAny_call (PySem.W.sm_get (s := { s1 with toks := s1.toks + 1 }) I1.kIn rc (PySem.W.handed_on rfl ?_)))
  refine PySem.W.callWith_K (first := []) (h₀ := X.base) I1.ok.mod.kin c.kp (thn (ha.run pos pins _ σ H1 _ (I1.tok _) q) fun us s2 ⟨vs, H2, I2, r2, q2⟩ => ⟨I2.kIn, ?_⟩) hst hpl
  exact wpAny_call (run_fnR F hr hx I2 r2 q2)
/-- x(e, ..), x a def of the module -/
theorem pe_fnR (F : FnR X.prog X.w X.K X.mg X.base CX k g sp) (hr : Room k X.A) (hk : PySem.W.keepIn X.K (.ref g) = true) (hm : X.mg x = some (.ref g)) (hx : Passes CX X E) (ha : PA X (e :: es) t) (hg : Gl X x := by rfl) (hd : (x == ("__debug__" : Str)) = false := by decide)
    (he : starEach (e :: es) X.env = (false, eval e X.env) :: starEach es X.env := by rfl) (hst : (backTo pos (starEach es X.env)).any (·.1) = false := by rfl) :
    PE X (.Call (.Name x p) (e :: es) [] pos) (fun σ H Q => t σ H fun vs H1 => sp vs H1 Q E) := by
  refine ⟨fun pins s σ H Q I h => ?_⟩
  refine wpAny_Call_Name_kw (ld_glob I hg hm ?_ hd)
  refine PySem.W.callWith_K (h₀ := X.base) I.ok.mod.kin hk (thn (ha.run pos pins s σ H _ I h) fun us s1 ⟨vs, H1, I1, r, q⟩ => ⟨I1.kIn, ?_⟩) he hst
  exact wpAny_call (run_fnR F hr hx I1 r q)
/-- o.m(e, ..) -/
def tMR (C : Addr) (m : Str) (sp : Sp) (E : XK) (ta : TE) (t : TA) : TE := fun σ H Q => ta σ H fun x H1 => ∃ a dx fs, x = .ref a ∧ H1 a = some (.ins C dx fs) ∧ fs.lookup m = none ∧ t σ H1 fun vs H2 => sp (x :: vs) H2 Q E
theorem pe_mR {pl : Sem Bool} (he : PE X o ta) (c : Cls X.K C) (hm : Meth X.K C m g) (F : FnR X.prog X.w X.K X.mg X.base CX k g sp) (hr : Room k X.A) (hx : Passes CX X E) (ha : PA X (e :: es) t)
    (hst : starEach (e :: es) X.env = (false, eval e X.env) :: starEach es X.env := by rfl) (hpl : (backTo pos (starEach es X.env)).any (·.1) = false := by rfl)
    (ht : eval (.Call (.Attribute o m apos) (e :: es) [] pos) X.env = (eval o X.env >>= fun ov => standAt apos.atName >>= fun _ => holding [ov] (getMethod ov m pl) >>= fun r =>
      callWith pos r.1 r.2 (backTo pos (starEach (e :: es) X.env)) (backToKw pos (keywordEach [] X.env))) := by rfl) :
    PE X (.Call (.Attribute o m apos) (e :: es) [] pos) (tMR C m sp E ta t) := by
  refine ⟨fun pins s σ H Q I h => ?_⟩
  refine PySem.W.methodCall_KW (pl := pl) (thn (he.run pins s σ H _ I h) fun u s1 ⟨x, H1, I1, rx, a, dx, fs, ex, ea, l, q⟩ => ?_) ht
  subst ex
  obtain rfl : u = Value.ref a := rx
  refine getmeth_ok I1 ea c hm l ?_
  refine PySem.W.callWith_K (first := [.ref a]) (h₀ := X.base) I.ok.mod.kin hm.kp (thn (ha.run pos pins s1 σ H1 _ I1 q) fun us s2 ⟨vs, H2, I2, r, q2⟩ => ⟨I2.kIn, ?_⟩) hst hpl
  exact wpAny_call (run_fnR (us := .ref a :: us) (vs := .ref a :: vs) F hr hx I2 (.cons rfl r) q2)
/-- o.m() -/
theorem pe_mR0 {pl : Sem Bool} (he : PE X o ta) (c : Cls X.K C) (hm : Meth X.K C m g) (F : FnR X.prog X.w X.K X.mg X.base CX k g sp) (hr : Room k X.A) (hx : Passes CX X E)
    (ht : eval (.Call (.Attribute o m apos) [] [] pos) X.env = (eval o X.env >>= fun ov => standAt apos.atName >>= fun _ => holding [ov] (getMethod ov m pl) >>= fun r =>
      callWith pos r.1 r.2 (backTo pos (starEach [] X.env)) (backToKw pos (keywordEach [] X.env))) := by rfl) :
    PE X (.Call (.Attribute o m apos) [] [] pos) (tMR C m sp E ta tNil) := by
  refine ⟨fun pins s σ H Q I h => ?_⟩
  refine PySem.W.methodCall_KW (pl := pl) (thn (he.run pins s σ H _ I h) fun u s1 ⟨x, H1, I1, rx, a, dx, fs, ex, ea, l, q⟩ => ?_) ht
  subst ex
  obtain rfl : u = Value.ref a := rx
  refine getmeth_ok I1 ea c hm l ?_
  exact PySem.W.callWith_K0 (first := [.ref a]) I1.kIn hm.kp (wpAny_call (run_fnR (us := [.ref a]) (vs := [.ref a]) F hr hx I1 (.cons rfl .nil) q))
/-- // by a divisor of any sign below 2 ^ 9000 -/
def CDivZ (_ j : Int) : Prop := j ≠ 0 ∧ j.natAbs.log2 < 9000
theorem op_fdivZ : OpR X (binaryOp .FloorDiv) (rI CDivZ fun i j => .int (i.fdiv j)) := opI fun _ _ _ _ _ _ _ hc q => PyProof.Rows.floordiv_int hc.1 q (.inl (PyProof.noPylong_of_log2 hc.2))
theorem divZ {i j : Int} {b : Nat} (h : j ≠ 0) (hb : j.natAbs < 2 ^ b) (h0 : 0 < b) (h9 : b ≤ 9000) : CDivZ i j := ⟨h, Nat.lt_of_lt_of_le (PySem.Flt.log2_lt_of h0 hb) h9⟩
/-- what isinstance asks of an own class -/
structure TyC (K : PySem.W.Frag) (C : Addr) : Prop where
  ha : PySem.W.findIn K (.ref C) "__class__" = some (some (.builtin "object.__class__"))
  hn : PySem.W.specialIn K (.builtin "object.__class__") "__get__" = some (some (.builtin "getset_descriptor.__get__"))
  htk : PySem.W.takesIn K (.builtin "object.__class__") = some true
  hm : PySem.W.mroIn K C (.type "object") = some true
theorem TyC.ty {K : PySem.W.Frag} {C a dx : Addr} {H : Hp} {fs : List (Str × V)} (y : TyC K C) (c : Cls K C) (e : H a = some (.ins C dx fs)) : TyX K H (.ref a) (.ref C) := .base (.ins e c y.ha y.hn y.htk y.hm)
theorem kit_rt {K : PySem.W.Frag} {C : Addr} {S : String} {b : Bool} (m : PySem.W.kitMeta S = true) (h : PySem.W.subIn K (.ref C) (.type S) = some b) : PySem.W.kitOne K (.ref C) (.type S) = some b := by
  unfold PySem.W.kitOne PySem.W.kitCls
  rw [if_neg (by intro e; cases (beq_iff_eq.mp e))]
  dsimp only
  rw [if_pos m]
  exact h
theorem kit_tr {K : PySem.W.Frag} {C : Addr} {S : String} {b : Bool} (c : PySem.W.isClsIn K C = true) (t : PySem.W.typeIn K (.ref C) = some (.type "type")) (h : PySem.W.subIn K (.type S) (.ref C) = some b) : PySem.W.kitOne K (.type S) (.ref C) = some b := by
  unfold PySem.W.kitOne PySem.W.kitCls
  rw [if_neg (by intro e; cases (beq_iff_eq.mp e))]
  dsimp only
  rw [if_pos (by rw [show (PySem.W.clsIn K C).isSome = true from c, t]; rfl)]
  exact h
theorem kit_rr {K : PySem.W.Frag} {C : Addr} : PySem.W.kitOne K (.ref C) (.ref C) = some true := by simp [PySem.W.kitOne]
theorem ifF {c : Bool} {A B : Prop} (hc : c = false) (h : B) : if c = true then A else B := by subst hc; exact iteF h
theorem ifT {c : Bool} {A B : Prop} (hc : c = true) (h : A) : if c = true then A else B := by subst hc; exact iteT h
theorem if2 {c : Bool} {A B : Prop} (h1 : c = true → A) (h2 : c = false → B) : if c = true then A else B := by
  cases c with
  | true => exact iteT (h1 rfl)
  | false => exact iteF (h2 rfl)
/-! ## what stays beside a pen -/
def isL : HO → Bool
  | .lst _ => true
  | _ => false
/-- all but the list at p stays -/
def Up (p : Addr) (H H' : Hp) : Prop := ∀ b o, H b = some o → (b = p → isL o = false) → H' b = some o
theorem Up.refl (p : Addr) (H : Hp) : Up p H H := fun _ _ h _ => h
theorem Up.trans {p : Addr} {H H1 H2 : Hp} (a : Up p H H1) (b : Up p H1 H2) : Up p H H2 := fun c o h n => b c o (a c o h n) n
theorem Up.same {p : Addr} {H H' : Hp} (e : Same H H') : Up p H H' := fun b o h _ => e b o h
theorem Up.new {p q : Addr} {H : Hp} {o : HO} (h : H q = none) : Up p H (upd H q o) := fun b u e _ => by rw [upd_ne (ne_of_none e h)]; exact e
theorem Up.new' {p q : Addr} {H H1 : Hp} {o : HO} (e : Up p H H1) (h : H1 q = none) : Up p H (upd H1 q o) := e.trans (Up.new h)
theorem Up.put {p : Addr} {H : Hp} {xs : List V} {o : HO} (h : H p = some (.lst xs)) : Up p H (upd H p o) := fun b u e n => by
  by_cases hb : b = p
  · subst hb
    rw [h] at e
    cases e
    exact absurd (n rfl) (by simp [isL])
  · rw [upd_ne hb]; exact e
theorem Up.tup {p a : Addr} {H H' : Hp} {xs : List V} (e : Up p H H') (h : H a = some (.tup xs)) : H' a = some (.tup xs) := e _ _ h fun _ => rfl
theorem Up.ins {p a C dx : Addr} {H H' : Hp} {fs : List (Str × V)} (e : Up p H H') (h : H a = some (.ins C dx fs)) : H' a = some (.ins C dx fs) := e _ _ h fun _ => rfl
theorem Up.lst {p a : Addr} {H H' : Hp} {xs : List V} (e : Up p H H') (h : H a = some (.lst xs)) (n : a ≠ p) : H' a = some (.lst xs) := e _ _ h fun z => absurd z n
/-! ## rules by alternatives -/
theorem CallR.or' {f : Value} {r r' : List V → Hp → VK → Prop} (h : CallR X f r) (h' : CallR X f r') : CallR X f (fun xs H Q => r xs H Q ∨ r' xs H Q) := by
  intro pins s σ H xs us Q I rv q
  rcases q with q | q
  · exact h pins s σ H xs us Q I rv q
  · exact h' pins s σ H xs us Q I rv q
theorem UnR.or' {f : Value → Sem Value} {r r' : V → Hp → VK → Prop} (h : UnR X f r) (h' : UnR X f r') : UnR X f (fun x H Q => r x H Q ∨ r' x H Q) := by
  intro pins s σ H x v Q I rv q
  rcases q with q | q
  · exact h pins s σ H x v Q I rv q
  · exact h' pins s σ H x v Q I rv q
def orR (r r' : R2) : R2 := fun x y H Q => r x y H Q ∨ r' x y H Q
theorem op_or2 {f : Value → Value → Sem Value} {r r' : R2} (h : OpR X f r) (h' : OpR X f r') : OpR X f (orR r r') := OpR.or h h'
theorem uAdd : OpR X (binaryOp .Add) (orR (rI0 fun i j => .int (i + j)) (orR (rOwn X .Add) (orR rCat (rCatT X.K)))) := op_or2 op_add (op_or2 (op_ownB _) (op_or2 op_cat op_catT))
theorem uSub : OpR X (binaryOp .Sub) (orR (rI0 fun i j => .int (i - j)) (rOwn X .Sub)) := op_or2 op_sub (op_ownB _)
/-- * of two factors, one small or both together below a million bits -/
def CMulU (i j : Int) : Prop := CMul i j ∨ CMulW i j
theorem op_mulU : OpR X (binaryOp .Mult) (rI CMulU fun i j => .int (i * j)) := opI fun _ _ _ _ _ _ _ hc q => PyProof.Rows.mul_int q (hc.elim (fun h => h.ok) fun h => h.ok)
theorem mulL {i j : Int} (h : -(2 ^ 64) < i ∧ i < 2 ^ 64) : CMulU i j := .inl (.inl h)
theorem mulR {i j : Int} (h : -(2 ^ 64) < j ∧ j < 2 ^ 64) : CMulU i j := .inl (.inr h)
theorem uMul : OpR X (binaryOp .Mult) (orR (rI CMulU fun i j => .int (i * j)) (rOwn X .Mult)) := op_or2 op_mulU (op_ownB _)
/-! ## numbers that stir a pen -/
theorem fm0 {a b : Int} (h : 0 < b) : 0 ≤ a.fmod b ∧ a.fmod b < b := by
  rw [Int.fmod_eq_emod_of_nonneg _ (by omega)]
  exact ⟨Int.emod_nonneg _ (by omega), Int.emod_lt_of_pos _ h⟩
theorem stir1 {x m a b s : Int} (hm : 0 < m) (hm1 : m ≤ 2147483648) (ha : 0 ≤ a) (ha1 : a ≤ 1000000) (hb : 0 ≤ b) (hb1 : b ≤ 10000000) (h0 : 0 ≤ s) (h1 : s ≤ 100000) : (x.fmod m + a * s + b).natAbs < 2 ^ 64 := by
  obtain ⟨h2, h3⟩ := fm0 (a := x) hm
  have h4 : 0 ≤ a * s := Int.mul_nonneg ha h0
  have h5 : a * s ≤ 1000000 * 100000 := Int.mul_le_mul ha1 h1 h0 (by decide)
  omega
theorem stir2 {x m u a b s : Int} (hm : 0 < m) (hm1 : m ≤ 2147483648) (hu : 0 ≤ u) (hu1 : u ≤ 100000) (ha : 0 ≤ a) (ha1 : a ≤ 1000000) (hb : 0 ≤ b) (hb1 : b ≤ 10000000) (h0 : 0 ≤ s) (h1 : s ≤ 100000) : (x.fmod m * (2 * s + u) + a * s * s + b).natAbs < 2 ^ 64 := by
  obtain ⟨h2, h3⟩ := fm0 (a := x) hm
  have h4 : 0 ≤ a * s := Int.mul_nonneg ha h0
  have h5 : a * s ≤ 1000000 * 100000 := Int.mul_le_mul ha1 h1 h0 (by decide)
  have h6 : 0 ≤ a * s * s := Int.mul_nonneg h4 h0
  have h7 : a * s * s ≤ 1000000 * 100000 * 100000 := Int.mul_le_mul h5 h1 h0 (by decide)
  have h8 : 0 ≤ x.fmod m * (2 * s + u) := Int.mul_nonneg h2 (by omega)
  have h9 : x.fmod m * (2 * s + u) ≤ 2147483648 * 300000 := Int.mul_le_mul (by omega) (by omega) (by omega) (by decide)
  omega
theorem stir3 {x m : Int} (hm : 0 < m) (hm1 : m ≤ 2147483648) : ∀ y, CMulU (x.fmod m) y := fun y => by
  obtain ⟨h2, h3⟩ := fm0 (a := x) hm
  exact mulL (by omega)
theorem stir4 {a s : Int} (ha : 0 ≤ a) (ha1 : a ≤ 1000000) (h0 : 0 ≤ s) (h1 : s ≤ 100000) : ∀ y, CMulU (a * s) y := fun y => by
  have h4 : 0 ≤ a * s := Int.mul_nonneg ha h0
  have h5 : a * s ≤ 1000000 * 100000 := Int.mul_le_mul ha1 h1 h0 (by decide)
  exact mulL (by omega)
theorem nz {j : Int} (h : j ≠ 0) : j ≠ 0 := h
theorem small_div {i j : Int} (h0 : 0 < j) (h1 : j ≤ 100000000000) : CDivZ i j := divZ (b := 40) (by omega) (by omega) (by decide) (by decide)
theorem szN {n : Nat} {q : Rat} (h : Sz n q) : q.num.natAbs < 2 ^ n := h.1
theorem szD {n : Nat} {q : Rat} (h : Sz n q) : (q.den : Int).natAbs < 2 ^ n := h.2
theorem mul2 {i j : Int} (h1 : i.natAbs < 2 ^ 2000) (h2 : j.natAbs < 2 ^ 2000) : CMulU i j := .inr (wide_mul h1 h2 (by decide) (by decide) (by decide))
theorem den2 {x y : Rat} (h1 : Sz 2000 x) (h2 : Sz 2000 y) : ((x.den : Int) * (y.den : Int)).natAbs < 2 ^ 8000 := by
  rw [Int.natAbs_mul]
  exact Nat.lt_of_lt_of_le (mul_lt2 (szD h1) (szD h2)) (Nat.pow_le_pow_right (by decide) (by decide))
theorem den0 (x y : Rat) : (x.den : Int) * (y.den : Int) ≠ 0 := Int.mul_ne_zero (dne x) (dne y)
/-! ## menus: displays of tuples of constants -/
def tcs (c : List V) : TA := c.foldr (fun v t => tCons (tC v) t) tNil
theorem tcs_ok {σ : St} : ∀ {c : List V} {H : Hp} {Q : List V → Hp → Prop}, Q c H → tcs c σ H Q
  | [], _, _, q => q
  | v :: c, H, Q, q => tcs_ok (c := c) (H := H) (Q := fun xs H2 => Q (v :: xs) H2) q
def tMenu (cs : List (List V)) : TA := cs.foldr (fun c t => tCons (tTup (tcs c)) t) tNil
theorem tMenu_ok {σ : St} : ∀ {cs : List (List V)} {H : Hp} {Q : List V → Hp → Prop}, (∀ c ∈ cs, c.length ≤ 1000) →
    (∀ ps H', Same H H' → Paired (fun p c => H' p = some (.tup c)) ps cs → Q (ps.map V.ref) H') → tMenu cs σ H Q
  | [], H, Q, _, q => q [] H (Same.refl H) .nil
  | c :: cs, H, Q, hc, q => by
    show tTup (tcs c) σ H (fun x H1 => tMenu cs σ H1 fun xs H2 => Q (x :: xs) H2)
    refine tcs_ok (c := c) ⟨Nat.le_of_lt (small1000 (hc c (List.mem_cons_self ..))), fun p hp => ?_⟩
    refine tMenu_ok (fun c' h => hc c' (List.mem_cons_of_mem _ h)) fun ps H' e pr => ?_
    refine q (p :: ps) H' (fun b o h => e _ _ (by rw [upd_ne (ne_of_none h hp)]; exact h)) (.cons (e _ _ upd_same) pr)
theorem sameNew {H : Hp} {a : Addr} {o : HO} (h : H a = none) : Same H (upd H a o) := fun b u e => by rw [upd_ne (ne_of_none e h)]; exact e
theorem go_sa {te : TE} {g : TG} {u : TS} {D : Ends} {σ : St} {H : Hp} (h : te σ H fun x H1 => g x σ H1 (u D)) : tSeq (tAsg te g) u D σ H := h
theorem qb {Q : Bool → Hp → Prop} {b c : Bool} {H : Hp} (e : b = c) (h : Q c H) : Q b H := e ▸ h
theorem vb {Q : VK} {b c : Bool} {H : Hp} (e : b = c) (h : Q (.bl c) H) : Q (.bl b) H := e ▸ h
/-- an if whose test is false, whatever is wanted of it -/
theorem sif {tc : TT} {t w : TS} {D : Ends} {σ : St} {H : Hp} (h : ∀ Q : Bool → Hp → Prop, (∀ H2, Same H H2 → Q false H2) → tc σ H Q) (k : ∀ H2, Same H H2 → w D σ H2) : tSeq (tIfS tc t tNext) w D σ H :=
  h _ fun H2 e => iteF (k H2 e)
theorem lMenu_ok {σ : St} {cs : List (List V)} {H : Hp} {Q : VK} (hc : ∀ c ∈ cs, c.length ≤ 1000) (hl : cs.length ≤ 1000)
    (q : ∀ ps H1 a, Same H H1 → Paired (fun p c => H1 p = some (.tup c)) ps cs → H1 a = none → Q (.ref a) (upd H1 a (.lst (ps.map V.ref)))) : tLst (tMenu cs) σ H Q :=
  tMenu_ok hc fun ps H1 e pr => ⟨by rw [List.length_map, pr.length]; exact Nat.le_of_lt (small1000 hl), fun a ha => q ps H1 a e pr ha⟩
theorem paired_mem {α β : Type} {F : α → β → Prop} : ∀ {l : List α} {m : List β} {x : α}, Paired F l m → x ∈ l → ∃ y ∈ m, F x y
  | _, _, _, .nil, h => by cases h
  | _, _, x, .cons r t, h => by
    rcases List.mem_cons.mp h with e | h
    · subst e; exact ⟨_, List.mem_cons_self .., r⟩
    · obtain ⟨y, hy, f⟩ := paired_mem t h
      exact ⟨y, List.mem_cons_of_mem _ hy, f⟩
/-! ## lists of ints as data -/
theorem dp_ints {K : PySem.W.Frag} {H : Hp} : ∀ ns : List Int, DpAll K H (ns.map V.int) (ns.map PyData.int)
  | [] => .nil
  | n :: ns => .cons (.int n) (dp_ints ns)
theorem canAll_ints : ∀ ns : List Int, PyData.canLayAll0 (ns.map PyData.int) = true
  | [] => by simp [PyData.canLayAll0]
  | n :: ns => by simp [PyData.canLayAll0, PyData.canLay0, canAll_ints ns]
theorem depthAll_ints : ∀ ns : List Int, PyData.depthAll (ns.map PyData.int) ≤ 1
  | [] => by simp [PyData.depthAll]
  | n :: ns => by
    have h := depthAll_ints ns
    simp [PyData.depthAll, PyData.depth] at *
    omega
theorem shaped_ints (ns : List Int) : SeqAt.shaped (.list (ns.map PyData.int)) = true := by
  have h := depthAll_ints ns
  simp [SeqAt.shaped, PyData.canLay0, PyData.depth, canAll_ints]
  omega
theorem eqv_same : ∀ ns : List Int, PyData.eqv (.list (ns.map PyData.int)) (.list (ns.map PyData.int)) = true
  | [] => by simp [PyData.eqv, PyData.eqvAll]
  | n :: ns => by
    have h := eqv_same ns
    simp [PyData.eqv, PyData.eqvAll] at *
    exact h
theorem eqv_nil (ns : List Int) : PyData.eqv (.list (ns.map PyData.int)) (.list []) = ns.isEmpty := by
  cases ns <;> simp [PyData.eqv, PyData.eqvAll]
theorem uDiv : OpR X (binaryOp .FloorDiv) (orR (rI CDivZ fun i j => .int (i.fdiv j)) (rOwn X .FloorDiv)) := op_or2 op_fdivZ (op_ownB _)
theorem uMod : OpR X (binaryOp .Mod) (orR (rI (fun _ j => j ≠ 0) fun i j => .int (i.fmod j)) (rOwn X .Mod)) := op_or2 op_modN (op_ownB _)
theorem uLt : OpR X (compareOp .Lt) (orR (rI0 fun i j => .bl (decide (i < j))) (rOwnC X .Lt)) := op_or2 op_lt (op_ownC _)
theorem uLe : OpR X (compareOp .LtE) (orR (rI0 fun i j => .bl (decide (i ≤ j))) (rOwnC X .LtE)) := op_or2 op_le (op_ownC _)
theorem uGt : OpR X (compareOp .Gt) (orR (rI0 fun i j => .bl (decide (j < i))) (rOwnC X .Gt)) := op_or2 op_gt (op_ownC _)
theorem uGe : OpR X (compareOp .GtE) (orR (rI0 fun i j => .bl (decide (j ≤ i))) (rOwnC X .GtE)) := op_or2 op_ge (op_ownC _)
theorem uEq (hu : X.A.units + 64 < cLine) : OpR X (compareOp .Eq) (orR rEq (orR (rOwnC X .Eq) (rEqD X.K))) := op_or2 op_eq (op_or2 (op_ownC _) (op_eqD hu))
theorem uNe (hu : X.A.units + 64 < cLine) : OpR X (compareOp .NotEq) (orR rNe (rNeD X.K)) := op_or2 op_ne (op_neD hu)
theorem uNeg : UnR X (unaryOp .USub) (fun x H Q => rU (fun i => .int (-i)) x H Q ∨ rOwnU X "__neg__" x H Q) := UnR.or' un_neg un_ownNeg
/-- two promises of one def -/
theorem FnR.or {P : Program} {w : World} {K : PySem.W.Frag} {mg : Str → Option Value} {base : Heap} {CX : CXT} {k : Nat} {f : Addr} {sp sp' : Sp} (h : FnR P w K mg base CX k f sp) (h' : FnR P w K mg base CX k f sp') :
    FnR P w K mg base CX k f (fun vs H Q E => sp vs H Q E ∨ sp' vs H Q E) := fun A outer s H us vs Q E hr e0 r hs =>
  hs.elim (fun q => h A outer s H us vs Q E hr e0 r q) fun q => h' A outer s H us vs Q E hr e0 r q
theorem uIsi : CallR X (.builtin "isinstance") (fun xs H Q => rIsi X.K xs H Q ∨ rIsiT X.K xs H Q) := CallR.or' call_isi call_isiT
end
end AZ

set_option Elab.async false
set_option maxRecDepth 100000
set_option maxHeartbeats 4000000
set_option linter.all false
namespace AZ
open PySem PySem.Spec PySem.W PySem.Calls PyProof.Rows
section
variable {prog : Program} {w : World} {A : Around} {E : Value → Shared → Prop} {s : Shared} {K : Frag} {x C L f : Addr} {h₀ : Heap} {m : Str → Option Value} {ox : Obj} {od : Option Obj} {name : Str} {b tb : Value}
theorem ifBound_B {M : Model} {id : String} {args : List Value} {Q : Option Value → Shared → Prop} (X : K.In s.heap) (I : InstAt s.heap x ox C od) (hs : findIn K (.ref C) name = some (some (.builtin id)))
    (hb : ∀ self, bindSpecial (.builtin id) self = pure (.builtin id, [self])) (h : wpAny M A (call (.builtin id) (.ref x :: args)) (fun v => Q (some v)) E s) : wpAny M A (callSpecialIfBound? (.ref x) name args) Q E s := by
  simp only [callSpecialIfBound?, bindSpecialIfBound?]
  refine wpAny_holding (wpAny_bind (wpAny_bind (wpAny_bind (I.type.here ((looks_findIn X hs).here ?_)))))
  refine wpAny_bind (wpAny_askSetting (wpAny_ite ?_))
  have fin : wpAny M A (call (.builtin id) ([.ref x] ++ args) >>= fun v => pure (some v)) Q E s := wpAny_bind (wpAny_mono h (fun v s' h' => wpAny_pure h') fun _ _ h' => h')
  split
  · exact wpAny_bind ((Looks.of_pure (hb _)).here (wpAny_pure (by exact fin)))
  · exact wpAny_tryCatch (wpAny_bind ((Looks.of_pure (hb _)).here (wpAny_pure (by exact fin))))
theorem one_ne {Q : Value → Shared → Prop} (hu : A.units + 1 < cLine) (X : K.In s.heap) (I : InstAt s.heap x ox C od)
    (hne : findIn K (.ref C) "__ne__" = some (some (.builtin "object.__ne__"))) (hs : findIn K (.ref C) "__eq__" = some (some (.ref f))) (hf : isFn K (.ref f) = true) (hm : mroIn K C (.type "object") = some true)
    (h : wpAny (model prog w) A.in1 (call (.ref f) [.ref x, b]) (fun v s' => ∃ r, v = .bool r ∧ Q (.bool (!r)) s') E s) :
    wpAny (model prog w) A (tryCompare (.ref x) "__ne__" b) (fun r s' => ∃ v, r = some v ∧ Q v s') E s := by
  have hu' : A.in1.units < cLine := by
    show A.units + 1 < cLine
    exact hu
  unfold tryCompare
  refine wpAny_bind (ifBound_B X I hne PySem.F.cmp_object.ne.bind (wpAny_call (codeAny_call_builtin PySem.F.cmp_object.ne.plain PySem.F.cmpEntry_ne (check_slot PySem.F.cmpKind_ne PySem.F.cmpSplit_ne (I.type.andThen (looks_mroIn X hm)) (PySem.F.cmpArgs_ne _ _) ?_))))
  unfold Builtin.«object.__ne__»
  refine wpAny_bind (m := slotArgs "__ne__" 1 _) (wpAny_pure ?_)
  refine wpAny_bind (m := cRoomFor _ _) (wpAny_cRoomFor hu' ?_)
  refine wpAny_bind (m := callSpecialIfBound? (.ref x) (Str.ofString "__eq__") _) (ifBound_K X I hs hf (wpAny_mono h (fun r s' hr => ?_) fun _ _ y => y))
  obtain ⟨q, rfl, hq⟩ := hr
  refine wpAny_bind (wpAny_truthy_bool (wpAny_pure ?_))
  exact wpAny_pure ⟨_, rfl, hq⟩
theorem ne_K {Q : Value → Shared → Prop} (hu : A.units + 1 < cLine) (F : Fr h₀ L s.heap m) (X₀ : K.In h₀) (I : InstAt s.heap x ox C od) (hb : Looks (model prog w) s.heap (typeOf b) tb) (hn : notFirst K C tb = true)
    (hne : findIn K (.ref C) "__ne__" = some (some (.builtin "object.__ne__"))) (hs : findIn K (.ref C) "__eq__" = some (some (.ref f))) (hf : isFn K (.ref f) = true) (hm : mroIn K C (.type "object") = some true)
    (h : wpAny (model prog w) A.in1 (call (.ref f) [.ref x, b]) (fun v s' => ∃ r, v = .bool r ∧ Q (.bool (!r)) s') E s) : wpAny (model prog w) A (richCompare .NotEq (.ref x) b) Q E s := by
  have X := X₀.keeps F.keep
  have one := one_ne hu X I hne hs hf hm h
  unfold richCompare
  simp only [oneThing_ref]
  refine wpAny_holding (wpAny_bind (wpAny_cRoomFor (by omega) ?_))
  refine wpAny_bind (I.type.here (wpAny_bind (hb.here ?_)))
  split
  · rename_i q
    have e : subIn K tb (.ref C) = some false := by
      rcases Bool.or_eq_true_iff.mp hn with e | e
      · rw [beq_iff_eq.mp e] at q; simp at q
      · exact beq_iff_eq.mp e
    refine wpAny_bind ((looks_subIn X e).here ?_)
    simp only [Bool.false_eq_true, if_false]
    refine wpAny_bind (wpAny_mono one (fun r s' z => ?_) fun _ _ e => e)
    obtain ⟨v, rfl, hq⟩ := z
    exact wpAny_pure hq
  · refine wpAny_bind (wpAny_pure ?_)
    simp only [Bool.false_eq_true, if_false]
    refine wpAny_bind (wpAny_mono one (fun r s' z => ?_) fun _ _ e => e)
    obtain ⟨v, rfl, hq⟩ := z
    exact wpAny_pure hq
end
end AZ
namespace GQ
open PySem PySem.SeqAt
open AutoSeq1 (wpAny_loadPart')
open MeetsSeq MeetsSeq2 MeetsSeq3 SeqRoads2
section
variable {prog : Program} {w : World} {A : Around} {R : Result → Shared → Prop}
/-- where the walk over two tuples stands -/
def PairsAt (as bs : Array Value) (J : Nat → Shared → Prop) (left : List (Value × Value)) (z : Shared) : Prop := ∃ k, left = (as.toList.zip bs.toList).drop k ∧ k ≤ as.size ∧ J k z
theorem pairs_next {as bs : Array Value} {J : Nat → Shared → Prop} (e : as.size = bs.size) {p q : Value} {left : List (Value × Value)} {z : Shared} (h : PairsAt as bs J ((p, q) :: left) z) :
    ∃ k, ∃ (k1 : k < as.size) (k2 : k < bs.size), p = as[k] ∧ q = bs[k] ∧ left = (as.toList.zip bs.toList).drop (k + 1) ∧ J k z := by
  obtain ⟨k, el, _, hJ⟩ := h
  have len : (as.toList.zip bs.toList).length = as.size := by simp [e]
  by_cases hk : k < (as.toList.zip bs.toList).length
  · have k1 : k < as.size := len ▸ hk
    rw [List.drop_eq_getElem_cons hk] at el
    obtain ⟨e1, e2⟩ := List.cons.inj el
    have e3 := Prod.mk.inj (e1.trans (show _ = (as[k], bs[k]'(e ▸ k1)) by simp))
    exact ⟨k, k1, e ▸ k1, e3.1, e3.2, e2, hJ⟩
  · rw [List.drop_of_length_le (Nat.le_of_not_lt hk)] at el
    cases el
theorem pairs_done {as bs : Array Value} {J : Nat → Shared → Prop} (e : as.size = bs.size) {z : Shared} (h : PairsAt as bs J [] z) : J as.size z := by
  obtain ⟨k, el, hk, hJ⟩ := h
  have len : (as.toList.zip bs.toList).length = as.size := by simp [e]
  have : (as.toList.zip bs.toList).length ≤ k := by simpa using el.symm
  have hke : k = as.size := by omega
  exact hke ▸ hJ
theorem tup_ne {u v : Addr} {as bs : Array Value} {n1 n2 : Nat} {d1 d2 : Option Addr} {s1 s2 : Array (Option Value)} (e : as.size = bs.size) (J : Nat → Shared → Prop)
    (step : ∀ k (k1 : k < as.size) (k2 : k < bs.size) z, J k z → wpAny (model prog w) A.in1 (eqBool as[k] bs[k]) (fun r z' => r = true ∧ J (k + 1) z') (fun x z' => R (.error x) z') z)
    (last : ∀ z, J as.size z → R (.ok (.ret (.bool false))) z) {z : Shared} (hu : z.heap.get? u = some { cls := .type "tuple", dict := d1, data := .seq as n1, slots := s1 }) (hv : z.heap.get? v = some { cls := .type "tuple", dict := d2, data := .seq bs n2, slots := s2 }) (h : J 0 z) :
    wpAny (model prog w) A.in1 (Builtin.«tuple.__ne__» ⟨[.ref u, .ref v], []⟩) (FinOf prog w A R) (fun x z' => R (.error x) z') z := by
  have isTup := AutoSeq1.sub_tuple_tuple
  have start : PairsAt as bs J (as.toList.zip bs.toList) z := ⟨0, rfl, Nat.zero_le _, h⟩
  obtain ⟨hp, gs, dr, tk, os⟩ := z
  wp_walk using wpAny_loadPart' hu, wpAny_loadPart' hv, wpAny_forIn_list _ (fun left b z' => b.1 = none ∧ PairsAt as bs J left z') _
  case turn =>
    rintro ⟨p, q⟩ left b z' ⟨_, at_⟩
    obtain ⟨k, k1, k2, rfl, rfl, el, hJ⟩ := pairs_next e at_
    refine wpAny_bind (wpAny_mono (step k k1 k2 z' hJ) (fun r z2 hz => ?_) fun _ _ x => x)
    obtain ⟨rfl, hJ2⟩ := hz
    wp_walk
    exact ⟨rfl, k + 1, el, k1, hJ2⟩
  case fin =>
    rintro ⟨b1, b2⟩ z' ⟨hb, at_⟩
    obtain rfl : b1 = none := hb
    have hl := last z' (pairs_done e at_)
    wp_walk
    simpa [Builtin.Tuple.tupleCompareSizes, e] using hl
  case h => exact ⟨rfl, start⟩
end
section
variable {prog : Program} {w : World} {A : Around} {X : Value → Shared → Prop} {z : Shared}
theorem ne_tups {u v : Addr} {as bs : Array Value} {Q : Value → Shared → Prop} (e : as.size = bs.size) (room : A.units < cLine) (J : Nat → Shared → Prop) (hu : z.heap.IsTuple u as) (hv : z.heap.IsTuple v bs)
    (step : ∀ k (k1 : k < as.size) (k2 : k < bs.size) z, J k z → wpAny (model prog w) A.in1 (eqBool as[k] bs[k]) (fun r z' => r = true ∧ J (k + 1) z') X z)
    (last : ∀ z, J as.size z → Q (.bool false) z) (h : J 0 z) : wpAny (model prog w) A (richCompare .NotEq (.ref u) (.ref v)) Q X z := by
  obtain ⟨⟨c1, d1, a1, s1⟩, g1, rfl, n1, rfl⟩ := id hu
  obtain ⟨⟨c2, d2, a2, s2⟩, g2, rfl, n2, rfl⟩ := id hv
  exact wpAny_richCompare_same_room (op := .NotEq) ⟨_, g1, rfl⟩ ⟨_, g2, rfl⟩ F.slot_tuple_ne (call_here F.slot_tuple_ne ⟨_, g1, rfl⟩ F.entry_tuple_ne (F.args_tuple_ne_2 _ _)
    (tup_ne (R := wants (fun v s' => v ≠ .notImplemented ∧ Q v s') X) e J step (fun z' q => ⟨(fun x => nomatch x), last z' q⟩) g1 g2 h)) room
end
end GQ
namespace AZ
open PySem L2
section
variable {X : Cx} {n m : Nat} {D D' : Eqv}
/-- the callee of X, somewhere below X's running body -/
theorem run_fnS {CX : CXT} {f : Addr} {sp : Sp} {E : XK} {Q : VK} {us : List Value} {vs : List V} {A : Around} {pins : List (Addr × Obj)} {σ : St} {H : Hp} {s : Shared} (sb : Sub X n A) (F : FnR X.prog X.w X.K X.mg X.base CX n f sp) (hx : Passes CX X E) (I : Inv X pins σ H s) (r : Vals vs us) (h : sp vs H Q E) :
    codeAny (model X.prog X.w) A (.call (.ref f) ⟨us, []⟩) (fun r s' => match r with | .ok (.ret v) => EP X pins σ Q v s' | .ok _ => False | .error e => X.xe e s') s := by
  have e0 : Env0 X.prog X.w X.K X.mg X.base A X.stack s H := by
    have e := I.env0
    exact ⟨by rw [sb.fr]; exact e.frames, e.mod, e.bs, e.bsz, e.funs, e.frf, e.hok, e.bare⟩
  refine codeAny_mono (F A X.stack s H us vs Q E sb.room e0 r h) fun r s' hq => ?_
  cases r with
  | error e => exact hx pins σ H s e s' I hq
  | ok fl =>
    cases fl with
    | ret u => exact I.after hq
    | next => exact False.elim hq
    | brk => exact False.elim hq
    | cont => exact False.elim hq
/-- != of own classes that have == alone -/
structure NeM (K : PySem.W.Frag) (C f : Addr) : Prop where
  hne : PySem.W.findIn K (.ref C) "__ne__" = some (some (.builtin "object.__ne__"))
  hs : PySem.W.findIn K (.ref C) "__eq__" = some (some (.ref f))
  hf : PySem.W.isFn K (.ref f) = true
  hm : PySem.W.mroIn K C (.type "object") = some true
  hn : PySem.W.notFirst K C (.type "int") = true
def rOwnN (X : Cx) : R2 := fun x y H Q => ∃ (a C dx : Addr) (fs : List (Str × V)) (f : Addr) (CX : CXT) (k : Nat) (sp : Sp) (E : XK),
  x = .ref a ∧ H a = some (.ins C dx fs) ∧ RightI C H y ∧ NeM X.K C f ∧ FnR X.prog X.w X.K X.mg X.base CX k f sp ∧ Room (k + 1) X.A ∧ Passes CX X E ∧ sp [x, y] H (fun v H1 => ∃ r, v = .bl r ∧ Q (.bl (!r)) H1) E
theorem op_ownN : OpR X (compareOp .NotEq) (rOwnN X) := by
  intro pins s σ H x y v u Q I rx ry h
  obtain ⟨a, C, dx, fs, f, CX, k, sp, E, rfl, ha, hR, hM, F, hr, hx, hs⟩ := h
  obtain rfl : v = Value.ref a := rx
  have hc : wpAny (model X.prog X.w) X.A.in1 (call (.ref f) [.ref a, u]) (fun v s' => ∃ r, v = .bool r ∧ EP X pins σ Q (.bool (!r)) s') X.xe s :=
    thn (wpAny_call (run_fnS (us := [.ref a, u]) (vs := [.ref a, y]) ⟨hr.in1, rfl⟩ F hx I (.cons rfl (.cons ry .nil)) hs)) fun v s1 z => by
      obtain ⟨z, H1, I1, rz, r, rfl, q⟩ := z
      obtain rfl : v = Value.bool r := rz
      exact ⟨r, rfl, .bl (!r), H1, I1, rfl, q⟩
  obtain ⟨mA, J, _⟩ := ins_get I.hok ha
  obtain ⟨od, J, _⟩ := J.look
  obtain ⟨m, hF⟩ := I.fr
  have hu : X.A.units + 1 < cLine := by have := hr.units; omega
  show wpAny (model X.prog X.w) X.A (richCompare .NotEq (.ref a) u) (EP X pins σ Q) X.xe s
  rcases hR with ⟨j, rfl⟩ | ⟨b, dy, gs, rfl, hb⟩
  · obtain ⟨t, rfl⟩ := ry
    exact ne_K (tb := .type "int") hu hF I.ok.mod.kin J (PySem.W.Looks.of_pure rfl) hM.hn hM.hne hM.hs hM.hf hM.hm hc
  · obtain rfl : u = Value.ref b := ry
    obtain ⟨mB, J2, _⟩ := ins_get I.hok hb
    obtain ⟨od2, J2, _⟩ := J2.look
    exact ne_K (tb := .ref C) hu hF I.ok.mod.kin J J2.type (by simp [PySem.W.notFirst]) hM.hne hM.hs hM.hf hM.hm hc
/-- != of two tuples that are equal, item by item -/
def NcG (X : Cx) (n : Nat) (D : Eqv) : Prop :=
  ∀ (A : Around) (pins : List (Addr × Obj)) (s : Shared) (σ : St) (H : Hp) (x y : V) (u v : Value), Sub X n A → Inv X pins σ H s → RelV x u → RelV y v → D x y H →
    wpAny (model X.prog X.w) A (richCompare .NotEq u v) (fun r s' => r = .bool false ∧ ∃ H', Inv X pins σ H' s' ∧ Ext H H') X.xe s
theorem ncG_tup (hD : Mon D) (h : EqG X n D) : NcG X (n + 1) (DTup X.K D) := by
  intro A pins s σ H x y u v sb I rx ry d
  obtain ⟨a, b, xs, ys, rfl, rfl, ha, hb, p⟩ := d
  cases rx
  cases ry
  obtain ⟨its, r, e, z⟩ := I.tuple ha
  obtain ⟨its2, r2, e2, z2⟩ := I.tuple hb
  have hsz : its.toArray.size = its2.toArray.size := by rw [List.size_toArray, List.size_toArray, ← r.length, ← r2.length]; exact p.1
  exact GQ.ne_tups hsz sb.room.units0 (fun _ s' => LoopI X pins σ H s') e e2 (fun k k1 k2 z q => turnG hD h sb p r r2 k k1 k2 z q) (fun z q => ⟨rfl, q⟩) ⟨H, I, Ext.rfl'⟩
def rNeG (D : Eqv) : R2 := fun x y H Q => D x y H ∧ ∀ H', Ext H H' → Q (.bl false) H'
theorem op_neG (h : NcG X n D) (hr : Room n X.A) : OpR X (compareOp .NotEq) (rNeG D) := by
  intro pins s σ H x y v u Q I rx ry hq
  obtain ⟨d, q⟩ := hq
  show wpAny (model X.prog X.w) X.A (richCompare .NotEq v u) (EP X pins σ Q) X.xe s
  refine wpAny_mono (h X.A pins s σ H x y v u ⟨hr, rfl⟩ I rx ry d) (fun r s' z => ?_) fun _ _ x => x
  obtain ⟨hr', H', I', e⟩ := z
  subst hr'
  exact ⟨.bl false, H', I', rfl, q H' e⟩
/-- an own == promised by a comparison, as a way two values are equal -/
def DOwn (C : Addr) (R : Addr → V → Hp → Prop) : Eqv := fun x y H => ∃ a dx fs, x = .ref a ∧ H a = some (.ins C dx fs) ∧ RightI C H y ∧ R a y H
def spEqV (R : Addr → V → Hp → Prop) : Sp := fun vs H Q _ => ∃ a y, vs = [.ref a, y] ∧ R a y H ∧ ∀ H', Ext H H' → Q (.bl true) H'
theorem mon_own {C : Addr} {R : Addr → V → Hp → Prop} (hR : ∀ a b H H', Ext H H' → R a b H → R a b H') : Mon (DOwn C R) := fun x y H H' e d => by
  obtain ⟨a, dx, fs, hx, h1, h2, r⟩ := d
  exact ⟨a, dx, fs, hx, e _ _ h1, h2.elim .inl fun ⟨b, dy, gs, hy, h⟩ => .inr ⟨b, dy, gs, hy, e _ _ h⟩, hR a y H H' e r⟩
theorem eqBool_refV {prog : Program} {w : World} {A : Around} {E : Value → Shared → Prop} {s : Shared} {l : Addr} {y : Value} {Q : Bool → Shared → Prop} (hne : Value.ref l ≠ y) (h : wpAny (model prog w) A (richCompare .Eq (.ref l) y) (fun v s' => ∃ r, v = .bool r ∧ Q r s') E s) : wpAny (model prog w) A (eqBool (.ref l) y) Q E s := by
  unfold eqBool
  refine wpAny_holding ?_
  refine wpAny_ite_split (fun hab => absurd (eq_of_beq hab) hne) (fun _ => ?_)
  refine wpAny_bind (wpAny_mono h (fun v s' hv => ?_) fun _ _ x => x)
  obtain ⟨r, rfl, q⟩ := hv
  exact wpAny_truthy_bool q
theorem eqG_own {CX : CXT} {C f : Addr} {R : Addr → V → Hp → Prop} {E : XK} (F : FnR X.prog X.w X.K X.mg X.base CX n f (spEqV R)) (M : CmpM X.K C .Eq f) (hx : Passes CX X E) : EqG X n (DOwn C R) := by
  intro A pins s σ H x y u v sb I rx ry d
  obtain ⟨a, dx, fs, rfl, ha, hR, r⟩ := d
  obtain rfl : u = Value.ref a := rx
  have hsp : spEqV R [.ref a, y] H (fun v H' => v = .bl true ∧ Ext H H') E := ⟨a, y, rfl, r, fun H' e => ⟨rfl, e⟩⟩
  have hc : wpAny (model X.prog X.w) A (call (.ref f) [.ref a, v]) (PySem.W.CmpBack (fun v s' => ∃ r, v = .bool r ∧ (fun r s' => r = true ∧ ∃ H', Inv X pins σ H' s' ∧ Ext H H') r s')) X.xe s :=
    thn (wpAny_call (run_fnS (us := [.ref a, v]) (vs := [.ref a, y]) sb F hx I (.cons rfl (.cons ry .nil)) hsp)) fun v s1 z => by
      obtain ⟨z, H1, I1, rz, rfl, e⟩ := z
      obtain rfl : v = Value.bool true := rz
      exact ⟨true, rfl, rfl, H1, I1, e⟩
  by_cases hab : Value.ref a = v
  · subst hab
    exact SeqAt.EqAt.same (A := A) (s := s) (.ref a) X.prog X.w X.xe _ ⟨rfl, H, I, Ext.rfl'⟩
  refine eqBool_refV hab ?_
  obtain ⟨mA, J, _⟩ := ins_get I.hok ha
  obtain ⟨od, J, _⟩ := J.look
  obtain ⟨m, hF⟩ := I.fr
  rcases hR with ⟨j, rfl⟩ | ⟨b, dy, gs, rfl, hb⟩
  · obtain ⟨t, rfl⟩ := ry
    exact PySem.W.cmp_K (op := .Eq) (tb := .type "int") sb.room.units0 hF I.ok.mod.kin J (PySem.W.Looks.of_pure rfl) M.hn M.hs M.hf hc
  · obtain rfl : v = Value.ref b := ry
    obtain ⟨mB, J2, _⟩ := ins_get I.hok hb
    obtain ⟨od2, J2, _⟩ := J2.look
    exact PySem.W.cmp_K (op := .Eq) (tb := .ref C) sb.room.units0 hF I.ok.mod.kin J J2.type (by simp [PySem.W.notFirst]) M.hs M.hf hc
end
end AZ

set_option Elab.async false
set_option maxRecDepth 100000
set_option maxHeartbeats 4000000
set_option linter.all false
namespace AZ
open PySem PySem.Spec PySem.W PySem.Calls PyProof.Rows
section
variable {prog : Program} {w : World} {A : Around} {E : Value → Shared → Prop} {s : Shared} {K : Frag} {x C L f g dx : Addr} {h₀ : Heap} {m : Str → Option Value} {ox : Obj} {od : Option Obj} {name : Str} {b tb : Value} {i : Int} {t : Tok}
theorem intBin_dec {M : Model} {name : String} {fn : Int → Int → Sem Fin} {Q : Fin → Shared → Prop} (hx : s.heap.get? x = some (instObj C dx)) (q : Q (.done (.ret .notImplemented)) s) :
    wpAny M A (Builtin.Int.intBinary name fn false ⟨[.int i t, .ref x], []⟩) Q E s := by
  unfold Builtin.Int.intBinary
  refine wpAny_bind (m := slotArgs name 1 _) (wpAny_pure ?_)
  refine wpAny_bind (m := Builtin.Int.intOfSelf _) (wpAny_pure ?_)
  obtain ⟨hp, gs, d, tk, os⟩ := s
  have hx' : hp.get? x = some (instObj C dx) := hx
  unfold instObj at hx'
  wp_walk using AutoSeq1.wpAny_loadPart' hx'
  exact q
/-- what an int does beside an instance: it declines -/
structure IntDec (nm : String) : Prop where
  fills : fillsNumberSlot (.type "int") nm = pure true
  dec : ∀ {prog : Program} {w : World} {A : Around} {E : Value → Shared → Prop} {s : Shared} {x C dx : Addr} {i : Int} {t : Tok} {Q : Option Value → Shared → Prop}, s.heap.get? x = some (instObj C dx) → Q none s →
    wpAny (model prog w) A (tryMethod (.int i t) (PySem.dunder nm) (.ref x)) Q E s
theorem int_dec_sub : IntDec "sub" := by
  refine ⟨PyProof.Rows.fills_int_sub, fun {prog w A E s x C dx i t Q} hx q => ?_⟩
  refine wpAny_tryMethod_declines (T := "int") (id := "int.__sub__") (name := PySem.dunder "sub") (typeIs_int s i t) ?_ ?_
  · exact PyProof.Rows.slot_int_sub
  · refine wpAny_call_entry PyProof.Rows.slot_int_sub (typeIs_int s i t) PyProof.Rows.entry_int_sub ?_ (PyProof.Rows.args_int_sub _ _)
    unfold Builtin.«int.__sub__»
    exact intBin_dec hx ⟨_, rfl, rfl, q⟩
theorem int_dec_add : IntDec "add" := by
  refine ⟨PySem.F.fills_int_add, fun {prog w A E s x C dx i t Q} hx q => ?_⟩
  refine wpAny_tryMethod_declines (T := "int") (id := "int.__add__") (name := PySem.dunder "add") (typeIs_int s i t) ?_ ?_
  · exact PySem.F.slot_int_add
  · refine wpAny_call_entry PySem.F.slot_int_add (typeIs_int s i t) PySem.F.entry_int_add ?_ (PySem.F.args_int_add_2 _ _)
    unfold Builtin.«int.__add__»
    exact intBin_dec hx ⟨_, rfl, rfl, q⟩
theorem int_dec_mul : IntDec "mul" := by
  refine ⟨PySem.F.fills_int_mul, fun {prog w A E s x C dx i t Q} hx q => ?_⟩
  refine wpAny_tryMethod_declines (T := "int") (id := "int.__mul__") (name := PySem.dunder "mul") (typeIs_int s i t) ?_ ?_
  · exact PySem.F.slot_int_mul
  · refine wpAny_call_entry PySem.F.slot_int_mul (typeIs_int s i t) PySem.F.entry_int_mul ?_ (PySem.F.args_int_mul_2 _ _)
    unfold Builtin.«int.__mul__»
    exact intBin_dec hx ⟨_, rfl, rfl, q⟩
theorem refl1 {nm : String} {Q : Value → Shared → Prop} (D : IntDec nm) (X : K.In s.heap) (I : InstAt s.heap x ox C od) (hx : s.heap.get? x = some (instObj C dx)) (hc : selfFirst K C = true)
    (hs : findIn K (.ref C) (PySem.dunder nm) = some (some (.ref g))) (hr : findIn K (.ref C) (dunderR nm) = some (some (.ref f))) (hf : isFn K (.ref f) = true) (hu : subIn K (.ref C) (.type "int") = some false)
    (h : wpAny (model prog w) A (call (.ref f) [.ref x, .int i t]) (PySem.W.CmpBack Q) E s) : wpAny (model prog w) A (binaryOp1 nm (.int i t) (.ref x)) (fun r s' => ∃ v, r = some v ∧ Q v s') E s := by
  obtain ⟨cd, rest, hcd, hm⟩ := ksp_first hc
  have back := ksp_try X I hr hf h
  have dec : ∀ {Q : Option Value → Shared → Prop}, Q none s → wpAny (model prog w) A (tryMethod (.int i t) (PySem.dunder nm) (.ref x)) Q E s := fun q => D.dec hx q
  have L1 : Looks (model prog w) s.heap (typeOf (.int i t)) (.type "int") := Looks.of_pure rfl
  have L2 : Looks (model prog w) s.heap (typeOf (.ref x)) (.ref C) := I.type
  have L3 : Looks (model prog w) s.heap (fillsNumberSlot (.type "int") nm) true := Looks.of_pure D.fills
  have L4 : Looks (model prog w) s.heap (fillsNumberSlot (.ref C) nm) true := fills_K X hcd hm hs
  have L5 : Looks (model prog w) s.heap (isSubtype (.ref C) (.type "int")) false := looks_subIn X hu
  have L6 : Looks (model prog w) s.heap (numberSlotInPython (.type "int") nm) false := Looks.of_pure rfl
  generalize hR : (fun (r : Option Value) s' => ∃ v, r = some v ∧ Q v s') = R at back ⊢
  have hne : (Value.type "int" == Value.ref C) = false := Bool.eq_false_iff.mpr fun q => by cases beq_iff_eq.mp q
  generalize (fun (r : Option Value) s' => ∃ v, r = some v ∧ Q v s') = R at back ⊢
  unfold binaryOp1
  refine wpAny_bind (L1.here (wpAny_bind (L2.here (wpAny_bind (L3.here ?_)))))
  simp only [hne, Bool.false_eq_true, if_false]
  refine wpAny_bind (L4.here ?_)
  refine wpAny_bind (m := isSubtype (.ref C) (.type "int")) (L5.here ?_)
  refine wpAny_bind (m := numberSlotInPython (.type "int") nm) (L6.here ?_)
  refine wpAny_bind (m := tryMethod (.int i t) (PySem.dunder nm) (.ref x)) (dec ?_)
  refine wpAny_bind (m := tryMethod (.ref x) (dunderR nm) (.int i t)) (wpAny_mono back (fun r s' hr' => ?_) fun _ _ e => e)
  have hr2 := hr'
  rw [← hR] at hr2
  obtain ⟨v, rfl, hq⟩ := hr2
  exact wpAny_bind (m := rule "binop.reflected") (wpAny_rule (wpAny_pure hr'))
theorem refl_K {op : Operator} {sym : String} {nm : String} {Q : Value → Shared → Prop} (hi : op.info = (sym, nm)) (D : IntDec nm) (F : Fr h₀ L s.heap m) (X₀ : K.In h₀) (I : InstAt s.heap x ox C od) (hx : s.heap.get? x = some (instObj C dx)) (hc : selfFirst K C = true)
    (hs : findIn K (.ref C) (PySem.dunder nm) = some (some (.ref g))) (hr : findIn K (.ref C) (dunderR nm) = some (some (.ref f))) (hf : isFn K (.ref f) = true) (hu : subIn K (.ref C) (.type "int") = some false)
    (h : wpAny (model prog w) A (call (.ref f) [.ref x, .int i t]) (PySem.W.CmpBack Q) E s) : wpAny (model prog w) A (binaryOp op (.int i t) (.ref x)) Q E s := by
  have b1 := refl1 D (X₀.keeps F.keep) I hx hc hs hr hf hu h
  generalize hR : (fun (r : Option Value) s' => ∃ v, r = some v ∧ Q v s') = R at b1
  unfold binaryOp
  refine wpAny_holding ?_
  rw [hi]
  refine wpAny_bind (m := binaryOp1 nm (.int i t) (.ref x)) (wpAny_mono b1 (fun r s' hr' => ?_) fun _ _ e => e)
  rw [← hR] at hr'
  obtain ⟨v, rfl, hq⟩ := hr'
  exact wpAny_pure hq
end
end AZ
namespace AZ
open PySem L2
section
variable {X : Cx}
/-- an int, then the operator, then an instance: its own reflected one -/
structure ReflM (K : PySem.W.Frag) (C : Addr) (nm : Str) (rn : Str) (g f : Addr) : Prop where
  hs : PySem.W.findIn K (.ref C) nm = some (some (.ref g))
  hr : PySem.W.findIn K (.ref C) rn = some (some (.ref f))
  hf : PySem.W.isFn K (.ref f) = true
  hc : PySem.W.selfFirst K C = true
  hu : PySem.W.subIn K (.ref C) (.type "int") = some false
def rRefl (X : Cx) (nm : String) : R2 := fun x y H Q => ∃ (j : Int) (a C dx : Addr) (fs : List (Str × V)) (g f : Addr) (CX : CXT) (k : Nat) (sp : Sp) (E : XK),
  x = .int j ∧ y = .ref a ∧ H a = some (.ins C dx fs) ∧ ReflM X.K C (PySem.dunder nm) (dunderR nm) g f ∧ FnR X.prog X.w X.K X.mg X.base CX k f sp ∧ Room k X.A ∧ Passes CX X E ∧ sp [y, x] H Q E
theorem op_refl {op : Operator} {sym nm : String} (hi : op.info = (sym, nm)) (D : IntDec nm) : OpR X (binaryOp op) (rRefl X nm) := by
  intro pins s σ H x y v u Q I rx ry h
  obtain ⟨j, a, C, dx, fs, g, f, CX, k, sp, E, rfl, rfl, ha, hM, F, hr, hx, hs⟩ := h
  obtain ⟨t, rfl⟩ := id rx
  obtain rfl : u = Value.ref a := ry
  have hc : wpAny (model X.prog X.w) X.A (call (.ref f) [.ref a, .int j t]) (PySem.W.CmpBack (EP X pins σ Q)) X.xe s :=
    thn (wpAny_call (run_fnR (us := [.ref a, .int j t]) (vs := [.ref a, .int j]) F hr hx I (.cons rfl (.cons rx .nil)) hs)) fun _ _ z => cmpBack_of z
  obtain ⟨mA, J, _⟩ := ins_get I.hok ha
  have hobj := J.obj
  obtain ⟨od, J, _⟩ := J.look
  obtain ⟨m, hF⟩ := I.fr
  exact refl_K hi D hF I.ok.mod.kin J hobj hM.hc hM.hs hM.hr hM.hf hM.hu hc
end
end AZ

set_option Elab.async false
set_option maxRecDepth 100000
set_option maxHeartbeats 4000000
set_option linter.all false
namespace AZ
open PySem L2
section
variable {X : Cx}
/-- what str(x) and f'{x}' ask of the class at C: its own __str__ at f -/
structure StrM (K : PySem.W.Frag) (C f : Addr) : Prop where
  hs : PySem.W.findIn K (.ref C) "__str__" = some (some (.ref f))
  hf : PySem.W.isFn K (.ref f) = true
  hfm : PySem.W.findIn K (.ref C) "__format__" = some (some (.builtin "object.__format__"))
  hm : PySem.W.mroIn K C (.type "object") = some true
def rStrO (X : Cx) (d : Nat) (x : V) (H : Hp) (Q : VK) : Prop := ∃ (a C dx : Addr) (fs : List (Str × V)) (f : Addr) (CX : CXT) (k : Nat) (sp : Sp) (E : XK),
  x = .ref a ∧ H a = some (.ins C dx fs) ∧ StrM X.K C f ∧ FnR X.prog X.w X.K X.mg X.base CX k f sp ∧ Room (k + d) X.A ∧ Passes CX X E ∧ sp [x] H (fun v H1 => ∃ z, v = .str z ∧ Q (.str z) H1) E
theorem strBack_of {pins : List (Addr × Obj)} {σ : St} {Q : VK} {v : Value} {s : Shared} (h : EP X pins σ (fun v H1 => ∃ z, v = .str z ∧ Q (.str z) H1) v s) : PySem.W.StrBack (EP X pins σ Q) v s := by
  obtain ⟨z, H1, I1, rz, y, rfl, q⟩ := h
  obtain ⟨t, rfl⟩ := id rz
  exact ⟨.str y, H1, I1, rz, q⟩
theorem call_strO : CallR X (.type "str") (fun xs H Q => ∃ x, xs = [x] ∧ rStrO X 2 x H Q) := by
  intro pins s σ H xs us Q I rv q
  obtain ⟨x, rfl, a, C, dx, fs, f, CX, k, sp, E, rfl, ha, hM, F, hr, hx, hs⟩ := q
  cases rv with
  | cons r1 r2 =>
    cases r2
    cases r1
    have hc : wpAny (model X.prog X.w) X.A.in1.in1 (call (.ref f) [.ref a]) (PySem.W.StrBack (EP X pins σ Q)) X.xe s :=
      thn (wpAny_call (run_fnS (us := [.ref a]) (vs := [.ref a]) ⟨hr.in1.in1, rfl⟩ F hx I (.cons rfl .nil) hs)) fun v s3 z => strBack_of z
    obtain ⟨mA, J, _⟩ := ins_get I.hok ha
    obtain ⟨od, J, _⟩ := J.look
    exact PySem.W.kso_call hr.in1.in1.units0 I.kIn J hM.hs hM.hf hc
theorem uStr : CallR X (.type "str") (fun xs H Q => (∃ i, xs = [.int i] ∧ i.natAbs.log2 < 1920 ∧ Q (.str (toString i)) H) ∨ ∃ x, xs = [x] ∧ rStrO X 2 x H Q) := CallR.or' call_str_int call_strO
/-- {x}: a text, an int, an own one -/
def tFmtU (X : Cx) (te : TE) : TE := fun σ H Q => te σ H fun x H1 => ((∃ y : Str, x = .str y ∧ y.length ≤ sizeLine ∧ Q (.str y) H1) ∨ ∃ i : Int, x = .int i ∧ i.natAbs.log2 < 1920 ∧ Q (.str (toString i)) H1) ∨ rStrO X 1 x H1 Q
theorem pe_fmtU {e : Expr} {te : TE} {pos : Pos} (he : PE X e te) : PE X (.FormattedValue e (-1) none pos) (tFmtU X te) := by
  refine ⟨fun pins s σ H Q I h => ?_⟩
  refine wpAny_FormattedValue_plain (thn (he.run pins s σ H _ I h) fun v s1 hv => ?_)
  obtain ⟨x, H1, I1, r1, q⟩ := hv
  rcases q with (⟨y, rfl, hz, q⟩ | ⟨i, rfl, hz, q⟩) | ⟨a, C, dx, fs, f, CX, k, sp, E, rfl, ha, hM, F, hr, hx, hs⟩
  · obtain ⟨t, rfl⟩ := r1
    exact wpAny_formatField_str ⟨.str y, H1, I1, ⟨t, rfl⟩, q⟩ ⟨.str y, H1, I1.tok _, ⟨_, rfl⟩, q⟩ hz
  · obtain ⟨t, rfl⟩ := r1
    exact wpAny_formatField_int hz ⟨.str (toString i), H1, I1.tok _, ⟨_, rfl⟩, q⟩
  · obtain rfl : v = Value.ref a := r1
    have I2 := I1.tok (s1.toks + 1)
    have hc : wpAny (model X.prog X.w) X.A.in1 (call (.ref f) [.ref a]) (PySem.W.StrBack (EP X pins σ Q)) X.xe { s1 with toks := s1.toks + 1 } :=
      thn (wpAny_call (run_fnS (us := [.ref a]) (vs := [.ref a]) ⟨hr.in1, rfl⟩ F hx I2 (.cons rfl .nil) hs)) fun v s3 z => strBack_of z
    obtain ⟨mA, J, _⟩ := ins_get I1.hok ha
    obtain ⟨od, J, _⟩ := J.look
    exact PySem.W.kfo_fieldS hr.in1.units0 I1.kIn J hM.hfm hM.hm hM.hs hM.hf hc
end
end AZ

set_option Elab.async false
set_option maxRecDepth 100000
set_option maxHeartbeats 4000000
set_option linter.all false
namespace AZ
open PySem L2
/-- a def's promise where the last arguments are told by their names -/
def FnRk (P : Program) (w : World) (K : PySem.W.Frag) (mg : Str → Option Value) (base : Heap) (CX : CXT) (k : Nat) (f : Addr) (ks : List Str) (gV : List V → List V → List V) (sp : Sp) : Prop :=
  ∀ (A : Around) (outer : List Env) (s : Shared) (H : Hp) (us ws : List Value) (vs zs : List V) (Q : VK) (E : XK), Room k A → Env0 P w K mg base A outer s H → Vals vs us → Vals zs ws → sp (gV vs zs) H Q E →
    codeAny (model P w) A (.call (.ref f) ⟨us, ks.zip ws⟩) (CR CX outer P w H s Q E) s
theorem FnOk.rawk {P : Program} {w : World} {K : PySem.W.Frag} {mg : Str → Option Value} {base : Heap} {CX : CXT} {k : Nat} {f : Addr} {fd : FuncData} {ps ks : List Str} {sp : Sp} {g : List Value → List Value → List Value} {gV : List V → List V → List V}
    (F : FnOk P w K mg base CX k f fd ps sp) (hb : KBinds K fd ps ks g gV) (hK : ∀ {A : Around} {outer : List Env} {s : Shared} {H : Hp}, Env0 P w K mg base A outer s H → K.In s.heap) : FnRk P w K mg base CX k f ks gV sp := by
  intro A outer s H us ws vs zs Q E hr e0 r rz h
  have r2 := hb.rel r rz
  have hl : (g us ws).length = ps.length := by rw [← r2.length]; exact F.len _ _ _ _ h
  exact F.run A outer s H ⟨us, ks.zip ws⟩ (g us ws) (gV vs zs) Q E hr e0 (hb.to s us ws (hK e0) hl) r2 h
section
variable {X : Cx} {CX : CXT} {k : Nat} {C g : Addr} {sp : Sp} {E : XK} {o : Expr} {kws : List Keyword} {m : Str} {ks : List Str} {pos apos : Pos} {ta : TE} {t : TA} {gV : List V → List V → List V}
/-- o.m(k = e, ..) -/
def tMRk (C : Addr) (m : Str) (gV : List V → List V → List V) (sp : Sp) (E : XK) (ta : TE) (t : TA) : TE := fun σ H Q => ta σ H fun x H1 => ∃ a dx fs, x = .ref a ∧ H1 a = some (.ins C dx fs) ∧ fs.lookup m = none ∧ t σ H1 fun zs H2 => sp (gV [x] zs) H2 Q E
theorem pe_mRk {pl : Sem Bool} (he : PE X o ta) (c : Cls X.K C) (hm : Meth X.K C m g) (F : FnRk X.prog X.w X.K X.mg X.base CX k g ks gV sp) (hr : Room k X.A) (hx : Passes CX X E) (hkw : PK X kws t)
    (hall : (backToKw pos (keywordEach kws X.env)).all (·.1.isSome) = true := by rfl) (hks : (backToKw pos (keywordEach kws X.env)).filterMap (·.1) = ks := by rfl)
    (hpl : ((backTo pos (starEach [] X.env)).any (·.1) || (backToKw pos (keywordEach kws X.env)).any (·.1.isNone)) = false := by rfl)
    (ht : eval (.Call (.Attribute o m apos) [] kws pos) X.env = (eval o X.env >>= fun ov => standAt apos.atName >>= fun _ => holding [ov] (getMethod ov m pl) >>= fun r =>
      callWith pos r.1 r.2 (backTo pos (starEach [] X.env)) (backToKw pos (keywordEach kws X.env))) := by rfl) :
    PE X (.Call (.Attribute o m apos) [] kws pos) (tMRk C m gV sp E ta t) := by
  refine ⟨fun pins s σ H Q I h => ?_⟩
  refine PySem.W.methodCall_KW (pl := pl) (thn (he.run pins s σ H _ I h) fun u s1 ⟨x, H1, I1, rx, a, dx, fs, ex, ea, l, q⟩ => ?_) ht
  subst ex
  obtain rfl : u = Value.ref a := rx
  refine getmeth_ok I1 ea c hm l ?_
  refine PySem.W.callWith_KW0 (first := [.ref a]) (h₀ := X.base) I.ok.mod.kin hm.kp hall (thn (hkw.run pos pins s1 σ H1 _ I1 q) fun ws s2 ⟨zs, H2, I2, rz, q2⟩ => ⟨I2.kIn, ?_⟩) hpl
  rw [hks]
  refine wpAny_call (codeAny_mono (F X.A X.stack s2 H2 [.ref a] ws [.ref a] zs Q E hr I2.env0 (.cons rfl .nil) rz q2) fun r s' hq => ?_)
  cases r with
  | error e => exact hx pins σ H2 s2 e s' I2 hq
  | ok fl =>
    cases fl with
    | ret u => exact I2.after hq
    | next => exact False.elim hq
    | brk => exact False.elim hq
    | cont => exact False.elim hq
theorem uSubR : OpR X (binaryOp .Sub) (orR (rI0 fun i j => .int (i - j)) (orR (rOwn X .Sub) (rRefl X "sub"))) := op_or2 op_sub (op_or2 (op_ownB _) (op_refl rfl int_dec_sub))
theorem uNeR (hu : X.A.units + 64 < cLine) : OpR X (compareOp .NotEq) (orR rNe (orR (rOwnN X) (rNeD X.K))) := op_or2 op_ne (op_or2 op_ownN (op_neD hu))
theorem un_inv : UnR X (unaryOp .Invert) (rOwnU X "__invert__") := un_ownInv
end
end AZ

set_option Elab.async false
set_option maxRecDepth 100000
set_option maxHeartbeats 4000000
set_option linter.all false
/-! Own work: promises that know that no repr is under way (needed by repr of lists). -/
namespace AZ
open PySem L2 PyProof.Rows
abbrev NoG (A : Around) : Prop := A.guards = some []
theorem NoG.deeper {A : Around} (h : NoG A) (env : Env) : NoG (A.deeper env) := by
  obtain ⟨hd, d, fr, gs, u⟩ := A
  exact h
/-- a def's promise where no repr is under way -/
def FnG (P : Program) (w : World) (K : PySem.W.Frag) (mg : Str → Option Value) (base : Heap) (CX : CXT) (k : Nat) (f : Addr) (sp : Sp) : Prop :=
  ∀ (A : Around) (out : List Env) (z : Shared) (Hp0 : Hp) (us : List Value) (vs : List V) (Q : VK) (E : XK), NoG A → Room k A → Env0 P w K mg base A out z Hp0 → Vals vs us → sp vs Hp0 Q E →
    codeAny (model P w) A (.call (.ref f) ⟨us, []⟩) (CR CX out P w Hp0 z Q E) z
section
variable {P : Program} {w : World} {K : PySem.W.Frag} {mg : Str → Option Value} {base : Heap} {CX : CXT} {k : Nat} {f : Addr} {sp sp' : Sp}
theorem FnG.imp (F : FnG P w K mg base CX k f sp) (h : ∀ vs H Q E, sp' vs H Q E → sp vs H Q E) : FnG P w K mg base CX k f sp' :=
  fun A out z G us vs Q E ng room env vals prom => F A out z G us vs Q E ng room env vals (h _ _ _ _ prom)
theorem FnG.of (F : FnR P w K mg base CX k f sp) : FnG P w K mg base CX k f sp := fun A out z G us vs Q E _ => F A out z G us vs Q E
def valOf : Flow → Value
  | .ret v => v
  | _ => .none
/-- its end, from the end of its body -/
theorem ends_CR {N : List Str} {qual : Str} {scope : Scope} {cdv : Value} {A : Around} {out : List Env} {z : Shared} {G : Hp} {Q : VK} {E : XK} {fl : Flow} {z' : Shared}
    (q : SP (cxOf CX P w K mg base N qual scope f cdv A out z G E) [] { nx := fun _ H' => Q .non H', rt := Q } fl z') :
    CR CX out P w G z Q E (.ok (.ret (valOf fl))) z' := by
  cases fl with
  | ret v => obtain ⟨x, σ, G2, J, rel, q⟩ := q; exact ⟨x, G2, J.os, J.bare, J.base, J.hok, rel, q⟩
  | next => obtain ⟨σ, G2, J, q⟩ := q; exact ⟨.non, G2, J.os, J.bare, J.base, J.hok, rfl, q⟩
  | brk => obtain ⟨σ, G2, J, q⟩ := q; exact q.elim
  | cont => obtain ⟨σ, G2, J, q⟩ := q; exact q.elim
end
section
variable {P : Program} {w : World} {K : PySem.W.Frag} {mg : Str → Option Value} {base : Heap} {k : Nat} {f : Addr} {sp : Sp} {x qual : Str} {st : Stmt} {fd : FuncData} {N ps : List Str}
/-- a def by its body, known to run where no repr is under way -/
theorem fnG_of (F : Fun K x qual st f fd) (S : FnScope N ps (defScope st)) (len : ∀ vs H Q E, sp vs H Q E → vs.length = ps.length)
    (bd : ∀ (cdv : Value) (A : Around) (out : List Env) (z : Shared) (G : Hp) (vs : List V) (Q : VK) (E : XK), NoG (A.deeper (envOfC qual (defScope st) z.heap.objs.size f cdv)) →
      Room k (A.deeper (envOfC qual (defScope st) z.heap.objs.size f cdv)) → sp vs G Q E →
      ∃ t, PSs (cxOf CX0 P w K mg base N qual (defScope st) f cdv A out z G E).nox (defBody st) t ∧ t { nx := fun _ H' => Q .non H', rt := Q } (start N vs) G)
    (hb : Binds K fd ps []) : FnG P w K mg base CX0 (k + 1) f sp := by
  obtain ⟨oc, od, kV, doc, pm, an, cdv, ct, osl, rfl, look, rec⟩ := F.ex
  intro A out z G us vs Q E ng room env vals prom
  have keep : ∀ b o, base.get? b = some o → z.heap.get? b = some o := fun b o e => (env.bs b o e).1
  have kin := env.mod.kin.keeps keep
  have many : us.length = ps.length := vals.length.symm.trans (len _ _ _ _ prom)
  have bnd := hb z us kin (by rw [List.append_nil]; exact many)
  rw [List.append_nil] at bnd
  have kinds : ∀ y ∈ ps.zip us, (defScope st).names.lookup y.1 = some .local ∨
      ((defScope st).names.lookup y.1 = some .cell ∧ ((cellsFrom (z.heap.objs.size + 1) (defScope st).names []).lookup y.1).isSome = true) := by
    rintro ⟨n, v⟩ there
    exact (S.par n (List.of_mem_zip there).1).imp id fun c => ⟨c, PySem.W.cellsFrom_some _ _ _ (.inl c)⟩
  refine codeAny_call_function room.depth (kin _ _ look) rfl S.co S.gen rfl (PySem.W.codeRec_of kin rec) (bnd _ _ _ _ (wpAny_newFunctionEnv_cells S.kind kinds ?_))
  rintro env2 rfl z1 made
  refine ⟨(env.mod.nolimit.keeps keep).keeps made.toInCall.keep, codeAny_func ?_⟩
  obtain ⟨t, body, run⟩ := bd cdv A out z G vs Q E (ng.deeper _) (room.deeper _) prom
  exact wpAny_mono (body.nox.run [] z1 (start N vs) G _ (inv_start S room.hd env (len _ _ _ _ prom) vals made) run) (fun fl z2 q => ends_CR q) fun e z2 q => q
end
section
variable {X : Cx} {CX : CXT} {k : Nat} {g : Addr} {sp : Sp} {E : XK} {e : Expr} {es : List Expr} {x : Str} {p pos : Pos} {t : TA}
theorem run_fnG {pins : List (Addr × Obj)} {σ : L2.St} {H : Hp} {s : Shared} {Q : VK} {us : List Value} {vs : List V} (F : FnG X.prog X.w X.K X.mg X.base CX k g sp) (ng : NoG X.A) (hr : Room k X.A) (hx : Passes CX X E) (I : Inv X pins σ H s) (r : Vals vs us) (h : sp vs H Q E) :
    codeAny (model X.prog X.w) X.A (.call (.ref g) ⟨us, []⟩) (fun r s' => match r with | .ok (.ret v) => EP X pins σ Q v s' | .ok _ => False | .error e => X.xe e s') s :=
  codeAny_mono (F X.A X.stack s H us vs Q E ng hr I.env0 r h) fun r s' hq => match r, hq with
    | .error e, hq => hx pins σ H s e s' I hq
    | .ok (.ret _), hq => I.after hq
    | .ok .next, hq => hq.elim
    | .ok .brk, hq => hq.elim
    | .ok .cont, hq => hq.elim
/-- x(e, ..), x a def of the module that wants no repr under way -/
theorem pe_fnG (F : FnG X.prog X.w X.K X.mg X.base CX k g sp) (ng : NoG X.A) (hr : Room k X.A) (hk : PySem.W.keepIn X.K (.ref g) = true) (hm : X.mg x = some (.ref g)) (hx : Passes CX X E) (ha : PA X (e :: es) t) (hg : Gl X x := by rfl) (hd : (x == ("__debug__" : Str)) = false := by decide)
    (he : starEach (e :: es) X.env = (false, eval e X.env) :: starEach es X.env := by rfl) (hst : (backTo pos (starEach es X.env)).any (·.1) = false := by rfl) :
    PE X (.Call (.Name x p) (e :: es) [] pos) (fun σ H Q => t σ H fun vs H1 => sp vs H1 Q E) :=
  ⟨fun pins s σ H Q I h => wpAny_Call_Name_kw (ld_glob I hg hm (PySem.W.callWith_K (h₀ := X.base) I.ok.mod.kin hk
    (thn (ha.run pos pins s σ H _ I h) fun us s1 ⟨vs, H1, I1, r, q⟩ => ⟨I1.kIn, wpAny_call (run_fnG F ng hr hx I1 r q)⟩) he hst) hd)⟩
end
/-! ## the head: the law's promise at the heap behind the top -/
theorem guards_caller : NoG callerA := rfl
section
variable {P : Program} {w : World} {K : PySem.W.Frag} {mg mb : Str → Option Value} {k : Nat} {fa a : Addr} {sp : Sp} {z : Shared} {vs : List Value} {ns : List Int}
/-- what the law's end leaves -/
def EndsTrue (z : Shared) (r : Result) (z' : Shared) : Prop := r = .ok (.ret (.bool true)) ∧ OldK z.heap z'.heap ∧ z'.os = z.os ∧ AllBare z'.gens
/-- from one abstract heap that tracks at most the script -/
theorem headG (kin : K.In z.heap) (hns : z.heap.Ns mainGlobals mg) (hmb : z.heap.Ns builtinsNs mb) (boot : ∀ x : Str, x ≠ "__name__" → mb x = bootBuiltins x) (lim : z.heap.NoLimit) (nogen : z.gens = #[])
    (room : Room k callerA) (F : ∀ base : Heap, K.In base → base.Ns mainGlobals mg → FnG P w K mg base CX0 k fa sp) (prom : ∀ H : Hp, Only H → SqL K H a (ns.map V.int) → sp [.ref a] H (fun v _ => v = .bl true) E0)
    (H : Hp) (only : Only H) (seq : SqL K H a (ns.map V.int)) (hok : HOk P w H z.heap) (just : ∀ b, H b ≠ none → b = a ∧ K.lookup a = none) (obj : z.heap.get? a = some { cls := .type "list", data := .seq vs.toArray }) :
    codeAny (model P w) callerA (.call (.ref fa) ⟨[.ref a], []⟩) (EndsTrue z) z := by
  have free : ∀ b o, z.heap.get? b = some o → (b = a → K.lookup a ≠ none ∨ (∃ es ep, o.data = .dict es ep)) → (hidT z.heap H).get? b = some o := fun b o e n => hidT_get e (by
    cases q : H b with
    | none => rfl
    | some u =>
      obtain ⟨rfl, nk⟩ := just b (by rw [q]; exact fun t => nomatch t)
      rcases n rfl with n | ⟨es, ep, d⟩
      · exact absurd nk n
      · rw [obj] at e; cases e; cases d)
  have names : ∀ b m, z.heap.Ns b m → (hidT z.heap H).Ns b m := fun b m ⟨o, es, ep, e, d, r⟩ => ⟨o, es, ep, free b o e fun _ => .inr ⟨es, ep, d⟩, d, r⟩
  have kinB : K.In (hidT z.heap H) := fun b o e => free b o (kin b o e) fun eq => .inl (by rw [← eq, e]; exact fun t => nomatch t)
  obtain ⟨m2, l1, l2⟩ := lim
  have env : Env0 P w K mg (hidT z.heap H) callerA [] z H := {
    frames := rfl
    mod := ⟨kinB, names _ _ hns, ⟨mb, names _ _ hmb, boot⟩, ⟨m2, names _ _ l1, l2⟩⟩
    bs := fun _ _ e => of_hidT e
    bsz := Nat.le_of_eq (hidT_size ..)
    funs := trivial
    frf := fun _ t => nomatch t
    hok := hok
    bare := .of_eq nogen }
  refine codeAny_mono (F _ kinB (names _ _ hns) callerA [] z H [.ref a] [.ref a] _ _ guards_caller room env (.cons rfl .nil) (prom H only seq)) fun r z' q => ?_
  match r, q with
  | .error _, q => exact q.elim
  | .ok .next, q => exact q.elim
  | .ok .brk, q => exact q.elim
  | .ok .cont, q => exact q.elim
  | .ok (.ret u), ⟨v, H2, os, bare, un, hok2, rel, tr⟩ =>
    subst tr
    obtain rfl : u = Value.bool true := rel
    refine ⟨rfl, OldK.of_keep fun b o e => ?_, os, bare⟩
    rcases only b with n | ⟨ob, xs, n⟩
    · exact un.keep b o e n (fun t => nomatch t) (fun t => nomatch t)
    · have g1 := (hok b _ n).1
      rw [e] at g1
      cases g1
      exact (hok2 b _ (un.frzs b _ _ n)).1
theorem lawG (kin : K.In z.heap) (hns : z.heap.Ns mainGlobals mg) (hmb : z.heap.Ns builtinsNs mb) (boot : ∀ x : Str, x ≠ "__name__" → mb x = bootBuiltins x) (lim : z.heap.NoLimit) (nogen : z.gens = #[])
    (obj : z.heap.get? a = some { cls := .type "list", data := .seq vs.toArray }) (isI : IntsAre vs ns) (few : ns.length ≤ sizeLine)
    (room : Room k callerA) (F : ∀ base : Heap, K.In base → base.Ns mainGlobals mg → FnG P w K mg base CX0 k fa sp) (prom : ∀ H : Hp, Only H → SqL K H a (ns.map V.int) → sp [.ref a] H (fun v _ => v = .bl true) E0) :
    codeAny (model P w) callerA (.call (.ref fa) ⟨[.ref a], []⟩) (EndsTrue z) z := by
  cases own : K.lookup a with
  | some o =>
    have same := kin a o own
    rw [obj] at same
    cases same
    refine headG kin hns hmb boot lim nogen room F prom (fun _ => none) (fun _ => .inl rfl) (.inr ⟨_, vs.toArray, _, own, rfl, rfl, rfl, ?_, vals_ints isI⟩) (fun _ _ t => nomatch t) (fun _ t => absurd rfl t) obj
    rw [List.size_toArray, isI.length]; exact few
  | none =>
    have at_ : ∀ b u, (if b = a then some (HO.frz { cls := .type "list", data := .seq vs.toArray } (.lst (ns.map V.int))) else none) = some u → b = a ∧ u = .frz { cls := .type "list", data := .seq vs.toArray } (.lst (ns.map V.int)) := fun b u t => by
      split at t
      · rename_i h; exact ⟨h, (Option.some.inj t).symm⟩
      · cases t
    refine headG kin hns hmb boot lim nogen room F prom (fun b => if b = a then some (.frz { cls := .type "list", data := .seq vs.toArray } (.lst (ns.map V.int))) else none) (fun b => ?_) (.inl (.inr ⟨_, if_pos rfl⟩)) (fun b u t => ?_) (fun b t => ?_) obj
    · by_cases h : b = a
      · exact .inr ⟨_, _, if_pos h⟩
      · exact .inl (if_neg h)
    · obtain ⟨rfl, rfl⟩ := at_ b u t
      exact ⟨obj, by rw [List.length_map]; exact few, vs, _, vals_ints isI, obj⟩
    · by_cases h : b = a
      · exact ⟨h, own⟩
      · exact absurd (if_neg h) t
end
/-- the goal of the head, from the law's promise -/
theorem walkG {l : PySem.W.OpenLaw} {n k : Nat} {q : Program} {loose : List Str} {XP : (Str → Option Value) → Heap → Prop} {YP : World → Heap → Prop} {d : DefRec} {K : Params → PySem.W.Frag} {sp : PySem.W.Frag → Sp}
    (hn : l.most = some n) (hn2 : n ≤ sizeLine) (hdf : d.params.defaults = []) (room : Room k callerA) (hY : ∀ (w : World) (h : Heap), YP w h → (K w.params).In h)
    (F : ∀ (w : World) (mg : Str → Option Value) (fa : Addr) (h : Heap), (K w.params).In h → h.Ns mainGlobals mg → mg d.name = some (.ref fa) →
      ∀ base : Heap, (K w.params).In base → base.Ns mainGlobals mg → FnG l.prog w (K w.params) mg base CX0 k fa (sp (K w.params)))
    (prom : ∀ (K : PySem.W.Frag) (H : Hp) (a : Addr) (ns : List Int), ns.length ≤ n → Only H → SqL K H a (ns.map V.int) → sp K [.ref a] H (fun v _ => v = .bl true) E0) :
    PySem.W.WalkO q loose XP YP l.row.toRowW d [] (fun f vs => PySem.call f vs) :=
  Att.attach_call hn hdf fun w _ z mg mb fa o pm cd doc a vs ns G Y _ _ _ hmg obj isI few nogen =>
    lawG (hY w _ Y) G.T.g G.T.b G.T.builtins G.T.nolimit nogen obj isI (Nat.le_trans few hn2) room (fun base => F w mg fa _ (hY w _ Y) G.T.g hmg base) fun H o s => prom _ H a ns few o s
/-! ## static methods without arguments -/
section
variable {X : Cx} {CX : CXT} {k : Nat} {C g : Addr} {sp : Sp} {E : XK} {o : Expr} {m : Str} {pos apos : Pos} {ta : TE}
theorem pe_smeth0 {pl : Sem Bool} (he : PE X o ta) (c : SMet X.K C m g) (F : FnR X.prog X.w X.K X.mg X.base CX k g sp) (hr : Room k X.A) (hx : Passes CX X E)
    (ht : eval (.Call (.Attribute o m apos) [] [] pos) X.env = (eval o X.env >>= fun ov => standAt apos.atName >>= fun _ => holding [ov] (getMethod ov m pl) >>= fun r =>
      callWith pos r.1 r.2 (backTo pos (starEach [] X.env)) (backToKw pos (keywordEach [] X.env))) := by rfl) :
    PE X (.Call (.Attribute o m apos) [] [] pos) (fun σ H Q => ta σ H fun x H1 => x = .ref C ∧ sp [] H1 Q E) := by
  refine ⟨fun pins s σ H Q I h => ?_⟩
  refine PySem.W.methodCall_KW (pl := pl) (thn (he.run pins s σ H _ I h) fun u s1 ⟨x, H1, I1, rx, ex, q⟩ => ?_) ht
  subst ex
  obtain rfl : u = Value.ref C := rx
  obtain ⟨mc, p, rest, r, at_, rc⟩ := c.ex
  refine PySem.W.method_cls I1.kIn r.ga (PySem.W.cls_bind I1.kIn r.rd at_ (wpAny_call (PySem.W.sm_get (s := { s1 with toks := s1.toks + 1 }) I1.kIn rc (PySem.W.handed_on rfl ?_))))
  exact PySem.W.callWith_K0 (first := []) (I1.tok _).kIn c.kp (wpAny_call (run_fnR (us := []) (vs := []) F hr hx (I1.tok _) .nil q))
end
/-! ## repr -/
section
variable {X : Cx}
def rReprD (K : PySem.W.Frag) : List V → Hp → VK → Prop := fun xs H Q => ∃ (a : Addr) (d : PyData), xs = [.ref a] ∧ Dp K H (.ref a) d ∧ d.showable = true ∧ d.hasDict = false ∧ d.depth ≤ 60 ∧ d.shown.length ≤ sizeLine ∧ Q (.str d.shown) H
/-- repr of a list or tuple of data, none under way -/
theorem call_reprD (ng : NoG X.A) (hu : X.A.units + 64 < cLine) : CallR X (.builtin "repr") (rReprD X.K) := by
  intro pins s σ H xs us Q I rv q
  obtain ⟨a, d, rfl, hd, sh, nd, dp, sz, q⟩ := q
  obtain ⟨u, rfl, ru⟩ := vals1 rv
  obtain rfl : u = Value.ref a := ru
  obtain ⟨as, r⟩ := Dp.reads I d (.ref a) (.ref a) hd rfl
  exact repr_of_reads' r sh (PyData.noDict_hsm nd) ng (by omega) (fun _ _ e => e) (fun h' u tk hk => ⟨.str d.shown, H, I.kept hk, ⟨_, rfl⟩, q⟩) sz
theorem call_reprB : CallR X (.builtin "repr") (fun xs H Q => ∃ b, xs = [.bl b] ∧ Q (.str (if b then "True" else "False")) H) := by
  intro pins s σ H xs us Q I rv q
  obtain ⟨b, rfl, q⟩ := q
  obtain ⟨u, rfl, ru⟩ := vals1 rv
  obtain rfl : u = Value.bool b := ru
  exact PySem.P.repr_of_bool ⟨.str (if b then "True" else "False"), H, I.tok _, ⟨_, rfl⟩, q⟩
theorem call_reprI : CallR X (.builtin "repr") (fun xs H Q => ∃ i, xs = [.int i] ∧ i.natAbs.log2 < 1920 ∧ Q (.str (toString i)) H) := by
  intro pins s σ H xs us Q I rv q
  obtain ⟨i, rfl, hz, q⟩ := q
  obtain ⟨u, rfl, t, rfl⟩ := vals1 rv
  exact PySem.P.repr_of_int hz ⟨.str (toString i), H, I.tok _, ⟨_, rfl⟩, q⟩
theorem uRepr (ng : NoG X.A) (hu : X.A.units + 64 < cLine) : CallR X (.builtin "repr") (fun xs H Q => (∃ b, xs = [.bl b] ∧ Q (.str (if b then "True" else "False")) H) ∨ (∃ i, xs = [.int i] ∧ i.natAbs.log2 < 1920 ∧ Q (.str (toString i)) H) ∨ rReprD X.K xs H Q) :=
  CallR.or' call_reprB (CallR.or' call_reprI (call_reprD ng hu))
theorem uIsiK {K : PySem.W.Frag} (h : X.K = K) : CallR X (.builtin "isinstance") (fun xs H Q => rIsi K xs H Q ∨ rIsiT K xs H Q) := by
  subst h
  exact uIsi
/-- != of ints and the like, of own ones, of tuples with own ones, of data -/
theorem uNeX {n : Nat} {D : Eqv} (hD : Mon D) (h : EqG X n D) (hr : Room (n + 1) X.A) (hu : X.A.units + 64 < cLine) : OpR X (compareOp .NotEq) (orR rNe (orR (rOwnN X) (orR (rNeG (DTup X.K D)) (rNeD X.K)))) :=
  op_or2 op_ne (op_or2 op_ownN (op_or2 (op_neG (ncG_tup hD h) hr) (op_neD hu)))
end
/-- how one positional value and one by its name are bound -/
def g11 {α : Type} : List α → List α → List α
  | [a], [b] => [a, b]
  | _, _ => []
theorem kbinds11 {K : PySem.W.Frag} {fd : FuncData} {p q : Str} (h : ∀ a b : Value, bindArgs fd ⟨[a], [(q, b)]⟩ = pure [(p, a), (q, b)]) : KBinds K fd [p, q] [q] g11 g11 where
  to := fun s us ws _ hl => match us, ws, hl with
    | [a], [b], _ => .of_eq (h a b)
    | [], _, hl => by cases hl
    | [_], [], hl => by cases hl
    | [_], _ :: _ :: _, hl => by cases hl
    | _ :: _ :: _, _, hl => by cases hl
  rel := fun {vs us zs ws} r rz => match vs, us, zs, ws, r, rz with
    | [_], [_], [_], [_], .cons a .nil, .cons b .nil => .cons a (.cons b .nil)
    | [], [], _, _, .nil, _ => .nil
    | [_], [_], [], [], .cons _ .nil, .nil => .nil
    | [_], [_], _ :: _ :: _, _ :: _ :: _, .cons _ .nil, .cons _ (.cons _ _) => .nil
    | _ :: _ :: _, _ :: _ :: _, _, _, .cons _ (.cons _ _), _ => .nil
end AZ

set_option Elab.async false
set_option maxRecDepth 100000
set_option maxHeartbeats 4000000
set_option linter.all false
/-! Own work: != of lists with own items; own == beside other types; objects and classes called with keywords. -/
namespace GQ
open PySem PySem.SeqAt
open AutoSeq1 (wpAny_loadPart')
open MeetsSeq MeetsSeq2 MeetsSeq3 SeqRoads2
section
variable {prog : Program} {w : World} {A : Around} {R : Result → Shared → Prop}
theorem list_ne_from (l b : Addr) (N : Nat) (J : Nat → Shared → Prop) (walk : ListI prog w A (fun x z => R (.error x) z) l b N J) (last : ∀ z, J N z → R (.ok (.ret (.bool false))) z) :
    ∀ (m i : Nat), i + m = N → ∀ z, J i z → wpAny (model prog w) A.in1 (Builtin.«list.__eq__.loop» ⟨[.ref l, .ref b, rawInt i, rawInt 3], []⟩) (FinOf prog w A R) (fun x z' => R (.error x) z') z
  | 0, i, e, z, h => by
    obtain ⟨xs, ys, n1, n2, g1, g2, e1, e2, _⟩ := walk _ _ h
    obtain rfl : i = N := by omega
    have done := last z h
    obtain ⟨hp, gs, dr, tk, os⟩ := z
    have none1 : xs[((i : Nat) : Int).toNat]? = none := by simp; omega
    have none2 : ys[((i : Nat) : Int).toNat]? = none := by simp; omega
    wp_walk using wpAny_loadPart' g1, wpAny_loadPart' g2
    rw [none1, none2]
    wp_walk using wpAny_loadPart' g1, wpAny_loadPart' g2
    show R (.ok (.ret (.bool (xs.size != ys.size)))) _
    rw [e1, e2]
    simpa using done
  | m + 1, i, e, z, h => by
    obtain ⟨xs, ys, n1, n2, g1, g2, e1, e2, turn⟩ := walk _ _ h
    have k1 : i < xs.size := by omega
    have k2 : i < ys.size := by omega
    have step := turn k1 k2
    have next := list_ne_from l b N J walk last m (i + 1) (by omega)
    obtain ⟨hp, gs, dr, tk, os⟩ := z
    have some1 : xs[((i : Nat) : Int).toNat]? = some xs[i] := by simp [k1]
    have some2 : ys[((i : Nat) : Int).toNat]? = some ys[i] := by simp [k2]
    have more : ((i : Int) + 1) = ((i + 1 : Nat) : Int) := by omega
    wp_walk using wpAny_loadPart' g1, wpAny_loadPart' g2
    rw [some1, some2]
    refine wpAny_bind (wpAny_mono step (fun r z2 q => ?_) fun _ _ x => x)
    obtain ⟨rfl, q⟩ := q
    have nx := next z2 q
    obtain ⟨hp2, gs2, dr2, tk2, os2⟩ := z2
    wp_walk
    rw [more]
    exact ⟨plainId_quiet plain_eq_loop _, codeAny_builtin entry_eq_loop ((Around.under_plainId plain_eq_loop _).symm ▸ nx)⟩
theorem list_ne_all (l b : Addr) (N : Nat) (J : Nat → Shared → Prop) (walk : ListI prog w A (fun x z => R (.error x) z) l b N J) (last : ∀ z, J N z → R (.ok (.ret (.bool false))) z) {z : Shared} (h : J 0 z) :
    wpAny (model prog w) A.in1 (Builtin.«list.__ne__» ⟨[.ref l, .ref b], []⟩) (FinOf prog w A R) (fun x z' => R (.error x) z') z := by
  obtain ⟨xs, ys, n1, n2, g1, g2, e1, e2, _⟩ := walk _ _ h
  have nx := list_ne_from (A := A) (R := R) l b N J walk last N 0 (Nat.zero_add N) z h
  obtain ⟨hp, gs, dr, tk, os⟩ := z
  have isList := AutoSeq1.sub_list_list
  have same : ¬ (xs.size != ys.size) = true := by simp [e1, e2]
  wp_walk using wpAny_loadPart' g1, wpAny_loadPart' g2
  exact ⟨plainId_quiet plain_eq_loop _, codeAny_builtin entry_eq_loop ((Around.under_plainId plain_eq_loop _).symm ▸ nx)⟩
end
section
variable {prog : Program} {w : World} {A : Around} {X : Value → Shared → Prop} {z : Shared}
theorem ne_lists {l b : Addr} {N : Nat} {Q : Value → Shared → Prop} (room : A.units < cLine) (J : Nat → Shared → Prop) (walk : ListI prog w A X l b N J) (last : ∀ z, J N z → Q (.bool false) z) (h : J 0 z) :
    wpAny (model prog w) A (richCompare .NotEq (.ref l) (.ref b)) Q X z := by
  obtain ⟨xs, ys, n1, n2, g1, g2, _, _, _⟩ := walk _ _ h
  exact wpAny_richCompare_same_room (op := .NotEq) ⟨_, g1, rfl⟩ ⟨_, g2, rfl⟩ F.slot_list_ne (call_here F.slot_list_ne ⟨_, g1, rfl⟩ F.entry_list_ne (F.args_list_ne_2 _ _)
    (list_ne_all (R := wants (fun v s' => v ≠ .notImplemented ∧ Q v s') X) l b N J walk (fun z' q => ⟨(fun x => nomatch x), last z' q⟩) h)) room
end
end GQ
namespace AZ
open PySem L2
section
variable {X : Cx} {n : Nat} {D : Eqv}
theorem ncG_list (hD : Mon D) (h : EqG X n D) : NcG X (n + 1) (DList D) := by
  intro A pins s σ H x y u v sb I rx ry d
  obtain ⟨a, b, xs, ys, rfl, rfl, ha, hb, p⟩ := d
  cases rx
  cases ry
  refine GQ.ne_lists (N := xs.length) sb.room.units0 (fun _ s' => LoopI X pins σ H s') (fun i s' q => ?_) (fun s' q => ⟨rfl, q⟩) ⟨H, I, Ext.rfl'⟩
  obtain ⟨H1, I1, e1⟩ := id q
  obtain ⟨z, its, k, r, e⟩ := I1.hok a _ (e1 _ _ ha)
  obtain ⟨z2, its2, k2, r2, e2⟩ := I1.hok b _ (e1 _ _ hb)
  exact ⟨its.toArray, its2.toArray, k, k2, e, e2, by rw [List.size_toArray, ← r.length], by rw [List.size_toArray, ← r2.length, ← p.1], fun h1 h2 => turnG hD h sb p r r2 i h1 h2 s' q⟩
/-- own == where the right side is of a built-in type -/
def RightT (H : Hp) (y : V) (T : String) : Prop := (T = "str" ∧ ∃ z, y = .str z) ∨ (T = "tuple" ∧ ∃ b xs, y = .ref b ∧ H b = some (.tup xs))
def rOwnT (X : Cx) (op : CmpOp) : R2 := fun x y H Q => ∃ (T : String) (a C dx : Addr) (fs : List (Str × V)) (f : Addr) (CX : CXT) (k : Nat) (sp : Sp) (E : XK),
  x = .ref a ∧ H a = some (.ins C dx fs) ∧ RightT H y T ∧ PySem.W.notFirst X.K C (.type T) = true ∧ CmpM X.K C op f ∧ FnR X.prog X.w X.K X.mg X.base CX k f sp ∧ Room k X.A ∧ Passes CX X E ∧ sp [x, y] H Q E
theorem op_ownT (op : CmpOp) (hop : ∀ a b, compareOp op a b = richCompare op a b := by intro _ _; rfl) : OpR X (compareOp op) (rOwnT X op) := by
  intro pins s σ H x y v u Q I rx ry h
  obtain ⟨T, a, C, dx, fs, f, CX, k, sp, E, rfl, ha, hR, hT, hM, F, hr, hx, hs⟩ := h
  obtain rfl : v = Value.ref a := rx
  have hc : wpAny (model X.prog X.w) X.A (call (.ref f) [.ref a, u]) (PySem.W.CmpBack (EP X pins σ Q)) X.xe s :=
    thn (wpAny_call (run_fnR (us := [.ref a, u]) (vs := [.ref a, y]) F hr hx I (.cons rfl (.cons ry .nil)) hs)) fun _ _ z => cmpBack_of z
  obtain ⟨mA, J, _⟩ := ins_get I.hok ha
  obtain ⟨od, J, _⟩ := J.look
  obtain ⟨m, hF⟩ := I.fr
  rw [hop]
  rcases hR with ⟨rfl, z, rfl⟩ | ⟨rfl, b, xs, rfl, hb⟩
  · obtain ⟨t, rfl⟩ := ry
    exact PySem.W.cmp_K (tb := .type "str") hr.units0 hF I.ok.mod.kin J (PySem.W.Looks.of_pure rfl) hT hM.hs hM.hf hc
  · obtain rfl : u = Value.ref b := ry
    obtain ⟨its, r, e, _⟩ := I.tuple (SqT.of hb)
    obtain ⟨o, g, c, _⟩ := id e
    have look : PySem.W.Looks (model X.prog X.w) s.heap (typeOf (.ref b)) (.type "tuple") := fun A Q E z k q => wpAny_typeOf_ref (k _ _ g) (by rw [c]; exact q)
    exact PySem.W.cmp_K (tb := .type "tuple") hr.units0 hF I.ok.mod.kin J look hT hM.hs hM.hf hc
end
end AZ
namespace AZ
open PySem L2 PyProof.Rows
/-- an object called with keywords -/
theorem callOk_of {M : Model} {A : Around} {E : Value → Shared → Prop} {s : Shared} {a : Addr} {pos : Pos} {Q : Value → Shared → Prop} {args : List (Bool × Sem Value)} {kws : List (Option Str × Sem Value)} (plain : (args.any (·.1) || kws.any (·.1.isNone)) = false)
    (h : wpAny M A (evalArgs (.ref a) true args kws) (fun z s1 => (∃ C ox od, PySem.W.InstAt s1.heap a ox C od ∧ ox.data = .plain) ∧ wpAny M A (call (.ref a) z.pos z.kw) Q E s1) E s) : wpAny M A (callWith pos (.ref a) [] args kws) Q E s := by
  unfold callWith
  refine wpAny_bind (wpAny_holding (wpAny_mono h (fun z s1 q => wpAny_bind (wpAny_standAt ?_)) fun _ _ q => q))
  obtain ⟨⟨C, ox, od, at_, dat⟩, q⟩ := q
  simp only [plain]
  refine wpAny_bind ((PySem.W.kco_keeper (M := M) at_ dat).here (wpAny_bind (wpAny_mono (wpAny_operateT q) (fun r s2 q2 => ?_) fun _ _ q => q)))
  exact wpAny_bind (wpAny_holding (wpAny_point (wpAny_pure q2)))
section
variable {X : Cx} {CX : CXT} {k : Nat} {C g : Addr} {sp : Sp} {E : XK} {fe : Expr} {kws : List Keyword} {ks : List Str} {x : Str} {p pos : Pos} {tf : TE} {t : TA} {gV : List V → List V → List V}
/-- f(k = e, ..), f an expression that gives an instance of C -/
def tCallOk (X : Cx) (C : Addr) (gV : List V → List V → List V) (sp : Sp) (E : XK) (tf : TE) (t : TA) : TE := fun σ H Q => tf σ H fun y H1 => ∃ a, y = V.ref a ∧ t σ H1 fun zs H2 => StX.InsC X H2 a C ∧ sp (gV [V.ref a] zs) H2 Q E
theorem pe_callOk (hf : PE X fe tf) (c : StX.CallO X.K C g) (F : FnRk X.prog X.w X.K X.mg X.base CX k g ks gV sp) (hr : Room k X.A) (hx : Passes CX X E) (hkw : PK X kws t)
    (hall : (backToKw pos (keywordEach kws X.env)).all (·.1.isSome) = true := by rfl) (hks : (backToKw pos (keywordEach kws X.env)).filterMap (·.1) = ks := by rfl)
    (ht : eval (.Call fe [] kws pos) X.env = (do callWith pos (← eval fe X.env) [] (backTo pos (starEach [] X.env)) (backToKw pos (keywordEach kws X.env))) := by rfl)
    (hpl : ((backTo pos (starEach [] X.env)).any (·.1) || (backToKw pos (keywordEach kws X.env)).any (·.1.isNone)) = false := by rfl) : PE X (.Call fe [] kws pos) (tCallOk X C gV sp E tf t) := by
  refine ⟨fun pins s σ H Q I h => ?_⟩
  rw [ht]
  refine wpAny_bind (thn (hf.run pins s σ H _ I h) fun u s1 ⟨y, H1, I1, ry, a, ey, q⟩ => ?_)
  subst ey
  obtain rfl : u = Value.ref a := ry
  refine callOk_of hpl (evalArgs_kw2_nil hall (thn (hkw.run pos pins s1 σ H1 _ I1 q) fun ws s2 ⟨zs, H2, I2, rz, hi, q2⟩ => ?_))
  obtain ⟨ox, od, J, hd⟩ := StX.insC_at I2 hi
  refine ⟨⟨C, ox, od, J, hd⟩, ?_⟩
  rw [hks]
  refine wpAny_call (PySem.W.kco_code I2.kIn J hd c.at_ c.fn c.fi (codeAny_mono (F X.A X.stack s2 H2 [.ref a] ws [.ref a] zs Q E hr I2.env0 (.cons rfl .nil) rz q2) fun r s' hq => ?_))
  match r, hq with
  | .error e, hq => exact hx pins σ H2 s2 e s' I2 hq
  | .ok (.ret _), hq => exact I2.after hq
  | .ok .next, hq => exact hq.elim
  | .ok .brk, hq => exact hq.elim
  | .ok .cont, hq => exact hq.elim
/-- C(k = e, ..): a new instance and its dict, then __init__ -/
def tMakeRk (C : Addr) (gV : List V → List V → List V) (sp : Sp) (E : XK) (t : TA) : TE := fun σ H Q => t σ H fun zs H1 => ∀ x dx, H1 x = none → H1 dx = none → dx ≠ x →
  sp (gV [.ref x] zs) (upd (upd H1 dx (.own x)) x (.ins C dx [])) (fun v H2 => v = .non ∧ Q (.ref x) H2) E
theorem pe_makeRk (M : Mk X.K C g) (F : FnRk X.prog X.w X.K X.mg X.base CX k g ks gV sp) (hr : Room (k + 1) X.A) (hg : Gl X x) (hm : X.mg x = some (.ref C)) (hx : Passes CX X E) (hkw : PK X kws t)
    (hall : (backToKw pos (keywordEach kws X.env)).all (·.1.isSome) = true := by rfl) (hks : (backToKw pos (keywordEach kws X.env)).filterMap (·.1) = ks := by rfl) (hdb : (x == ("__debug__" : Str)) = false := by decide)
    (hpl : ((backTo pos (starEach [] X.env)).any (·.1) || (backToKw pos (keywordEach kws X.env)).any (·.1.isNone)) = false := by rfl) : PE X (.Call (.Name x p) [] kws pos) (tMakeRk C gV sp E t) := by
  refine ⟨fun pins s σ H Q I h => wpAny_Call_Name_kw (ld_glob I hg hm ?_ hdb)⟩
  refine PySem.W.callWith_KW0 (h₀ := X.base) I.ok.mod.kin M.kp hall (thn (hkw.run pos pins s σ H _ I h) fun ws s2 ⟨zs, H2, I2, rz, q⟩ => ⟨I2.kIn, ?_⟩) hpl
  rw [hks]
  have q2 := q (s2.heap.objs.size + 1) s2.heap.objs.size (I2.hok.fresh (Nat.le_succ _)) (I2.hok.fresh (Nat.le_refl _)) (Nat.ne_of_lt (Nat.lt_succ_self _))
  have J := Inv.made (C := C) I2
  refine wpAny_call (make_map (f := g) I2.kIn M.makes M.init (beq_iff_eq.mp M.fn) (codeAny_mono (F _ X.stack _ _ [.ref (s2.heap.objs.size + 1)] ws [.ref (s2.heap.objs.size + 1)] zs _ E (hr.make C [] (ks.zip ws)) (J.env0.make C [] (ks.zip ws)) (.cons rfl .nil) rz q2) fun r s' hq => ?_))
  match r, hq with
  | .error e, hq => exact hx pins σ _ _ e s' J hq
  | .ok (.ret _), hq =>
    obtain ⟨v, H3, J3, rv, ev, q3⟩ := J.after hq
    subst ev
    exact ⟨rv, ⟨V.ref (s2.heap.objs.size + 1), H3, J3, rfl, q3⟩⟩
  | .ok .next, hq => exact hq.elim
  | .ok .brk, hq => exact hq.elim
  | .ok .cont, hq => exact hq.elim
end
/-- how one positional value and two by their names, told the other way round, are bound -/
def g12 {α : Type} : List α → List α → List α
  | [a], [b, c] => [a, c, b]
  | _, _ => []
theorem vals_g12 : ∀ {vs zs : List V} {us ws : List Value}, Vals vs us → Vals zs ws → Vals (g12 vs zs) (g12 us ws)
  | _, _, _, _, .cons a .nil, .cons b (.cons c .nil) => .cons a (.cons c (.cons b .nil))
  | _, _, _, _, .nil, _ => .nil
  | _, _, _, _, .cons _ (.cons _ _), _ => .nil
  | _, _, _, _, .cons _ .nil, .nil => .nil
  | _, _, _, _, .cons _ .nil, .cons _ .nil => .nil
  | _, _, _, _, .cons _ .nil, .cons _ (.cons _ (.cons _ _)) => .nil
theorem FnOk.rawkn {P : Program} {w : World} {K : PySem.W.Frag} {mg : Str → Option Value} {base : Heap} {CX : CXT} {k n : Nat} {f : Addr} {fd : FuncData} {ps ks : List Str} {sp : Sp} {g : List Value → List Value → List Value} {gV : List V → List V → List V}
    (F : FnOk P w K mg base CX k f fd ps sp) (hb : KBn K fd ps n ks g gV) (hl : ∀ vs zs : List V, (gV vs zs).length = ps.length → vs.length = n ∧ zs.length = ks.length) : FnRk P w K mg base CX k f ks gV sp := by
  intro A outer s H us ws vs zs Q E hr e0 r rz h
  obtain ⟨l1, l2⟩ := hl vs zs (F.len _ _ _ _ h)
  exact F.run A outer s H ⟨us, ks.zip ws⟩ (g us ws) (gV vs zs) Q E hr e0 (hb.to s us ws (e0.mod.kin.keeps fun b o e => (e0.bs b o e).1) (r.length.symm.trans l1) (rz.length.symm.trans l2)) (hb.rel r rz) h
section
variable {X : Cx}
theorem uEqT (hu : X.A.units + 64 < cLine) : OpR X (compareOp .Eq) (orR rEq (orR (rOwnC X .Eq) (orR (rOwnT X .Eq) (rEqD X.K)))) := op_or2 op_eq (op_or2 (op_ownC _) (op_or2 (op_ownT _) (op_eqD hu)))
theorem uNeL {n : Nat} {D : Eqv} (hD : Mon D) (h : EqG X n D) (hr : Room (n + 1) X.A) (hu : X.A.units + 64 < cLine) : OpR X (compareOp .NotEq) (orR rNe (orR (rOwnN X) (orR (rNeG (DList D)) (rNeD X.K)))) :=
  op_or2 op_ne (op_or2 op_ownN (op_or2 (op_neG (ncG_list hD h) hr) (op_neD hu)))
end
section
variable {X : Cx} {k : Nat} {C g : Addr} {CX : CXT} {sp : Sp} {E : XK} {fe e : Expr} {es : List Expr} {pos : Pos} {tf : TE} {t : TA}
/-- calling an object, told without the context (for blocks) -/
def tCallOF (C : Addr) (sp : Sp) (E : XK) (tf : TE) (t : TA) : TE := fun σ H Q => tf σ H fun y H1 => ∃ a, y = V.ref a ∧ t σ H1 fun vs H2 => ((∃ dx vs, SlX.Slt H2 a C dx vs) ∨ ∃ dx fs, H2 a = some (.ins C dx fs)) ∧ sp (V.ref a :: vs) H2 Q E
theorem pe_callOF (hf : PE X fe tf) (c : StX.CallO X.K C g) (F : FnR X.prog X.w X.K X.mg X.base CX k g sp) (hr : Room k X.A) (hx : Passes CX X E) (ha : PA X (e :: es) t)
    (ht : eval (.Call fe (e :: es) [] pos) X.env = (do callWith pos (← eval fe X.env) [] (backTo pos (starEach (e :: es) X.env)) (backToKw pos (keywordEach [] X.env))) := by rfl)
    (he : starEach (e :: es) X.env = (false, eval e X.env) :: starEach es X.env := by rfl) (hpl : (backTo pos (starEach es X.env)).any (·.1) = false := by rfl) : PE X (.Call fe (e :: es) [] pos) (tCallOF C sp E tf t) :=
  StX.pe_callO hf c F hr hx ha ht he hpl
end
section
variable {X : Cx} {tg l : Expr} {tl : TE}
theorem pi_listK {K : PySem.W.Frag} (h : X.K = K) (hl : PE X l tl) : PI X tg l (iList K tl) := by
  subst h
  exact pi_list hl
end
end AZ

set_option Elab.async false
set_option maxRecDepth 100000
set_option maxHeartbeats 4000000
set_option linter.all false
/-! Own work: errors of own classes as values: made, read, asked for their class; repr of any showable datum. -/
namespace AZ
open PySem L2 PyProof.Rows
/-! ## showable data, dicts of texts or ints to ints too -/
def keyD : Key → PyData
  | .inl i => .int i
  | .inr x => .str x
def kvD (l : List (Key × Int)) : PyData := .dict (l.map fun p => (keyD p.1, .int p.2))
abbrev kvV (l : List (Key × Int)) : List (Key × V) := l.map fun p => (p.1, V.int p.2)
inductive Sh (K : PySem.W.Frag) (H : Hp) : V → PyData → Prop
  | dp {v : V} {d : PyData} : Dp K H v d → d.hasDict = false → Sh K H v d
  | dict {a : Addr} {l : List (Key × Int)} : H a = some (.dK (kvV l)) → Sh K H (.ref a) (kvD l)
theorem reads_keys {P : Program} {w : World} {h : Heap} : ∀ (l : List (Key × Int)) (es : List DictEntry) (vs : List (Key × Value)), KV (kvV l) vs → PySem.Pairs (mixKind P w) es vs →
    ReadsAll h (es.map (·.key)) (l.map fun p => keyD p.1) [] ∧ ReadsAll h (es.map (·.val)) (l.map fun p => PyData.int p.2) []
  | [], es, vs, r, p => by
    cases r
    cases p
    exact ⟨.nil, .nil⟩
  | q :: l, es, vs, r, p => by
    cases r with
    | @cons a b as bs r1 r2 =>
      cases p with
      | @cons e1 kv1 es1 kvs1 p1 p2 p3 =>
        obtain ⟨a1, a2⟩ := reads_keys l _ _ r2 p3
        obtain ⟨e0, t, e2⟩ := r1
        have p1' : keyIs b.1 e1.key = true := p1
        have hv : Reads h e1.val (.int q.2) [] := by
          rw [p2, e2]
          exact Reads.int _ _
        have hk : Reads h e1.key (keyD q.1) [] := by
          have e0' : q.1 = b.1 := e0
          rw [e0']
          rcases keyIs_shape p1' with ⟨i, t, e3, e4⟩ | ⟨x, t, e3, e4⟩
          · rw [e3, e4]; exact Reads.int _ _
          · rw [e3, e4]; exact Reads.str _ _
        exact ⟨.cons (as := []) hk a1, .cons (as := []) hv a2⟩
section
variable {X : Cx} {pins : List (Addr × Obj)} {σ : L2.St} {H : Hp} {s : Shared}
theorem Sh.reads {v : V} {d : PyData} {u : Value} (S : Sh X.K H v d) (I : Inv X pins σ H s) (r : RelV v u) : ∃ as, Reads s.heap u d as ∧ (d.hasDict = true → sysModules ∉ as) := by
  cases S with
  | dp h n =>
    obtain ⟨as, q⟩ := Dp.reads I d v u h r
    exact ⟨as, q, fun z => by rw [n] at z; cases z⟩
  | @dict a l e =>
    obtain rfl : u = Value.ref a := r
    obtain ⟨_, hd, vs, rel, ob, es, ep, g, ex, dd, _, pr, _⟩ := dk_of I.hok e
    obtain ⟨a1, a2⟩ := reads_keys l _ _ rel pr
    have b1 : ReadsAll s.heap (es.toList.map (·.key)) ((l.map fun p : Key × Int => (keyD p.1, PyData.int p.2)).map (·.1)) [] := by rw [List.map_map]; exact a1
    have b2 : ReadsAll s.heap (es.toList.map (·.val)) ((l.map fun p : Key × Int => (keyD p.1, PyData.int p.2)).map (·.2)) [] := by rw [List.map_map]; exact a2
    refine ⟨a :: [] ++ [], Reads.dict g ex.1 dd b1 b2, fun _ hm => ?_⟩
    simp at hm
    rw [← hm] at hd
    simp at hd
/-- what repr of a datum asks -/
structure Shn (d : PyData) : Prop where
  sh : d.showable = true
  dp : d.depth ≤ 60
  sz : d.shown.length ≤ 2000
theorem repr_any {v : V} {d : PyData} {u : Value} {A : Around} {E : Value → Shared → Prop} {Q : Value → Shared → Prop} (S : Sh X.K H v d) (n : Shn d) (I : Inv X pins σ H s) (r : RelV v u) (ng : NoG A) (hu : A.units + 64 < cLine)
    (k : ∀ s' t, Inv X pins σ H s' → Q (.str d.shown t) s') : wpAny (model X.prog X.w) A (pyReprObj u) Q E s := by
  have sz : d.shown.length ≤ sizeLine := Nat.le_trans n.sz (by decide)
  have refl : ∀ {a : Addr}, u = .ref a → wpAny (model X.prog X.w) A (pyReprObj u) Q E s := fun {a} e => by
    obtain ⟨as, q, hs⟩ := S.reads I r
    have hdp := n.dp
    subst e
    exact pyReprObj_of_reads q n.sh hs ng (by omega) (fun _ _ e => e) (fun h' u tk hk => k _ _ (I.kept hk)) sz
  cases S with
  | dict e => exact refl r
  | dp h nd =>
    cases h with
    | non => obtain rfl : u = Value.none := r; exact pyReprObj_none (k _ _ (I.tok _))
    | bl b => obtain rfl : u = Value.bool b := r; exact pyReprObj_bool (k _ _ (I.tok _))
    | int i =>
      obtain ⟨t, rfl⟩ := r
      exact pyReprObj_int (of_decide_eq_true n.sh) (k _ _ (I.tok _))
    | str x => obtain ⟨t, rfl⟩ := r; exact pyReprObj_str (k _ _ (I.tok _)) sz
    | lst _ _ => exact refl r
    | tup _ _ => exact refl r
/-- {x!r} -/
def tFmtA (K : PySem.W.Frag) (te : TE) : TE := fun σ H Q => te σ H fun x H1 => ∃ d, Sh K H1 x d ∧ Shn d ∧ Q (.str d.shown) H1
theorem pe_fmtA {e : Expr} {te : TE} {pos : Pos} (ng : NoG X.A) (hu : X.A.units + 64 < cLine) (he : PE X e te) : PE X (.FormattedValue e 114 none pos) (tFmtA X.K te) := by
  refine ⟨fun pins s σ H Q I h => ?_⟩
  refine wpAny_FormattedValue_repr (thn (he.run pins s σ H _ I h) fun v s1 hv => ?_)
  obtain ⟨x, H1, I1, r1, d, S, n, q⟩ := hv
  refine repr_any S n I1 r1 ng hu fun s2 t I2 => ?_
  exact wpAny_formatField_str ⟨.str d.shown, H1, I2, ⟨_, rfl⟩, q⟩ ⟨.str d.shown, H1, I2.tok _, ⟨_, rfl⟩, q⟩ (Nat.le_trans n.sz (by decide))
theorem call_reprS (ng : NoG X.A) (hu : X.A.units + 70 < cLine) : CallR X (.builtin "repr") (fun xs H Q => ∃ v d, xs = [v] ∧ Sh X.K H v d ∧ Shn d ∧ Q (.str d.shown) H) := by
  intro pins s σ H xs us Q I rv q
  obtain ⟨v, d, rfl, S, n, q⟩ := q
  obtain ⟨u, rfl, r⟩ := vals1 rv
  have sz : d.shown.length ≤ sizeLine := Nat.le_trans n.sz (by decide)
  have refl : ∀ {a : Addr}, u = .ref a → wpAny (model X.prog X.w) X.A (call (.builtin "repr") [u]) (EP X pins σ Q) X.xe s := fun {a} e => by
    obtain ⟨as, g, hs⟩ := S.reads I r
    have hdp := n.dp
    subst e
    exact repr_of_reads' g n.sh hs ng (by omega) (fun _ _ e => e) (fun h' u tk hk => ⟨.str d.shown, H, I.kept hk, ⟨_, rfl⟩, q⟩) sz
  have fin : ∀ tk, EP X pins σ Q (.str d.shown tk) { s with toks := s.toks + 1 } := fun tk => ⟨.str d.shown, H, I.tok _, ⟨_, rfl⟩, q⟩
  cases S with
  | dict e => exact refl r
  | dp h nd =>
    cases h with
    | non => obtain rfl : u = Value.none := r; exact PySem.P.repr_of_none (fin _)
    | bl b => obtain rfl : u = Value.bool b := r; exact PySem.P.repr_of_bool (fin _)
    | int i => obtain ⟨t, rfl⟩ := r; exact PySem.P.repr_of_int (of_decide_eq_true n.sh) (fin _)
    | str x => obtain ⟨t, rfl⟩ := r; exact PySem.P.repr_of_str (fin _) sz
    | lst _ _ => exact refl r
    | tup _ _ => exact refl r
end
/-! ## the base's __init__, through an own base without one -/
/-- what C.__init__(..) asks of the class at C: it is ValueError's -/
structure VInit (K : PySem.W.Frag) (C : Addr) : Prop where
  ex : ∃ mc : Value, ClX.CRead K C mc ∧ PySem.W.findCls K (.ref C) mc "__init__" = some (.val (.builtin "ValueError.__init__"))
section
variable {X : Cx} {e : Expr} {es : List Expr} {ta : TA} {S : Addr} {x : Str} {p1 p2 pos : Pos}
theorem pe_sinit {pl : Sem Bool} (V : VInit X.K S) (hg : Gl X x) (hm : X.mg x = some (.ref S)) (ha : PA X (e :: es) ta) (hdb : (x == ("__debug__" : Str)) = false := by decide)
    (hc : eval (.Call (.Attribute (.Name x p1) "__init__" p2) (e :: es) [] pos) X.env = (eval (.Name x p1) X.env >>= fun ov => standAt p2.atName >>= fun _ => holding [ov] (getMethod ov "__init__" pl) >>= fun r =>
      callWith pos r.1 r.2 (backTo pos (starEach (e :: es) X.env)) (backToKw pos (keywordEach [] X.env))) := by rfl)
    (he : starEach (e :: es) X.env = (false, eval e X.env) :: starEach es X.env := by rfl) (hpl : (backTo pos (starEach es X.env)).any (·.1) = false := by rfl) :
    PE X (.Call (.Attribute (.Name x p1) "__init__" p2) (e :: es) [] pos) (tVeI X.K ta) := by
  refine ⟨fun pins s σ H Q I h => ?_⟩
  obtain ⟨mc, r, at_⟩ := V.ex
  refine PySem.W.methodCall_KW (pl := pl) (ld_glob I hg hm ?_ hdb) hc
  refine PySem.W.method_cls I.kIn r.ga (PySem.W.cls_value I.kIn r.rd at_ (by decide +kernel) ?_)
  show wpAny _ _ (callWith pos (Value.builtin "ValueError.__init__") [] (backTo pos (starEach (e :: es) X.env)) []) _ _ _
  refine PyProof.Rows.callWith_method1 (thn (ha.run pos pins _ σ H _ (I.tok _) h) fun us s1 ⟨vs, H1, I1, r1, a, C, ws, ev, hl, T, ea, q⟩ => ?_) he hpl
  subst ev
  cases r1 with
  | @cons _ u0 _ ur ra rw' =>
    obtain rfl : u0 = Value.ref a := ra
    have hlen : ur.length ≤ sizeLine := Nat.le_trans (by rw [← Paired.length rw']; exact hl) (show 1000 ≤ sizeLine by decide)
    exact oinit_ok T I1 ea hlen fun s' J => ⟨.non, H1, J, rfl, q⟩
end
end AZ
/-! ## an own error class called with keywords -/
namespace PySem
namespace HKW
open Builtin Builtin.ObjectAttr HandSPX
section
variable {prog : Program} {w : World} {A : Around} {E : Value → Shared → Prop} {R : Result → Shared → Prop} {h : Heap} {g : Array GenState} {d : Drawn} {t : Nat} {os : OsState}
variable {nm q : Str} {C N : Addr} {bs bm bmB : List Value} {hdct : Bool} {sn : List Str} {sub : List Value} {ab : Bool} {col : Option Bool} {dd : Option Addr} {k0 k1 k2 k3 k5 : Option Value} {B newId initId : String}
/-- BaseException.__new__ lets by whatever is told by name -/
theorem check_kw {M : Model} (F : ExcBaseFacts B newId initId bmB) (hT : ∀ X : String, bm.contains (.type X) = bmB.contains (.type X)) {kws : List (Str × Value)} {Q : Unit → Shared → Prop}
    (hC : h.get? C = some (excClassObj nm q C N bs bm hdct sn sub ab col dd k0 k1 k2 k3 k5 newId)) (hq : Q () ⟨h, g, d, t, os⟩) : wpAny M A (checkBuiltinCall newId ⟨[.ref C], kws⟩) Q E ⟨h, g, d, t, os⟩ := by
  have isB : (Value.ref C :: bm).contains (.type B) = true := by rw [List.contains_cons, hT, F.hasB, Bool.or_true]
  have st := F.noStar
  simp only [checkBuiltinCall, F.newKind, F.newSplit, F.newRow]
  repeat (first | refine wpAny_loadPart_at hC ?_ | (refine wpAny_isSubtype_exc hC ?_; rw [isB]) | refine wpAny_staticBase_exc hC ?_ | refine wpAny_madeBy_exc hC ?_ | simp only [bne_self_eq_false, Bool.false_eq_true, if_false] | wp_step)
  exact hq
theorem new_kw (F : ExcBaseFacts B newId initId bmB) (hT : ∀ X : String, bm.contains (.type X) = bmB.contains (.type X)) {kws : List (Str × Value)}
    (hC : h.get? C = some (excClassObj nm q C N bs bm hdct sn sub ab col dd k0 k1 k2 k3 k5 newId))
    (hq : R (.ok (.ret (.ref (h.objs.size + 1)))) ⟨(h.push (W.kdv_tup [])).push (excO C h.objs.size), g, d, t, os⟩) :
    codeAny (model prog w) A (.builtin newId ⟨[.ref C], kws⟩) R ⟨h, g, d, t, os⟩ := by
  have fin := F.ends
  have isB : (Value.ref C :: bm).contains (.type B) = true := by rw [List.contains_cons, hT, F.hasB, Bool.or_true]
  have noA : (Value.ref C :: bm).contains (.type "AttributeError") = false := by rw [List.contains_cons, hT, F.noAttr]; rfl
  have noN : (Value.ref C :: bm).contains (.type "NameError") = false := by rw [List.contains_cons, hT, F.noName]; rfl
  refine codeAny_builtinAt F.entry ?_
  unfold Builtin.«BaseException.__new__»
  refine wpAt_bind ?_
  show wpAt _ _ _ (stack >>= _) _ _ _
  refine wpAt_bind (wpAt_stack fun p below => wpAt_of_wpAny ?_)
  wp_walk
  refine wpAt_of_wpAny ?_
  rw [F.owner]
  repeat (first | with_reducible refine wpAny_madeHere_exc F.canon hC ?_ | with_reducible refine wpAny_loadPart_at hC ?_ | (with_reducible refine wpAny_isSubtype_exc hC ?_; first | rw [isB] | rw [noA] | rw [noN]) | wp_step)
  show R _ _
  rw [Heap.size_push]
  exact hq
theorem tcall_kw (F : ExcBaseFacts B newId initId bmB) (hT : ∀ X : String, bm.contains (.type X) = bmB.contains (.type X)) {kws : List (Str × Value)} {fI : Addr} {Q : Fin → Shared → Prop}
    (hC : h.get? C = some (excClassObj nm q C N bs bm hdct sn sub ab col dd k0 k1 k2 k3 k5 newId))
    (hi : W.Looks (model prog w) h (typeLookup (.ref C) "__init__") (some (.ref fI))) (hb : ∀ self, W.Looks (model prog w) h (bindSpecial (.ref fI) self) (.ref fI, [self]))
    (hq : codeAny (model prog w) A (.call (.ref fI) ⟨[.ref (h.objs.size + 1)], kws⟩)
      (fun r s' => match r with | .ok (.ret v) => v = .none ∧ Q (.done (.ret (.ref (h.objs.size + 1)))) s' | .ok _ => False | .error e => E e s')
      ⟨(h.push (W.kdv_tup [])).push (excO C h.objs.size), g, d, t, os⟩) :
    wpAny (model prog w) A (Builtin.«type.__call__» ⟨[.ref C], kws⟩) Q E ⟨h, g, d, t, os⟩ := by
  repeat (first | with_reducible refine wpAny_loadPart_at hC ?_ | with_reducible refine wpAny_madeBy_exc hC ?_ | wp_step)
  refine codeAny_call_builtin_code (Code.quiet_builtin _ F.quiet) (check_kw F hT hC ?_)
  refine new_kw F hT hC ?_
  show wpAny _ _ _ _ _ _
  have kp : ∀ b o, h.get? b = some o → ((h.push (W.kdv_tup [])).push (excO C h.objs.size)).get? b = some o := fun b o e => Heap.get?_push_of_some _ (Heap.get?_push_of_some _ e)
  have hC2 := kp _ _ hC
  have gx : ((h.push (W.kdv_tup [])).push (excO C h.objs.size)).get? (h.objs.size + 1) = some (excO C h.objs.size) := by heap_get
  have own : (Value.ref C :: bm).contains (.ref C) = true := by simp
  have i2 := hi.keeps kp
  have b2 := (hb (.ref (h.objs.size + 1))).keeps kp
  unfold isInstance
  repeat (first | with_reducible refine wpAny_loadPart_at gx ?_ | (with_reducible refine wpAny_isSubtype_exc hC2 ?_; rw [own]) | wp_step)
  show wpAny _ _ (typeLookup (.ref C) _) _ _ _
  refine i2.at (wpAny_holding (wpAny_bind (b2.at (wpAny_bind (wpAny_call (codeAny_mono hq fun r s' z => ?_))))))
  rcases r with e | (v | _ | _ | _) <;> first | exact z | exact z.elim | skip
  obtain ⟨rfl, z⟩ := z
  first
    | exact wpAny_pure (wpAny_pure z)
    | (wp_walk; exact z)
theorem call_kw (F : ExcBaseFacts B newId initId bmB) (hT : ∀ X : String, bm.contains (.type X) = bmB.contains (.type X)) {kws : List (Str × Value)} {fI : Addr}
    (hC : h.get? C = some (excClassObj nm q C N bs bm hdct sn sub ab col dd k0 k1 k2 k3 k5 newId))
    (hi : W.Looks (model prog w) h (typeLookup (.ref C) "__init__") (some (.ref fI))) (hb : ∀ self, W.Looks (model prog w) h (bindSpecial (.ref fI) self) (.ref fI, [self]))
    (hq : codeAny (model prog w) (A.under (.builtin "type.__call__" ⟨[.ref C], kws⟩)) (.call (.ref fI) ⟨[.ref (h.objs.size + 1)], kws⟩) (W.InitBack (h.objs.size + 1) R)
      ⟨(h.push (W.kdv_tup [])).push (excO C h.objs.size), g, d, t, os⟩) :
    codeAny (model prog w) A (.call (.ref C) ⟨[], kws⟩) R ⟨h, g, d, t, os⟩ := by
  have f1 := tc_lookup
  have f2 := tc_bind (.ref C)
  have hTy : (⟨h, g, d, t, os⟩ : Shared).TypeIs (.ref C) "type" := ⟨_, hC, rfl⟩
  refine codeAny_of_tree ?_
  show wpAny _ _ (callAny (.ref C) _) _ _ _
  repeat (any_goals (first | assumption | with_reducible refine wpAny_loadPart_at hC ?_ | wp_step))
  refine ⟨rfl, codeAny_call_builtin_at (Code.quiet_builtin _ (by decide +kernel)) entry_typeCall (wpAny_check_type_call_sub hC (tcall_kw F hT hC hi hb ?_))⟩
  refine codeAny_mono hq fun r s' z => ?_
  rcases r with e | (v | _ | _ | _) <;> exact z
end
end HKW
end PySem
namespace AZ
open PySem L2 PyProof.Rows
/-! ## made as a value -/
/-- an error of the class C at a with these fields -/
def ErrAt (H : Hp) (a C : Addr) (fs : List (Str × V)) : Prop := ∃ dx, H a = some (exo a C (some dx)) ∧ H dx = some (exd dx fs)
def tMkE (C : Addr) (sp : Sp) (ta : TA) : TE := fun σ H Q => ta σ H fun vs H1 => vs.length ≤ 1000 ∧ ∀ a, H1 a = none → sp (.ref a :: vs) (upd H1 a (exo a C none)) (fun v H2 => v = .non ∧ Q (.ref a) H2) (fun _ _ _ => False)
section
variable {X : Cx} {CX : CXT} {k : Nat} {C fI : Addr} {sp : Sp} {pins : List (Addr × Obj)} {σ : L2.St} {H : Hp} {s : Shared} {Q : VK}
/-- C(us) -/
theorem mkE_run (T : OexC X.K C) (iC : PySem.W.findIn X.K (.ref C) "__init__" = some (some (.ref fI))) (tI : PySem.W.typeIn X.K (.ref fI) = some (.type "function")) (F : FnG X.prog X.w X.K X.mg X.base CX k fI sp) (ng : NoG X.A) (hr : Room (k + 1) X.A)
    (hx : Passes CX X (fun _ _ _ => False)) (I : Inv X pins σ H s) {vs : List V} {us : List Value} {as : Args} (r : Vals vs us) (hl : vs.length ≤ 1000)
    (q : ∀ a, H a = none → sp (.ref a :: vs) (upd H a (exo a C none)) (fun v H2 => v = .non ∧ Q (.ref a) H2) (fun _ _ _ => False)) :
    wpAny (model X.prog X.w) X.A (call (.ref C) us) (EP X pins σ Q) X.xe s := by
  obtain ⟨nm, qn, N, bs, bm, sn, sub, ab, col, dd, k0, k1, k2, k3, k5, hC, hbm⟩ := T.cls
  obtain ⟨hp, g, dr, tk, os⟩ := s
  have hsz : hp.objs.size ≤ hp.objs.size + 1 := Nat.le_succ _
  have hn : H (hp.objs.size + 1) = none := I.hok.fresh hsz
  have hq := q (hp.objs.size + 1) hn
  have kk : ∀ b o, hp.get? b = some o → ((hp.push (PySem.W.kdv_tup us)).push (PySem.HandSPX.excO C hp.objs.size)).get? b = some o := fun b o e => Heap.get?_push_of_some _ (Heap.get?_push_of_some _ e)
  have hget : ((hp.push (PySem.W.kdv_tup us)).push (PySem.HandSPX.excO C hp.objs.size)).get? (hp.objs.size + 1) = some (PySem.HandSPX.excO C hp.objs.size) := by heap_get
  have I2 : Inv X pins σ (upd H (hp.objs.size + 1) (exo (hp.objs.size + 1) C none)) ⟨(hp.push (PySem.W.kdv_tup us)).push (PySem.HandSPX.excO C hp.objs.size), g, dr, tk, os⟩ :=
    I.laid (t' := tk) (a := hp.objs.size + 1) (o := exo (hp.objs.size + 1) C none) (h' := (hp.push (PySem.W.kdv_tup us)).push (PySem.HandSPX.excO C hp.objs.size)) kk hsz (exo_ok hget)
  have hus : us.length ≤ sizeLine := Nat.le_trans (by rw [← Paired.length r]; exact hl) (show 1000 ≤ sizeLine by decide)
  refine wpAny_call (PySem.HandSPX.call_own PySem.F.excBase_ValueError (fun Y => PySem.HandSPX.refsVE_contains Y bm hbm) (I.kIn _ _ hC) (PySem.W.looks_findIn I.kIn iC) (fun self => PySem.W.bind_fn I.kIn self tI) hus ?_)
  refine codeAny_mono (F _ X.stack _ _ (.ref (hp.objs.size + 1) :: us) (.ref (hp.objs.size + 1) :: vs) _ _ ?_ (hr.make C us []) (I2.env0.make C us []) (.cons rfl r) hq) fun r s' hq' => ?_
  · exact ng
  · cases r with
    | error er => exact hx pins σ _ _ er s' I2 hq'
    | ok fl =>
      cases fl with
      | ret u =>
        obtain ⟨v, H2, J, rv, ev, q2⟩ := I2.after hq'
        subst ev
        exact ⟨rv, .ref _, H2, J, rfl, q2⟩
      | next => exact False.elim hq'
      | brk => exact False.elim hq'
      | cont => exact False.elim hq'
end
/-! ## promises of a def told by any binding, none of repr under way -/
def FnOG (P : Program) (w : World) (K : PySem.W.Frag) (mg : Str → Option Value) (base : Heap) (CX : CXT) (k : Nat) (f : Addr) (fd : FuncData) (ps : List Str) (sp : Sp) : Prop :=
  ∀ (A : Around) (out : List Env) (z : Shared) (G : Hp) (as : Args) (us : List Value) (vs : List V) (Q : VK) (E : XK), NoG A → Room k A → Env0 P w K mg base A out z G → BindsTo z fd as (ps.zip us) → us.length = ps.length → Vals vs us → sp vs G Q E →
    codeAny (model P w) A (.call (.ref f) as) (CR CX out P w G z Q E) z
/-- .. where the last ones are told by name -/
def FnGk (P : Program) (w : World) (K : PySem.W.Frag) (mg : Str → Option Value) (base : Heap) (CX : CXT) (k : Nat) (f : Addr) (ks : List Str) (gV : List V → List V → List V) (sp : Sp) : Prop :=
  ∀ (A : Around) (out : List Env) (z : Shared) (G : Hp) (us ws : List Value) (vs zs : List V) (Q : VK) (E : XK), NoG A → Room k A → Env0 P w K mg base A out z G → Vals vs us → Vals zs ws → sp (gV vs zs) G Q E →
    codeAny (model P w) A (.call (.ref f) ⟨us, ks.zip ws⟩) (CR CX out P w G z Q E) z
section
variable {P : Program} {w : World} {K : PySem.W.Frag} {mg : Str → Option Value} {base : Heap} {CX : CXT} {k : Nat} {f : Addr} {sp : Sp} {x qual : Str} {st : Stmt} {fd : FuncData} {N ps ks : List Str}
theorem kin0 {A : Around} {out : List Env} {z : Shared} {G : Hp} (env : Env0 P w K mg base A out z G) : K.In z.heap := env.mod.kin.keeps fun b o e => (env.bs b o e).1
/-- a def by its body; what it lets out goes by CX -/
theorem fnOG (F : Fun K x qual st f fd) (S : FnScope N ps (defScope st)) (len : ∀ vs H Q E, sp vs H Q E → vs.length = ps.length)
    (bd : ∀ (cdv : Value) (A : Around) (out : List Env) (z : Shared) (G : Hp) (vs : List V) (Q : VK) (E : XK), NoG (A.deeper (envOfC qual (defScope st) z.heap.objs.size f cdv)) →
      Room k (A.deeper (envOfC qual (defScope st) z.heap.objs.size f cdv)) → sp vs G Q E →
      ∃ t, PSs (cxOf CX P w K mg base N qual (defScope st) f cdv A out z G E) (defBody st) t ∧ t { nx := fun _ H' => Q .non H', rt := Q } (start N vs) G) : FnOG P w K mg base CX (k + 1) f fd ps sp := by
  obtain ⟨oc, od, kV, doc, pm, an, cdv, ct, osl, rfl, look, rec⟩ := F.ex
  intro A out z G as us vs Q E ng room env bnd many vals prom
  have keep : ∀ b o, base.get? b = some o → z.heap.get? b = some o := fun b o e => (env.bs b o e).1
  have kin := kin0 env
  have kinds : ∀ y ∈ ps.zip us, (defScope st).names.lookup y.1 = some .local ∨
      ((defScope st).names.lookup y.1 = some .cell ∧ ((cellsFrom (z.heap.objs.size + 1) (defScope st).names []).lookup y.1).isSome = true) := by
    rintro ⟨n, v⟩ there
    exact (S.par n (List.of_mem_zip there).1).imp id fun c => ⟨c, PySem.W.cellsFrom_some _ _ _ (.inl c)⟩
  refine codeAny_call_function room.depth (kin _ _ look) rfl S.co S.gen rfl (PySem.W.codeRec_of kin rec) (bnd _ _ _ _ (wpAny_newFunctionEnv_cells S.kind kinds ?_))
  rintro env2 rfl z1 made
  refine ⟨(env.mod.nolimit.keeps keep).keeps made.toInCall.keep, codeAny_func ?_⟩
  obtain ⟨t, body, run⟩ := bd cdv A out z G vs Q E (ng.deeper _) (room.deeper _) prom
  exact wpAny_mono (body.run [] z1 (start N vs) G _ (inv_start S room.hd env (len _ _ _ _ prom) vals made) run) (fun fl z2 q => by
    cases fl with
    | ret v => obtain ⟨y, σ, G2, J, rel, q⟩ := q; exact ⟨y, G2, J.os, J.bare, J.base, J.hok, rel, q⟩
    | next => obtain ⟨σ, G2, J, q⟩ := q; exact ⟨.non, G2, J.os, J.bare, J.base, J.hok, rfl, q⟩
    | brk => obtain ⟨σ, G2, J, q⟩ := q; exact q.elim
    | cont => obtain ⟨σ, G2, J, q⟩ := q; exact q.elim) fun e z2 q => q
theorem FnOG.pos (F : FnOG P w K mg base CX k f fd ps sp) (len : ∀ vs H Q E, sp vs H Q E → vs.length = ps.length) (hb : Binds K fd ps []) : FnG P w K mg base CX k f sp := by
  intro A out z G us vs Q E ng room env vals prom
  have many : us.length = ps.length := vals.length.symm.trans (len _ _ _ _ prom)
  have bnd := hb z us (kin0 env) (by rw [List.append_nil]; exact many)
  rw [List.append_nil] at bnd
  exact F A out z G ⟨us, []⟩ us vs Q E ng room env bnd many vals prom
theorem FnOG.key {n : Nat} {g : List Value → List Value → List Value} {gV : List V → List V → List V} (F : FnOG P w K mg base CX k f fd ps sp) (len : ∀ vs H Q E, sp vs H Q E → vs.length = ps.length) (hb : KBn K fd ps n ks g gV)
    (hl : ∀ vs zs : List V, (gV vs zs).length = ps.length → vs.length = n ∧ zs.length = ks.length) : FnGk P w K mg base CX k f ks gV sp := by
  intro A out z G us ws vs zs Q E ng room env r rz prom
  have ln := len _ _ _ _ prom
  obtain ⟨l1, l2⟩ := hl vs zs ln
  have rel := hb.rel r rz
  exact F A out z G ⟨us, ks.zip ws⟩ (g us ws) (gV vs zs) Q E ng room env (hb.to z us ws (kin0 env) (r.length.symm.trans l1) (rz.length.symm.trans l2)) (rel.length.symm.trans ln) rel prom
end
end AZ

set_option Elab.async false
set_option maxRecDepth 100000
set_option maxHeartbeats 4000000
set_option linter.all false
/-! Own work: errors as values: the rules for the text. -/
namespace AZ
open PySem L2 PyProof.Rows
/-- what is asked of an own error class: made as such, its __init__ at fI -/
structure ErrC (K : PySem.W.Frag) (C fI : Addr) : Prop where
  oex : OexC K C
  init : PySem.W.findIn K (.ref C) "__init__" = some (some (.ref fI))
  fn : PySem.W.typeIn K (.ref fI) = some (.type "function")
section
variable {X : Cx} {CX : CXT} {k : Nat} {C fI : Addr} {sp : Sp} {pins : List (Addr × Obj)} {σ : L2.St} {H : Hp} {s : Shared} {Q : VK} {x : Str} {e : Expr} {es : List Expr} {kws : List Keyword} {ks : List Str} {gV : List V → List V → List V} {p pos : Pos} {ta : TA}
/-- C(e, ..) as a value -/
theorem pe_mkE (T : ErrC X.K C fI) (F : FnG X.prog X.w X.K X.mg X.base CX k fI sp) (ng : NoG X.A) (hr : Room (k + 1) X.A) (hg : Gl X x) (hm : X.mg x = some (.ref C)) (hx : Passes CX X (fun _ _ _ => False)) (ha : PA X (e :: es) ta)
    (hdb : (x == ("__debug__" : Str)) = false := by decide) (he : starEach (e :: es) X.env = (false, eval e X.env) :: starEach es X.env := by rfl) (hpl : (backTo pos (starEach es X.env)).any (·.1) = false := by rfl) :
    PE X (.Call (.Name x p) (e :: es) [] pos) (tMkE C sp ta) :=
  ⟨fun pins s σ H Q I h => wpAny_Call_Name_kw (ld_glob I hg hm (PySem.W.callWith_K (h₀ := X.base) I.ok.mod.kin T.oex.kC (thn (ha.run pos pins s σ H _ I h) fun us s1 ⟨vs, H1, I1, r1, hz, q1⟩ =>
    ⟨I1.kIn, mkE_run (as := ⟨us, []⟩) T.oex T.init T.fn F ng hr hx I1 r1 hz q1⟩) he hpl) hdb)⟩
/-- C() -/
theorem pe_mkE0 (T : ErrC X.K C fI) (F : FnG X.prog X.w X.K X.mg X.base CX k fI sp) (ng : NoG X.A) (hr : Room (k + 1) X.A) (hg : Gl X x) (hm : X.mg x = some (.ref C)) (hx : Passes CX X (fun _ _ _ => False))
    (hdb : (x == ("__debug__" : Str)) = false := by decide) :
    PE X (.Call (.Name x p) [] [] pos) (tMkE C sp tNil) :=
  ⟨fun pins s σ H Q I ⟨hz, q1⟩ => wpAny_Call_Name_kw (ld_glob I hg hm (PySem.W.callWith_K0 (first := []) I.kIn T.oex.kC (mkE_run (as := ⟨[], []⟩) T.oex T.init T.fn F ng hr hx I .nil hz q1)) hdb)⟩
/-- C(k = e, ..) -/
def tMkEk (C : Addr) (gV : List V → List V → List V) (sp : Sp) (ta : TA) : TE := fun σ H Q => ta σ H fun zs H1 => ∀ a, H1 a = none → sp (gV [.ref a] zs) (upd H1 a (exo a C none)) (fun v H2 => v = .non ∧ Q (.ref a) H2) (fun _ _ _ => False)
theorem pe_mkEk (T : ErrC X.K C fI) (F : FnGk X.prog X.w X.K X.mg X.base CX k fI ks gV sp) (ng : NoG X.A) (hr : Room (k + 1) X.A) (hg : Gl X x) (hm : X.mg x = some (.ref C)) (hx : Passes CX X (fun _ _ _ => False)) (hkw : PK X kws ta)
    (hall : (backToKw pos (keywordEach kws X.env)).all (·.1.isSome) = true := by rfl) (hks : (backToKw pos (keywordEach kws X.env)).filterMap (·.1) = ks := by rfl) (hdb : (x == ("__debug__" : Str)) = false := by decide)
    (hpl : ((backTo pos (starEach [] X.env)).any (·.1) || (backToKw pos (keywordEach kws X.env)).any (·.1.isNone)) = false := by rfl) : PE X (.Call (.Name x p) [] kws pos) (tMkEk C gV sp ta) := by
  refine ⟨fun pins s σ H Q I h => wpAny_Call_Name_kw (ld_glob I hg hm ?_ hdb)⟩
  refine PySem.W.callWith_KW0 (h₀ := X.base) I.ok.mod.kin T.oex.kC hall (thn (hkw.run pos pins s σ H _ I h) fun ws s2 ⟨zs, H2, I2, rz, q⟩ => ⟨I2.kIn, ?_⟩) hpl
  rw [hks]
  obtain ⟨nm, qn, N, bs, bm, sn, sub, ab, col, dd, k0, k1, k2, k3, k5, hC, hbm⟩ := T.oex.cls
  obtain ⟨hp, g, dr, tk, os⟩ := s2
  have hn : H2 (hp.objs.size + 1) = none := I2.hok.fresh (Nat.le_succ _)
  have hq := q (hp.objs.size + 1) hn
  have kk : ∀ b o, hp.get? b = some o → ((hp.push (PySem.W.kdv_tup [])).push (PySem.HandSPX.excO C hp.objs.size)).get? b = some o := fun b o e => Heap.get?_push_of_some _ (Heap.get?_push_of_some _ e)
  have gx : ((hp.push (PySem.W.kdv_tup [])).push (PySem.HandSPX.excO C hp.objs.size)).get? (hp.objs.size + 1) = some (PySem.HandSPX.excO C hp.objs.size) := by heap_get
  have I3 : Inv X pins σ (upd H2 (hp.objs.size + 1) (exo (hp.objs.size + 1) C none)) ⟨(hp.push (PySem.W.kdv_tup [])).push (PySem.HandSPX.excO C hp.objs.size), g, dr, tk, os⟩ :=
    I2.laid (t' := tk) (a := hp.objs.size + 1) (o := exo (hp.objs.size + 1) C none) (h' := (hp.push (PySem.W.kdv_tup [])).push (PySem.HandSPX.excO C hp.objs.size)) kk (Nat.le_succ _) (exo_ok gx)
  refine wpAny_call (PySem.HKW.call_kw PySem.F.excBase_ValueError (fun Y => PySem.HandSPX.refsVE_contains Y bm hbm) (I2.kIn _ _ hC) (PySem.W.looks_findIn I2.kIn T.init) (fun self => PySem.W.bind_fn I2.kIn self T.fn) ?_)
  refine codeAny_mono (F _ X.stack _ _ [.ref (hp.objs.size + 1)] ws [.ref (hp.objs.size + 1)] zs _ _ ng (hr.make C [] (ks.zip ws)) (I3.env0.make C [] (ks.zip ws)) (.cons rfl .nil) rz hq) fun r s' hq' => ?_
  match r, hq' with
  | .error e, hq' => exact hx pins σ _ _ e s' I3 hq'
  | .ok (.ret _), hq' =>
    obtain ⟨v, H3, J3, rv, ev, q3⟩ := I3.after hq'
    subst ev
    exact ⟨rv, ⟨V.ref _, H3, J3, rfl, q3⟩⟩
  | .ok .next, hq' => exact hq'.elim
  | .ok .brk, hq' => exact hq'.elim
  | .ok .cont, hq' => exact hq'.elim
/-- e.f, of an error -/
def tXfE (C : Addr) (f : Str) (te : TE) : TE := fun σ H Q => te σ H fun y H1 => ∃ a fs v, y = .ref a ∧ ErrAt H1 a C fs ∧ fs.lookup f = some v ∧ Q v H1
theorem pe_xfE {n : Str} {te : TE} (T : XfC X.K C) (no : PySem.W.findIn X.K (.ref C) n = some none) (he : PE X e te) (hb : attributeBase e n X.env (eval e X.env) = eval e X.env := by rfl) : PE X (.Attribute e n pos) (tXfE C n te) := by
  refine ⟨fun pins s σ H Q I h => attr_of hb (thn (he.run pins s σ H _ I h) fun u s1 hh => ?_)⟩
  obtain ⟨y, H1, I1, ry, a, fs, v, ey, ⟨dx, ea, ed⟩, l, q⟩ := hh
  subst ey
  obtain rfl : u = Value.ref a := ry
  obtain ⟨t1, ho⟩ := exo_at I1.hok ea
  obtain ⟨mA, hns, hr⟩ := exd_at I1.hok ed
  obtain ⟨od, hod, hl⟩ := lookIn_ns hns
  obtain ⟨u, hu, ru⟩ := RelO.some_of (v := v) (o := mA n) (by rw [← l]; exact hr n)
  have J : PySem.W.InstAt s1.heap a _ C (some od) := ⟨ho, rfl, rfl, hod⟩
  exact HandSPX.exc_get I1.kIn J T.ga T.gg T.exC (PySem.W.findObj_own T.hdC no rfl (by rw [hl, hu])) (handed_of ru) ⟨v, H1, I1.tok _, ru, q⟩
/-- e.f, of an error of any class -/
def tXfA (K : PySem.W.Frag) (f : Str) (te : TE) : TE := fun σ H Q => te σ H fun y H1 => ∃ a C fs v, y = .ref a ∧ XfC K C ∧ PySem.W.findIn K (.ref C) f = some none ∧ ErrAt H1 a C fs ∧ fs.lookup f = some v ∧ Q v H1
theorem pe_xfA {n : Str} {te : TE} (he : PE X e te) (hb : attributeBase e n X.env (eval e X.env) = eval e X.env := by rfl) : PE X (.Attribute e n pos) (tXfA X.K n te) := by
  refine ⟨fun pins s σ H Q I h => attr_of hb (thn (he.run pins s σ H _ I h) fun u s1 hh => ?_)⟩
  obtain ⟨y, H1, I1, ry, a, C, fs, v, ey, T, no, ⟨dx, ea, ed⟩, l, q⟩ := hh
  subst ey
  obtain rfl : u = Value.ref a := ry
  obtain ⟨t1, ho⟩ := exo_at I1.hok ea
  obtain ⟨mA, hns, hr⟩ := exd_at I1.hok ed
  obtain ⟨od, hod, hl⟩ := lookIn_ns hns
  obtain ⟨u, hu, ru⟩ := RelO.some_of (v := v) (o := mA n) (by rw [← l]; exact hr n)
  have J : PySem.W.InstAt s1.heap a _ C (some od) := ⟨ho, rfl, rfl, hod⟩
  exact HandSPX.exc_get I1.kIn J T.ga T.gg T.exC (PySem.W.findObj_own T.hdC no rfl (by rw [hl, hu])) (handed_of ru) ⟨v, H1, I1.tok _, ru, q⟩
end
/-- promises of the __init__ of errors: the fields that they keep -/
def spErr0 (C : Addr) : Sp := fun vs H Q _ => ∃ a, vs = [.ref a] ∧ H a = some (exo a C none) ∧ Q .non H
def spErr1 (K : PySem.W.Frag) (C : Addr) (f : Str) : Sp := fun vs H Q _ => ∃ a v d, vs = [.ref a, v] ∧ H a = some (exo a C none) ∧ Sh K H v d ∧ Shn d ∧ ∀ H', (∀ x o, H x = some o → x ≠ a → H' x = some o) → ErrAt H' a C [(f, v)] → Q .non H'
def spErr2 (K : PySem.W.Frag) (C : Addr) (f g : Str) : Sp := fun vs H Q _ => ∃ a v u d e, vs = [.ref a, v, u] ∧ H a = some (exo a C none) ∧ Sh K H v d ∧ Shn d ∧ Sh K H u e ∧ Shn e ∧ ∀ H', (∀ x o, H x = some o → x ≠ a → H' x = some o) → ErrAt H' a C [(g, u), (f, v)] → Q .non H'
theorem shn_len {d : PyData} (n : Shn d) {x : Str} (h : x.length ≤ 4000) : (x ++ d.shown).length ≤ sizeLine := by
  have := n.sz
  have e : (x ++ d.shown).length = x.length + d.shown.length := Array.size_append ..
  rw [e]
  exact Nat.le_trans (by omega : x.length + d.shown.length ≤ 6000) (by decide)
theorem cat_len {x y : Str} {m n k : Nat} (h1 : x.length ≤ m) (h2 : y.length ≤ n) (h : m + n ≤ k) : (x ++ y).length ≤ k := by
  have e : (x ++ y).length = x.length + y.length := Array.size_append ..
  omega
end AZ

set_option Elab.async false
set_option maxRecDepth 100000
set_option maxHeartbeats 4000000
set_option linter.all false
/-! Own work: classes of errors below one base: what is asked of each, and which is which. -/
namespace AZ
open PySem L2 PyProof.Rows
open PySem.HandSPX (veTail)
/-- the base of all, at S -/
structure Sx (K : PySem.W.Frag) (S : Addr) (nm : Str) : Prop where
  lk : ∃ q N bs sn sub ab col dd k0 k1 k2 k3 k5, K.lookup S = some (excClassObj nm q S N bs veTail true sn sub ab col dd k0 k1 k2 k3 k5 "ValueError.__new__")
/-- an own error class at C directly below S, its __init__ at fI -/
structure Ex (K : PySem.W.Frag) (S C fI : Addr) (nm : Str) : Prop where
  lk : ∃ q N bs sn sub ab col dd k0 k1 k2 k3 k5, K.lookup C = some (excClassObj nm q C N bs (.ref S :: veTail) true sn sub ab col dd k0 k1 k2 k3 k5 "ValueError.__new__")
  sa : PySem.W.findIn K (.ref C) "__setattr__" = some (some (.builtin "object.__setattr__"))
  ga : PySem.W.findIn K (.ref C) "__getattribute__" = some (some (.builtin "BaseException.__getattribute__"))
  gg : PySem.W.findIn K (.ref C) "__getattr__" = some none
  ca : PySem.W.findIn K (.ref C) "__class__" = some (some (.builtin "object.__class__"))
  init : PySem.W.findIn K (.ref C) "__init__" = some (some (.ref fI))
  fn : PySem.W.typeIn K (.ref fI) = some (.type "function")
  kp : PySem.W.keepIn K (.ref C) = true
/-- what isinstance asks of object.__class__ -/
structure Gx (K : PySem.W.Frag) : Prop where
  hn : PySem.W.specialIn K (.builtin "object.__class__") "__get__" = some (some (.builtin "getset_descriptor.__get__"))
  tk : PySem.W.takesIn K (.builtin "object.__class__") = some true
section
variable {K : PySem.W.Frag} {S C D fI fJ : Addr} {nm nm' ns : Str}
theorem Ex.cls (x : Ex K S C fI nm) : ∃ cd, PySem.W.clsIn K C = some cd ∧ cd.mro = .ref C :: .ref S :: veTail ∧ cd.name = nm ∧ cd.hasDict = true := by
  obtain ⟨q, N, bs, sn, sub, ab, col, dd, k0, k1, k2, k3, k5, h⟩ := x.lk
  have e : PySem.W.clsIn K C = some { name := nm, bases := bs, mro := .ref C :: .ref S :: veTail, ns := N, qualname := q, hasDict := true, slotNames := sn, subclasses := sub, abstract := ab, collection := col, hasDel := false } := by
    unfold PySem.W.clsIn; rw [h]
  exact ⟨_, e, rfl, rfl, rfl⟩
theorem Sx.cls (x : Sx K S nm) : ∃ cd, PySem.W.clsIn K S = some cd ∧ cd.mro = .ref S :: veTail ∧ cd.name = nm := by
  obtain ⟨q, N, bs, sn, sub, ab, col, dd, k0, k1, k2, k3, k5, h⟩ := x.lk
  have e : PySem.W.clsIn K S = some { name := nm, bases := bs, mro := .ref S :: veTail, ns := N, qualname := q, hasDict := true, slotNames := sn, subclasses := sub, abstract := ab, collection := col, hasDel := false } := by
    unfold PySem.W.clsIn; rw [h]
  exact ⟨_, e, rfl, rfl⟩
theorem Ex.ty (x : Ex K S C fI nm) : PySem.W.typeIn K (.ref C) = some (.type "type") := by
  obtain ⟨q, N, bs, sn, sub, ab, col, dd, k0, k1, k2, k3, k5, h⟩ := x.lk
  show (K.lookup C).map (·.cls) = _
  rw [h]; rfl
theorem Sx.ty (x : Sx K S nm) : PySem.W.typeIn K (.ref S) = some (.type "type") := by
  obtain ⟨q, N, bs, sn, sub, ab, col, dd, k0, k1, k2, k3, k5, h⟩ := x.lk
  show (K.lookup S).map (·.cls) = _
  rw [h]; rfl
theorem Ex.mro (x : Ex K S C fI nm) (b : Value) : PySem.W.mroIn K C b = some ((.ref C :: .ref S :: veTail).contains b) := by
  obtain ⟨cd, h, m, _⟩ := x.cls
  unfold PySem.W.mroIn
  rw [h, Option.bind_some, m]; rfl
theorem Ex.ne (x : Ex K S C fI nm) (y : Ex K S D fJ nm') (h : nm ≠ nm') : C ≠ D := fun e => by
  obtain ⟨cd, h1, _, n1, _⟩ := x.cls
  obtain ⟨ce, h2, _, n2, _⟩ := y.cls
  rw [e, h2] at h1
  cases h1
  exact h (n1.symm.trans n2)
theorem Ex.neS (x : Ex K S C fI nm) (y : Sx K S ns) (h : nm ≠ ns) : C ≠ S := fun e => by
  obtain ⟨cd, h1, _, n1, _⟩ := x.cls
  obtain ⟨ce, h2, _, n2⟩ := y.cls
  rw [e, h2] at h1
  cases h1
  exact h (n1.symm.trans n2)
theorem Ex.exc (x : Ex K S C fI nm) : PySem.W.subIn K (.ref C) (.type "BaseException") = some true := (x.mro _).trans (by simp [veTail])
theorem Ex.oex (x : Ex K S C fI nm) : OexC K C where
  cls := by
    obtain ⟨q, N, bs, sn, sub, ab, col, dd, k0, k1, k2, k3, k5, h⟩ := x.lk
    exact ⟨nm, q, N, bs, .ref S :: veTail, sn, sub, ab, col, dd, k0, k1, k2, k3, k5, h, show PySem.HandSPX.refsVE veTail = true by decide +kernel⟩
  sa := x.sa
  exC := x.exc
  tyC := x.ty
  kC := x.kp
theorem Ex.err (x : Ex K S C fI nm) : ErrC K C fI := ⟨x.oex, x.init, x.fn⟩
theorem Ex.hd (x : Ex K S C fI nm) : PySem.W.hasDictIn K C = true := by
  obtain ⟨cd, h, _, _, d⟩ := x.cls
  unfold PySem.W.hasDictIn
  rw [h]
  simp [d]
theorem Ex.xf (x : Ex K S C fI nm) : XfC K C := ⟨x.ga, x.gg, x.exc, x.hd⟩
/-- isinstance among them -/
theorem Ex.kit_ne (x : Ex K S C fI nm) (y : Ex K S D fJ nm') (s : Sx K S ns) (h : nm ≠ nm') (h2 : nm' ≠ ns) : PySem.W.kitOne K (.ref C) (.ref D) = some false := by
  have e : C ≠ D := x.ne y h
  have e2 : D ≠ S := y.neS s h2
  unfold PySem.W.kitOne PySem.W.kitCls
  rw [if_neg (by intro q; exact e (Value.ref.inj (beq_iff_eq.mp q)))]
  obtain ⟨ce, hc, _⟩ := y.cls
  dsimp only
  rw [if_pos (by rw [hc, y.ty]; rfl)]
  show PySem.W.mroIn K C _ = _
  rw [x.mro]
  simp [veTail, Ne.symm e, e2]
theorem Ex.kit_s (x : Ex K S C fI nm) (s : Sx K S ns) (h2 : nm ≠ ns) : PySem.W.kitOne K (.ref C) (.ref S) = some true := by
  have e : C ≠ S := x.neS s h2
  unfold PySem.W.kitOne PySem.W.kitCls
  rw [if_neg (by intro q; exact e (Value.ref.inj (beq_iff_eq.mp q)))]
  obtain ⟨ce, hc, _⟩ := s.cls
  dsimp only
  rw [if_pos (by rw [hc, s.ty]; rfl)]
  show PySem.W.mroIn K C _ = _
  rw [x.mro]
  simp [veTail]
theorem Ex.kit_v (x : Ex K S C fI nm) : PySem.W.kitOne K (.ref C) (.type "ValueError") = some true := by
  unfold PySem.W.kitOne PySem.W.kitCls
  rw [if_neg (by intro q; cases (beq_iff_eq.mp q))]
  dsimp only
  rw [if_pos (by decide +kernel)]
  show PySem.W.mroIn K C _ = _
  rw [x.mro]
  simp [veTail]
end
/-- an error of the class C, with fields or without -/
def ErrO (H : Hp) (a C : Addr) : Prop := H a = some (exo a C none) ∨ ∃ fs, ErrAt H a C fs
theorem ErrAt.o {H : Hp} {a C : Addr} {fs : List (Str × V)} (h : ErrAt H a C fs) : ErrO H a C := Or.inr ⟨fs, h⟩
section
variable {X : Cx}
/-- isinstance(e, c), e an error -/
def rIsE1 (K : PySem.W.Frag) : List V → Hp → VK → Prop := fun xs H Q => ∃ (a S C fI : Addr) (nm : Str) (c : V) (u : Value) (b : Bool), xs = [.ref a, c] ∧ Gx K ∧ Ex K S C fI nm ∧ ErrO H a C ∧ ClsV c u ∧ PySem.W.kitOne K (.ref C) u = some b ∧ Q (.bl b) H
def rIsET (K : PySem.W.Frag) : List V → Hp → VK → Prop := fun xs H Q => ∃ (a tp S C fI : Addr) (nm : Str) (cs : List V) (us : List Value) (b : Bool), xs = [.ref a, .ref tp] ∧ H tp = some (.tup cs) ∧ Gx K ∧ Ex K S C fI nm ∧ ErrO H a C ∧ Paired ClsV cs us ∧ PySem.W.kitAny K (.ref C) us = some b ∧ Q (.bl b) H
theorem exo_inst {pins : List (Addr × Obj)} {σ : L2.St} {H : Hp} {s : Shared} {a C : Addr} (I : Inv X pins σ H s) (e : ErrO H a C) : ∃ ox od, PySem.W.InstAt s.heap a ox C od := by
  rcases e with e | ⟨fs, dx, e, ed⟩
  · obtain ⟨t1, ho⟩ := exo_at I.hok e
    exact ⟨_, none, ho, rfl, rfl, trivial⟩
  · obtain ⟨t1, ho⟩ := exo_at I.hok e
    obtain ⟨mA, hns, hr⟩ := exd_at I.hok ed
    obtain ⟨od, hod, hl⟩ := lookIn_ns hns
    exact ⟨_, some od, ho, rfl, rfl, hod⟩
theorem call_isE1 : CallR X (.builtin "isinstance") (rIsE1 X.K) := by
  intro pins s σ H xs us Q I r h
  obtain ⟨a, S, C, fI, nm, c, u, b, rfl, G, x, e, k, q, w⟩ := h
  obtain ⟨u1, u2, rfl, r1, r2⟩ := vals2 r
  obtain rfl : u1 = Value.ref a := r1
  have ec := k.eq r2
  subst ec
  obtain ⟨ox, od, J⟩ := exo_inst I e
  obtain ⟨cd, hc, _⟩ := x.cls
  exact PySem.W.kia_one (PySem.W.kitx_exc (by rw [hc]; rfl) x.ga x.gg x.exc x.ca G.hn G.tk ((x.mro _).trans (by simp [veTail]))) I.kIn J q (fun z => nomatch z) fun tk => ⟨.bl b, H, I.tok _, rfl, w⟩
theorem call_isET : CallR X (.builtin "isinstance") (rIsET X.K) := by
  intro pins s σ H xs us Q I r h
  obtain ⟨a, tp, S, C, fI, nm, cs, ws, b, rfl, hT, G, x, e, k, q, w⟩ := h
  obtain ⟨u1, u2, rfl, r1, r2⟩ := vals2 r
  obtain rfl : u1 = Value.ref a := r1
  cases (show u2 = Value.ref tp from r2)
  obtain ⟨ox, od, J⟩ := exo_inst I e
  obtain ⟨cd, hc, _⟩ := x.cls
  obtain ⟨_, its, rv, o, h1, h2, n, h3⟩ := (show ObjOk X.prog X.w H s.heap tp (.tup cs) from I.hok tp _ hT)
  have e3 := ClsV.all k rv
  subst e3
  obtain ⟨oc, od', dt, sl⟩ := o
  simp only at h2 h3
  subst h2 h3
  exact PySem.W.kia_tup (PySem.W.kitx_exc (by rw [hc]; rfl) x.ga x.gg x.exc x.ca G.hn G.tk ((x.mro _).trans (by simp [veTail]))) I.kIn J h1 q (fun z => nomatch z) fun tk => ⟨.bl b, H, I.tok _, rfl, w⟩
theorem uIsE : CallR X (.builtin "isinstance") (fun xs H Q => rIsE1 X.K xs H Q ∨ rIsET X.K xs H Q) := CallR.or' call_isE1 call_isET
end
/-! ## the bodies of their __init__ -/
abbrev tText (ts : List TE) : TE := fun σ H Q => tJs ts Str.empty σ H fun out H1 => Q (.str out) H1
section
variable {K : PySem.W.Frag} {S C fI a : Addr} {nm f g lit lit2 : Str} {H : Hp} {Q : VK} {σ : L2.St} {D : Ends} {v u : V} {e e2 : PyData}
theorem err0_body (X : Ex K S C fI nm) (ha : H a = some (exo a C none)) (h0 : σ[0]? = some (some (.ref a))) (k : D.nx σ H) : tDrop (tVeI K (tCons (tVar 0) (tCons (tC (.str lit)) tNil))) D σ H :=
  ⟨_, h0, a, C, _, rfl, by simp, X.oex, ha, k⟩
theorem err1_body (X : Ex K S C fI nm) (A : NoAttr K C f) (ha : H a = some (exo a C none)) (s : Sh K H v e) (n : Shn e) (h0 : σ[0]? = some (some (.ref a))) (h1 : σ[1]? = some (some v)) (hl : lit.length ≤ 1000)
    (k : ∀ H', (∀ x o, H x = some o → x ≠ a → H' x = some o) → ErrAt H' a C [(f, v)] → D.nx σ H') :
    tSeq (tDrop (tVeI K (tCons (tVar 0) (tCons (tText [tC (.str lit), tFmtA K (tVar 1)]) tNil)))) (tOst K f (tVar 0) (tVar 1)) D σ H := by
  refine ⟨_, h0, ⟨_, rfl, cat_len (m := 0) (n := 1000) (Nat.le_refl _) hl (by decide), _, h1, e, s, n, _, rfl, ?_, ?_⟩⟩
  · exact shn_len n (cat_len (m := 0) (n := 1000) (Nat.le_refl _) hl (by decide))
  · refine ⟨a, C, _, rfl, by simp, X.oex, ha, ?_⟩
    refine ⟨_, h1, _, h0, a, C, rfl, X.oex, A, Or.inl ⟨ha, fun dx hd ne => k _ (fun x o h nx => ?_) ⟨dx, upd_same, ?_⟩⟩⟩
    · rw [upd_ne nx, upd_ne (ne_of_none h hd)]; exact h
    · rw [upd_ne ne, upd_same]
theorem err2_body (X : Ex K S C fI nm) (A : NoAttr K C f) (B : NoAttr K C g) (ha : H a = some (exo a C none)) (s : Sh K H v e) (n : Shn e) (s2 : Sh K H u e2) (n2 : Shn e2) (h0 : σ[0]? = some (some (.ref a))) (h1 : σ[1]? = some (some v)) (h2 : σ[2]? = some (some u))
    (hl : lit.length ≤ 1000) (hl2 : lit2.length ≤ 900) (k : ∀ H', (∀ x o, H x = some o → x ≠ a → H' x = some o) → ErrAt H' a C [(g, u), (f, v)] → D.nx σ H') :
    tSeq (tDrop (tVeI K (tCons (tVar 0) (tCons (tText [tC (.str lit), tFmtA K (tVar 1), tC (.str lit2), tFmtA K (tVar 2)]) tNil)))) (tSeq (tOst K f (tVar 0) (tVar 1)) (tOst K g (tVar 0) (tVar 2))) D σ H := by
  have z1 : (Str.empty ++ lit).length ≤ 1000 := cat_len (m := 0) (n := 1000) (Nat.le_refl _) hl (by decide)
  have z2 : (Str.empty ++ lit ++ e.shown).length ≤ 3000 := cat_len z1 n.sz (by decide)
  have z3 : (Str.empty ++ lit ++ e.shown ++ lit2).length ≤ 3900 := cat_len z2 hl2 (by decide)
  refine ⟨_, h0, ⟨_, rfl, Nat.le_trans z1 (by decide), _, h1, e, s, n, _, rfl, Nat.le_trans z2 (by decide), ⟨_, rfl, Nat.le_trans z3 (by decide), _, h2, e2, s2, n2, _, rfl, shn_len n2 (Nat.le_trans z3 (by decide)), ?_⟩⟩⟩
  refine ⟨a, C, _, rfl, by simp, X.oex, ha, ?_⟩
  refine ⟨_, h1, _, h0, a, C, rfl, X.oex, A, Or.inl ⟨ha, fun dx hd ne => ?_⟩⟩
  have hne : a ≠ dx := Ne.symm ne
  refine ⟨_, h2, _, h0, a, C, rfl, X.oex, B, Or.inr ⟨dx, [(f, v)], upd_same, by rw [upd_ne ne, upd_same], by simp, ?_⟩⟩
  refine k _ (fun x o h nx => ?_) ⟨dx, by rw [upd_ne hne, upd_same], upd_same⟩
  have nd := ne_of_none h hd
  rw [upd_ne nd, upd_ne nx, upd_ne nd]; exact h
end
/-! ## bindings by name -/
section
variable {P : Program} {w : World} {K : PySem.W.Frag} {mg : Str → Option Value} {base : Heap} {CX : CXT} {k : Nat} {f : Addr} {sp : Sp} {fd : FuncData} {p q r : Str}
theorem FnOG.key11 (F : FnOG P w K mg base CX k f fd [p, q] sp) (len : ∀ vs H Q E, sp vs H Q E → vs.length = 2) (h : ∀ a b : Value, bindArgs fd ⟨[a], [(q, b)]⟩ = pure [(p, a), (q, b)]) : FnGk P w K mg base CX k f [q] g11 sp := by
  intro A out z G us ws vs zs Q E ng room env r rz prom
  have ln := len _ _ _ _ prom
  match vs, us, zs, ws, r, rz, ln, prom with
  | [_], [u], [_], [b], .cons r1 .nil, .cons r2 .nil, _, prom => exact F A out z G ⟨[u], [(q, b)]⟩ [u, b] _ Q E ng room env (.of_eq (h u b)) rfl (.cons r1 (.cons r2 .nil)) prom
  | [], [], _, _, .nil, _, ln, _ => cases ln
  | [_], [_], [], [], .cons _ .nil, .nil, ln, _ => cases ln
  | [_], [_], _ :: _ :: _, _ :: _ :: _, .cons _ .nil, .cons _ (.cons _ _), ln, _ => cases ln
  | _ :: _ :: _, _ :: _ :: _, _, _, .cons _ (.cons _ _), _, ln, _ => cases ln
theorem FnOG.key12 (F : FnOG P w K mg base CX k f fd [p, q, r] sp) (len : ∀ vs H Q E, sp vs H Q E → vs.length = 3) (h : ∀ a b c : Value, bindArgs fd ⟨[a], [(r, b), (q, c)]⟩ = pure [(p, a), (q, c), (r, b)]) : FnGk P w K mg base CX k f [r, q] g12 sp := by
  intro A out z G us ws vs zs Q E ng room env r0 rz prom
  have ln := len _ _ _ _ prom
  match vs, us, zs, ws, r0, rz, ln, prom with
  | [_], [u], [_, _], [b, c], .cons r1 .nil, .cons r2 (.cons r3 .nil), _, prom => exact F A out z G ⟨[u], [(r, b), (q, c)]⟩ [u, c, b] _ Q E ng room env (.of_eq (h u b c)) rfl (.cons r1 (.cons r3 (.cons r2 .nil))) prom
  | [], [], _, _, .nil, _, ln, _ => cases ln
  | [_], [_], [], [], .cons _ .nil, .nil, ln, _ => cases ln
  | [_], [_], [_], [_], .cons _ .nil, .cons _ .nil, ln, _ => cases ln
  | [_], [_], _ :: _ :: _ :: _, _ :: _ :: _ :: _, .cons _ .nil, .cons _ (.cons _ (.cons _ _)), ln, _ => cases ln
  | _ :: _ :: _, _ :: _ :: _, _, _, .cons _ (.cons _ _), _, ln, _ => cases ln
end
end AZ

set_option Elab.async false
set_option maxRecDepth 100000
set_option maxHeartbeats 4000000
set_option linter.all false
/-! Own work: what stays of data; rows of errors. -/
namespace AZ
open PySem L2 PyProof.Rows
section
variable {K : PySem.W.Frag} {H H' : Hp}
theorem sqL_same {a : Addr} {xs : List V} (e : Same H H') (h : SqL K H a xs) : SqL K H' a xs := h.elim (fun h => Or.inl (h.elim (fun q => Or.inl (e _ _ q)) fun ⟨o, q⟩ => Or.inr ⟨o, e _ _ q⟩)) Or.inr
theorem sqT_same {a : Addr} {xs : List V} (e : Same H H') (h : SqT K H a xs) : SqT K H' a xs := h.elim (fun h => Or.inl (h.elim (fun q => Or.inl (e _ _ q)) fun ⟨o, q⟩ => Or.inr ⟨o, e _ _ q⟩)) Or.inr
mutual
theorem dp_same (e : Same H H') : ∀ {v : V} {d : PyData}, Dp K H v d → Dp K H' v d
  | _, _, .non => .non
  | _, _, .bl b => .bl b
  | _, _, .int i => .int i
  | _, _, .str x => .str x
  | _, _, .lst h r => .lst (sqL_same e h) (dpAll_same e r)
  | _, _, .tup h r => .tup (sqT_same e h) (dpAll_same e r)
theorem dpAll_same (e : Same H H') : ∀ {vs : List V} {ds : List PyData}, DpAll K H vs ds → DpAll K H' vs ds
  | _, _, .nil => .nil
  | _, _, .cons h r => .cons (dp_same e h) (dpAll_same e r)
end
theorem Sh.same {v : V} {d : PyData} (e : Same H H') (h : Sh K H v d) : Sh K H' v d := match h with
  | .dp h n => .dp (dp_same e h) n
  | .dict h => .dict (e _ _ h)
theorem ErrAt.same {a C : Addr} {fs : List (Str × V)} (e : Same H H') (h : ErrAt H a C fs) : ErrAt H' a C fs := let ⟨dx, x, y⟩ := h; ⟨dx, e _ _ x, e _ _ y⟩
end
/-- a pair of an error of c, with these fields, and v -/
def PairAt (v : V) (H : Hp) (p : V) (c : Addr × List (Str × V)) : Prop := ∃ t e, p = .ref t ∧ H t = some (.tup [.ref e, v]) ∧ ErrAt H e c.1 c.2
theorem PairAt.same {v p : V} {H H' : Hp} {c : Addr × List (Str × V)} (e : Same H H') (h : PairAt v H p c) : PairAt v H' p c := let ⟨t, a, x, y, z⟩ := h; ⟨t, a, x, e _ _ y, z.same e⟩
/-- a list of such pairs -/
def RowsAt (v : V) (H : Hp) (l : Addr) (cs : List (Addr × List (Str × V))) : Prop := ∃ ps, H l = some (.lst ps) ∧ Paired (PairAt v H) ps cs
theorem rows_same {v : V} {H H' : Hp} (e : Same H H') : ∀ {ps : List V} {cs : List (Addr × List (Str × V))}, Paired (PairAt v H) ps cs → Paired (PairAt v H') ps cs
  | _, _, .nil => .nil
  | _, _, .cons h r => .cons (h.same e) (rows_same e r)
theorem RowsAt.same {v : V} {H H' : Hp} {l : Addr} {cs : List (Addr × List (Str × V))} (e : Same H H') (h : RowsAt v H l cs) : RowsAt v H' l cs := let ⟨ps, x, y⟩ := h; ⟨ps, e _ _ x, rows_same e y⟩
theorem paired_append {α β : Type} {R : α → β → Prop} : ∀ {xs : List α} {ys : List β} {us : List α} {ws : List β}, Paired R xs ys → Paired R us ws → Paired R (xs ++ us) (ys ++ ws)
  | _, _, _, _, .nil, h => h
  | _, _, _, _, .cons a b, h => .cons a (paired_append b h)
/-- the reading R makes such a pair -/
def PR (K : PySem.W.Frag) (σ : L2.St) (v : V) (e : V → Hp → Prop) (R : TE) (c : Addr × List (Str × V)) : Prop := ∀ H Q, e v H → (∀ p H', Same H H' → PairAt v H' p c → Q p H') → R σ H Q
section
variable {K : PySem.W.Frag} {S C fI : Addr} {nm f g : Str} {σ : L2.St} {i j : Nat} {v u : V} {e e2 : PyData} {Q : VK} {H : Hp}
theorem same_made {a : Addr} {o : HO} {H' : Hp} (n : H a = none) (k : ∀ x o', upd H a o x = some o' → x ≠ a → H' x = some o') : Same H H' := fun b u h => by
  have nb := ne_of_none h n
  exact k b u (by rw [upd_ne nb]; exact h) nb
/-- C(v) -/
theorem mk1 (h0 : σ[i]? = some (some v)) (s : Sh K H v e) (n : Shn e) (k : ∀ a H', Same H H' → ErrAt H' a C [(f, v)] → Q (.ref a) H') : tMkE C (spErr1 K C f) (tCons (tVar i) tNil) σ H Q :=
  ⟨_, h0, (by show 1 ≤ 1000; decide), fun a ha => ⟨a, v, e, rfl, upd_same, s.same (sameNew ha), n, fun H' kp er => ⟨rfl, k a H' (same_made ha kp) er⟩⟩⟩
theorem mk1k (h0 : σ[i]? = some (some v)) (s : Sh K H v e) (n : Shn e) (k : ∀ a H', Same H H' → ErrAt H' a C [(f, v)] → Q (.ref a) H') : tMkEk C g11 (spErr1 K C f) (tCons (tVar i) tNil) σ H Q :=
  ⟨_, h0, fun a ha => ⟨a, v, e, rfl, upd_same, s.same (sameNew ha), n, fun H' kp er => ⟨rfl, k a H' (same_made ha kp) er⟩⟩⟩
theorem fld1 {te : TE} {w : V} {fs : List (Str × V)} (X : Ex K S C fI nm) (A : NoAttr K C f) (l : fs.lookup f = some w) (h : te σ H fun y H1 => ∃ a, y = .ref a ∧ ErrAt H1 a C fs ∧ Q w H1) (mono : ∀ {P P' : VK}, (∀ y H1, P y H1 → P' y H1) → te σ H P → te σ H P') : tXfA K f te σ H Q :=
  mono (fun y H1 ⟨a, e, x, q⟩ => ⟨a, C, fs, w, e, X.xf, A, x, l, q⟩) h
theorem pair1 (X : Ex K S C fI nm) (A : NoAttr K C f) (h0 : σ[i]? = some (some v)) (n : Shn e) :
    PR K σ v (fun v H => Sh K H v e) (tTup (tCons (tMkE C (spErr1 K C f) (tCons (tVar i) tNil)) (tCons (tXfA K f (tMkEk C g11 (spErr1 K C f) (tCons (tVar i) tNil))) tNil))) (C, [(f, v)]) := fun H Q s k => by
  have two : ∀ a H1, Same H H1 → ErrAt H1 a C [(f, v)] → tXfA K f (tMkEk C g11 (spErr1 K C f) (tCons (tVar i) tNil)) σ H1 fun y H2 => [V.ref a, y].length ≤ sizeLine ∧ ∀ p, H2 p = none → Q (.ref p) (upd H2 p (.tup [V.ref a, y])) := fun a H1 e1 x1 => by
    show tMkEk C g11 (spErr1 K C f) (tCons (tVar i) tNil) σ H1 _
    refine mk1k h0 (s.same e1) n fun b H2 e2 x2 => ⟨b, C, _, v, rfl, X.xf, A, x2, by simp [List.lookup], ?_⟩
    exact ⟨(by show 2 ≤ sizeLine; decide), fun t ht => k _ _ ((e1.trans e2).trans (sameNew ht)) ⟨t, a, rfl, upd_same, (x1.same e2).same (sameNew ht)⟩⟩
  have r : tMkE C (spErr1 K C f) (tCons (tVar i) tNil) σ H fun x H1 => tXfA K f (tMkEk C g11 (spErr1 K C f) (tCons (tVar i) tNil)) σ H1 fun y H2 => [x, y].length ≤ sizeLine ∧ ∀ p, H2 p = none → Q (.ref p) (upd H2 p (.tup [x, y])) := mk1 h0 s n two
  exact r
/-- a list of one or two of them -/
theorem lst1 {R : TE} {c : Addr × List (Str × V)} {I : V → Hp → Prop} (h : PR K σ v I R c) (q : I v H) (k : ∀ l H', Same H H' → RowsAt v H' l [c] → Q (.ref l) H') : tLst (tCons R tNil) σ H Q :=
  h H _ q fun p H1 e1 x => ⟨(by show 1 ≤ sizeLine; decide), fun l hl => k l _ (e1.trans (sameNew hl)) ⟨[p], upd_same, .cons (x.same (sameNew hl)) .nil⟩⟩
theorem lst2 {R R' : TE} {c c' : Addr × List (Str × V)} {I : V → Hp → Prop} (im : ∀ {H H'}, Same H H' → I v H → I v H') (h : PR K σ v I R c) (h' : PR K σ v I R' c') (q : I v H) (k : ∀ l H', Same H H' → RowsAt v H' l [c, c'] → Q (.ref l) H') : tLst (tCons R (tCons R' tNil)) σ H Q :=
  h H _ q fun p H1 e1 x => h' H1 _ (im e1 q) fun p' H2 e2 x' => ⟨(by show 2 ≤ sizeLine; decide), fun l hl => k l _ ((e1.trans e2).trans (sameNew hl)) ⟨[p, p'], upd_same, .cons ((x.same e2).same (sameNew hl)) (.cons (x'.same (sameNew hl)) .nil)⟩⟩
/-- list + list -/
theorem cat_rows {r1 r2 r4 : R2} {t1 t2 : TE} {c1 c2 : List (Addr × List (Str × V))} {l : Addr} (h1 : ∀ Q', (∀ H', H' = H → Q' (.ref l) H') → t1 σ H Q') (hl : RowsAt v H l c1) (hz : c1.length + c2.length ≤ 1000)
    (h2 : ∀ Q', (∀ b H', Same H H' → RowsAt v H' b c2 → Q' (.ref b) H') → t2 σ H Q') (k : ∀ p H', Same H H' → RowsAt v H' p (c1 ++ c2) → Q (.ref p) H') : tOp (orR r1 (orR r2 (orR rCat r4))) t1 t2 σ H Q := by
  refine h1 _ fun H' eH => ?_
  subst eH
  refine h2 _ fun b H1 e1 x => Or.inr (Or.inr (Or.inl ?_))
  obtain ⟨ps, hp, pr⟩ := hl.same e1
  obtain ⟨qs, hq, qr⟩ := x
  refine ⟨l, b, ps, qs, rfl, rfl, hp, hq, ?_, fun p hpn => k p _ (e1.trans (sameNew hpn)) ⟨ps ++ qs, upd_same, rows_same (sameNew hpn) (paired_append pr qr)⟩⟩
  rw [pr.length, qr.length]
  exact Nat.le_trans hz (by decide)
theorem PR.imp {R : TE} {c : Addr × List (Str × V)} {I I' : V → Hp → Prop} (h : PR K σ v I R c) (k : ∀ H, I' v H → I v H) : PR K σ v I' R c := fun H Q q => h H Q (k H q)
/-- C(v, u) -/
theorem mk2 (h0 : σ[i]? = some (some v)) (h1 : σ[j]? = some (some u)) (s : Sh K H v e) (n : Shn e) (s2 : Sh K H u e2) (n2 : Shn e2) (k : ∀ a H', Same H H' → ErrAt H' a C [(g, u), (f, v)] → Q (.ref a) H') : tMkE C (spErr2 K C f g) (tCons (tVar i) (tCons (tVar j) tNil)) σ H Q :=
  ⟨_, h0, _, h1, (by show 2 ≤ 1000; decide), fun a ha => ⟨a, v, u, e, e2, rfl, upd_same, s.same (sameNew ha), n, s2.same (sameNew ha), n2, fun H' kp er => ⟨rfl, k a H' (same_made ha kp) er⟩⟩⟩
theorem mk2k (h0 : σ[i]? = some (some v)) (h1 : σ[j]? = some (some u)) (s : Sh K H v e) (n : Shn e) (s2 : Sh K H u e2) (n2 : Shn e2) (k : ∀ a H', Same H H' → ErrAt H' a C [(g, u), (f, v)] → Q (.ref a) H') : tMkEk C g12 (spErr2 K C f g) (tCons (tVar j) (tCons (tVar i) tNil)) σ H Q :=
  ⟨_, h1, _, h0, fun a ha => ⟨a, v, u, e, e2, rfl, upd_same, s.same (sameNew ha), n, s2.same (sameNew ha), n2, fun H' kp er => ⟨rfl, k a H' (same_made ha kp) er⟩⟩⟩
/-- its field f or g -/
theorem fld2f {te : TE} (X : Ex K S C fI nm) (A : NoAttr K C f) (hfg : (f == g) = false) (h : ∀ Q' : VK, (∀ a H', Same H H' → ErrAt H' a C [(g, u), (f, v)] → Q' (.ref a) H') → te σ H Q') (k : ∀ H', Same H H' → Q v H') : tXfA K f te σ H Q :=
  h _ fun a H' e1 x => ⟨a, C, _, v, rfl, X.xf, A, x, by simp [List.lookup, hfg], k H' e1⟩
theorem fld2g {te : TE} (X : Ex K S C fI nm) (A : NoAttr K C g) (h : ∀ Q' : VK, (∀ a H', Same H H' → ErrAt H' a C [(g, u), (f, v)] → Q' (.ref a) H') → te σ H Q') (k : ∀ H', Same H H' → Q u H') : tXfA K g te σ H Q :=
  h _ fun a H' e1 x => ⟨a, C, _, u, rfl, X.xf, A, x, by simp [List.lookup], k H' e1⟩
theorem pair2 (X : Ex K S C fI nm) (A : NoAttr K C f) (hfg : (f == g) = false) (h0 : σ[i]? = some (some v)) (h1 : σ[j]? = some (some u)) (n : Shn e) (n2 : Shn e2) :
    PR K σ v (fun v H => Sh K H v e ∧ Sh K H u e2) (tTup (tCons (tMkE C (spErr2 K C f g) (tCons (tVar i) (tCons (tVar j) tNil))) (tCons (tXfA K f (tMkEk C g12 (spErr2 K C f g) (tCons (tVar j) (tCons (tVar i) tNil)))) tNil))) (C, [(g, u), (f, v)]) := fun H Q s k => by
  have r : tMkE C (spErr2 K C f g) (tCons (tVar i) (tCons (tVar j) tNil)) σ H fun x H1 => tXfA K f (tMkEk C g12 (spErr2 K C f g) (tCons (tVar j) (tCons (tVar i) tNil))) σ H1 fun y H2 => [x, y].length ≤ sizeLine ∧ ∀ p, H2 p = none → Q (.ref p) (upd H2 p (.tup [x, y])) :=
    mk2 h0 h1 s.1 n s.2 n2 fun a H1 e1 x1 => fld2f X A hfg (fun Q' k' => mk2k h0 h1 (s.1.same e1) n (s.2.same e1) n2 k') fun H2 e2 =>
      ⟨(by show 2 ≤ sizeLine; decide), fun t ht => k _ _ ((e1.trans e2).trans (sameNew ht)) ⟨t, a, rfl, upd_same, (x1.same e2).same (sameNew ht)⟩⟩
  exact r
end
theorem _root_.L2.Room.units70 {k : Nat} {A : Around} (r : Room k A) : A.units + 70 < cLine := by have := r.un; omega
section
variable {X : Cx} {K : PySem.W.Frag}
theorem ix_seqK (h : X.K = K) : IxR X (rIx K) := by
  subst h
  exact ix_seq
theorem call_reprSK (h : X.K = K) (ng : NoG X.A) (hu : X.A.units + 70 < cLine) : CallR X (.builtin "repr") (fun xs H Q => ∃ v d, xs = [v] ∧ Sh K H v d ∧ Shn d ∧ Q (.str d.shown) H) := by
  subst h
  exact call_reprS ng hu
theorem uIsEK (h : X.K = K) : CallR X (.builtin "isinstance") (fun xs H Q => rIsE1 K xs H Q ∨ rIsET K xs H Q) := by
  subst h
  exact uIsE
end
end AZ

set_option Elab.async false
set_option maxRecDepth 100000
set_option maxHeartbeats 4000000
set_option linter.all false
/-! Own work: errors that are raised, where no repr is under way. -/
namespace AZ
open PySem L2 PyProof.Rows
abbrev CXx (P : Program) (w : World) : CXT := L2.CX P w
/-- C(e, ..) to be raised -/
def tMkX (C : Addr) (sp : Sp) (ta : TA) : L2.St → Hp → XK → Prop := fun σ H Q => ta σ H fun vs H1 => vs.length ≤ 1000 ∧ ∀ a, H1 a = none → sp (.ref a :: vs) (upd H1 a (exo a C none))
  (fun v H2 => v = .non ∧ ∃ (d : Addr) (fs : List (Str × V)), H2 a = some (exo a C (some d)) ∧ H2 d = some (exd d fs) ∧ H1 d = none ∧ Q (.ref C) (some d) (upd (del H2 a) d (.xd fs))) (fun _ _ _ => False)
section
variable {X : Cx} {CX : CXT} {k : Nat} {C fI : Addr} {sp : Sp} {x : Str} {e : Expr} {es : List Expr} {p pos : Pos} {ta : TA}
theorem pmk_err (T : ErrC X.K C fI) (F : FnG X.prog X.w X.K X.mg X.base CX k fI sp) (ng : NoG X.A) (hr : Room (k + 1) X.A) (hx : Passes CX X (fun _ _ _ => False)) (hg : Gl X x) (hm : X.mg x = some (.ref C)) (ha : PA X (e :: es) ta)
    (hdb : (x == ("__debug__" : Str)) = false := by decide) (he : starEach (e :: es) X.env = (false, eval e X.env) :: starEach es X.env := by rfl) (hpl : (backTo pos (starEach es X.env)).any (·.1) = false := by rfl) :
    PMk X (.Call (.Name x p) (e :: es) [] pos) (tMkX C sp ta) := by
  intro pins s σ H Q I h
  obtain ⟨nm, qn, N, bs, bm, sn, sub, ab, col, dd, k0, k1, k2, k3, k5, hC, hbm⟩ := T.oex.cls
  refine wpAny_Call_Name_kw (ld_glob I hg hm ?_ hdb)
  refine PySem.W.callWith_K (h₀ := X.base) I.ok.mod.kin T.oex.kC (thn (ha.run pos pins s σ H _ I h) fun us s1 ⟨vs, H1, I1, r1, hz, q1⟩ => ⟨I1.kIn, ?_⟩) he hpl
  show wpAny _ _ (call (.ref C) us) _ _ _
  obtain ⟨hp, g, dr, tk, os⟩ := s1
  have hsz : hp.objs.size ≤ hp.objs.size + 1 := Nat.le_succ _
  have hq := q1 (hp.objs.size + 1) (I1.hok.fresh hsz)
  have kk : ∀ b o, hp.get? b = some o → ((hp.push (PySem.W.kdv_tup us)).push (PySem.HandSPX.excO C hp.objs.size)).get? b = some o := fun b o e => Heap.get?_push_of_some _ (Heap.get?_push_of_some _ e)
  have gx : ((hp.push (PySem.W.kdv_tup us)).push (PySem.HandSPX.excO C hp.objs.size)).get? (hp.objs.size + 1) = some (PySem.HandSPX.excO C hp.objs.size) := by heap_get
  have I2 : Inv X pins σ (upd H1 (hp.objs.size + 1) (exo (hp.objs.size + 1) C none)) ⟨(hp.push (PySem.W.kdv_tup us)).push (PySem.HandSPX.excO C hp.objs.size), g, dr, tk, os⟩ :=
    I1.laid (t' := tk) (a := hp.objs.size + 1) (o := exo (hp.objs.size + 1) C none) (h' := (hp.push (PySem.W.kdv_tup us)).push (PySem.HandSPX.excO C hp.objs.size)) kk hsz (exo_ok gx)
  have hus : us.length ≤ sizeLine := Nat.le_trans (by rw [← Paired.length r1]; exact hz) (show 1000 ≤ sizeLine by decide)
  refine wpAny_call (PySem.HandSPX.call_own PySem.F.excBase_ValueError (fun Y => PySem.HandSPX.refsVE_contains Y bm hbm) (I1.kIn _ _ hC) (PySem.W.looks_findIn I1.kIn T.init) (fun self => PySem.W.bind_fn I1.kIn self T.fn) hus ?_)
  refine codeAny_mono (F _ X.stack _ _ (.ref (hp.objs.size + 1) :: us) (.ref (hp.objs.size + 1) :: vs) _ _ ng (hr.make C us []) (I2.env0.make C us []) (.cons rfl r1) hq) fun r s' hq' => ?_
  match r, hq' with
  | .error er, hq' => exact hx pins σ _ _ er s' I2 hq'
  | .ok (.ret u), ⟨v, H2, os2, bare2, un2, hok2, rv, ev, d, fs, ea, ed, hd1, q2⟩ =>
    subst ev
    obtain ⟨h2, g2, d2, t2, os'⟩ := s'
    exact ⟨rv, mk_end (raises_own T.oex.exC T.oex.tyC) I1 hsz kk un2 hok2 os2 bare2 ea ed hd1 q2⟩
  | .ok .next, hq' => exact hq'.elim
  | .ok .brk, hq' => exact hq'.elim
  | .ok .cont, hq' => exact hq'.elim
end
/-- the promise of an __init__ with one field, to the letter -/
def spErrX (K : PySem.W.Frag) (C : Addr) (f : Str) : Sp := fun vs H Q _ => ∃ a v d, vs = [.ref a, v] ∧ H a = some (exo a C none) ∧ Sh K H v d ∧ Shn d ∧ ∀ dx, H dx = none → dx ≠ a → Q .non (upd (upd H dx (exd dx [(f, v)])) a (exo a C (some dx)))
section
variable {K : PySem.W.Frag} {S C fI a : Addr} {nm f g lit lit2 : Str} {H : Hp} {Q : VK} {σ : L2.St} {D : Ends} {v u : V} {e e2 : PyData} {i : Nat}
theorem err1x_body (X : Ex K S C fI nm) (A : NoAttr K C f) (ha : H a = some (exo a C none)) (s : Sh K H v e) (n : Shn e) (h0 : σ[0]? = some (some (.ref a))) (h1 : σ[1]? = some (some v)) (hl : lit.length ≤ 1000)
    (k : ∀ dx, H dx = none → dx ≠ a → D.nx σ (upd (upd H dx (exd dx [(f, v)])) a (exo a C (some dx)))) :
    tSeq (tDrop (tVeI K (tCons (tVar 0) (tCons (tText [tC (.str lit), tFmtA K (tVar 1)]) tNil)))) (tOst K f (tVar 0) (tVar 1)) D σ H := by
  refine ⟨_, h0, ⟨_, rfl, cat_len (m := 0) (n := 1000) (Nat.le_refl _) hl (by decide), _, h1, e, s, n, _, rfl, ?_, ?_⟩⟩
  · exact shn_len n (cat_len (m := 0) (n := 1000) (Nat.le_refl _) hl (by decide))
  · refine ⟨a, C, _, rfl, by simp, X.oex, ha, ?_⟩
    exact ⟨_, h1, _, h0, a, C, rfl, X.oex, A, Or.inl ⟨ha, fun dx hd ne => k dx hd ne⟩⟩
/-- what is raised: a new dict with the field -/
theorem mkX1 {Q : XK} {te : TE} (h : ∀ Q' : VK, Q' v H → te σ H Q') (s : Sh K H v e) (n : Shn e) (k : ∀ dx, H dx = none → Q (.ref C) (some dx) (upd H dx (.xd [(f, v)]))) : tMkX C (spErrX K C f) (tCons te tNil) σ H Q := by
  refine h _ ⟨(by show 1 ≤ 1000; decide), fun a ha => ⟨a, v, e, rfl, upd_same, s.same (sameNew ha), n, fun dx hd ne => ⟨rfl, dx, [(f, v)], upd_same, ?_, ?_, ?_⟩⟩⟩
  · rw [upd_ne ne, upd_same]
  · rw [upd_ne ne] at hd; exact hd
  · have hd' : H dx = none := by rw [upd_ne ne] at hd; exact hd
    have eq : upd (del (upd (upd (upd H a (exo a C none)) dx (exd dx [(f, v)])) a (exo a C (some dx))) a) dx (.xd [(f, v)]) = upd H dx (.xd [(f, v)]) := by
      funext b
      by_cases hb : b = dx
      · rw [hb, upd_same, upd_same]
      · rw [upd_ne hb, upd_ne hb]
        by_cases hba : b = a
        · rw [hba, del_same, ha]
        · rw [del_ne hba, upd_ne hba, upd_ne hb, upd_ne hba]
    rw [eq]
    exact k dx hd'
end
/-! ## static methods and methods that want no repr under way -/
section
variable {X : Cx} {CX : CXT} {k : Nat} {C g : Addr} {sp : Sp} {E : XK} {o e : Expr} {es : List Expr} {m x : Str} {p pos apos : Pos} {ta : TE} {t : TA}
theorem pe_smethG {pl : Sem Bool} (he : PE X o ta) (c : SMet X.K C m g) (F : FnG X.prog X.w X.K X.mg X.base CX k g sp) (ng : NoG X.A) (hr : Room k X.A) (hx : Passes CX X E) (ha : PA X (e :: es) t)
    (hst : starEach (e :: es) X.env = (false, eval e X.env) :: starEach es X.env := by rfl) (hpl : (backTo pos (starEach es X.env)).any (·.1) = false := by rfl)
    (ht : eval (.Call (.Attribute o m apos) (e :: es) [] pos) X.env = (eval o X.env >>= fun ov => standAt apos.atName >>= fun _ => holding [ov] (getMethod ov m pl) >>= fun r =>
      callWith pos r.1 r.2 (backTo pos (starEach (e :: es) X.env)) (backToKw pos (keywordEach [] X.env))) := by rfl) :
    PE X (.Call (.Attribute o m apos) (e :: es) [] pos) (tSM C sp E ta t) := by
  refine ⟨fun pins s σ H Q I h => ?_⟩
  refine PySem.W.methodCall_KW (pl := pl) (thn (he.run pins s σ H _ I h) fun u s1 ⟨x, H1, I1, rx, ex, q⟩ => ?_) ht
  subst ex
  obtain rfl : u = Value.ref C := rx
  obtain ⟨mc, p, rest, r, at_, rc⟩ := c.ex
  refine PySem.W.method_cls I1.kIn r.ga (PySem.W.cls_bind I1.kIn r.rd at_ (wpAny_call (PySem.W.sm_get (s := { s1 with toks := s1.toks + 1 }) I1.kIn rc (PySem.W.handed_on rfl ?_))))
  refine PySem.W.callWith_K (first := []) (h₀ := X.base) I1.ok.mod.kin c.kp (thn (ha.run pos pins _ σ H1 _ (I1.tok _) q) fun us s2 ⟨vs, H2, I2, r2, q2⟩ => ⟨I2.kIn, ?_⟩) hst hpl
  exact wpAny_call (run_fnG F ng hr hx I2 r2 q2)
/-- an own comparison beside a value of any built-in type; all that it stands on is told outside -/
def rOwnCX (K : PySem.W.Frag) (C : Addr) (sp : Sp) (E : XK) : R2 := fun x y H Q => ∃ (a dx : Addr) (fs : List (Str × V)) (T : String), x = .ref a ∧ H a = some (.ins C dx fs) ∧ TyX K H y (.type T) ∧ PySem.W.notFirst K C (.type T) = true ∧ sp [x, y] H Q E
theorem op_ownCX {f : Addr} (op : CmpOp) (hs : PySem.W.findIn X.K (.ref C) (cmpInfo op).2.1 = some (some (.ref f))) (hf : PySem.W.isFn X.K (.ref f) = true) (F : FnG X.prog X.w X.K X.mg X.base CX k f sp) (ng : NoG X.A) (hr : Room k X.A) (hx : Passes CX X E)
    (hop : ∀ a b, compareOp op a b = richCompare op a b := by intro _ _; rfl) : OpR X (compareOp op) (rOwnCX X.K C sp E) := by
  intro pins s σ H x y v u Q I rx ry h
  obtain ⟨a, dx, fs, T, rfl, ha, ty, nf, q⟩ := h
  obtain rfl : v = Value.ref a := rx
  have hc : wpAny (model X.prog X.w) X.A (call (.ref f) [.ref a, u]) (PySem.W.CmpBack (EP X pins σ Q)) X.xe s :=
    thn (wpAny_call (run_fnG (us := [.ref a, u]) (vs := [.ref a, y]) F ng hr hx I (.cons rfl (.cons ry .nil)) q)) fun _ _ z => cmpBack_of z
  obtain ⟨mA, J, _⟩ := ins_get I.hok ha
  obtain ⟨od, J, _⟩ := J.look
  obtain ⟨m, hF⟩ := I.fr
  rw [hop]
  obtain ⟨Pz, Z, pz, _⟩ := kit_of I ry ty
  exact PySem.W.cmp_K (tb := .type T) hr.units0 hF I.ok.mod.kin J (Z.ty _ _ I.kIn pz) nf hs hf hc
end
end AZ

set_option Elab.async false
set_option maxRecDepth 100000
set_option maxHeartbeats 4000000
set_option linter.all false
/-! Own work: lambdas handed to a def, where no repr is under way. -/
namespace AZ
open PySem L2 PyProof.Rows LamX
section
variable {X : Cx} {pins : List (Addr × Obj)} {σ : L2.St} {H HZ : Hp} {s s1 : Shared}
/-- the def that was handed the lambda f calls it by its name a -/
theorem act_G {CXg : CXT} {Eg : XK} {Ng : List Str} {qg : Str} {sg : Scope} {g f c' : Addr} {cdg pm ctv : Value} {params : Arguments} {body : Expr} {scope : Scope} {k i : Nat} {a : Str} {pn : List (Addr × Obj)} {xe : Value → Shared → Prop} {W : WX} {E : XK} {tb : TE} {p1 p2 : Pos}
    (ng : NoG X.A) (I : Inv X pins σ H s) (L : LamS X.env.scope scope) (hf : s.heap.get? f = some (PySem.W.kla_obj "<lambda>" (X.env.qual ++ "<lambda>") params body scope (cloFrom X.env.cells scope.names []) pm c' ctv)) (hfn : H f = none) (hfr : f ∉ frs X.stack)
    (hbind : bindArgs (PySem.W.kla_fn "<lambda>" (X.env.qual ++ "<lambda>") params body scope (cloFrom X.env.cells scope.names []) pm (.ref c') ctv) ⟨[], []⟩ = pure [])
    (tk : Takes ((cxOf CXg X.prog X.w X.K X.mg X.base Ng qg sg g cdg X.A X.stack s H Eg).tr pn xe) W) (hr : Room (k + 1) (X.A.deeper (envOfC qg sg s.heap.objs.size g cdg)))
    (hbody : ∀ (A : Around) (outer : List Env) (s : Shared) (H : Hp), NoG (A.deeper (lamEnv X scope s.heap.objs.size f c')) → Room k (A.deeper (lamEnv X scope s.heap.objs.size f c')) → PE (lamCx X A outer s H E scope f c') body tb)
    (hN : Ng[i]? = some a) (hv : Vis sg a) (hd : (a == ("__debug__" : Str)) = false := by decide) (hcd : (a == ("__classdict__" : Str)) = false := by decide) :
    PE ((cxOf CXg X.prog X.w X.K X.mg X.base Ng qg sg g cdg X.A X.stack s H Eg).tr pn xe) (.Call (.Name a p1) [] [] p2)
      (fun σZ HZ Q => σZ[i]? = some (some (.ref f)) ∧ HZ c' = some (CodeO c' (X.env.qual ++ "<lambda>")) ∧ (∀ cls d H', E cls d H' → W cls d σZ H') ∧ tb σ HZ Q) := by
  refine ⟨fun pz sz σz Hz Q Iz ⟨slot, code, hW, read⟩ => ?_⟩
  refine wpAny_Call_Name_kw (thn ((pe_var (pos := p1) (i := i) hN hv hd hcd).run pz sz σz Hz (fun v G => v = .ref f ∧ G = Hz) Iz ⟨.ref f, slot, rfl, rfl⟩) fun u s2 ⟨v, G, J, rel, ev, eG⟩ => ?_)
  subst ev
  rw [eG] at J
  obtain rfl : u = Value.ref f := rel
  have there : s2.heap.get? f = some (PySem.W.kla_obj "<lambda>" (X.env.qual ++ "<lambda>") params body scope (cloFrom X.env.cells scope.names []) pm c' ctv) := J.base.keep f _ hf hfn hfr (fun z => nomatch (show f ∈ ([] : List Addr) from z))
  refine PySem.W.callWith_F0 ⟨_, _, _, _, there⟩ ?_
  have un : Un (frs X.stack) [] H Hz s.heap s2.heap := J.base
  obtain ⟨⟨oc, vs, t, c1, c2, c3⟩, _, _⟩ := J.hok c' _ code
  have run : codeAny (model X.prog X.w) (X.A.deeper (envOfC qg sg s.heap.objs.size g cdg)) (.call (.ref f) ⟨[], []⟩) (CR (L2.CX X.prog X.w) (envOfC qg sg s.heap.objs.size g cdg :: X.stack) X.prog X.w Hz s2 Q E) s2 := by
    refine PySem.W.kla_callFunE hr.depth there rfl L.co L.gen rfl ⟨c', oc, vs, t, rfl, c1, c2, c3⟩ ?_
    rw [hbind]
    refine wpAny_pure (wpAny_newFunctionEnv (fun y hy => (L.own y hy).2) (fun y hy => absurd hy (by simp)) (fun h₁ hns hsb => ⟨J.nolimit.fresh _ hsb, ?_⟩) L.kind)
    show codeAny _ _ (.expr body (lamEnv X scope s2.heap.objs.size f c')) _ _
    have kp : ∀ b o, s2.heap.get? b = some o → h₁.get? b = some o := fun b o e => hsb.extBut b o (Nat.ne_of_lt (Heap.lt_size e)) (Heap.get?_push_of_some _ e)
    have start : Inv (lamCx X (X.A.deeper (envOfC qg sg s.heap.objs.size g cdg)) (envOfC qg sg s.heap.objs.size g cdg :: X.stack) s2 Hz E scope f c') [] σ Hz { s2 with heap := h₁, toks := s2.toks + ([] : List (Str × Value)).length } :=
      lam_start2 I L J.env0 hr.hd un hns kp
    exact PySem.W.kla_codeExpr (wpAny_mono ((hbody _ _ s2 Hz ((ng.deeper _).deeper _) (hr.deeper _)).run [] _ _ Hz Q start read) (fun v s' ⟨w', H', J', rv, q⟩ => ⟨w', H', J'.os, J'.bare, J'.base, J'.hok, rv, q⟩) fun e s' hq => hq)
  refine wpAny_call (codeAny_mono run fun r s' hq => ?_)
  match r, hq with
  | .error e, hq => exact tk e s' (XE.of_call J (fun cls d H' h => hW cls d H' h) hq)
  | .ok (.ret u), hq => exact J.after hq
  | .ok .next, hq => exact hq.elim
  | .ok .brk, hq => exact hq.elim
  | .ok .cont, hq => exact hq.elim
/-- what a def does with the lambda that it is handed as its only argument -/
def GivesG (X : Cx) (Ng : List Str) (x : Str) (sg : Scope) (g : Addr) (cdg : Value) (bg : List Stmt) (a : Str) (q : Str) (TT : (XK → Hp → VK → Prop) → Hp → VK → Prop) : Prop :=
  ∀ (f c' : Addr) (s : Shared) (H : Hp) (Q : VK) (tl : XK → Hp → VK → Prop), NoG (X.A.deeper (envOfC x sg s.heap.objs.size g cdg)) →
    (∀ (W : WX) (pn : List (Addr × Obj)) (xe : Value → Shared → Prop) (E : XK) (p1 p2 : Pos), Takes ((cxOf C8.CX0 X.prog X.w X.K X.mg X.base Ng x sg g cdg X.A X.stack s H C8.E0).tr pn xe) W →
      PE ((cxOf C8.CX0 X.prog X.w X.K X.mg X.base Ng x sg g cdg X.A X.stack s H C8.E0).tr pn xe) (.Call (.Name a p1) [] [] p2) (fun σZ HZ Q => σZ[0]? = some (some (.ref f)) ∧ HZ c' = some (CodeO c' q) ∧ (∀ cls d H', E cls d H' → W cls d σZ H') ∧ tl E HZ Q)) →
    Room 1 (X.A.deeper (envOfC x sg s.heap.objs.size g cdg)) → H c' = some (CodeO c' q) → TT tl H Q →
    ∃ t, PSs (cxOf C8.CX0 X.prog X.w X.K X.mg X.base Ng x sg g cdg X.A X.stack s H C8.E0).nox bg t ∧ t { nx := fun _ H' => Q .non H', rt := Q } (L2.start Ng [.ref f]) H
end
section
variable {X : Cx}
/-- x(lambda: body) -/
theorem pe_lamG {T : List (Addr × Str)} {TT : (XK → Hp → VK → Prop) → Hp → VK → Prop} {x a : Str} {g c P : Addr} {k : Nat} {pg : Arguments} {bg : List Stmt} {sg : Scope} {dV kV doc pm cdv ct oc : Value} {an od : Option Addr} {osl : Array (Option Value)} {Ng : List Str}
    {params : Arguments} {body : Expr} {scope : Scope} {t : XK → TE} {p lpos pos : Pos} (ng : NoG X.A) (hg : Gl X x) (hm : X.mg x = some (.ref g)) (hk : PySem.W.keepIn X.K (.ref g) = true)
    (lk : X.K.lookup g = some ⟨oc, od, .func (PySem.W.fnOf x x pg bg sg dV kV doc pm an cdv ct), osl⟩) (hcg : PySem.W.codeIn X.K cdv x = true) (hb : L2.Binds X.K (PySem.W.fnOf x x pg bg sg dV kV doc pm an cdv ct) [a] []) (Sg : FnScope Ng [a] sg) (hNg : Ng[0]? = some a) (hva : Vis sg a)
    (hG : GivesG X Ng x sg g cdv bg a (X.env.qual ++ "<lambda>") TT)
    (TB : TabB X.base X.mg c P) (hcode : X.env.code = .ref c) (hmT : (P, X.env.qual ++ "<lambda>") ∈ T) (hu : ∀ p ∈ T, p.1 = P → p.2 = X.env.qual ++ "<lambda>") (hr : Room (k + 2) X.A) (L : LamS X.env.scope scope) (hdef : defaultsOf params X.env = ([], []))
    (hbind : ∀ (q : Str) (cl : List (Str × Addr)) (pm cv ctv : Value), bindArgs (PySem.W.kla_fn "<lambda>" q params body scope cl pm cv ctv) ⟨[], []⟩ = pure [])
    (hbody : ∀ (A : Around) (outer : List Env) (s : Shared) (H : Hp) (E : XK) (f c' : Addr), NoG (A.deeper (lamEnv X scope s.heap.objs.size f c')) → Room k (A.deeper (lamEnv X scope s.heap.objs.size f c')) → PE (lamCx X A outer s H E scope f c') body (t E))
    (hdb : (x == ("__debug__" : Str)) = false := by decide) (hd : (a == ("__debug__" : Str)) = false := by decide) (hcd : (a == ("__classdict__" : Str)) = false := by decide) :
    PE X (.Call (.Name x p) [.Lambda params body scope lpos] [] pos) (tLam T TT t) := by
  refine ⟨fun pins s σ H Q I ⟨tabs, h⟩ => ?_⟩
  refine wpAny_Call_Name_kw (ld_glob I hg hm (PySem.W.callWith_K (h₀ := X.base) I.ok.mod.kin hk ?_ (by rfl) (by rfl)) hdb)
  show wpAny _ _ (spliced ((false, eval (.Lambda params body scope lpos) X.env) :: backTo pos (starEach [] X.env))) _ _ s
  refine Calls.spliced_cons (lam_make2 I TB hcode hmT hu tabs hdef (L.has I.ok) fun f c' pm' ctv H1 s' I1 eN T1 hf hfn hfr hco => Calls.spliced_nil ⟨I1.kIn, ?_⟩)
  have run : codeAny (model X.prog X.w) X.A (.call (.ref g) ⟨[.ref f], []⟩) (CR C8.CX0 X.stack X.prog X.w H1 s' Q C8.E0) s' := by
    refine run_ofS (N := Ng) (ps := [a]) (us := [.ref f]) (vs := [.ref f]) lk hcg Sg hr I1.env0 (hb s' [.ref f] I1.kIn rfl) (.cons rfl .nil) rfl fun hr' => ?_
    obtain ⟨t', ht', hq'⟩ := hG f c' s' H1 Q (fun E H' Q' => t E σ H' Q') (ng.deeper _) (fun W pn xe E p1 p2 tk => act_G (i := 0) ng I1 L hf hfn hfr (hbind _ _ _ _ _) tk hr' (fun A outer s H n hr2 => hbody A outer s H E f c' n hr2) hNg hva hd hcd) (hr'.mono (by omega)) hco (h H1 eN T1)
    exact ⟨t', ht'.nox, hq'⟩
  refine wpAny_call (codeAny_mono run fun r s2 hq => ?_)
  match r, hq with
  | .error e, hq => exact (show False from hq).elim
  | .ok (.ret u), hq => exact I1.after hq
  | .ok .next, hq => exact hq.elim
  | .ok .brk, hq => exact hq.elim
  | .ok .cont, hq => exact hq.elim
end
end AZ

set_option Elab.async false
set_option maxRecDepth 100000
set_option maxHeartbeats 4000000
set_option linter.all false
/-! Own work: a caught error that lives on behind its except clause. -/
namespace AZ
open PySem L2 PyProof.Rows
/-- at a: an error of the class cls that was caught, its dict at d -/
def exk (a : Addr) (cls : Value) (d : Option Addr) : HO := .ext fun h => ∃ oe vs, h.get? a = some oe ∧ Zc cls d oe ∧ oe.data = .fields vs
theorem exk_ok {P : Program} {w : World} {H : Hp} {h : Heap} {a : Addr} {cls : Value} {d : Option Addr} {oe : Obj} {vs : Array Value} (e : h.get? a = some oe) (z : Zc cls d oe) (f : oe.data = .fields vs) : ObjOk P w H h a (exk a cls d) :=
  ⟨⟨oe, vs, e, z, f⟩, ⟨oe, e⟩, fun _ _ ⟨o, v, q, r⟩ k => ⟨o, v, k o q, r⟩⟩
theorem exk_at {P : Program} {w : World} {H : Hp} {h : Heap} {a : Addr} {cls : Value} {d : Option Addr} (hok : HOk P w H h) (e : H a = some (exk a cls d)) : ∃ oe vs, h.get? a = some oe ∧ Zc cls d oe ∧ oe.data = .fields vs := by
  have x : ObjOk P w H h a (.ext fun h => ∃ oe vs, h.get? a = some oe ∧ Zc cls d oe ∧ oe.data = .fields vs) := hok a _ e
  exact x.1
section
variable {X : Cx} {pins : List (Addr × Obj)} {σ : L2.St} {H : Hp} {s : Shared}
/-- an object that was not there at the entry is told from now on -/
theorem track {a : Addr} {o : HO} {ob : Obj} (J : Inv X pins σ H s) (na : H a = none) (n0 : X.s_0.heap.get? a = none) (hob : s.heap.get? a = some ob) (ok : ObjOk X.prog X.w (upd H a o) s.heap a o) (nL : a ≠ X.env.locals) (nc : ∀ v, ob.data ≠ .cell v)
    (np : ∀ p ∈ X.pn ++ pins, p.1 ≠ a) : Inv X pins σ (upd H a o) s := by
  have ne : ∀ {b : Addr} {u : HO}, H b = some u → b ≠ a := fun e => ne_of_none e na
  refine ⟨J.ok, J.os, J.bare, ⟨J.base.keep, J.base.slot, fun b o' e n hx => ?_, J.base.there, fun b xs e => ?_, fun b o' u e => ?_, fun b ps e => ?_⟩, J.loc, J.cell, ?_, fun y c e => ?_, fun p hp => ?_, fun b u e => ?_, J.len⟩
  · have hb : b ≠ a := fun z => by rw [z, n0] at e; cases e
    rw [upd_ne hb]; exact J.base.free b o' e n hx
  · have q := J.base.tups b xs e
    rw [upd_ne (ne q)]; exact q
  · have q := J.base.frzs b o' u e
    rw [upd_ne (ne q)]; exact q
  · obtain ⟨more, q⟩ := J.base.tbls b ps e
    exact ⟨more, by rw [upd_ne (ne q)]; exact q⟩
  · rw [upd_ne (Ne.symm nL)]; exact J.free
  · have hc : c ≠ a := fun z => by
      obtain ⟨v, oc, e1, e2⟩ := J.cell y c e
      rw [z, hob] at e1
      cases e1
      exact nc v e2
    rw [upd_ne hc]; exact J.freeC y c e
  · obtain ⟨e, n, nl, nf, dd⟩ := J.pin p hp
    exact ⟨e, by rw [upd_ne (np p hp)]; exact n, nl, nf, dd⟩
  · by_cases hb : b = a
    · subst hb
      rw [upd_same] at e
      cases e
      exact ok
    · rw [upd_ne hb] at e
      exact (J.hok b u e).stay (fun c v _ q => q) (fun c q => by rw [upd_ne (ne q)]; exact q) fun c xs q => by rw [upd_ne (ne q)]; exact q
end
/-- what the clause wishes of an error of the body: slot i is the clause's name; the error is told behind it -/
def wKeep (K : PySem.W.Frag) (c : Value) (i : Nat) (ts : Addr → Value → Option Addr → TS) (Wout : WX) (D : Ends) : WX := fun cls d σ H =>
  ∃ b, PySem.W.exmOne K cls c = some b ∧ (b = true → ∀ a, H a = none → ts a cls d { nx := fun σ' H' => H' a = none → D.nx (σ'.set i none) (upd H' a (exk a cls d)), rt := D.rt, bk := fun σ' H' => D.bk (σ'.set i none) H', ct := fun σ' H' => D.ct (σ'.set i none) H' } (σ.set i (some (.ref a))) H) ∧
    (b = false → Wout cls d σ H)
section
variable {X : Cx} {x n : Str} {c : Value} {i : Nat} {body suite : List Stmt} {b₀ : Stmt} {np pos pos' : Pos} {tb : WX → TS} {ts : Addr → Value → Option Addr → TS} {Wout : WX}
theorem ps_try_keep (hs : X.stack = X.env :: X.outer) (hf : X.env.frame = some X.env.locals) (hex : X.ex = []) (hN : X.N.Nodup) (hi : X.N[i]? = some n) (hln : X.env.kindOf n = some .local) (hc : Names X x c) (tk : Takes X Wout)
    (hb : ∀ (W : WX) (pn : List (Addr × Obj)) (xe : Value → Shared → Prop), Takes (X.tr pn xe) W → PassesOwn (model X.prog X.w) X.A X.env xe → PSs (X.tr pn xe) body (tb W))
    (hsu : ∀ (a : Addr) (oe : Obj) (cls : Value) (d : Option Addr) (pn : List (Addr × Obj)), Zc cls d oe → (∃ vs, oe.data = .fields vs) → PSs (X.suite a ((a, oe) :: pn)) (b₀ :: suite) (ts a cls d)) :
    PS X (.Try body [.ExceptHandler (some (.Name x np)) (some n) (b₀ :: suite) pos'] [] [] pos) (fun D σ H => tb (wKeep X.K c i ts Wout D) D σ H) := by
  refine ⟨fun pins s σ H D I h => wpAny_Try_except ?_⟩
  have ok := I.ok
  have frA : X.A.frames = some (X.env :: X.outer) := by rw [ok.frames, hs]
  have isL : Loc X.env.scope n := .inl hln
  refine wpAny_mono ((hb (wKeep X.K c i ts Wout D) (X.pn ++ pins) (fun e s₁ => wpAny (model X.prog X.w) X.A (noteFrame e X.env) (fun _ s₂ => wpAny (model X.prog X.w) X.A (setFlight e none) (fun _ s₃ =>
    wpAny (model X.prog X.w) X.A (handleBy e X.env [.ExceptHandler (some (.Name x np)) (some n) (b₀ :: suite) pos']) (SP X pins D) X.xe s₃) X.xe s₂) X.xe s₁) (fun u s' caught => ?_) PassesOwn.looking).run [] s σ H D (I.toTry _) h) (fun f s1 ends => ?_) fun e s1 z => z
  · obtain ⟨a, B, sI, pins', σ', H', cls, d, rfl, J0, nb, up, sky, na, os, ag, b, hb1, yes, no⟩ := caught
    have J : Inv X pins σ' H' sI := J0.ofTry ok
    have sky' : Sky B (X.env :: X.outer) a (Zc cls d) X.env.locals s'.heap := by rw [← hs]; exact sky
    show wpAny _ _ (noteFrame (.ref a) X.env) _ _ _
    refine Sky.land Zc.steady frA hf sky' fun h3 fl3 up3 => ?_
    have J3 : Inv X pins σ' H' { s' with heap := h3 } := J.landed nb fl3.1 (up.trans up3) os ag
    obtain ⟨oe3, vs3, he3, hz3, hd3⟩ := fl3.there
    have inNo : ∀ {h : Heap} {o : Obj} {vs : Array Value}, h.FunFrames B (X.env :: X.outer) → h.get? a = some o → o.data = .fields vs → a ∉ frs (X.env :: X.outer) := fun {h o vs} ff e dd hm => by
      obtain ⟨_, o', e', hnf⟩ := ff.mem hm
      rw [e] at e'; cases e'
      exact hnf _ dd
    have nfr := inNo fl3.2.2.1 he3 hd3
    have nL : a ≠ X.env.locals := fun z => nfr (List.mem_filterMap.mpr ⟨X.env, List.mem_cons_self, by rw [hf, z]⟩)
    have nF : a ∉ X.fs := fun hm => by
      obtain ⟨e, he, q⟩ := List.mem_filterMap.mp hm
      exact nfr (List.mem_filterMap.mpr ⟨e, List.mem_cons_of_mem _ he, q⟩)
    -- what stood there at the entry, and what is pinned, stands in the ground: a does not
    have nB : B.get? a = none := fl3.2.1
    have inB : ∀ {b : Addr} {o : Obj}, sI.heap.get? b = some o → b ∉ frs X.stack → b ≠ a := fun {b o} e h1 z => by
      have q := nb b o e h1
      rw [z, nB] at q; cases q
    have aStk : a ∉ frs X.stack := by rw [hs]; exact nfr
    have n0 : X.s_0.heap.get? a = none := by
      cases e : X.s_0.heap.get? a with
      | none => rfl
      | some o =>
        obtain ⟨o', e'⟩ := J.base.there a o e (by rw [hex]; exact fun z => nomatch z)
        exact absurd rfl (inB e' aStk)
    have npin : ∀ p ∈ X.pn ++ pins, p.1 ≠ a := fun p hp => by
      obtain ⟨e, _, nl, nf, _⟩ := J.pin p hp
      refine inB e fun hm => ?_
      rcases List.mem_cons.mp (J.stkSub _ hm) with z | z
      · exact nl z
      · exact nf z
    have S3 := J3.suite he3 hd3 na nL nF
    refine wpAny_handleBy_cons (codeAny_handlers_test ?_) (by intro q; cases q)
    have LT : PySem.W.Looks (model X.prog X.w) h3 (typeOf (.ref a)) cls := fun A Q E s k q => wpAny_typeOf_ref (k _ _ he3) (by rw [hz3.1]; exact q)
    have LM := PySem.W.exm_one (M := model X.prog X.w) J3.kIn LT hb1
    have test : ∀ {Q : Value → Shared → Prop} {E : Value → Shared → Prop}, Q c { s' with heap := h3 } → wpAny (model X.prog X.w) (X.A.mark (some (.ref a))) (eval (.Name x np) X.env) Q E { s' with heap := h3 } := fun {Q E} q => by
      obtain ⟨hg, hdbg, hm | ⟨hm, hv, hnn⟩⟩ := hc
      · exact ld_glob (X := X.suite a ((a, oe3) :: (X.pn ++ pins))) S3 hg hm q hdbg
      · exact ld_blt (X := X.suite a ((a, oe3) :: (X.pn ++ pins))) S3 hg hm hv q hnn hdbg
    refine test (LM.here ?_)
    cases b with
    | true =>
      refine codeAny_handlers_suite_as (HandSPX.lands_againZ fl3 fun h4 fl4 up4 => ?_)
      have J4 : Inv X pins σ' H' { s' with heap := h4 } := J.landed nb fl4.1 ((up.trans up3).trans up4) os ag
      obtain ⟨oe4, vs4, he4, hz4, hd4⟩ := fl4.there
      have S4 := J4.suite he4 hd4 na nL nF
      refine store_ok (X := X.suite a ((a, oe4) :: (X.pn ++ pins))) (v := .ref a) S4 hN hi isL rfl (fun s5 S5 => ?_) (.inr hln)
      refine wpAny_mono ((hsu a oe4 cls d (X.pn ++ pins) hz4 ⟨_, hd4⟩).run [] s5 _ H' _ S5 (yes rfl a na)) (fun f s6 ends => ?_) fun _ _ z => False.elim z
      have fin : ∀ {σ6 : L2.St} {H6 : Hp} {Q : Shared → Prop}, Inv (X.suite a ((a, oe4) :: (X.pn ++ pins))) [] σ6 H6 s6 → (∀ s7, Inv X pins (σ6.set i none) H6 s7 → H6 a = none ∧ Inv X pins (σ6.set i none) (upd H6 a (exk a cls d)) s7 → Q s7) →
          wpAny (model X.prog X.w) X.A (do bindName X.env n .none; unbindBehindTheSuite X.env n pos') (fun _ s7 => Q s7) X.xe s6 := fun {σ6 H6 Q} S6 hq => gone_ok (X := X.suite a ((a, oe4) :: (X.pn ++ pins))) S6 hN hi hln fun s7 S7 => by
        obtain ⟨e7, n7, _, _, c7⟩ := S7.pin (a, oe4) (List.mem_append_left _ List.mem_cons_self)
        have J7 := S7.unsuite ok
        exact hq s7 J7 ⟨n7, track J7 n7 n0 e7 (exk_ok e7 hz4 hd4) nL (fun v z => by rw [hd4] at z; cases z) npin⟩
      cases f with
      | next =>
        obtain ⟨σ6, H6, S6, q6⟩ := ends
        exact fin S6 fun s7 J7 ⟨n7, t7⟩ => ⟨_, _, t7, q6 n7⟩
      | brk =>
        obtain ⟨σ6, H6, S6, q6⟩ := ends
        exact fin S6 fun s7 J7 _ => ⟨_, _, J7, q6⟩
      | cont =>
        obtain ⟨σ6, H6, S6, q6⟩ := ends
        exact fin S6 fun s7 J7 _ => ⟨_, _, J7, q6⟩
      | ret u =>
        obtain ⟨v6, σ6, H6, S6, r6, q6⟩ := ends
        exact fin S6 fun s7 J7 _ => ⟨_, _, _, J7, r6, q6⟩
    | false =>
      show wpAny _ X.A (handleBy (.ref a) X.env []) _ _ _
      refine wpAny_handleBy_nil ?_
      obtain ⟨_, _, _, oe, vs, T, oT, ts', he, hz, hd, h1, hr⟩ := id fl3
      unfold PySem.passOn
      refine wpAny_bind (wpAny_field he hd h1 ?_)
      rw [if_neg (show ¬ ((Value.ref T == Value.none) = true) from by simp)]
      have out : wpAny (model X.prog X.w) X.A (setFlight (.ref a) X.env.frame) (fun _ s4 => wpAny (model X.prog X.w) X.A (throw (.ref a) : Sem Flow) (SP X pins D) X.xe s4) X.xe { s' with heap := h3 } := by
        rw [hf]
        refine HandSPX.setFlight_upZ fl3 fun h4 hh4 up4 => wpAny_throw (tk _ _ ?_)
        exact ⟨a, B, sI, pins, σ', H', cls, d, rfl, J, nb, (up.trans up3).trans up4, .inr (.inr (by rw [hs]; exact hh4)), na, os, ag, no rfl⟩
      first
        | exact wpAny_bind (wpAny_pure (wpAny_bind out))
        | exact wpAny_bind out
  · cases f with
    | next =>
      obtain ⟨σ', H', J', q⟩ := ends
      exact wpAny_execs_nil ⟨σ', H', J'.ofTry ok, q⟩
    | brk =>
      obtain ⟨σ', H', J', q⟩ := ends
      exact ⟨σ', H', J'.ofTry ok, q⟩
    | cont =>
      obtain ⟨σ', H', J', q⟩ := ends
      exact ⟨σ', H', J'.ofTry ok, q⟩
    | ret u =>
      obtain ⟨v, σ', H', J', r, q⟩ := ends
      exact ⟨v, σ', H', J'.ofTry ok, r, q⟩
end
/-! ## the caught error is asked -/
def ErrK (H : Hp) (a C : Addr) (fs : List (Str × V)) : Prop := ∃ dx, H a = some (exk a (.ref C) (some dx)) ∧ H dx = some (.xd fs)
theorem ErrK.inst {X : Cx} {pins : List (Addr × Obj)} {σ : L2.St} {H : Hp} {s : Shared} {a C : Addr} {fs : List (Str × V)} (h : ErrK H a C fs) (I : Inv X pins σ H s) : ∃ (ox od : Obj) (mA : Str → Option Value), PySem.W.InstAt s.heap a ox C (some od) ∧ (∀ f, RelO (fs.lookup f) (mA f)) ∧ ∀ f, PySem.W.lookIn f od = some (mA f) := by
  obtain ⟨dx, ea, ed⟩ := h
  obtain ⟨oe, vs, ho, hz, hd⟩ := exk_at I.hok ea
  have hx : ObjOk X.prog X.w H s.heap dx (.xd fs) := I.hok dx _ ed
  obtain ⟨mA, hns, hr⟩ := hx
  obtain ⟨od, hod, hl⟩ := lookIn_ns hns
  exact ⟨oe, od, mA, ⟨ho, hz.1, by unfold PySem.W.notCls; rw [hd] <;> rfl, by rw [hz.2]; exact hod⟩, hr, hl⟩
section
variable {X : Cx} {e : Expr} {pos : Pos}
def tXfK (K : PySem.W.Frag) (f : Str) (te : TE) : TE := fun σ H Q => te σ H fun y H1 => ∃ a C fs v, y = .ref a ∧ XfC K C ∧ PySem.W.findIn K (.ref C) f = some none ∧ ErrK H1 a C fs ∧ fs.lookup f = some v ∧ Q v H1
theorem pe_xfK {n : Str} {te : TE} (he : PE X e te) (hb : attributeBase e n X.env (eval e X.env) = eval e X.env := by rfl) : PE X (.Attribute e n pos) (tXfK X.K n te) := by
  refine ⟨fun pins s σ H Q I h => attr_of hb (thn (he.run pins s σ H _ I h) fun u s1 hh => ?_)⟩
  obtain ⟨y, H1, I1, ry, a, C, fs, v, ey, T, no, ek, l, q⟩ := hh
  subst ey
  obtain rfl : u = Value.ref a := ry
  obtain ⟨ox, od, mA, J, hr, hl⟩ := ek.inst I1
  obtain ⟨u, hu, ru⟩ := RelO.some_of (v := v) (o := mA n) (by rw [← l]; exact hr n)
  exact HandSPX.exc_get I1.kIn J T.ga T.gg T.exC (PySem.W.findObj_own T.hdC no rfl (by rw [hl, hu])) (handed_of ru) ⟨v, H1, I1.tok _, ru, q⟩
def rIsEK (K : PySem.W.Frag) : List V → Hp → VK → Prop := fun xs H Q => ∃ (a S C fI : Addr) (nm : Str) (c : V) (u : Value) (b : Bool) (fs : List (Str × V)), xs = [.ref a, c] ∧ Gx K ∧ Ex K S C fI nm ∧ ErrK H a C fs ∧ ClsV c u ∧ PySem.W.kitOne K (.ref C) u = some b ∧ Q (.bl b) H
theorem call_isEK : CallR X (.builtin "isinstance") (rIsEK X.K) := by
  intro pins s σ H xs us Q I r h
  obtain ⟨a, S, C, fI, nm, c, u, b, fs, rfl, G, x, e, k, q, w⟩ := h
  obtain ⟨u1, u2, rfl, r1, r2⟩ := vals2 r
  obtain rfl : u1 = Value.ref a := r1
  have ec := k.eq r2
  subst ec
  obtain ⟨ox, od, mA, J, _, _⟩ := e.inst I
  obtain ⟨cd, hc, _⟩ := x.cls
  exact PySem.W.kia_one (PySem.W.kitx_exc (by rw [hc]; rfl) x.ga x.gg x.exc x.ca G.hn G.tk ((x.mro _).trans (by simp [PySem.HandSPX.veTail]))) I.kIn J q (fun z => nomatch z) fun tk => ⟨.bl b, H, I.tok _, rfl, w⟩
end
end AZ

set_option Elab.async false
set_option maxRecDepth 100000
set_option maxHeartbeats 4000000
set_option linter.all false
/-! Own work: the law's promise at the heap behind the top, with empty tables of code objects, no repr under way. -/
namespace AZ
open PySem L2 PyProof.Rows LamX
section
variable {P : Program} {w : World} {K : PySem.W.Frag} {mg mb : Str → Option Value} {k : Nat} {fa a : Addr} {cs : List (Addr × Addr)} {sp : Sp} {z : Shared} {vs : List Value} {ns : List Int}
/-- what the head knows of the tables -/
structure Tbs (K : PySem.W.Frag) (h : Heap) (cs : List (Addr × Addr)) : Prop where
  emp : ∀ p ∈ cs, h.get? p.2 = some { cls := .none, data := .fields #[] }
  out : ∀ p ∈ cs, K.lookup p.2 = none
  hd : ∀ p ∈ cs, PySem.W.CodeHd h p.1 p.2
theorem headT (kin : K.In z.heap) (hns : z.heap.Ns mainGlobals mg) (hmb : z.heap.Ns builtinsNs mb) (boot : ∀ x : Str, x ≠ "__name__" → mb x = bootBuiltins x) (lim : z.heap.NoLimit) (nogen : z.gens = #[]) (tb : Tbs K z.heap cs)
    (hbm : ∃ (bm : Addr) (ob : Obj), mg "__builtins__" = some (.ref bm) ∧ bm ≠ builtinsNs ∧ z.heap.get? bm = some ob ∧ ob.cls = .type "module" ∧ ob.dict = some builtinsNs ∧ ob.data = .plain)
    (room : Room k callerA) (F : ∀ base : Heap, K.In base → base.Ns mainGlobals mg → (∀ p ∈ cs, TabB base mg p.1 p.2) → FnG P w K mg base CX0 k fa sp)
    (prom : ∀ H : Hp, (∀ p ∈ cs, H p.2 = some (.tbl #[])) → SqL K H a (ns.map V.int) → sp [.ref a] H (fun v _ => v = .bl true) E0)
    (H : Hp) (at_ : ∀ p ∈ cs, H p.2 = some (.tbl #[])) (only : ∀ b, H b = none ∨ b ∈ cs.map (·.2) ∨ ∃ o xs, H b = some (.frz o (.lst xs))) (seq : SqL K H a (ns.map V.int)) (hok : HOk P w H z.heap)
    (just : ∀ b, H b ≠ none → (b = a ∧ K.lookup a = none) ∨ b ∈ cs.map (·.2)) (obj : z.heap.get? a = some { cls := .type "list", data := .seq vs.toArray }) :
    codeAny (model P w) callerA (.call (.ref fa) ⟨[.ref a], []⟩) (EndsTrue z) z := by
  have isT : ∀ {b : Addr}, b ∈ cs.map (·.2) → z.heap.get? b = some { cls := .none, data := .fields #[] } := fun {b} hb => by
    obtain ⟨p, hp, e⟩ := List.mem_map.mp hb
    rw [← e]; exact tb.emp p hp
  -- what is neither the script nor a table stands in the base
  have low : ∀ {b : Addr} {o : Obj}, z.heap.get? b = some o → (∀ us n, o.data ≠ .seq us n) → o.data ≠ .fields #[] → (hidT z.heap H).get? b = some o := fun {b o} e h1 h2 => hidT_get e (by
    cases q : H b with
    | none => rfl
    | some u =>
      rcases just b (by rw [q]; exact fun t => nomatch t) with ⟨rfl, _⟩ | hb
      · rw [obj] at e; cases e; exact (h1 _ _ rfl).elim
      · rw [isT hb] at e; cases e; exact (h2 rfl).elim)
  have names : ∀ b m, z.heap.Ns b m → (hidT z.heap H).Ns b m := fun b m ⟨o, es, ep, e, d, r⟩ => ⟨o, es, ep, low e (fun us n q => by rw [d] at q; cases q) (fun q => by rw [d] at q; cases q), d, r⟩
  have kinB : K.In (hidT z.heap H) := fun b o e => hidT_get (kin b o e) (by
    cases q : H b with
    | none => rfl
    | some u =>
      rcases just b (by rw [q]; exact fun t => nomatch t) with ⟨rfl, nk⟩ | hb
      · rw [nk] at e; cases e
      · obtain ⟨p, hp, ep⟩ := List.mem_map.mp hb
        rw [← ep, tb.out p hp] at e; cases e)
  obtain ⟨m2, l1, l2⟩ := lim
  have modB : L2.Mod K mg (hidT z.heap H) := ⟨kinB, names _ _ hns, ⟨mb, names _ _ hmb, boot⟩, ⟨m2, names _ _ l1, l2⟩⟩
  have tabs : ∀ p ∈ cs, TabB (hidT z.heap H) mg p.1 p.2 := fun p hp => by
    have empty := tb.emp p hp
    obtain ⟨oG, esG, epG, eG, dG, _⟩ := hns
    refine ⟨?_, ?_, fun q => ?_⟩
    · obtain ⟨o, us, file, tf, flags, tg, inF, text, tt, e1, r1, r2, r3, r4, r5, r6, r7, r8, hne⟩ := tb.hd p hp
      refine ⟨o, us, file, tf, flags, tg, inF, text, tt, low e1 (fun us' n q => ?_) (fun q => ?_), r1, r2, r3, r4, r5, r6, r7, r8, hne⟩
      · rw [r2] at q; cases q
      · rw [r2] at q
        cases q
        simp at r3
    · obtain ⟨bm, ob, b1, b2, b3, b4, b5, b6⟩ := hbm
      refine ⟨bm, ob, b1, b2, fun q => ?_, fun q => ?_, low b3 (fun us' n q => ?_) (fun q => ?_), b4, b5, b6⟩
      · rw [q, eG] at b3; cases b3; rw [dG] at b6; cases b6
      · rw [q, empty] at b3; cases b3; cases b6
      · rw [b6] at q; cases q
      · rw [b6] at q; cases q
    · rw [q, empty] at eG; cases eG; cases dG
  have env : Env0 P w K mg (hidT z.heap H) callerA [] z H := {
    frames := rfl
    mod := modB
    bs := fun _ _ e => of_hidT e
    bsz := Nat.le_of_eq (hidT_size ..)
    funs := trivial
    frf := fun _ t => nomatch t
    hok := hok
    bare := .of_eq nogen }
  refine codeAny_mono (F _ kinB (names _ _ hns) tabs callerA [] z H [.ref a] [.ref a] _ _ guards_caller room env (.cons rfl .nil) (prom H at_ seq)) fun r z' q => ?_
  match r, q with
  | .error _, q => exact q.elim
  | .ok .next, q => exact q.elim
  | .ok .brk, q => exact q.elim
  | .ok .cont, q => exact q.elim
  | .ok (.ret u), ⟨v, H2, os, bare, un, hok2, rel, tr⟩ =>
    subst tr
    obtain rfl : u = Value.bool true := rel
    have stays : ∀ b o, b ∉ cs.map (·.2) → z.heap.get? b = some o → z'.heap.get? b = some o := fun b o nb e => by
      rcases only b with n | n | ⟨ob, xs, n⟩
      · exact un.keep b o e n (fun t => nomatch t) (fun t => nomatch t)
      · exact absurd n nb
      · have g1 := (hok b _ n).1
        rw [e] at g1
        cases g1
        exact (hok2 b _ (un.frzs b _ _ n)).1
    have grown : ∀ p ∈ cs, ∃ more : Array Value, z'.heap.get? p.2 = some { cls := .none, data := .fields more } := fun p hp => by
      obtain ⟨more, q⟩ := un.tbls p.2 #[] (at_ p hp)
      exact ⟨_, hok2 p.2 _ q⟩
    refine ⟨rfl, ⟨fun b o e => ?_, fun b o e => ?_⟩, os, bare⟩
    · by_cases hb : b ∈ cs.map (·.2)
      · obtain ⟨p, hp, ep⟩ := List.mem_map.mp hb
        obtain ⟨more, hm⟩ := grown p hp
        have empty := tb.emp p hp
        rw [← ep] at e ⊢
        rw [empty] at e
        cases e
        exact .inr (.inl ⟨((tb.hd p hp).tab empty).isCodeTable, rfl, #[], more, rfl, by rw [Array.empty_append]; exact hm⟩)
      · exact .inl (stays b o hb e)
    · by_cases hb : b ∈ cs.map (·.2)
      · obtain ⟨p, hp, ep⟩ := List.mem_map.mp hb
        obtain ⟨more, hm⟩ := grown p hp
        rw [← ep]
        exact ⟨_, hm⟩
      · exact ⟨o, stays b o hb e⟩
theorem lawT (kin : K.In z.heap) (hns : z.heap.Ns mainGlobals mg) (hmb : z.heap.Ns builtinsNs mb) (boot : ∀ x : Str, x ≠ "__name__" → mb x = bootBuiltins x) (lim : z.heap.NoLimit) (nogen : z.gens = #[]) (tb : Tbs K z.heap cs)
    (hbm : ∃ (bm : Addr) (ob : Obj), mg "__builtins__" = some (.ref bm) ∧ bm ≠ builtinsNs ∧ z.heap.get? bm = some ob ∧ ob.cls = .type "module" ∧ ob.dict = some builtinsNs ∧ ob.data = .plain)
    (obj : z.heap.get? a = some { cls := .type "list", data := .seq vs.toArray }) (isI : IntsAre vs ns) (few : ns.length ≤ sizeLine)
    (room : Room k callerA) (F : ∀ base : Heap, K.In base → base.Ns mainGlobals mg → (∀ p ∈ cs, TabB base mg p.1 p.2) → FnG P w K mg base CX0 k fa sp)
    (prom : ∀ H : Hp, (∀ p ∈ cs, H p.2 = some (.tbl #[])) → SqL K H a (ns.map V.int) → sp [.ref a] H (fun v _ => v = .bl true) E0) :
    codeAny (model P w) callerA (.call (.ref fa) ⟨[.ref a], []⟩) (EndsTrue z) z := by
  have isT : ∀ {b : Addr}, b ∈ cs.map (·.2) → z.heap.get? b = some { cls := .none, data := .fields #[] } := fun {b} hb => by
    obtain ⟨p, hp, e⟩ := List.mem_map.mp hb
    rw [← e]; exact tb.emp p hp
  have aT : a ∉ cs.map (·.2) := fun h => by
    have q := isT h
    rw [obj] at q
    have q' : Data.seq vs.toArray _ = Data.fields #[] := congrArg Obj.data (Option.some.inj q)
    cases q'
  have mem : ∀ p ∈ cs, p.2 ∈ cs.map (·.2) := fun p hp => List.mem_map.mpr ⟨p, hp, rfl⟩
  cases own : K.lookup a with
  | some o =>
    have same := kin a o own
    rw [obj] at same
    cases same
    refine headT kin hns hmb boot lim nogen tb hbm room F prom (fun b => if b ∈ cs.map (·.2) then some (.tbl #[]) else none) (fun p hp => if_pos (mem p hp)) (fun b => ?_) (.inr ⟨_, vs.toArray, _, own, rfl, rfl, rfl, ?_, vals_ints isI⟩) (fun b u t => ?_) (fun b t => ?_) obj
    · by_cases hb : b ∈ cs.map (·.2)
      · exact .inr (.inl hb)
      · exact .inl (if_neg hb)
    · rw [List.size_toArray, isI.length]; exact few
    · by_cases hb : b ∈ cs.map (·.2)
      · have t' := (if_pos hb).symm.trans t
        cases t'
        exact isT hb
      · have t' := (if_neg hb).symm.trans t
        cases t'
    · by_cases hb : b ∈ cs.map (·.2)
      · exact .inr hb
      · exact absurd (if_neg hb) t
  | none =>
    refine headT kin hns hmb boot lim nogen tb hbm room F prom (fun b => if b = a then some (.frz { cls := .type "list", data := .seq vs.toArray } (.lst (ns.map V.int))) else if b ∈ cs.map (·.2) then some (.tbl #[]) else none)
      (fun p hp => (if_neg (show ¬ p.2 = a from fun q => aT (by rw [← q]; exact mem p hp))).trans (if_pos (mem p hp))) (fun b => ?_) (.inl (.inr ⟨_, if_pos rfl⟩)) (fun b u t => ?_) (fun b t => ?_) obj
    · by_cases h : b = a
      · exact .inr (.inr ⟨_, _, if_pos h⟩)
      · by_cases hb : b ∈ cs.map (·.2)
        · exact .inr (.inl hb)
        · exact .inl ((if_neg h).trans (if_neg hb))
    · by_cases h : b = a
      · have t' := (if_pos h).symm.trans t
        cases t'
        rw [h]
        exact ⟨obj, by rw [List.length_map]; exact few, vs, _, vals_ints isI, obj⟩
      · have t1 := (if_neg h).symm.trans t
        by_cases hb : b ∈ cs.map (·.2)
        · have t' := (if_pos hb).symm.trans t1
          cases t'
          exact isT hb
        · have t' := (if_neg hb).symm.trans t1
          cases t'
    · by_cases h : b = a
      · exact .inl ⟨h, own⟩
      · by_cases hb : b ∈ cs.map (·.2)
        · exact .inr hb
        · exact absurd ((if_neg h).trans (if_neg hb)) t
end
/-- the table of the def that stands at f (its code object at c, the table at P), by the written part -/
structure TabK (K : PySem.W.Frag) (f c P : Addr) : Prop where
  fn : ∃ (o : Obj) (fd : FuncData), K.lookup f = some o ∧ o.data = .func fd ∧ fd.code = .ref c
  code : ∃ (e : Value) (dd : Option Addr) (vs : Array Value) (sl : Array (Option Value)), K.lookup c = some ⟨e, dd, .fields vs, sl⟩ ∧ vs[11]? = some (.ref P)
  out : K.lookup P = none
  hd : PySem.W.codeHdIn K c P = true
/-- the goal of the head, from the law's promise; tn: the defs that make lambdas -/
theorem walkT {l : PySem.W.OpenLaw} {n k : Nat} {q : Program} {loose : List Str} {XP : (Str → Option Value) → Heap → Prop} {YP : World → Heap → Prop} {d : DefRec} {K : Params → PySem.W.Frag} {sp : PySem.W.Frag → List (Addr × Addr) → Sp}
    (hn : l.most = some n) (hn2 : n ≤ sizeLine) (hdf : d.params.defaults = []) (room : Room k callerA) (hY : ∀ (w : World) (h : Heap), YP w h → (K w.params).In h)
    (F : ∀ (w : World) (mg : Str → Option Value) (fa : Addr) (h : Heap), (K w.params).In h → h.Ns mainGlobals mg → mg d.name = some (.ref fa) →
      ∃ cs : List (Addr × Addr), (∀ p ∈ cs, ∃ (x : Str) (f : Addr), ((recsOf q).any fun e => e.name == x) = true ∧ mg x = some (.ref f) ∧ TabK (K w.params) f p.1 p.2) ∧
        (∀ base : Heap, (K w.params).In base → base.Ns mainGlobals mg → (∀ p ∈ cs, TabB base mg p.1 p.2) → FnG l.prog w (K w.params) mg base CX0 k fa (sp (K w.params) cs)))
    (prom : ∀ (K : PySem.W.Frag) (cs : List (Addr × Addr)) (H : Hp) (a : Addr) (ns : List Int), ns.length ≤ n → (∀ p ∈ cs, H p.2 = some (.tbl #[])) → SqL K H a (ns.map V.int) → sp K cs [.ref a] H (fun v _ => v = .bl true) E0) :
    PySem.W.WalkO q loose XP YP l.row.toRowW d [] (fun f vs => PySem.call f vs) := by
  refine Att.attach_callB hn hdf fun w s₀ z mg mb fa o pm cd doc a vs ns G Y ho hd hcd hmg obj isI few bits nogen => ?_
  have KX := hY w _ Y
  obtain ⟨cs, tc, hF⟩ := F w mg fa _ KX G.T.g hmg
  refine lawT KX G.T.g G.T.b G.T.builtins G.T.nolimit nogen ⟨fun p hp => ?_, fun p hp => ?_, fun p hp => ?_⟩ G.T.bmain obj isI (Nat.le_trans few hn2) room hF fun H at_ s => prom _ cs H a ns few at_ s
  · obtain ⟨x, f, hx, hm, t⟩ := tc p hp
    obtain ⟨o1, fd1, k1, k2, k3⟩ := t.fn
    obtain ⟨e1, dd1, vs1, sl1, k4, k5⟩ := t.code
    obtain ⟨dL, hmem, hn1⟩ := List.any_eq_true.mp hx
    have hn3 : dL.name = x := beq_iff_eq.mp hn1
    obtain ⟨a', o', fd', c', P', h1, h2, h3, h4, h5, h6⟩ := G.T.tab dL hmem
    rw [hn3, hm] at h1
    cases h1
    rw [KX _ _ k1] at h2
    cases h2
    rw [k2] at h3
    cases h3
    rw [k3] at h4
    cases h4
    obtain ⟨⟨oc, vc, e2, _, e3, e4⟩, hP⟩ := h6
    rw [KX _ _ k4] at e2
    cases e2
    cases e3
    rw [k5] at e4
    cases e4
    exact hP
  · obtain ⟨x, f, hx, hm, t⟩ := tc p hp
    exact t.out
  · obtain ⟨x, f, hx, hm, t⟩ := tc p hp
    exact PySem.W.codeHd_of_K KX t.hd
end AZ

set_option Elab.async false
set_option maxRecDepth 100000
set_option maxHeartbeats 4000000
set_option linter.all false
/-! Own work: promises of defs that raise; values that are no numbers. -/
namespace AZ
open PySem L2 PyProof.Rows LamX
section
variable {P : Program} {w : World} {K : PySem.W.Frag} {mg : Str → Option Value} {base : Heap} {k : Nat} {f : Addr} {sp : Sp} {x qual : Str} {st : Stmt} {fd : FuncData} {N ps : List Str}
/-- a def that may raise, by its body -/
theorem fnX_of (F : Fun K x qual st f fd) (S : FnScope N ps (defScope st)) (len : ∀ vs H Q E, sp vs H Q E → vs.length = ps.length)
    (bd : ∀ (cdv : Value) (A : Around) (out : List Env) (z : Shared) (G : Hp) (vs : List V) (Q : VK) (E : XK), NoG (A.deeper (envOfC qual (defScope st) z.heap.objs.size f cdv)) →
      Room k (A.deeper (envOfC qual (defScope st) z.heap.objs.size f cdv)) → Takes (cxOf (CXx P w) P w K mg base N qual (defScope st) f cdv A out z G E) (fun cls d _ H => E cls d H) → sp vs G Q E →
      ∃ t, PSs (cxOf (CXx P w) P w K mg base N qual (defScope st) f cdv A out z G E) (defBody st) t ∧ t { nx := fun _ H' => Q .non H', rt := Q } (start N vs) G) (hb : Binds K fd ps []) : FnG P w K mg base (CXx P w) (k + 1) f sp :=
  (fnOG (CX := CXx P w) F S len fun cdv A out z G vs Q E ng hr h => bd cdv A out z G vs Q E ng hr (takes_of rfl rfl rfl rfl) h).pos len hb
end
/-- what a call hands on of what its callee raises -/
theorem on {X : Cx} {E : XK} (tk : Takes X (fun cls d _ H => E cls d H)) : Passes (CXx X.prog X.w) X E := passes_call tk fun _ _ _ _ h => h
/-- no number: its type is not the class at C, it is no integer, and it is shown -/
structure Odd (K : PySem.W.Frag) (C : Addr) (H : Hp) (v : V) (e : PyData) : Prop where
  ty : ∃ T, TyX K H v (.type T) ∧ PySem.W.kitOne K (.type T) (.ref C) = some false ∧ PySem.W.notFirst K C (.type T) = true ∧ ∃ b1 b2, PySem.W.kitOne K (.type T) (.type "int") = some b1 ∧ PySem.W.kitOne K (.type T) (.type "bool") = some b2 ∧ (b1 && !b2) = false
  sh : Sh K H v e
  shn : Shn e
/-- what is raised for v -/
def Rai (CB : Addr) (v : V) (H : Hp) (E : XK) : Prop := ∀ dx, H dx = none → E (.ref CB) (some dx) (upd H dx (.xd [("value", v)]))
def spOfX (K : PySem.W.Frag) (C CB : Addr) : Sp := fun vs H _ E => ∃ v e, vs = [v] ∧ Odd K C H v e ∧ Rai CB v H E
def spCmpX (K : PySem.W.Frag) (C CB : Addr) : Sp := fun vs H _ E => ∃ a v e dx fs, vs = [.ref a, v] ∧ H a = some (.ins C dx fs) ∧ Odd K C H v e ∧ Rai CB v H E
end AZ

set_option Elab.async false
set_option maxRecDepth 100000
set_option maxHeartbeats 4000000
set_option linter.all false
/-! Own work: an int compared with an instance: the instance's own comparison, turned about; == and != beside values of other types; is True, is False. -/
namespace AZ
open PySem PySem.Spec PySem.W PySem.Calls PyProof.Rows
section
variable {prog : Program} {w : World} {A : Around} {E : Value → Shared → Prop} {s : Shared} {K : Frag} {x C L f g dx : Addr} {h₀ : Heap} {m : Str → Option Value} {ox : Obj} {od : Option Obj} {name : Str} {b tb : Value} {i : Int} {t : Tok}
/-- what an int's comparison does beside an instance: it declines -/
def IntDecC (op : CmpOp) : Prop := ∀ {prog : Program} {w : World} {A : Around} {E : Value → Shared → Prop} {s : Shared} {x C dx : Addr} {i : Int} {t : Tok} {Q : Option Value → Shared → Prop}, s.heap.get? x = some (instObj C dx) → Q none s →
  wpAny (model prog w) A (tryCompare (.int i t) (cmpInfo op).2.1 (.ref x)) Q E s
theorem decC_lt : IntDecC .Lt := fun {prog w A E s x C dx i t Q} hx q => by
  refine wpAny_tryCompare_declines (T := "int") (id := "int.__lt__") (typeIs_int s i t) PySem.F.slot_int_lt (wpAny_call_entry PySem.F.slot_int_lt (typeIs_int s i t) PySem.F.entry_int_lt ?_ (PySem.F.args_int_lt_2 _ _))
  unfold Builtin.«int.__lt__»
  exact intBin_dec hx ⟨_, rfl, rfl, q⟩
theorem decC_le : IntDecC .LtE := fun {prog w A E s x C dx i t Q} hx q => by
  refine wpAny_tryCompare_declines (T := "int") (id := "int.__le__") (typeIs_int s i t) PySem.F.slot_int_le (wpAny_call_entry PySem.F.slot_int_le (typeIs_int s i t) PySem.F.entry_int_le ?_ (PySem.F.args_int_le_2 _ _))
  unfold Builtin.«int.__le__»
  exact intBin_dec hx ⟨_, rfl, rfl, q⟩
theorem decC_gt : IntDecC .Gt := fun {prog w A E s x C dx i t Q} hx q => by
  refine wpAny_tryCompare_declines (T := "int") (id := "int.__gt__") (typeIs_int s i t) PySem.F.slot_int_gt (wpAny_call_entry PySem.F.slot_int_gt (typeIs_int s i t) PySem.F.entry_int_gt ?_ (PySem.F.args_int_gt_2 _ _))
  unfold Builtin.«int.__gt__»
  exact intBin_dec hx ⟨_, rfl, rfl, q⟩
theorem decC_ge : IntDecC .GtE := fun {prog w A E s x C dx i t Q} hx q => by
  refine wpAny_tryCompare_declines (T := "int") (id := "int.__ge__") (typeIs_int s i t) PySem.F.slot_int_ge (wpAny_call_entry PySem.F.slot_int_ge (typeIs_int s i t) PySem.F.entry_int_ge ?_ (PySem.F.args_int_ge_2 _ _))
  unfold Builtin.«int.__ge__»
  exact intBin_dec hx ⟨_, rfl, rfl, q⟩
theorem decC_eq : IntDecC .Eq := fun {prog w A E s x C dx i t Q} hx q => by
  refine wpAny_tryCompare_declines (T := "int") (id := "int.__eq__") (typeIs_int s i t) PySem.F.slot_int_eq (wpAny_call_entry PySem.F.slot_int_eq (typeIs_int s i t) PySem.F.entry_int_eq ?_ (PySem.F.args_int_eq_2 _ _))
  unfold Builtin.«int.__eq__»
  exact intBin_dec hx ⟨_, rfl, rfl, q⟩
theorem decC_ne : IntDecC .NotEq := fun {prog w A E s x C dx i t Q} hx q => by
  refine wpAny_tryCompare_declines (T := "int") (id := "int.__ne__") (typeIs_int s i t) PySem.F.slot_int_ne (wpAny_call_entry PySem.F.slot_int_ne (typeIs_int s i t) PySem.F.entry_int_ne ?_ (PySem.F.args_int_ne_2 _ _))
  unfold Builtin.«int.__ne__»
  exact intBin_dec hx ⟨_, rfl, rfl, q⟩
/-- int, comparison, instance -/
theorem cmp_refl {op : CmpOp} {Q : Value → Shared → Prop} (D : IntDecC op) (hu : A.units < cLine) (F : Fr h₀ L s.heap m) (X₀ : K.In h₀) (I : InstAt s.heap x ox C od) (hx : s.heap.get? x = some (instObj C dx)) (hs2 : subIn K (.ref C) (.type "int") = some false)
    (one : wpAny (model prog w) A (tryCompare (.ref x) (cmpInfo op).2.2 (.int i t)) (fun r s' => ∃ v, r = some v ∧ Q v s') E s) (hth : oneThing? op (.int i t) (.ref x) = none := by rfl) : wpAny (model prog w) A (richCompare op (.int i t) (.ref x)) Q E s := by
  have X := X₀.keeps F.keep
  have L1 : Looks (model prog w) s.heap (typeOf (.int i t)) (.type "int") := Looks.of_pure rfl
  unfold richCompare
  rw [hth]
  refine wpAny_holding (wpAny_bind (wpAny_cRoomFor hu ?_))
  refine wpAny_bind (L1.here (wpAny_bind (I.type.here ?_)))
  have hne : (Value.type "int" != Value.ref C) = true := by
    show (!(Value.type "int" == Value.ref C)) = true
    rw [show (Value.type "int" == Value.ref C) = false from Bool.eq_false_iff.mpr fun q => by cases beq_iff_eq.mp q]
    rfl
  rw [if_pos hne]
  refine wpAny_bind ((looks_subIn X hs2).here ?_)
  simp only [Bool.false_eq_true, if_false]
  refine wpAny_bind (D hx ?_)
  simp only [Bool.not_false, if_true]
  refine wpAny_bind (wpAny_mono one (fun r s' z => ?_) fun _ _ e => e)
  obtain ⟨v, rfl, hq⟩ := z
  exact wpAny_pure hq
end
end AZ
namespace AZ
open PySem L2 PyProof.Rows
theorem sub_of_kit {K : PySem.W.Frag} {C : Addr} (h : PySem.W.kitOne K (.ref C) (.type "int") = some false) : PySem.W.subIn K (.ref C) (.type "int") = some false := by
  unfold PySem.W.kitOne PySem.W.kitCls at h
  rw [if_neg (by intro q; cases (beq_iff_eq.mp q))] at h
  dsimp only at h
  rw [if_pos (by decide +kernel)] at h
  exact h
section
variable {X : Cx}
/-- int < own and the like: the own one, turned about; opr: the own operator that is asked -/
def rReflC (X : Cx) (opr : CmpOp) : R2 := fun x y H Q => ∃ (j : Int) (a C dx : Addr) (fs : List (Str × V)) (f : Addr) (CX : CXT) (k : Nat) (sp : Sp) (E : XK),
  x = .int j ∧ y = .ref a ∧ H a = some (.ins C dx fs) ∧ CmpM X.K C opr f ∧ PySem.W.kitOne X.K (.ref C) (.type "int") = some false ∧ FnR X.prog X.w X.K X.mg X.base CX k f sp ∧ Room k X.A ∧ Passes CX X E ∧ sp [y, x] H Q E
theorem op_reflC {op : CmpOp} (opr : CmpOp) (he : (cmpInfo op).2.2 = (cmpInfo opr).2.1) (D : IntDecC op) (hop : ∀ a b, compareOp op a b = richCompare op a b := by intro _ _; rfl) (hth : ∀ (i : Int) (t : Tok) (x : Addr), oneThing? op (.int i t) (.ref x) = none := by intro _ _ _; rfl) : OpR X (compareOp op) (rReflC X opr) := by
  intro pins s σ H x y v u Q I rx ry h
  obtain ⟨j, a, C, dx, fs, f, CX, k, sp, E, rfl, rfl, ha, hM, ki, F, hr, hx, hs⟩ := h
  obtain ⟨t, rfl⟩ := id rx
  obtain rfl : u = Value.ref a := ry
  have hc : wpAny (model X.prog X.w) X.A (call (.ref f) [.ref a, .int j t]) (PySem.W.CmpBack (EP X pins σ Q)) X.xe s :=
    thn (wpAny_call (run_fnR (us := [.ref a, .int j t]) (vs := [.ref a, .int j]) F hr hx I (.cons rfl (.cons rx .nil)) hs)) fun _ _ z => cmpBack_of z
  obtain ⟨mA, J, _⟩ := ins_get I.hok ha
  have hobj := J.obj
  obtain ⟨od, J, _⟩ := J.look
  obtain ⟨m, hF⟩ := I.fr
  rw [hop]
  refine cmp_refl D hr.units0 hF I.ok.mod.kin J hobj (sub_of_kit ki) ?_ (hth j t a)
  rw [he]
  unfold tryCompare
  refine wpAny_bind (PySem.W.ifBound_K I.kIn J hM.hs hM.hf (wpAny_mono hc (fun v s' hv => ?_) fun _ _ e => e))
  cases v <;> first | exact hv.elim | exact wpAny_pure ⟨_, rfl, hv⟩
/-- int != own -/
def rReflN (X : Cx) : R2 := fun x y H Q => ∃ (j : Int) (a C dx : Addr) (fs : List (Str × V)) (f : Addr) (CX : CXT) (k : Nat) (sp : Sp) (E : XK),
  x = .int j ∧ y = .ref a ∧ H a = some (.ins C dx fs) ∧ NeM X.K C f ∧ PySem.W.kitOne X.K (.ref C) (.type "int") = some false ∧ FnR X.prog X.w X.K X.mg X.base CX k f sp ∧ Room (k + 1) X.A ∧ Passes CX X E ∧ sp [y, x] H (fun v H1 => ∃ r, v = .bl r ∧ Q (.bl (!r)) H1) E
theorem op_reflN : OpR X (compareOp .NotEq) (rReflN X) := by
  intro pins s σ H x y v u Q I rx ry h
  obtain ⟨j, a, C, dx, fs, f, CX, k, sp, E, rfl, rfl, ha, hM, ki, F, hr, hx, hs⟩ := h
  obtain ⟨t, rfl⟩ := id rx
  obtain rfl : u = Value.ref a := ry
  have hc : wpAny (model X.prog X.w) X.A.in1 (call (.ref f) [.ref a, .int j t]) (fun v s' => ∃ r, v = .bool r ∧ EP X pins σ Q (.bool (!r)) s') X.xe s :=
    thn (wpAny_call (run_fnS (us := [.ref a, .int j t]) (vs := [.ref a, .int j]) ⟨hr.in1, rfl⟩ F hx I (.cons rfl (.cons rx .nil)) hs)) fun v s1 z => by
      obtain ⟨z, H1, I1, rz, r, rfl, q⟩ := z
      obtain rfl : v = Value.bool r := rz
      exact ⟨r, rfl, .bl (!r), H1, I1, rfl, q⟩
  obtain ⟨mA, J, _⟩ := ins_get I.hok ha
  have hobj := J.obj
  obtain ⟨od, J, _⟩ := J.look
  obtain ⟨m, hF⟩ := I.fr
  have hu : X.A.units + 1 < cLine := by have := hr.units; omega
  show wpAny (model X.prog X.w) X.A (richCompare .NotEq (.int j t) (.ref a)) (EP X pins σ Q) X.xe s
  exact cmp_refl (op := .NotEq) decC_ne (by omega) hF I.ok.mod.kin J hobj (sub_of_kit ki) (one_ne hu I.kIn J hM.hne hM.hs hM.hf hM.hm hc) (by rfl)
/-- own != a value of another built-in type -/
def rOwnNX (K : PySem.W.Frag) (C : Addr) (sp : Sp) (E : XK) : R2 := fun x y H Q => ∃ (a dx : Addr) (fs : List (Str × V)) (T : String), x = .ref a ∧ H a = some (.ins C dx fs) ∧ TyX K H y (.type T) ∧ PySem.W.notFirst K C (.type T) = true ∧ sp [x, y] H (fun v H1 => ∃ r, v = .bl r ∧ Q (.bl (!r)) H1) E
theorem op_ownNX {C f : Addr} {CX : CXT} {k : Nat} {sp : Sp} {E : XK} (hM : NeM X.K C f) (F : FnR X.prog X.w X.K X.mg X.base CX k f sp) (hr : Room (k + 1) X.A) (hx : Passes CX X E) : OpR X (compareOp .NotEq) (rOwnNX X.K C sp E) := by
  intro pins s σ H x y v u Q I rx ry h
  obtain ⟨a, dx, fs, T, rfl, ha, ty, nf, hs⟩ := h
  obtain rfl : v = Value.ref a := rx
  have hc : wpAny (model X.prog X.w) X.A.in1 (call (.ref f) [.ref a, u]) (fun v s' => ∃ r, v = .bool r ∧ EP X pins σ Q (.bool (!r)) s') X.xe s :=
    thn (wpAny_call (run_fnS (us := [.ref a, u]) (vs := [.ref a, y]) ⟨hr.in1, rfl⟩ F hx I (.cons rfl (.cons ry .nil)) hs)) fun v s1 z => by
      obtain ⟨z, H1, I1, rz, r, rfl, q⟩ := z
      obtain rfl : v = Value.bool r := rz
      exact ⟨r, rfl, .bl (!r), H1, I1, rfl, q⟩
  obtain ⟨mA, J, _⟩ := ins_get I.hok ha
  obtain ⟨od, J, _⟩ := J.look
  obtain ⟨m, hF⟩ := I.fr
  obtain ⟨Pz, Z, pz, _⟩ := kit_of I ry ty
  have hu : X.A.units + 1 < cLine := by have := hr.units; omega
  show wpAny (model X.prog X.w) X.A (richCompare .NotEq (.ref a) u) (EP X pins σ Q) X.xe s
  exact ne_K (tb := .type T) hu hF I.ok.mod.kin J (Z.ty _ _ I.kIn pz) nf hM.hne hM.hs hM.hf hM.hm hc
/-- e is True, e is False -/
theorem op_isB : OpR X (compareOp .Is) (fun x y H Q => ∃ a b, x = .bl a ∧ y = .bl b ∧ Q (.bl (a == b)) H) := by
  intro pins s σ H x y v u Q I rx ry h
  obtain ⟨a, b, rfl, rfl, q⟩ := h
  obtain rfl : v = Value.bool a := rx
  obtain rfl : u = Value.bool b := ry
  have e : compareOp .Is (.bool a) (.bool b) = (do return .bool (← isSame (.bool a) (.bool b))) := rfl
  rw [e]
  refine wpAny_bind ?_
  have e2 : isSame (.bool a) (.bool b) = pure (a == b) := by cases a <;> cases b <;> rfl
  rw [e2]
  exact wpAny_pure (wpAny_pure ⟨.bl (a == b), H, I, rfl, q⟩)
end
end AZ

set_option Elab.async false
set_option maxRecDepth 100000
set_option maxHeartbeats 4000000
set_option linter.all false
/-! Own work: defs that make lambdas; comparisons of all kinds. -/
namespace AZ
open PySem L2 PyProof.Rows LamX
section
variable {P : Program} {w : World} {K : PySem.W.Frag} {mg : Str → Option Value} {base : Heap} {k : Nat} {f : Addr} {sp : Sp} {x qual : Str} {st : Stmt} {fd : FuncData} {N ps : List Str}
/-- a def by its body, its code object known -/
theorem fnC_of (F : Fun K x qual st f fd) (S : FnScope N ps (defScope st)) (len : ∀ vs H Q E, sp vs H Q E → vs.length = ps.length)
    (bd : ∀ (cdv : Value) (A : Around) (out : List Env) (z : Shared) (G : Hp) (vs : List V) (Q : VK) (E : XK), (∀ o fd', K.lookup f = some o → o.data = .func fd' → fd'.code = cdv) → NoG (A.deeper (envOfC qual (defScope st) z.heap.objs.size f cdv)) →
      Room k (A.deeper (envOfC qual (defScope st) z.heap.objs.size f cdv)) → sp vs G Q E →
      ∃ t, PSs (cxOf CX0 P w K mg base N qual (defScope st) f cdv A out z G E).nox (defBody st) t ∧ t { nx := fun _ H' => Q .non H', rt := Q } (start N vs) G)
    (hb : Binds K fd ps []) : FnG P w K mg base CX0 (k + 1) f sp := by
  obtain ⟨oc, od, kV, doc, pm, an, cdv, ct, osl, rfl, look, rec⟩ := F.ex
  intro A out z G us vs Q E ng room env vals prom
  have keep : ∀ b o, base.get? b = some o → z.heap.get? b = some o := fun b o e => (env.bs b o e).1
  have kin := kin0 env
  have many : us.length = ps.length := vals.length.symm.trans (len _ _ _ _ prom)
  have bnd := hb z us kin (by rw [List.append_nil]; exact many)
  rw [List.append_nil] at bnd
  have kinds : ∀ y ∈ ps.zip us, (defScope st).names.lookup y.1 = some .local ∨
      ((defScope st).names.lookup y.1 = some .cell ∧ ((cellsFrom (z.heap.objs.size + 1) (defScope st).names []).lookup y.1).isSome = true) := by
    rintro ⟨n, v⟩ there
    exact (S.par n (List.of_mem_zip there).1).imp id fun c => ⟨c, PySem.W.cellsFrom_some _ _ _ (.inl c)⟩
  refine codeAny_call_function room.depth (kin _ _ look) rfl S.co S.gen rfl (PySem.W.codeRec_of kin rec) (bnd _ _ _ _ (wpAny_newFunctionEnv_cells S.kind kinds ?_))
  rintro env2 rfl z1 made
  refine ⟨(env.mod.nolimit.keeps keep).keeps made.toInCall.keep, codeAny_func ?_⟩
  obtain ⟨t, body, run⟩ := bd cdv A out z G vs Q E (fun o fd' h1 h2 => by rw [look] at h1; cases h1; cases h2; rfl) (ng.deeper _) (room.deeper _) prom
  exact wpAny_mono (body.nox.run [] z1 (start N vs) G _ (inv_start S room.hd env (len _ _ _ _ prom) vals made) run) (fun fl z2 q => ends_CR q) fun e z2 q => q
end
theorem TabK.code_eq {K : PySem.W.Frag} {f c P : Addr} {cdv : Value} (t : TabK K f c P) (h : ∀ o fd', K.lookup f = some o → o.data = .func fd' → fd'.code = cdv) : cdv = .ref c := by
  obtain ⟨o, fd', h1, h2, h3⟩ := t.fn
  rw [← h o fd' h1 h2, h3]
/-! ## what stays beside a growing table -/
theorem Tabs.up {T : List (Addr × Str)} {H H' : Hp} {p : Addr} (t : Tabs T H) (e : Up p H H') : Tabs T H' := fun q hq => by
  obtain ⟨ps, h1, h2, h3⟩ := t q hq
  refine ⟨ps, e _ _ h1 fun _ => rfl, h2, fun pos cv hc => ?_⟩
  obtain ⟨c, e1, e2⟩ := h3 pos cv hc
  exact ⟨c, e1, e _ _ e2 fun _ => rfl⟩
theorem ExtN.same {H H' : Hp} (e : Same H H') : ExtN H H' := fun b o h _ => e b o h
section
variable {K : PySem.W.Frag} {H H' : Hp}
theorem sqL_ext {a : Addr} {xs : List V} (e : ExtN H H') (h : SqL K H a xs) : SqL K H' a xs := h.elim (fun h => Or.inl (h.elim (fun q => Or.inl (e _ _ q fun _ z => nomatch z)) fun ⟨o, q⟩ => Or.inr ⟨o, e _ _ q fun _ z => nomatch z⟩)) Or.inr
theorem sqT_ext {a : Addr} {xs : List V} (e : ExtN H H') (h : SqT K H a xs) : SqT K H' a xs := h.elim (fun h => Or.inl (h.elim (fun q => Or.inl (e _ _ q fun _ z => nomatch z)) fun ⟨o, q⟩ => Or.inr ⟨o, e _ _ q fun _ z => nomatch z⟩)) Or.inr
mutual
theorem dp_ext (e : ExtN H H') : ∀ {v : V} {d : PyData}, Dp K H v d → Dp K H' v d
  | _, _, .non => .non
  | _, _, .bl b => .bl b
  | _, _, .int i => .int i
  | _, _, .str x => .str x
  | _, _, .lst h r => .lst (sqL_ext e h) (dpAll_ext e r)
  | _, _, .tup h r => .tup (sqT_ext e h) (dpAll_ext e r)
theorem dpAll_ext (e : ExtN H H') : ∀ {vs : List V} {ds : List PyData}, DpAll K H vs ds → DpAll K H' vs ds
  | _, _, .nil => .nil
  | _, _, .cons h r => .cons (dp_ext e h) (dpAll_ext e r)
end
theorem Sh.ext {v : V} {d : PyData} (e : ExtN H H') (h : Sh K H v d) : Sh K H' v d := match h with
  | .dp h n => .dp (dp_ext e h) n
  | .dict h => .dict (e _ _ h fun _ z => nomatch z)
end
/-- the promise of a def that tells what its argument, a call, raises: ("ratio", repr of the value) -/
def TTh (K : PySem.W.Frag) (CB : Addr) : (XK → Hp → VK → Prop) → Hp → VK → Prop := fun tl H Q => ∃ v e, Sh K H v e ∧ Shn e ∧ (∀ Q', tl (fun cls dd H' => cls = .ref CB ∧ ∃ dx, dd = some dx ∧ H dx = none ∧ H' = upd H dx (.xd [("value", v)])) H Q') ∧
  ∀ t H', Same H H' → H' t = some (.tup [.str "ratio", .str e.shown]) → Q (.ref t) H'
theorem Sx.hd {K : PySem.W.Frag} {S : Addr} {nm : Str} (x : Sx K S nm) : PySem.W.hasDictIn K S = true := by
  obtain ⟨q, N, bs, sn, sub, ab, col, dd, k0, k1, k2, k3, k5, h⟩ := x.lk
  have e : PySem.W.clsIn K S = some { name := nm, bases := bs, mro := .ref S :: PySem.HandSPX.veTail, ns := N, qualname := q, hasDict := true, slotNames := sn, subclasses := sub, abstract := ab, collection := col, hasDel := false } := by
    unfold PySem.W.clsIn; rw [h]
  unfold PySem.W.hasDictIn
  rw [e]
  simp
theorem Sx.mro {K : PySem.W.Frag} {S : Addr} {nm : Str} (x : Sx K S nm) (b : Value) : PySem.W.mroIn K S b = some ((.ref S :: PySem.HandSPX.veTail).contains b) := by
  obtain ⟨cd, h, m, _⟩ := x.cls
  unfold PySem.W.mroIn
  rw [h, Option.bind_some, m]; rfl
/-- an except clause of the base lets all below it in -/
theorem Ex.exm {K : PySem.W.Frag} {S C fI : Addr} {nm ns : Str} (x : Ex K S C fI nm) (s : Sx K S ns) : PySem.W.exmOne K (.ref C) (.ref S) = some true :=
  PySem.W.exm_ref ((s.mro _).trans (by simp [PySem.HandSPX.veTail])) s.hd s.ty ((x.mro _).trans (by simp [PySem.HandSPX.veTail]))
end AZ

set_option Elab.async false
set_option maxRecDepth 100000
set_option maxHeartbeats 4000000
set_option linter.all false
/-! Own work: the truth of own values; comparisons with an int on either side. -/
namespace AZ
open PySem PySem.Spec PySem.W PySem.Calls PyProof.Rows
section
variable {prog : Program} {w : World} {A : Around} {E : Value → Shared → Prop} {s : Shared} {K : Frag} {x C L f : Addr} {h₀ : Heap} {m : Str → Option Value} {ox : Obj} {od : Option Obj}
theorem bool_own {Q : Value → Shared → Prop} (F : Fr h₀ L s.heap m) (X₀ : K.In h₀) (I : InstAt s.heap x ox C od) (hs : findIn K (.ref C) "__bool__" = some (some (.ref f))) (hf : isFn K (.ref f) = true)
    (h : wpAny (model prog w) A.in1.in1 (call (.ref f) [.ref x]) (PySem.W.BoolBack fun b => Q (.bool b)) E s) : wpAny (model prog w) A (call (.type "bool") [.ref x]) Q E s := by
  refine callType_codes (T := "bool") (Bi := Builtin.«object.__init__») (Q₁ := fun r s₁ => ∃ b, r = .bool b ∧ Q r s₁) PySem.F.called_bool (PySem.F.typeCall_bool_1 _) PySem.F.entry_object_init ?_ ?_
  · refine codeAny_of_tree ?_
    show wpAny _ A.in1.in1 (do checkBuiltinCall "bool.__new__" ⟨[.type "bool", .ref x], []⟩; again (.builtin "bool.__new__" ⟨[.type "bool", .ref x], []⟩)) _ _ s
    refine wpAny_bind (wpAny_of_eq (PySem.F.newCall_bool_1 _) (wpAny_pure ⟨plainId_quiet (by decide +kernel) _, codeAny_builtin PySem.F.entry_bool_new ?_⟩))
    rw [Around.under_plainId (by decide +kernel) _]
    have tr : wpAny (model prog w) A.in1.in1 (truthy (.ref x)) (fun b s₁ => Q (.bool b) s₁) E s := truthy_K F X₀ I hs hf h
    have f1 := PySem.F.conv_sub_bool
    unfold Builtin.«bool.__new__»
    refine wpAny_bind (wpAny_pure ?_)
    refine wpAny_bind (wpAny_of_eq f1 ?_)
    refine wpAny_bind (wpAny_pure ?_)
    exact wpAny_bind (wpAny_mono tr (fun b s₁ hb => wpAny_pure ⟨_, rfl, hb⟩) fun _ _ y => y)
  · rintro obj s₁ ⟨b, rfl, hq⟩
    exact ⟨PySem.typeIs_bool _ _, PySem.F.args_object_init_2 _ _, object_init_meets PySem.F.called_bool.init.lookup PySem.F.called_bool.made (by decide) prog w A.in1 _ s₁ ⟨PySem.typeIs_bool _ _, rfl, hq⟩⟩
end
end AZ
namespace AZ
open PySem L2 PyProof.Rows
/-- what the truth of an instance asks of the class at C: its own __bool__ at f -/
structure BoolM (K : PySem.W.Frag) (C f : Addr) : Prop where
  hs : PySem.W.findIn K (.ref C) "__bool__" = some (some (.ref f))
  hf : PySem.W.isFn K (.ref f) = true
section
variable {X : Cx} {a : Expr} {ta : TE} {pos : Pos}
theorem boolBack_of {pins : List (Addr × Obj)} {σ : L2.St} {Q : Bool → Hp → Prop} {v : Value} {s : Shared} {R : Bool → Shared → Prop} (k : ∀ b s' H', Inv X pins σ H' s' → Q b H' → R b s') (h : EP X pins σ (fun v H1 => ∃ z, v = .bl z ∧ Q z H1) v s) : PySem.W.BoolBack R v s := by
  obtain ⟨z, H1, I1, rz, y, rfl, q⟩ := h
  obtain rfl : v = Value.bool y := rz
  exact k _ _ _ I1 q
def rBoolO (X : Cx) (d : Nat) (x : V) (H : Hp) (Q : Bool → Hp → Prop) : Prop := ∃ (a C dx : Addr) (fs : List (Str × V)) (f : Addr) (CX : CXT) (k : Nat) (sp : Sp) (E : XK),
  x = .ref a ∧ H a = some (.ins C dx fs) ∧ BoolM X.K C f ∧ FnR X.prog X.w X.K X.mg X.base CX k f sp ∧ Room (k + d) X.A ∧ Passes CX X E ∧ sp [x] H (fun v H1 => ∃ z, v = .bl z ∧ Q z H1) E
/-- bool(x) -/
theorem call_boolO : CallR X (.type "bool") (fun xs H Q => ∃ x, xs = [x] ∧ rBoolO X 2 x H fun b H1 => Q (.bl b) H1) := by
  intro pins s σ H xs us Q I rv q
  obtain ⟨x, rfl, a, C, dx, fs, f, CX, k, sp, E, rfl, ha, hM, F, hr, hx, hs⟩ := q
  cases rv with
  | cons r1 r2 =>
    cases r2
    cases r1
    have hc : wpAny (model X.prog X.w) X.A.in1.in1 (call (.ref f) [.ref a]) (PySem.W.BoolBack fun b => EP X pins σ Q (.bool b)) X.xe s :=
      thn (wpAny_call (run_fnS (us := [.ref a]) (vs := [.ref a]) ⟨hr.in1.in1, rfl⟩ F hx I (.cons rfl .nil) hs)) fun v s3 z => boolBack_of (fun b s' H' I' q => ⟨.bl b, H', I', rfl, q⟩) z
    obtain ⟨mA, J, _⟩ := ins_get I.hok ha
    obtain ⟨od, J, _⟩ := J.look
    obtain ⟨m, hF⟩ := I.fr
    exact bool_own hF I.ok.mod.kin J hM.hs hM.hf hc
theorem uBool : CallR X (.type "bool") (fun xs H Q => ((∃ i, xs = [.int i] ∧ Q (.bl (i != 0)) H) ∨ ∃ k, xs = [.bl k] ∧ Q (.bl k) H) ∨ ∃ x, xs = [x] ∧ rBoolO X 2 x H fun b H1 => Q (.bl b) H1) := CallR.or' call_bool1 call_boolO
/-- not x, x an own value -/
theorem pe_notO (ha : PE X a ta) : PE X (.UnaryOp .Not a pos) (fun σ H Q => ta σ H fun x H1 => rBoolO X 0 x H1 fun b H2 => Q (.bl (!b)) H2) := by
  refine ⟨fun pins s σ H Q I h => ?_⟩
  refine UnaryOp_ (thn (ha.run pins s σ H _ I h) fun v s1 ⟨x, H1, I1, r1, a, C, dx, fs, f, CX, k, sp, E, ex, e, hM, F, hr, hx, hs⟩ => ?_)
  subst ex
  obtain rfl : v = Value.ref a := r1
  have hc : wpAny (model X.prog X.w) X.A (call (.ref f) [.ref a]) (PySem.W.BoolBack fun b => EP X pins σ Q (.bool (!b))) X.xe s1 :=
    thn (wpAny_call (run_fnR (us := [.ref a]) (vs := [.ref a]) F hr hx I1 (.cons rfl .nil) hs)) fun v s3 z => boolBack_of (fun b s' H' I' q => ⟨.bl (!b), H', I', rfl, q⟩) z
  obtain ⟨mA, J, _⟩ := ins_get I1.hok e
  obtain ⟨od, J, _⟩ := J.look
  obtain ⟨m, hF⟩ := I1.fr
  exact not_of (PySem.W.truthy_K hF I1.ok.mod.kin J hM.hs hM.hf hc)
theorem uLtR : OpR X (compareOp .Lt) (orR (rI0 fun i j => .bl (decide (i < j))) (orR (rOwnC X .Lt) (rReflC X .Gt))) := op_or2 op_lt (op_or2 (op_ownC _) (op_reflC .Gt rfl decC_lt))
theorem uLeR : OpR X (compareOp .LtE) (orR (rI0 fun i j => .bl (decide (i ≤ j))) (orR (rOwnC X .LtE) (rReflC X .GtE))) := op_or2 op_le (op_or2 (op_ownC _) (op_reflC .GtE rfl decC_le))
theorem uGtR : OpR X (compareOp .Gt) (orR (rI0 fun i j => .bl (decide (j < i))) (orR (rOwnC X .Gt) (rReflC X .Lt))) := op_or2 op_gt (op_or2 (op_ownC _) (op_reflC .Lt rfl decC_gt))
theorem uGeR : OpR X (compareOp .GtE) (orR (rI0 fun i j => .bl (decide (j ≤ i))) (orR (rOwnC X .GtE) (rReflC X .LtE))) := op_or2 op_ge (op_or2 (op_ownC _) (op_reflC .LtE rfl decC_ge))
end
end AZ

set_option Elab.async false
set_option maxRecDepth 100000
set_option maxHeartbeats 4000000
set_option linter.all false
/-! Own work: list comprehensions out of which errors come. -/
namespace AZ
open PySem L2 PySem.Spec PyProof.Rows
section
variable {M : Model} {A : Around} {E : Value → Shared → Prop} {s : Shared} {env : Env}
/-- what must hold behind a block that may raise, its environment told -/
def xPost (M : Model) (A : Around) (E : Value → Shared → Prop) (use : Option (Value → Sem Unit)) (Q : Value → Shared → Prop) (L : Value) (ce : Env) : Result → Shared → Prop
  | .ok f, t => compPost M A E use Q L ce.locals (.ok f) t
  | .error u, t => ∃ m, t.heap.Ns ce.locals m ∧ ∀ g, Heap.SameBut ce.locals t.heap g → wpAny M A (passOn "comprehension.variables-let-go" u ce : Sem Value) (fun _ _ => False) E { t with heap := g }
theorem compr_x {ex : Expr} {sc : Scope} {pos : Pos} {mk fst : Sem Value} {g : Comprehension} {gs : List Comprehension} {cl : List (Str × Addr)} {use : Option (Value → Sem Unit)} {Q : Value → Shared → Prop}
    (e1 : clausesOf ex = g :: gs) (e2 : ∀ x, foldedSetIterable g.iter env x = pure x) (e3 : closureFor sc env = pure cl) (e4 : sc.kind = .function) (e5 : ∀ x ∈ sc.names, x.2 = .local → sc.names.lookup x.1 = some .local)
    (run : wpAny M A fst (fun x t1 => wpAny M A (pyIter x) (fun it t2 => wpAny M A mk (fun L t3 =>
      wpAny M A (newFunctionEnv sc env.globals cl [] env.qual none .none (some env))
        (fun ce t4 => codeAny M A (.compStart ex 0 it L { ce with scope := relabel sc env }) (xPost M A E use Q L { ce with scope := relabel sc env }) t4) E t3) E t2) E t1) E s) :
    wpAny M A (comprehension ex sc env pos mk false fst use) Q E s := by
  unfold comprehension
  rw [e3, e1]
  refine wpAny_bind (thn run fun x t1 r1 => wpAny_bind (wpAny_standAt (wpAny_bind (wpAny_of_eq (e2 x) (wpAny_bind (wpAny_holding (thn r1 fun it t2 r2 => ?_)))))))
  refine wpAny_standIf (wpAny_bind (thn r2 fun L t3 r3 => wpAny_bind (wpAny_pure (wpAny_bind (thn r3 fun ce t4 r4 => ?_)))))
  have kind : Scope.kind (Env.scope { ce with scope := relabel sc env }) = .function := e4
  have loc : ∀ x ∈ (sc.names.filter fun x => (x.2 == .local || x.2 == .cell) && x.1 != (".0" : Str)).reverse, x.2 = .local → Env.kindOf { ce with scope := relabel sc env } x.1 = some .local :=
    fun x hx hl => lookup_relabel_local (e5 x (List.mem_filter.mp (List.mem_reverse.mp hx)).1 hl)
  have loc' : ∀ x ∈ (sc.names.filter fun x => (x.2 == .local || x.2 == .cell) && x.1 != (".0" : Str)).reverse.drop 1 ++ (sc.names.filter fun x => (x.2 == .local || x.2 == .cell) && x.1 != (".0" : Str)).reverse.take 1,
      x.2 = .local → Env.kindOf { ce with scope := relabel sc env } x.1 = some .local :=
    fun x hx hl => (List.mem_append.mp hx).elim (fun z => loc x (List.mem_of_mem_drop z) hl) fun z => loc x (List.mem_of_mem_take z) hl
  dsimp only
  refine wpAny_holding (wpAny_bind (wpAny_attempt (wpAny_holding (wpAny_run (codeAny_mono r4 fun r t5 hr => ?_)))))
  match r, hr with
  | .error u, hr =>
    obtain ⟨m, hn, hr⟩ := hr
    exact wpAny_bind (wpAny_holding (wpAny_comp_letGo (cenv := { ce with scope := relabel sc env }) kind _ t5 m loc hn fun h' _ _ sb => wpAny_mono (hr h' sb) (fun _ _ z => z.elim) fun _ _ z => z))
  | .ok f, hr =>
    cases use with
    | none =>
      obtain ⟨m, hn, hr⟩ := hr
      exact wpAny_bind (wpAny_holding (wpAny_comp_letGo (cenv := { ce with scope := relabel sc env }) kind _ t5 m loc hn fun h' _ _ sb => wpAny_pure (hr h' sb)))
    | some u =>
      refine wpAny_bind (wpAny_rule (wpAny_bind (wpAny_holding (thn hr fun _ t6 hr' => ?_))))
      obtain ⟨m, hn, hr'⟩ := hr'
      exact wpAny_bind (wpAny_comp_letGo (cenv := { ce with scope := relabel sc env }) kind _ t6 m loc' hn fun h' _ _ sb => wpAny_pure (hr' h' sb))
end
theorem note_frame {x : Value} {e1 e2 : Env} (h : e1.frame = e2.frame) : noteFrame x e1 = noteFrame x e2 := by
  unfold noteFrame PySem.frameOf
  rw [h]
theorem ff_but {B B' h h' : Heap} {C : Addr} (k : ∀ b, b ≠ C → h'.get? b = h.get? b) (n : ∀ b, B.get? b = none → B'.get? b = none) : ∀ {l : List Env}, h.FunFrames B l → C ∉ frs l → h'.FunFrames B' l
  | [], _, _ => trivial
  | env :: l, ⟨k1, ⟨L, o, hf, hB, ho, hd⟩, r⟩, nc => by
    have q : ∀ b, b ∈ frs (env :: l) → b ≠ C := fun b hb z => nc (z ▸ hb)
    refine ⟨k1, ⟨L, o, hf, n L hB, ?_, hd⟩, ff_but k n r fun z => ?_⟩
    · rw [k L (q L (List.mem_filterMap.mpr ⟨env, List.mem_cons_self, hf⟩))]; exact ho
    · obtain ⟨e, he, z⟩ := List.mem_filterMap.mp z
      exact nc (List.mem_filterMap.mpr ⟨e, List.mem_cons_of_mem _ he, z⟩)
/-- the block's context, with a wish about errors -/
abbrev blkX (X : Cx) (s : Shared) (H : Hp) (scope : Scope) (ce : Env) (fp : List Addr) (xe : Value → Shared → Prop) : Cx := { X.blk s H scope ce fp with xe := xe }
section
variable {X : Cx} {pins : List (Addr × Obj)} {σ : L2.St} {H3 : Hp} {s3 : Shared} {E : XK}
/-- what a call in the block lets out goes out of the def, too -/
theorem blk_passes (tk : L2.Takes X (fun cls d _ H => E cls d H)) (hs : X.stack = X.env :: X.outer) (hf : X.env.frame = some X.env.locals) {scope : Scope} {ce : Env} {fp : List Addr} {L : Value} {use : Option (Value → Sem Unit)} {Qf : Value → Shared → Prop}
    (I3 : Inv X pins σ H3 s3) (f3 : ∀ b ∈ fp, FpOk X pins H3 b) (cL : ce.locals = s3.heap.objs.size) (cF : ce.frame = X.env.frame) :
    Passes (CXx X.prog X.w) (blkX X s3 H3 scope ce fp (notedBy (model X.prog X.w) X.A ce fun e s' => xPost (model X.prog X.w) X.A X.xe use Qf L ce (.error e) s')) E := by
  intro pins' σ' H s u s' I c
  have J : Inv X pins σ H s := I3.call' (ch := fp) I.os I.base I.hok I.bare fun b hb => ⟨(f3 b hb).2.2.2.1, (f3 b hb).2.1, (f3 b hb).2.2.2.2.1, (f3 b hb).2.2.2.2.2⟩
  obtain ⟨a, B, H', cls, d, rfl, fl, hok, ub, na, os, ag, hE⟩ := c
  obtain ⟨m, hn, _⟩ := I.loc
  have nC : H ce.locals = none := I.free
  have hn : s.heap.Ns ce.locals m := hn
  obtain ⟨oC, esC, epC, gC, rC⟩ := hn
  generalize hC : ce.locals = C at *
  have cle : s3.heap.objs.size ≤ C := Nat.le_of_eq cL.symm
  have nfC : C ∉ frs X.stack := fun z => by
    rcases List.mem_cons.mp (I3.stkSub C z) with z | z
    · exact Nat.lt_irrefl _ (Nat.lt_of_lt_of_le I3.lt (z ▸ cle))
    · exact I3.nofs cle z
  have BC : B.get? C = some oC := ub.keep C oC gC nC nfC
  have nC' : H' C = none := ub.free C oC gC nC
  have hfr : X.A.frames = some (X.env :: X.outer) := by rw [J.ok.frames, hs]
  show wpAny (model X.prog X.w) X.A (noteFrame (.ref a) ce) _ _ s'
  rw [note_frame cF]
  have fl' := fl
  rw [hs] at fl'
  refine HandSPX.looks_onZ L2.Zc.steady hfr hf fl' fun h1 hld up1 => ?_
  rw [← hs] at hld
  obtain ⟨k1, k2, k3, oe, vs, T, oT, ts, he, hz, hd, g1, hnT, hTe, hT, hdT, g3⟩ := hld
  show ∃ m, Heap.Ns h1 ce.locals m ∧ _
  rw [hC]
  refine ⟨m, ⟨oC, esC, epC, k1 C oC BC, rC⟩, fun h2 sb => ?_⟩
  have aC : a ≠ C := fun z => by rw [z, BC] at k2; cases k2
  have TC : T ≠ C := fun z => by rw [z, BC] at hnT; cases hnT
  have e2 : ∀ b, b ≠ C → h2.get? b = h1.get? b := fun b hb => sb.2 b hb
  -- the ground without the block's variables
  generalize hB : PySem.W.hideAll B [C] = B'
  have ofB : ∀ b o, B'.get? b = some o → B.get? b = some o := fun b o e => by rw [← hB] at e; exact PySem.W.of_hideAll _ e
  have toB : ∀ b o, b ≠ C → B.get? b = some o → B'.get? b = some o := fun b o hb e => by rw [← hB]; exact PySem.W.hideAll_get _ e (by simp [hb])
  have noC : B'.get? C = none := by rw [← hB]; exact PySem.W.hideAll_none _ (by simp)
  have nB : ∀ b, B.get? b = none → B'.get? b = none := fun b e => by
    cases q : B'.get? b with
    | none => rfl
    | some o => rw [ofB b o q] at e; cases e
  have st2 : B'.StaysIn h2 := fun b o e => by
    have hb : b ≠ C := fun z => by rw [z, noC] at e; cases e
    rw [e2 b hb]
    exact k1 b o (ofB b o e)
  have ff2 : h2.FunFrames B' X.stack := ff_but e2 nB k3 nfC
  have tz : HandSPX.TracedZ h2 B' a (L2.Zc cls d) (rawInt X.env.locals) := ⟨oe, vs, T, oT, ts, (e2 a aC).trans he, hz, hd, g1, nB T hnT, hTe, (e2 T TC).trans hT, hdT, g3⟩
  unfold PySem.passOn
  refine wpAny_bind (wpAny_field ((e2 a aC).trans he) hd g1 ?_)
  rw [if_neg (by simp)]
  refine wpAny_bind ?_
  refine HandSPX.setFlight_anyZ (base := B') (l := X.stack) (fl := rawInt X.env.locals) (fr := ce.frame) st2 ff2 tz fun h4 q1 q2 q3 up4 => wpAny_throw (tk _ _ ?_)
  have ef : ce.frame = some X.env.locals := cF.trans hf
  rw [ef] at q3
  have slots : ∀ b ∈ frs X.stack, ∀ o, s.heap.get? b = some o → ∃ sl, h4.get? b = some { o with slots := sl } := fun b hb o e => by
    obtain ⟨_, o', e', hnd⟩ := J.stack.mem hb
    rw [e] at e'; cases e'
    obtain ⟨sl, x1⟩ := ub.slot b o e hb
    obtain ⟨sl2, x2⟩ := up1 b _ x1 hnd
    have x3 : h2.get? b = some _ := (e2 b fun z => nfC (z ▸ hb)).trans x2
    obtain ⟨sl3, x4⟩ := up4 b _ x3 hnd
    exact ⟨sl3, x4⟩
  obtain ⟨G, G1, G2⟩ := L2.restrict h4 fun b => (B'.get? b).isSome || decide (b ∈ frs X.stack)
  have gB : ∀ b o, B'.get? b = some o → G.get? b = some o := fun b o e => by
    rw [G1 b (by simp [e])]
    exact q1 b o e
  have gF : ∀ b, b ∈ frs X.stack → G.get? b = h4.get? b := fun b hb => G1 b (by simp [hb])
  have og : ∀ b o, G.get? b = some o → h4.get? b = some o ∧ ((B'.get? b).isSome = true ∨ b ∈ frs X.stack) := fun b o e => by
    cases q : ((B'.get? b).isSome || decide (b ∈ frs X.stack)) with
    | false => rw [G2 b q] at e; cases e
    | true =>
      rw [G1 b q] at e
      exact ⟨e, by simpa [Bool.or_eq_true] using q⟩
  have ne1 : ∀ b, b ∉ [C] → b ≠ C := fun b hb z => hb (by simp [z])
  have fo := I3.fpOk (b := C) (H' := H) cle nC
  refine ⟨a, B', { s with heap := G, gens := s'.gens, drawn := s'.drawn, toks := s'.toks }, pins, σ, H', cls, d, rfl, ?_, fun b o e hb => ?_, Heap.UpToSlots.of_keeps fun b o e => (og b o e).1, .inr (.inr ⟨q1, nB a k2, q2, q3⟩), na, os, ag, hE⟩
  · refine J.call (ch := [C]) ⟨fun b o e n hb hc => gB b o (toB b o (ne1 b hc) (ub.keep b o e n hb)), fun b o e n hb hc => ?_, fun b o e n _ => ub.free b o e n, fun b o e hc => ?_, ub.tups, ub.frzs, ub.tbls⟩ ?_ ag fun b hb => ?_
    · rw [gF b hb]
      exact slots b hb o e
    · by_cases hb : b ∈ frs X.stack
      · obtain ⟨sl, q⟩ := slots b hb o e
        exact ⟨_, by rw [gF b hb]; exact q⟩
      · obtain ⟨o', q⟩ := ub.there b o e hb
        exact ⟨o', gB b o' (toB b o' (ne1 b hc) q)⟩
    · exact fun b v e => (hok b v e).stay (fun c x hc r => gB c x (toB c x (fun z => by
        rw [z] at hc
        rcases hc with hc | hc
        · rw [← hc, nC'] at e; cases e
        · rw [nC'] at hc; cases hc) r)) (fun _ r => r) fun _ _ r => r
    · have : b = C := by simpa using hb
      subst this
      exact ⟨fo.2.2.2.1, fo.2.1, fo.2.2.2.2.1, fo.2.2.2.2.2⟩
  · obtain ⟨e', h⟩ := og b o e
    rcases h with h | h
    · obtain ⟨o', q⟩ := Option.isSome_iff_exists.mp h
      have z := q1 b o' q
      rw [e'] at z; cases z
      exact q
    · exact absurd h hb
end
section
variable {X : Cx}
/-- the promise about a part of the block: wherever what calls let out is let out -/
def BlkPE (X : Cx) (E : XK) (scope : Scope) (elt : Expr) (te : TE) : Prop := ∀ (s : Shared) (H : Hp) (C : Addr) (cl : List (Str × Addr)) (fp : List Addr) (xe : Value → Shared → Prop),
  Passes (CXx X.prog X.w) (blkX X s H scope (compEnvC scope cl C X.env) fp xe) E → PE (blkX X s H scope (compEnvC scope cl C X.env) fp xe) elt te
theorem lcx_core {E : XK} {pins : List (Addr × Obj)} {s : Shared} {σ : L2.St} {H : Hp} {Q : VK} {elt tg iter : Expr} {scope : Scope} {own : List (Str × Nat)} {pos pos' : Pos} {wi : TI} {g : TG} {te : TE} {use : Option (Value → Sem Unit)} {Qf : Value → Shared → Prop}
    (tk : L2.Takes X (fun cls d _ H => E cls d H)) (hst : X.stack = X.env :: X.outer) (hfl : X.env.frame = some X.env.locals)
    (hc : X.calm = true) (hN : X.N.Nodup) (I : Inv X pins σ H s) (hi : PI X tg iter wi) (ok : BlkOk X.N X.env.scope scope own)
    (hg : ∀ (s : Shared) (H : Hp) (C : Addr) (cl : List (Str × Addr)) (fp : List Addr) (xe : Value → Shared → Prop), PG (blkX X s H scope (compEnvC scope cl C X.env) fp xe) tg g)
    (he : BlkPE X E scope elt te) (hs : ∀ x, foldedSetIterable iter X.env x = pure x)
    (h : tLc wi g tYes te (own.map (·.2)) σ H Q)
    (hRR : ∀ D C t m H', Inv X pins σ H' t → Q (.ref D) H' → t.heap.Ns C m → FpOk X pins H' C → compPost (model X.prog X.w) X.A X.xe use Qf (.ref D) C (.ok .next) t) :
    wpAny (model X.prog X.w) X.A (comprehension (.ListComp elt [⟨tg, iter, [], 0⟩] scope pos) scope X.env pos' (newList []) false (eval iter X.env) use) Qf X.xe s := by
  have cells : ∀ y ∈ scope.names, y.2 = .free → ∃ c, X.env.cells.lookup y.1 = some c := fun y hy e => (ok.free y hy e).elim (fun k => I.ok.has _ (.inl k)) fun k => I.ok.has _ (.inr k)
  refine compr_x (use := use) rfl hs (closure_ok cells) ok.kind (fun y hy e => by rw [ok.uniq y hy, e]) (thn (hi.run pins s σ H _ I h) fun xv s1 hx => thn hx fun itv s2 h2 => ?_)
  obtain ⟨it, fp, tn, J, H2, rfl, I2, T, st2, f2, q⟩ := h2
  refine wpAny_newObj_type (newEnv_comp ?_) (by show 0 ≤ sizeLine; decide)
  generalize hD : s2.heap.objs.size = D
  obtain ⟨W, ⟨m0, w0⟩, turn⟩ := q D (I2.hok.fresh (Nat.le_of_eq hD))
  generalize hs3 : ({ s2 with heap := s2.heap.push { cls := .type "list", data := .seq ([] : List Value).toArray } } : Shared) = s3
  have heap3 : s3.heap = s2.heap.push { cls := .type "list", data := .seq ([] : List Value).toArray } := by rw [← hs3]
  have I3 : Inv X pins σ (upd H2 D (.lst [])) s3 := by
    rw [← hs3]
    refine I2.laid (t' := s2.toks) (fun b o e => Heap.get?_push_of_some _ e) (Nat.le_of_eq hD) ⟨Nat.zero_le _, [], 0, .nil, ?_⟩
    rw [← hD]; exact Heap.get?_push_size _ rfl
  have f3 : ∀ b ∈ fp, FpOk X pins (upd H2 D (.lst [])) b ∧ b < s3.heap.objs.size := fun b hb => by
    obtain ⟨o, e, _⟩ := T.obj _ _ st2 b hb
    have hlt := Heap.lt_size e
    refine ⟨⟨?_, (f2 b hb).2⟩, by rw [heap3, Heap.size_push]; exact Nat.lt_succ_of_lt hlt⟩
    rw [upd_ne (by rw [← hD]; exact Nat.ne_of_lt hlt)]; exact (f2 b hb).1
  have st3 : tn 0 s3.heap := T.keep _ _ _ st2 fun b _ o e => by rw [heap3]; exact Heap.get?_push_of_some _ e
  have I4 := block_start I3 ok hN f3
  have pg := hg s3 (upd H2 D (.lst [])) s3.heap.objs.size (cellsFrom (s3.heap.objs.size + 1) scope.names (cloFrom X.env.cells scope.names [])) fp
  have pe := he s3 (upd H2 D (.lst [])) s3.heap.objs.size (cellsFrom (s3.heap.objs.size + 1) scope.names (cloFrom X.env.cells scope.names [])) fp
  generalize hce : compEnvC scope (cellsFrom (s3.heap.objs.size + 1) scope.names (cloFrom X.env.cells scope.names [])) s3.heap.objs.size X.env = ce at I4 pg pe
  have cL : ce.locals = s3.heap.objs.size := by subst hce; rfl
  have cF : ce.frame = X.env.frame := by subst hce; rfl
  have ps := blk_passes (scope := scope) (L := .ref D) (use := use) (Qf := Qf) tk hst hfl I3 (fun b hb => (f3 b hb).1) cL cF
  generalize hxe : (notedBy (model X.prog X.w) X.A ce fun e s' => xPost (model X.prog X.w) X.A X.xe use Qf (.ref D) ce (.error e) s') = xe at ps
  have pg := pg xe
  have pe := pe xe ps
  generalize hH3 : upd H2 D (.lst []) = H3 at I3 I4 pg pe w0 f3 ps
  generalize hs4 : ({ s3 with heap := pushCells (s3.heap.push { cls := .type "dict", data := .dict #[] }) scope.names } : Shared) = s4 at I4
  have I4 : Inv (blkX X s3 H3 scope ce fp xe) [] (wipe σ (own.map (·.2))) H3 s4 := ⟨⟨I4.ok.mod, I4.ok.kind, I4.ok.glob, I4.ok.blt, I4.ok.above, I4.ok.inj, I4.ok.has, I4.ok.cab, I4.ok.hd, I4.ok.frames, I4.ok.stk, I4.ok.exf, I4.ok.bs, I4.ok.bsz, I4.ok.noex, I4.ok.exfs, I4.ok.funs, I4.ok.frf⟩, I4.os, I4.bare, I4.base, I4.loc, I4.cell, I4.free, I4.freeC, I4.pin, I4.hok, I4.len⟩
  have st4 : tn 0 s4.heap := T.keep _ _ _ st3 fun b _ o e => by rw [← hs4]; exact pushCells_keeps _ _ _ _ (Heap.get?_push_of_some _ e)
  have stat : ∀ {σ' : L2.St} {H' : Hp} {s' : Shared}, Inv (blkX X s3 H3 scope ce fp xe) [] σ' H' s' → (∀ b ∈ fp, H' b = none) → ∀ b ∈ fp, FpOk (blkX X s3 H3 scope ce fp xe) [] H' b := fun I' hn b hb =>
    ⟨hn b hb, (I'.ok.exf b hb).1, I'.ok.exfs b hb, .inl hb, fun x c e => (I'.ok.exf b hb).2 x c e, fun p hp => absurd (show p ∈ ([] : List (Addr × Obj)) ++ [] from hp) (by simp)⟩
  have loop : codeAny (model X.prog X.w) X.A (.compLoop (.ListComp elt [⟨tg, iter, [], 0⟩] scope pos) 0 (.ref it) (.ref D) ce) (xPost (model X.prog X.w) X.A X.xe use Qf (.ref D) ce) s4 := by
    refine compLoop_any (fun n s' => ∃ i H', Inv (blkX X s3 H3 scope ce fp xe) [] (wipe σ (own.map (·.2))) H' s' ∧ tn i s'.heap ∧ (∀ b ∈ fp, H' b = none) ∧ W i n H') ?_ m0 ⟨0, H3, I4, st4, fun b hb => (f3 b hb).1.1, w0⟩
    rintro n s5 ⟨i, H5, I5, st5, n5, w5⟩
    rw [hxe]
    rcases turn i n H5 w5 with ⟨stop, qq⟩ | ⟨go, Nx, hNx, step⟩
    · refine thnF (T.done (blkX X s3 H3 scope ce fp xe) rfl rfl rfl hc i [] s5 _ H5 (fun _ _ => False) I5 (stat I5 n5) st5 stop) fun r s6 ⟨hr, I6⟩ => ?_
      subst hr
      have I7 : Inv X pins σ H5 s6 := I3.call' (ch := fp) I6.os I6.base I6.hok I6.bare fun b hb => ⟨(f3 b hb).1.2.2.2.1, (f3 b hb).1.2.1, (f3 b hb).1.2.2.2.2.1, (f3 b hb).1.2.2.2.2.2⟩
      have nC : H5 ce.locals = none := I6.free
      obtain ⟨m, hn, _⟩ := I6.loc
      exact hRR D ce.locals s6 m H5 I7 qq hn (I3.fpOk (Nat.le_of_eq cL.symm) nC)
    · refine thnF (T.item (blkX X s3 H3 scope ce fp xe) rfl rfl rfl hc i [] s5 _ H5 (fun _ _ => False) I5 (stat I5 n5) st5 go) fun r s6 ⟨u, hr, h6⟩ => ?_
      subst hr
      refine thnF h6 fun _ s7 ⟨x, H7, I7, r7, y7, st7, n7⟩ => ?_
      have I7' := I7.pinned (stat I7 n7) (T.obj _ _ st7)
      refine thn (pg.run _ s7 _ H7 x u _ I7' r7 (step x H7 y7)) fun _ s8 ⟨σ8, H8, I8, hw8, q8⟩ => ?_
      refine thn ((pts_nil (X := blkX X s3 H3 scope ce fp xe)).run _ s8 σ8 H8 _ I8 q8) fun b s9 ⟨H9, I9, q9⟩ => ?_
      have fin : ∀ {s' : Shared} {H' : Hp}, Inv (blkX X s3 H3 scope ce fp xe) ([] ++ pinsAt fp s7.heap) σ8 H' s' → Nx H' → ∃ m, m < n ∧ ∃ i H', Inv (blkX X s3 H3 scope ce fp xe) [] (wipe σ (own.map (·.2))) H' s' ∧ tn i s'.heap ∧ (∀ b ∈ fp, H' b = none) ∧ W i m H' := fun {s' H'} I' nx => by
        obtain ⟨m', hm, w'⟩ := hNx H' nx
        have pin' : ∀ b ∈ fp, ∀ o, s7.heap.get? b = some o → s'.heap.get? b = some o ∧ H' b = none := fun b hb o e =>
          (fun z => ⟨z.1, z.2.1⟩) (I'.pin (b, o) (List.mem_append_right _ (List.mem_append_right _ (mem_pinsAt hb e))))
        refine ⟨m', hm, i + 1, H', (I'.unpinned (pins := [])).weak (by rw [← hw8, wipe_length]) (fun j v e => (wipe_some (hw8 ▸ e)).1), T.keep _ _ _ st7 fun b hb o e => (pin' b hb o e).1, fun b hb => ?_, w'⟩
        obtain ⟨o, e, _⟩ := T.obj _ _ st7 b hb
        exact (pin' b hb o e).2
      match b, q9 with
      | false, q9 => exact fin I9 q9
      | true, q9 =>
        refine thn (pe.run _ s9 σ8 H9 _ I9 q9) fun z s10 ⟨yv, H10, I10, r10, acc, hD10, hz10, nx⟩ => ?_
        exact app_ok (X := blkX X s3 H3 scope ce fp xe) I10 hD10 hz10 r10 fun s11 I11 => fin I11 nx
  have fst := codeAny_compStart_list loop (T.self X.A 0 _ _ _ st4 loop)
  rw [← hce] at fst
  exact fst
/-- as a value -/
theorem pe_lcx {E : XK} {elt tg iter : Expr} {scope : Scope} {own : List (Str × Nat)} {pos : Pos} {wi : TI} {g : TG} {te : TE} (tk : L2.Takes X (fun cls d _ H => E cls d H)) (hst : X.stack = X.env :: X.outer) (hfl : X.env.frame = some X.env.locals)
    (hc : X.calm = true) (hN : X.N.Nodup) (hi : PI X tg iter wi) (ok : BlkOk X.N X.env.scope scope own)
    (hg : ∀ (s : Shared) (H : Hp) (C : Addr) (cl : List (Str × Addr)) (fp : List Addr) (xe : Value → Shared → Prop), PG (blkX X s H scope (compEnvC scope cl C X.env) fp xe) tg g)
    (he : BlkPE X E scope elt te) (hs : ∀ x, foldedSetIterable iter X.env x = pure x := by intro _; rfl) :
    PE X (.ListComp elt [⟨tg, iter, [], 0⟩] scope pos) (tLc wi g tYes te (own.map (·.2))) := by
  refine ⟨fun pins s σ H Q I h => ?_⟩
  rw [eval_ListComp]
  refine lcx_core tk hst hfl hc hN I hi ok hg he hs h fun D C t m H' I' q hn ⟨f0, f1, f2, f3, f4, f5⟩ => ⟨m, hn, fun h'' sb => ?_⟩
  exact ⟨.ref D, H', I'.turned (t' := t.toks) (fun b o hb e => (sb.2 b hb).trans e) f0 f1 f3 f4 f5, rfl, q⟩
end
end AZ
/-! ## more of promises that may raise -/
namespace AZ
open PySem L2 PyProof.Rows
section
variable {P : Program} {w : World} {K : PySem.W.Frag} {mg : Str → Option Value} {base : Heap} {CX : CXT} {k j : Nat} {f : Addr} {sp sp' : Sp} {x qual : Str} {st : Stmt} {fd : FuncData} {N ps : List Str}
theorem FnG.toX (F : FnG P w K mg base CX0 k f sp) : FnG P w K mg base CX k f sp := fun A out z G us vs Q E ng room env vals prom =>
  codeAny_mono (F A out z G us vs Q E ng room env vals prom) fun r s' q => match r, q with
    | .error _, q => q.elim
    | .ok (.ret _), q => q
    | .ok .next, q => q.elim
    | .ok .brk, q => q.elim
    | .ok .cont, q => q.elim
theorem FnG.up (F : FnG P w K mg base CX j f sp) (h : j ≤ k) : FnG P w K mg base CX k f sp := fun A out z G us vs Q E ng room env vals prom => F A out z G us vs Q E ng (room.mono h) env vals prom
theorem FnG.or (F : FnG P w K mg base CX k f sp) (F' : FnG P w K mg base CX k f sp') : FnG P w K mg base CX k f (fun vs H Q E => sp vs H Q E ∨ sp' vs H Q E) := fun A out z G us vs Q E ng room env vals prom =>
  prom.elim (F A out z G us vs Q E ng room env vals) (F' A out z G us vs Q E ng room env vals)
/-- a def that may raise, by its body, for any binding -/
theorem fnXO_of (F : Fun K x qual st f fd) (S : FnScope N ps (defScope st)) (len : ∀ vs H Q E, sp vs H Q E → vs.length = ps.length)
    (bd : ∀ (cdv : Value) (A : Around) (out : List Env) (z : Shared) (G : Hp) (vs : List V) (Q : VK) (E : XK), NoG (A.deeper (envOfC qual (defScope st) z.heap.objs.size f cdv)) →
      Room k (A.deeper (envOfC qual (defScope st) z.heap.objs.size f cdv)) → Takes (cxOf (CXx P w) P w K mg base N qual (defScope st) f cdv A out z G E) (fun cls d _ H => E cls d H) → sp vs G Q E →
      ∃ t, PSs (cxOf (CXx P w) P w K mg base N qual (defScope st) f cdv A out z G E) (defBody st) t ∧ t { nx := fun _ H' => Q .non H', rt := Q } (start N vs) G) : FnOG P w K mg base (CXx P w) (k + 1) f fd ps sp :=
  fnOG (CX := CXx P w) F S len fun cdv A out z G vs Q E ng hr h => bd cdv A out z G vs Q E ng hr (takes_of rfl rfl rfl rfl) h
def g01 : List V → List V → List V
  | [], zs => zs
  | _ :: _, _ => []
theorem FnOG.key01 {p : Str} (F : FnOG P w K mg base CX k f fd [p] sp) (len : ∀ vs H Q E, sp vs H Q E → vs.length = 1) (h : ∀ a : Value, bindArgs fd ⟨[], [(p, a)]⟩ = pure [(p, a)]) : FnGk P w K mg base CX k f [p] g01 sp := by
  intro A out z G us ws vs zs Q E ng room env r rz prom
  have ln := len _ _ _ _ prom
  match vs, us, zs, ws, r, rz, ln, prom with
  | [], [], [_], [b], .nil, .cons r2 .nil, _, prom => exact F A out z G ⟨[], [(p, b)]⟩ [b] _ Q E ng room env (.of_eq (h b)) rfl (.cons r2 .nil) prom
  | [], [], [], [], .nil, .nil, ln, _ => cases ln
  | [], [], _ :: _ :: _, _ :: _ :: _, .nil, .cons _ (.cons _ _), ln, _ => cases ln
  | _ :: _, _ :: _, _, _, .cons _ _, _, ln, _ => cases ln
end
/-- where nothing is let out, whatever is called -/
theorem passF {X : Cx} : Passes (CXx X.prog X.w) X (fun _ _ _ => False) := fun _ _ _ _ _ _ _ c => by
  obtain ⟨a, B, H', cls, d, _, _, _, _, _, _, _, z⟩ := c
  exact z.elim
section
variable {X : Cx} {tg e : Expr} {w1 w2 : TI}
theorem PI.or (h1 : PI X tg e w1) (h2 : PI X tg e w2) : PI X tg e (fun σ H R => w1 σ H R ∨ w2 σ H R) := ⟨fun pins s σ H R I h => h.elim (h1.run pins s σ H R I) (h2.run pins s σ H R I)⟩
theorem pi_seq {tl : TE} (h : PE X e tl) : PI X tg e (fun σ H R => iList X.K tl σ H R ∨ iTup X.K tl σ H R) := PI.or (pi_list h) (pi_tup h)
end
section
variable {X : Cx} {CX : CXT} {k : Nat} {C g : Addr} {sp : Sp} {E : XK} {o : Expr} {kws : List Keyword} {m : Str} {ks : List Str} {pos apos : Pos} {ta : TE} {t : TA} {gV : List V → List V → List V}
/-- C.m(k = e), m a static method -/
def tSMk (C : Addr) (gV : List V → List V → List V) (sp : Sp) (E : XK) (ta : TE) (t : TA) : TE := fun σ H Q => ta σ H fun x H1 => x = .ref C ∧ t σ H1 fun zs H2 => sp (gV [] zs) H2 Q E
theorem pe_smethGk {pl : Sem Bool} (he : PE X o ta) (c : SMet X.K C m g) (F : FnGk X.prog X.w X.K X.mg X.base CX k g ks gV sp) (ng : NoG X.A) (hr : Room k X.A) (hx : Passes CX X E) (hkw : PK X kws t)
    (hall : (backToKw pos (keywordEach kws X.env)).all (·.1.isSome) = true := by rfl) (hks : (backToKw pos (keywordEach kws X.env)).filterMap (·.1) = ks := by rfl)
    (hpl : ((backTo pos (starEach [] X.env)).any (·.1) || (backToKw pos (keywordEach kws X.env)).any (·.1.isNone)) = false := by rfl)
    (ht : eval (.Call (.Attribute o m apos) [] kws pos) X.env = (eval o X.env >>= fun ov => standAt apos.atName >>= fun _ => holding [ov] (getMethod ov m pl) >>= fun r =>
      callWith pos r.1 r.2 (backTo pos (starEach [] X.env)) (backToKw pos (keywordEach kws X.env))) := by rfl) :
    PE X (.Call (.Attribute o m apos) [] kws pos) (tSMk C gV sp E ta t) := by
  refine ⟨fun pins s σ H Q I h => ?_⟩
  refine PySem.W.methodCall_KW (pl := pl) (thn (he.run pins s σ H _ I h) fun u s1 ⟨x, H1, I1, rx, ex, q⟩ => ?_) ht
  subst ex
  obtain rfl : u = Value.ref C := rx
  obtain ⟨mc, p, rest, r, at_, rc⟩ := c.ex
  refine PySem.W.method_cls I1.kIn r.ga (PySem.W.cls_bind I1.kIn r.rd at_ (wpAny_call (PySem.W.sm_get (s := { s1 with toks := s1.toks + 1 }) I1.kIn rc (PySem.W.handed_on rfl ?_))))
  refine PySem.W.callWith_KW0 (first := []) (h₀ := X.base) I1.ok.mod.kin c.kp hall (thn (hkw.run pos pins _ σ H1 _ (I1.tok _) q) fun ws s2 ⟨zs, H2, I2, rz, q2⟩ => ⟨I2.kIn, ?_⟩) hpl
  rw [hks]
  refine wpAny_call (codeAny_mono (F X.A X.stack s2 H2 [] ws [] zs Q E ng hr I2.env0 .nil rz q2) fun r s' hq => ?_)
  match r, hq with
  | .error e, hq => exact hx pins σ H2 s2 e s' I2 hq
  | .ok (.ret _), hq => exact I2.after hq
  | .ok .next, hq => exact hq.elim
  | .ok .brk, hq => exact hq.elim
  | .ok .cont, hq => exact hq.elim
end
end AZ

set_option Elab.async false
set_option maxRecDepth 100000
set_option maxHeartbeats 4000000
set_option linter.all false
/-! Own work: tests that are conditional expressions. -/
namespace AZ
open PySem L2 PyProof.Rows
section
variable {X : Cx} {c a b : Expr} {pos : Pos} {tA ta tb : TT}
def tIfT (tc ta tb : TT) : TT := fun σ H Q => tc σ H fun d H1 => if d = true then ta σ H1 Q else tb σ H1 Q
theorem pt_ifE (hc : PT X c tA) (ha : PT X a ta) (hb : PT X b tb) : PT X (.IfExp c a b pos) (tIfT tA ta tb) := by
  refine ⟨fun pins s σ H Q I h => ?_⟩
  show wpAny (model X.prog X.w) X.A (PySem.isTrue (.IfExp c a b pos) X.env _) _ _ _
  rw [PySem.isTrue]
  refine wpAny_bind (thn (hc.run pins s σ H _ I h) fun d s1 ⟨H1, I1, q1⟩ => ?_)
  cases d with
  | true => exact ha.run pins s1 σ H1 Q I1 q1
  | false => exact hb.run pins s1 σ H1 Q I1 q1
end
end AZ

set_option Elab.async false
set_option maxRecDepth 100000
set_option maxHeartbeats 4000000
set_option linter.all false
/-! Own work: own comparisons and fields within a comprehension's block, told without the context. -/
namespace GQ
open PySem PySem.SeqAt
open AutoSeq1 (wpAny_loadPart')
open MeetsSeq MeetsSeq2 MeetsSeq3 SeqRoads2
section
variable {prog : Program} {w : World} {A : Around} {R : Result → Shared → Prop}
theorem list_eq_diff {l b : Addr} {xs ys : Array Value} {n1 n2 : Nat} {d1 d2 : Option Addr} {s1 s2 : Array (Option Value)} {z : Shared} (g1 : z.heap.get? l = some { cls := .type "list", dict := d1, data := .seq xs n1, slots := s1 }) (g2 : z.heap.get? b = some { cls := .type "list", dict := d2, data := .seq ys n2, slots := s2 })
    (ne : xs.size ≠ ys.size) (last : R (.ok (.ret (.bool false))) z) : wpAny (model prog w) A.in1 (Builtin.«list.__eq__» ⟨[.ref l, .ref b], []⟩) (FinOf prog w A R) (fun x z' => R (.error x) z') z := by
  obtain ⟨hp, gs, dr, tk, os⟩ := z
  have isList := AutoSeq1.sub_list_list
  have diff : (xs.size != ys.size) = true := by simp [ne]
  wp_walk using wpAny_loadPart' g1, wpAny_loadPart' g2
  exact last
end
section
variable {prog : Program} {w : World} {A : Around} {R : Result → Shared → Prop}
theorem list_ne_diff {l b : Addr} {xs ys : Array Value} {n1 n2 : Nat} {d1 d2 : Option Addr} {s1 s2 : Array (Option Value)} {z : Shared} (g1 : z.heap.get? l = some { cls := .type "list", dict := d1, data := .seq xs n1, slots := s1 }) (g2 : z.heap.get? b = some { cls := .type "list", dict := d2, data := .seq ys n2, slots := s2 })
    (ne : xs.size ≠ ys.size) (last : R (.ok (.ret (.bool true))) z) : wpAny (model prog w) A.in1 (Builtin.«list.__ne__» ⟨[.ref l, .ref b], []⟩) (FinOf prog w A R) (fun x z' => R (.error x) z') z := by
  obtain ⟨hp, gs, dr, tk, os⟩ := z
  have isList := AutoSeq1.sub_list_list
  have diff : (xs.size != ys.size) = true := by simp [ne]
  wp_walk using wpAny_loadPart' g1, wpAny_loadPart' g2
  exact last
end
section
variable {prog : Program} {w : World} {A : Around} {X : Value → Shared → Prop} {z : Shared}
theorem ne_lists_diff {l b : Addr} {xs ys : Array Value} {n1 n2 : Nat} {d1 d2 : Option Addr} {s1 s2 : Array (Option Value)} {Q : Value → Shared → Prop} (room : A.units < cLine) (g1 : z.heap.get? l = some { cls := .type "list", dict := d1, data := .seq xs n1, slots := s1 }) (g2 : z.heap.get? b = some { cls := .type "list", dict := d2, data := .seq ys n2, slots := s2 })
    (ne : xs.size ≠ ys.size) (last : Q (.bool true) z) : wpAny (model prog w) A (richCompare .NotEq (.ref l) (.ref b)) Q X z :=
  wpAny_richCompare_same_room (op := .NotEq) ⟨_, g1, rfl⟩ ⟨_, g2, rfl⟩ F.slot_list_ne (call_here F.slot_list_ne ⟨_, g1, rfl⟩ F.entry_list_ne (F.args_list_ne_2 _ _)
    (list_ne_diff (R := wants (fun v s' => v ≠ .notImplemented ∧ Q v s') X) g1 g2 ne ⟨(fun x => nomatch x), last⟩)) room
theorem eq_lists_diff {l b : Addr} {xs ys : Array Value} {n1 n2 : Nat} {d1 d2 : Option Addr} {s1 s2 : Array (Option Value)} {Q : Value → Shared → Prop} (room : A.units < cLine) (g1 : z.heap.get? l = some { cls := .type "list", dict := d1, data := .seq xs n1, slots := s1 }) (g2 : z.heap.get? b = some { cls := .type "list", dict := d2, data := .seq ys n2, slots := s2 })
    (ne : xs.size ≠ ys.size) (last : Q (.bool false) z) : wpAny (model prog w) A (richCompare .Eq (.ref l) (.ref b)) Q X z :=
  wpAny_richCompare_same_room (op := .Eq) ⟨_, g1, rfl⟩ ⟨_, g2, rfl⟩ F.slot_list_eq (call_here F.slot_list_eq ⟨_, g1, rfl⟩ F.entry_list_eq (F.args_list_eq_2 _ _)
    (list_eq_diff (R := wants (fun v s' => v ≠ .notImplemented ∧ Q v s') X) g1 g2 ne ⟨(fun x => nomatch x), last⟩)) room
end
end GQ
namespace AZ
open PySem L2 PyProof.Rows
section
variable {X : Cx}
/-- two lists of unlike lengths are not equal, whatever they hold -/
def rEqDiff : R2 := fun x y H Q => ∃ (a b : Addr) (xs ys : List V), x = .ref a ∧ y = .ref b ∧ H a = some (.lst xs) ∧ H b = some (.lst ys) ∧ xs.length ≠ ys.length ∧ Q (.bl false) H
theorem op_eqDiff (hu : X.A.units < cLine) : OpR X (compareOp .Eq) rEqDiff := by
  intro pins s σ H x y v u Q I rx ry h
  obtain ⟨a, b, xs, ys, rfl, rfl, ha, hb, ne, q⟩ := h
  cases rx
  cases ry
  obtain ⟨z, its, k, r, e⟩ := I.hok a _ ha
  obtain ⟨z2, its2, k2, r2, e2⟩ := I.hok b _ hb
  exact GQ.eq_lists_diff hu e e2 (by rw [List.size_toArray, List.size_toArray, ← r.length, ← r2.length]; exact ne) ⟨.bl false, H, I, rfl, q⟩
def rNeDiff : R2 := fun x y H Q => ∃ (a b : Addr) (xs ys : List V), x = .ref a ∧ y = .ref b ∧ H a = some (.lst xs) ∧ H b = some (.lst ys) ∧ xs.length ≠ ys.length ∧ Q (.bl true) H
theorem op_neDiff (hu : X.A.units < cLine) : OpR X (compareOp .NotEq) rNeDiff := by
  intro pins s σ H x y v u Q I rx ry h
  obtain ⟨a, b, xs, ys, rfl, rfl, ha, hb, ne, q⟩ := h
  cases rx
  cases ry
  obtain ⟨z, its, k, r, e⟩ := I.hok a _ ha
  obtain ⟨z2, its2, k2, r2, e2⟩ := I.hok b _ hb
  exact GQ.ne_lists_diff hu e e2 (by rw [List.size_toArray, List.size_toArray, ← r.length, ← r2.length]; exact ne) ⟨.bl true, H, I, rfl, q⟩
end
section
variable {X : Cx} {K : PySem.W.Frag}
/-- tuple(x), told without the context -/
def rTupK (K : PySem.W.Frag) : List V → Hp → VK → Prop := fun xs H Q => ∃ p ys, xs = [.ref p] ∧ ((SqL K H p ys ∧ ∀ l, H l = none → Q (.ref l) (upd H l (.tup ys))) ∨ (SqT K H p ys ∧ Q (.ref p) H))
theorem call_tupleK (h : X.K = K) : CallR X (.type "tuple") (rTupK K) := by
  subst h
  exact call_tuple_of
end
section
variable {X : Cx} {K : PySem.W.Frag} {C f : Addr} {k : Nat} {CX : CXT} {sp : Sp} {E : XK}
theorem opBy {F : Value → Value → Sem Value} {r r' : R2} (h : OpR X F r) (e : ∀ x y H Q, r' x y H Q → r x y H Q) : OpR X F r' := fun pins s σ H x y v u Q I rx ry q => h pins s σ H x y v u Q I rx ry (e _ _ _ _ q)
def rCF (C : Addr) (sp : Sp) (E : XK) : R2 := fun x y H Q => ∃ (a dx : Addr) (fs : List (Str × V)), x = .ref a ∧ H a = some (.ins C dx fs) ∧ RightI C H y ∧ sp [x, y] H Q E
def rRF (C : Addr) (sp : Sp) (E : XK) : R2 := fun x y H Q => ∃ (j : Int) (a dx : Addr) (fs : List (Str × V)), x = .int j ∧ y = .ref a ∧ H a = some (.ins C dx fs) ∧ sp [y, x] H Q E
def rNF (C : Addr) (sp : Sp) (E : XK) : R2 := fun x y H Q => ∃ (a dx : Addr) (fs : List (Str × V)), x = .ref a ∧ H a = some (.ins C dx fs) ∧ RightI C H y ∧ sp [x, y] H (fun v H1 => ∃ r, v = .bl r ∧ Q (.bl (!r)) H1) E
theorem op_ownCF {op : CmpOp} (M : CmpM X.K C op f) (F : FnR X.prog X.w X.K X.mg X.base CX k f sp) (hr : Room k X.A) (hx : Passes CX X E) (hop : ∀ a b, compareOp op a b = richCompare op a b := by intro _ _; rfl) : OpR X (compareOp op) (rCF C sp E) :=
  opBy (op_ownC op hop) fun _ _ _ _ ⟨a, dx, fs, h1, h2, h3, h4⟩ => ⟨a, C, dx, fs, f, CX, k, sp, E, h1, h2, h3, M, F, hr, hx, h4⟩
theorem op_reflCF {op : CmpOp} (opr : CmpOp) (he : (cmpInfo op).2.2 = (cmpInfo opr).2.1) (D : IntDecC op) (M : CmpM X.K C opr f) (ki : PySem.W.kitOne X.K (.ref C) (.type "int") = some false) (F : FnR X.prog X.w X.K X.mg X.base CX k f sp) (hr : Room k X.A) (hx : Passes CX X E)
    (hop : ∀ a b, compareOp op a b = richCompare op a b := by intro _ _; rfl) (hth : ∀ (i : Int) (t : Tok) (x : Addr), oneThing? op (.int i t) (.ref x) = none := by intro _ _ _; rfl) : OpR X (compareOp op) (rRF C sp E) :=
  opBy (op_reflC opr he D hop hth) fun _ _ _ _ ⟨j, a, dx, fs, h1, h2, h3, h4⟩ => ⟨j, a, C, dx, fs, f, CX, k, sp, E, h1, h2, h3, M, ki, F, hr, hx, h4⟩
theorem op_ownNF (M : NeM X.K C f) (F : FnR X.prog X.w X.K X.mg X.base CX k f sp) (hr : Room (k + 1) X.A) (hx : Passes CX X E) : OpR X (compareOp .NotEq) (rNF C sp E) :=
  opBy op_ownN fun _ _ _ _ ⟨a, dx, fs, h1, h2, h3, h4⟩ => ⟨a, C, dx, fs, f, CX, k, sp, E, h1, h2, h3, M, F, hr, hx, h4⟩
end
section
variable {X : Cx} {K : PySem.W.Frag} {o : Expr} {to : TE} {f : Str} {pos : Pos}
theorem pe_fldK (h : X.K = K) (ho : PE X o to) (hb : attributeBase o f X.env (eval o X.env) = eval o X.env) : PE X (.Attribute o f pos) (tFld K to f) := by
  subst h
  exact pe_fld ho hb
end
end AZ

namespace AZ
open PySem L2
def top (i : Nat) : Stmt := PySem.Challenge.pw_allzooms_k06_whole_greatest_least_and_co.main.body.getD i (.Pass ⟨0, 0, 0, 0⟩)
abbrev s__law_pen : Stmt := top 17
abbrev s__law_draw : Stmt := top 18
abbrev s__law_pick : Stmt := top 19
abbrev s_is_integer : Stmt := top 11
abbrev s_Ratio___init__ : Stmt := inClass (top 15) 0
abbrev s_Ratio_of : Stmt := inClass (top 15) 1
abbrev s_Ratio___add__ : Stmt := inClass (top 15) 6
abbrev s_Ratio___sub__ : Stmt := inClass (top 15) 8
abbrev s_Ratio___mul__ : Stmt := inClass (top 15) 10
abbrev s_Ratio___lt__ : Stmt := inClass (top 15) 18
abbrev s_Ratio___le__ : Stmt := inClass (top 15) 19
abbrev s_Ratio___gt__ : Stmt := inClass (top 15) 20
abbrev s_Ratio___ge__ : Stmt := inClass (top 15) 21
abbrev s_Ratio___eq__ : Stmt := inClass (top 15) 22
abbrev s_Ratio_floor : Stmt := inClass (top 15) 25
abbrev s_Ratio___str__ : Stmt := inClass (top 15) 24
abbrev s_Ratio___bool__ : Stmt := inClass (top 15) 23
abbrev s_BadRatio___init__ : Stmt := inClass (top 4) 0
abbrev s_all_numbers : Stmt := top 13
abbrev s_bound_of : Stmt := top 14
abbrev s_Ratio_highest : Stmt := inClass (top 15) 2
abbrev s_Ratio_lowest : Stmt := inClass (top 15) 3
abbrev s_Ratio_common : Stmt := inClass (top 15) 4
abbrev s__law_int : Stmt := top 20
abbrev s__law_pair : Stmt := top 21
abbrev s__law_drawn : Stmt := top 25
abbrev s__law_divisor : Stmt := top 24
abbrev s__law_ends_right : Stmt := top 26
abbrev s_Ratio_divided : Stmt := inClass (top 15) 13
abbrev s__law_common_right : Stmt := top 27
abbrev s__law_heard : Stmt := top 23
abbrev s_law : Stmt := top 28
theorem sc__law_pen : FnScope ["_law_script"] ["_law_script"] (defScope s__law_pen) := ⟨rfl, rfl, rfl, by decide +kernel, rfl, by decide +kernel, by decide +kernel⟩
theorem sc__law_draw : FnScope ["_law_pen_here", "_law_many", "_law_digit", "_law_spot", "_law_cell", "_law_great", "_law_mixed"] ["_law_pen_here", "_law_many"] (defScope s__law_draw) := ⟨rfl, rfl, rfl, by decide +kernel, rfl, by decide +kernel, by decide +kernel⟩
theorem sc__law_pick : FnScope ["_law_pen_here", "_law_some"] ["_law_pen_here", "_law_some"] (defScope s__law_pick) := ⟨rfl, rfl, rfl, by decide +kernel, rfl, by decide +kernel, by decide +kernel⟩
theorem sc_is_integer : FnScope ["value"] ["value"] (defScope s_is_integer) := ⟨rfl, rfl, rfl, by decide +kernel, rfl, by decide +kernel, by decide +kernel⟩
theorem sc_Ratio___init__ : FnScope ["self", "over", "under", "shared"] ["self", "over", "under"] (defScope s_Ratio___init__) := ⟨rfl, rfl, rfl, by decide +kernel, rfl, by decide +kernel, by decide +kernel⟩
theorem sc_Ratio_of : FnScope ["value"] ["value"] (defScope s_Ratio_of) := ⟨rfl, rfl, rfl, by decide +kernel, rfl, by decide +kernel, by decide +kernel⟩
theorem sc_Ratio___add__ : FnScope ["self", "other", "added"] ["self", "other"] (defScope s_Ratio___add__) := ⟨rfl, rfl, rfl, by decide +kernel, rfl, by decide +kernel, by decide +kernel⟩
theorem sc_Ratio___sub__ : FnScope ["self", "other", "taken"] ["self", "other"] (defScope s_Ratio___sub__) := ⟨rfl, rfl, rfl, by decide +kernel, rfl, by decide +kernel, by decide +kernel⟩
theorem sc_Ratio___mul__ : FnScope ["self", "other", "factor"] ["self", "other"] (defScope s_Ratio___mul__) := ⟨rfl, rfl, rfl, by decide +kernel, rfl, by decide +kernel, by decide +kernel⟩
theorem sc_Ratio___lt__ : FnScope ["self", "other", "against"] ["self", "other"] (defScope s_Ratio___lt__) := ⟨rfl, rfl, rfl, by decide +kernel, rfl, by decide +kernel, by decide +kernel⟩
theorem sc_Ratio___le__ : FnScope ["self", "other", "against"] ["self", "other"] (defScope s_Ratio___le__) := ⟨rfl, rfl, rfl, by decide +kernel, rfl, by decide +kernel, by decide +kernel⟩
theorem sc_Ratio___gt__ : FnScope ["self", "other", "against"] ["self", "other"] (defScope s_Ratio___gt__) := ⟨rfl, rfl, rfl, by decide +kernel, rfl, by decide +kernel, by decide +kernel⟩
theorem sc_Ratio___ge__ : FnScope ["self", "other", "against"] ["self", "other"] (defScope s_Ratio___ge__) := ⟨rfl, rfl, rfl, by decide +kernel, rfl, by decide +kernel, by decide +kernel⟩
theorem sc_Ratio___eq__ : FnScope ["self", "other"] ["self", "other"] (defScope s_Ratio___eq__) := ⟨rfl, rfl, rfl, by decide +kernel, rfl, by decide +kernel, by decide +kernel⟩
theorem sc_Ratio_floor : FnScope ["self"] ["self"] (defScope s_Ratio_floor) := ⟨rfl, rfl, rfl, by decide +kernel, rfl, by decide +kernel, by decide +kernel⟩
theorem sc_Ratio___str__ : FnScope ["self"] ["self"] (defScope s_Ratio___str__) := ⟨rfl, rfl, rfl, by decide +kernel, rfl, by decide +kernel, by decide +kernel⟩
theorem sc_Ratio___bool__ : FnScope ["self"] ["self"] (defScope s_Ratio___bool__) := ⟨rfl, rfl, rfl, by decide +kernel, rfl, by decide +kernel, by decide +kernel⟩
theorem sc_BadRatio___init__ : FnScope ["self", "value"] ["self", "value"] (defScope s_BadRatio___init__) := ⟨rfl, rfl, rfl, by decide +kernel, rfl, by decide +kernel, by decide +kernel⟩
theorem sc_all_numbers : FnScope ["values", "value"] ["values"] (defScope s_all_numbers) := ⟨rfl, rfl, rfl, by decide +kernel, rfl, by decide +kernel, by decide +kernel⟩
theorem sc_bound_of : FnScope ["values", "is_greatest", "numbers", "bound", "number"] ["values", "is_greatest"] (defScope s_bound_of) := ⟨rfl, rfl, rfl, by decide +kernel, rfl, by decide +kernel, by decide +kernel⟩
theorem sc_Ratio_highest : FnScope ["values"] ["values"] (defScope s_Ratio_highest) := ⟨rfl, rfl, rfl, by decide +kernel, rfl, by decide +kernel, by decide +kernel⟩
theorem sc_Ratio_lowest : FnScope ["values"] ["values"] (defScope s_Ratio_lowest) := ⟨rfl, rfl, rfl, by decide +kernel, rfl, by decide +kernel, by decide +kernel⟩
theorem sc_Ratio_common : FnScope ["values", "shared", "number", "over"] ["values"] (defScope s_Ratio_common) := ⟨rfl, rfl, rfl, by decide +kernel, rfl, by decide +kernel, by decide +kernel⟩
theorem sc__law_int : FnScope ["_law_pen_here", "_law_far"] ["_law_pen_here"] (defScope s__law_int) := ⟨rfl, rfl, rfl, by decide +kernel, rfl, by decide +kernel, by decide +kernel⟩
theorem sc__law_pair : FnScope ["_law_pen_here"] ["_law_pen_here"] (defScope s__law_pair) := ⟨rfl, rfl, rfl, by decide +kernel, rfl, by decide +kernel, by decide +kernel⟩
theorem sc__law_drawn : FnScope ["_law_pen_here", "_law_most", "_law_found", "_law_turn", "_law_over", "_law_under"] ["_law_pen_here", "_law_most"] (defScope s__law_drawn) := ⟨rfl, rfl, rfl, by decide +kernel, rfl, by decide +kernel, by decide +kernel⟩
theorem sc__law_divisor : FnScope ["_law_numbers", "_law_found", "_law_number", "_law_one", "_law_other"] ["_law_numbers"] (defScope s__law_divisor) := ⟨rfl, rfl, rfl, by decide +kernel, rfl, by decide +kernel, by decide +kernel⟩
theorem sc__law_ends_right : FnScope ["_law_some", "_law_high", "_law_low", "_law_one"] ["_law_some"] (defScope s__law_ends_right) := ⟨rfl, rfl, rfl, by decide +kernel, rfl, by decide +kernel, by decide +kernel⟩
theorem sc_Ratio_divided : FnScope ["self", "other", "divisor"] ["self", "other"] (defScope s_Ratio_divided) := ⟨rfl, rfl, rfl, by decide +kernel, rfl, by decide +kernel, by decide +kernel⟩
theorem sc__law_common_right : FnScope ["_law_some", "_law_told", "_law_one", "_law_times", "_law_half"] ["_law_some"] (defScope s__law_common_right) := ⟨rfl, rfl, rfl, by decide +kernel, rfl, by decide +kernel, by decide +kernel⟩
theorem sc__law_heard : FnScope ["_law_ask", "_law_caught", "error"] ["_law_ask"] (defScope s__law_heard) := ⟨rfl, rfl, rfl, by decide +kernel, rfl, by decide +kernel, by decide +kernel⟩
theorem sc_law : FnScope ["_law_script", "_law_pen_here", "_law_turn", "_law_some", "_law_odd", "_law_spot", "_law_near", "_law_wrong", "_law_heard_here"] ["_law_script"] (defScope s_law) := ⟨rfl, rfl, rfl, by decide +kernel, rfl, by decide +kernel, by decide +kernel⟩
/-- where the defs and classes stand -/
structure Ad where
  (_law_pen _law_draw _law_pick Ratio is_integer Ratio___init__ Ratio_of Ratio___add__ Ratio___sub__ Ratio___mul__ Ratio___lt__ Ratio___le__ Ratio___gt__ Ratio___ge__ Ratio___eq__ Ratio_floor Ratio___str__ Ratio___bool__ BadRatio___init__ SnapError BadRatio all_numbers bound_of Ratio_highest Ratio_lowest Ratio_common _law_int _law_pair _law_drawn _law_divisor _law_ends_right Ratio_divided _law_common_right _law_heard law cc_law cp_law : Addr)
/-- what the walk asks of the text's top -/
structure Tx (K : PySem.W.Frag) (mg : Str → Option Value) (d : Ad) : Prop where
  F__law_pen : ∃ fd, Fun K "_law_pen" "_law_pen" s__law_pen d._law_pen fd
  n_list : mg "list" = none
  F__law_draw : ∃ fd, Fun K "_law_draw" "_law_draw" s__law_draw d._law_draw fd
  n_int : mg "int" = none
  n_len : mg "len" = none
  n_abs : mg "abs" = none
  F__law_pick : ∃ fd, Fun K "_law_pick" "_law_pick" s__law_pick d._law_pick fd
  k__law_draw : PySem.W.keepIn K (.ref d._law_draw) = true
  m__law_draw : mg "_law_draw" = some (.ref d._law_draw)
  i_int_is_int : PySem.W.kitOne K (.type "int") (.type "int") = some true
  i_int_is_bool : PySem.W.kitOne K (.type "int") (.type "bool") = some false
  y_Ratio : TyC K d.Ratio
  c_Ratio : Cls K d.Ratio
  i_Ratio_is_int : PySem.W.kitOne K (.ref d.Ratio) (.type "int") = some false
  i_Ratio_is_bool : PySem.W.kitOne K (.ref d.Ratio) (.type "bool") = some false
  F_is_integer : ∃ fd, Fun K "is_integer" "is_integer" s_is_integer d.is_integer fd
  n_isinstance : mg "isinstance" = none
  n_bool : mg "bool" = none
  D_Ratio___init__ : ∃ fd, FunD K "__init__" "Ratio.__init__" (defArgs s_Ratio___init__) (defBody s_Ratio___init__) (defScope s_Ratio___init__) [.int 1] [] d.Ratio___init__ fd
  k_is_integer : PySem.W.keepIn K (.ref d.is_integer) = true
  m_is_integer : mg "is_integer" = some (.ref d.is_integer)
  m_gcd : mg "gcd" = some (.builtin "math.gcd")
  a_Ratio_over : NoAttr K d.Ratio "over"
  a_Ratio_under : NoAttr K d.Ratio "under"
  F_Ratio_of : ∃ fd, Fun K "of" "Ratio.of" s_Ratio_of d.Ratio_of fd
  m_Ratio : mg "Ratio" = some (.ref d.Ratio)
  mk_Ratio : Mk K d.Ratio d.Ratio___init__
  i_int_is_Ratio : PySem.W.kitOne K (.type "int") (.ref d.Ratio) = some false
  i_Ratio_is_Ratio : PySem.W.kitOne K (.ref d.Ratio) (.ref d.Ratio) = some true
  F_Ratio___add__ : ∃ fd, Fun K "__add__" "Ratio.__add__" s_Ratio___add__ d.Ratio___add__ fd
  s_Ratio_of : SMet K d.Ratio "of" d.Ratio_of
  F_Ratio___sub__ : ∃ fd, Fun K "__sub__" "Ratio.__sub__" s_Ratio___sub__ d.Ratio___sub__ fd
  F_Ratio___mul__ : ∃ fd, Fun K "__mul__" "Ratio.__mul__" s_Ratio___mul__ d.Ratio___mul__ fd
  F_Ratio___lt__ : ∃ fd, Fun K "__lt__" "Ratio.__lt__" s_Ratio___lt__ d.Ratio___lt__ fd
  F_Ratio___le__ : ∃ fd, Fun K "__le__" "Ratio.__le__" s_Ratio___le__ d.Ratio___le__ fd
  F_Ratio___gt__ : ∃ fd, Fun K "__gt__" "Ratio.__gt__" s_Ratio___gt__ d.Ratio___gt__ fd
  F_Ratio___ge__ : ∃ fd, Fun K "__ge__" "Ratio.__ge__" s_Ratio___ge__ d.Ratio___ge__ fd
  F_Ratio___eq__ : ∃ fd, Fun K "__eq__" "Ratio.__eq__" s_Ratio___eq__ d.Ratio___eq__ fd
  F_Ratio_floor : ∃ fd, Fun K "floor" "Ratio.floor" s_Ratio_floor d.Ratio_floor fd
  F_Ratio___str__ : ∃ fd, Fun K "__str__" "Ratio.__str__" s_Ratio___str__ d.Ratio___str__ fd
  n_str : mg "str" = none
  F_Ratio___bool__ : ∃ fd, Fun K "__bool__" "Ratio.__bool__" s_Ratio___bool__ d.Ratio___bool__ fd
  F_BadRatio___init__ : ∃ fd, Fun K "__init__" "BadRatio.__init__" s_BadRatio___init__ d.BadRatio___init__ fd
  vi_SnapError : VInit K d.SnapError
  m_SnapError : mg "SnapError" = some (.ref d.SnapError)
  ex_BadRatio : Ex K d.SnapError d.BadRatio d.BadRatio___init__ "BadRatio"
  a_BadRatio_value : NoAttr K d.BadRatio "value"
  m_BadRatio : mg "BadRatio" = some (.ref d.BadRatio)
  i_list_is_list : PySem.W.kitOne K (.type "list") (.type "list") = some true
  i_tuple_is_list : PySem.W.kitOne K (.type "tuple") (.type "list") = some false
  i_tuple_is_tuple : PySem.W.kitOne K (.type "tuple") (.type "tuple") = some true
  F_all_numbers : ∃ fd, Fun K "all_numbers" "all_numbers" s_all_numbers d.all_numbers fd
  n_tuple : mg "tuple" = none
  F_bound_of : ∃ fd, Fun K "bound_of" "bound_of" s_bound_of d.bound_of fd
  k_all_numbers : PySem.W.keepIn K (.ref d.all_numbers) = true
  m_all_numbers : mg "all_numbers" = some (.ref d.all_numbers)
  q_Ratio_gt : CmpM K d.Ratio .Gt d.Ratio___gt__
  q_Ratio_lt : CmpM K d.Ratio .Lt d.Ratio___lt__
  F_Ratio_highest : ∃ fd, Fun K "highest" "Ratio.highest" s_Ratio_highest d.Ratio_highest fd
  k_bound_of : PySem.W.keepIn K (.ref d.bound_of) = true
  m_bound_of : mg "bound_of" = some (.ref d.bound_of)
  F_Ratio_lowest : ∃ fd, Fun K "lowest" "Ratio.lowest" s_Ratio_lowest d.Ratio_lowest fd
  F_Ratio_common : ∃ fd, Fun K "common" "Ratio.common" s_Ratio_common d.Ratio_common fd
  F__law_int : ∃ fd, Fun K "_law_int" "_law_int" s__law_int d._law_int fd
  k__law_pick : PySem.W.keepIn K (.ref d._law_pick) = true
  m__law_pick : mg "_law_pick" = some (.ref d._law_pick)
  F__law_pair : ∃ fd, Fun K "_law_pair" "_law_pair" s__law_pair d._law_pair fd
  k__law_int : PySem.W.keepIn K (.ref d._law_int) = true
  m__law_int : mg "_law_int" = some (.ref d._law_int)
  F__law_drawn : ∃ fd, Fun K "_law_drawn" "_law_drawn" s__law_drawn d._law_drawn fd
  n_range : mg "range" = none
  k__law_pair : PySem.W.keepIn K (.ref d._law_pair) = true
  m__law_pair : mg "_law_pair" = some (.ref d._law_pair)
  F__law_divisor : ∃ fd, Fun K "_law_divisor" "_law_divisor" s__law_divisor d._law_divisor fd
  F__law_ends_right : ∃ fd, Fun K "_law_ends_right" "_law_ends_right" s__law_ends_right d._law_ends_right fd
  s_Ratio_highest : SMet K d.Ratio "highest" d.Ratio_highest
  s_Ratio_lowest : SMet K d.Ratio "lowest" d.Ratio_lowest
  q_Ratio_le : CmpM K d.Ratio .LtE d.Ratio___le__
  q_Ratio_ge : CmpM K d.Ratio .GtE d.Ratio___ge__
  q_Ratio_eq : CmpM K d.Ratio .Eq d.Ratio___eq__
  F_Ratio_divided : ∃ fd, Fun K "divided" "Ratio.divided" s_Ratio_divided d.Ratio_divided fd
  F__law_common_right : ∃ fd, Fun K "_law_common_right" "_law_common_right" s__law_common_right d._law_common_right fd
  s_Ratio_common : SMet K d.Ratio "common" d.Ratio_common
  z_Ratio : NeM K d.Ratio d.Ratio___eq__
  h_Ratio_divided : Meth K d.Ratio "divided" d.Ratio_divided
  k__law_divisor : PySem.W.keepIn K (.ref d._law_divisor) = true
  m__law_divisor : mg "_law_divisor" = some (.ref d._law_divisor)
  F__law_heard : ∃ fd, Fun K "_law_heard" "_law_heard" s__law_heard d._law_heard fd
  n_repr : mg "repr" = none
  sx_SnapError : Sx K d.SnapError "SnapError"
  gx_object : Gx K
  i_NoneType_is_Ratio : PySem.W.kitOne K (.type "NoneType") (.ref d.Ratio) = some false
  w_Ratio_NoneType : PySem.W.notFirst K d.Ratio (.type "NoneType") = true
  i_NoneType_is_int : PySem.W.kitOne K (.type "NoneType") (.type "int") = some false
  i_NoneType_is_bool : PySem.W.kitOne K (.type "NoneType") (.type "bool") = some false
  i_str_is_Ratio : PySem.W.kitOne K (.type "str") (.ref d.Ratio) = some false
  w_Ratio_str : PySem.W.notFirst K d.Ratio (.type "str") = true
  i_str_is_int : PySem.W.kitOne K (.type "str") (.type "int") = some false
  i_str_is_bool : PySem.W.kitOne K (.type "str") (.type "bool") = some false
  i_tuple_is_Ratio : PySem.W.kitOne K (.type "tuple") (.ref d.Ratio) = some false
  w_Ratio_tuple : PySem.W.notFirst K d.Ratio (.type "tuple") = true
  i_tuple_is_int : PySem.W.kitOne K (.type "tuple") (.type "int") = some false
  i_tuple_is_bool : PySem.W.kitOne K (.type "tuple") (.type "bool") = some false
  i_list_is_Ratio : PySem.W.kitOne K (.type "list") (.ref d.Ratio) = some false
  w_Ratio_list : PySem.W.notFirst K d.Ratio (.type "list") = true
  i_list_is_int : PySem.W.kitOne K (.type "list") (.type "int") = some false
  i_list_is_bool : PySem.W.kitOne K (.type "list") (.type "bool") = some false
  i_dict_is_Ratio : PySem.W.kitOne K (.type "dict") (.ref d.Ratio) = some false
  w_Ratio_dict : PySem.W.notFirst K d.Ratio (.type "dict") = true
  i_dict_is_int : PySem.W.kitOne K (.type "dict") (.type "int") = some false
  i_dict_is_bool : PySem.W.kitOne K (.type "dict") (.type "bool") = some false
  i_bool_is_Ratio : PySem.W.kitOne K (.type "bool") (.ref d.Ratio) = some false
  w_Ratio_bool : PySem.W.notFirst K d.Ratio (.type "bool") = true
  i_bool_is_int : PySem.W.kitOne K (.type "bool") (.type "int") = some true
  i_bool_is_bool : PySem.W.kitOne K (.type "bool") (.type "bool") = some true
  i_NoneType_is_list : PySem.W.kitOne K (.type "NoneType") (.type "list") = some false
  i_NoneType_is_tuple : PySem.W.kitOne K (.type "NoneType") (.type "tuple") = some false
  i_int_is_list : PySem.W.kitOne K (.type "int") (.type "list") = some false
  i_int_is_tuple : PySem.W.kitOne K (.type "int") (.type "tuple") = some false
  i_str_is_list : PySem.W.kitOne K (.type "str") (.type "list") = some false
  i_str_is_tuple : PySem.W.kitOne K (.type "str") (.type "tuple") = some false
  i_dict_is_list : PySem.W.kitOne K (.type "dict") (.type "list") = some false
  i_dict_is_tuple : PySem.W.kitOne K (.type "dict") (.type "tuple") = some false
  i_bool_is_list : PySem.W.kitOne K (.type "bool") (.type "list") = some false
  i_bool_is_tuple : PySem.W.kitOne K (.type "bool") (.type "tuple") = some false
  tab_law : TabK K d.law d.cc_law d.cp_law
  m__law_heard : mg "_law_heard" = some (.ref d._law_heard)
  F_law : ∃ fd, Fun K "law" "law" s_law d.law fd
  k__law_pen : PySem.W.keepIn K (.ref d._law_pen) = true
  m__law_pen : mg "_law_pen" = some (.ref d._law_pen)
  k__law_drawn : PySem.W.keepIn K (.ref d._law_drawn) = true
  m__law_drawn : mg "_law_drawn" = some (.ref d._law_drawn)
  k__law_common_right : PySem.W.keepIn K (.ref d._law_common_right) = true
  m__law_common_right : mg "_law_common_right" = some (.ref d._law_common_right)
  k__law_ends_right : PySem.W.keepIn K (.ref d._law_ends_right) = true
  m__law_ends_right : mg "_law_ends_right" = some (.ref d._law_ends_right)
  k__law_heard : PySem.W.keepIn K (.ref d._law_heard) = true
  t_Ratio : StrM K d.Ratio d.Ratio___str__
  m_law : mg "law" = some (.ref d.law)
end AZ
namespace AZ
open PySem L2
/-- a pen: its list at l, the spot at most n -/
def PenL (H : Hp) (p l : Addr) (n : Nat) : Prop := ∃ (ns : List Int) (spot great : Int), l ≠ p ∧ H p = some (.lst [.ref l, .int spot, .int great]) ∧ H l = some (.lst (ns.map V.int)) ∧ ns.length ≤ 63 ∧ 0 ≤ spot ∧ spot ≤ n
def PenAt (H : Hp) (p : Addr) (n : Nat) : Prop := ∃ l, PenL H p l n
def spPenL (K : PySem.W.Frag) : Sp := fun vs H Q _ => ∃ (a : Addr) (ns : List Int), vs = [.ref a] ∧ SqL K H a (ns.map V.int) ∧ ns.length ≤ 63 ∧ ∀ p l H', H p = none → H l = none → Same H H' → PenL H' p l 0 → Q (.ref p) H'
def spDrawL : Sp := fun vs H Q _ => ∃ (p l : Addr) (n : Nat) (many : Int), vs = [.ref p, .int many] ∧ PenL H p l n ∧ n < 100000 ∧ 0 < many ∧ many ≤ 1000 ∧
  ∀ d H', 0 ≤ d → d < many → PenL H' p l (n + 1) → Up p H H' → Q (.int d) H'
def spPen (K : PySem.W.Frag) : Sp := fun vs H Q _ => ∃ (a : Addr) (ns : List Int), vs = [.ref a] ∧ SqL K H a (ns.map V.int) ∧ ns.length ≤ 63 ∧ ∀ p H', H p = none → Same H H' → PenAt H' p 0 → Q (.ref p) H'
def spDraw : Sp := fun vs H Q _ => ∃ (p : Addr) (n : Nat) (many : Int), vs = [.ref p, .int many] ∧ PenAt H p n ∧ n < 100000 ∧ 0 < many ∧ many ≤ 1000 ∧
  ∀ d H', 0 ≤ d → d < many → PenAt H' p (n + 1) → Up p H H' → Q (.int d) H'
/-- a list beside the pen, or a tuple, at s -/
def SeqAt' (H : Hp) (p s : Addr) (xs : List V) : Prop := (H s = some (.lst xs) ∧ s ≠ p) ∨ H s = some (.tup xs)
theorem SeqAt'.up {H H' : Hp} {p s : Addr} {xs : List V} (h : SeqAt' H p s xs) (e : Up p H H') : SeqAt' H' p s xs := h.elim (fun h => Or.inl ⟨e.lst h.1 h.2, h.2⟩) fun h => Or.inr (e.tup h)
def spPickL : Sp := fun vs H Q _ => ∃ (p l s : Addr) (n : Nat) (xs : List V), vs = [.ref p, .ref s] ∧ PenL H p l n ∧ n < 100000 ∧ SeqAt' H p s xs ∧ 0 < xs.length ∧ xs.length ≤ 1000 ∧
  ∀ x H', x ∈ xs → PenL H' p l (n + 1) → Up p H H' → Q x H'
def spPick : Sp := fun vs H Q _ => ∃ (p s : Addr) (n : Nat) (xs : List V), vs = [.ref p, .ref s] ∧ PenAt H p n ∧ n < 100000 ∧ SeqAt' H p s xs ∧ 0 < xs.length ∧ xs.length ≤ 1000 ∧
  ∀ x H', x ∈ xs → PenAt H' p (n + 1) → Up p H H' → Q x H'
section
variable {P : Program} {w : World} {K : PySem.W.Frag} {mg : Str → Option Value} {base : Heap} {d : Ad}
theorem G__law_penL (T : Tx K mg d) : FnR P w K mg base CX0 1 d._law_pen (spPenL K) := by
  obtain ⟨fd, F⟩ := T.F__law_pen
  refine FnR.imp (FnOk.raw (F.ok sc__law_pen (sp := spPenL K) (fun vs H Q E h => ?_) (fun cdv A outer s H vs Q E hr h => ?_)) (F.binds fun _ _ _ _ _ _ us hl => match us, hl with | [_], _ => rfl) .nil) fun vs H Q E h => by rw [List.append_nil]; exact h
  · obtain ⟨a, ns, rfl, _⟩ := h
    rfl
  · obtain ⟨a, ns, rfl, hS, hlen, k⟩ := h
    -- slots: 0 _law_script
    refine ⟨_, (pss_one (ps_ret (pe_lst (pa_cons (pe_callTy call_list_of (by rfl) T.n_list (by decide +kernel) (pa_cons (pe_slice sl_list (pv 0) po_none (po_some pe_int)) pa_nil)) (pa_cons pe_int (pa_cons pe_int pa_nil)))))), ?_⟩
    refine ⟨_, rfl, _, rfl, a, _, rfl, hS, fun q hq => ⟨_, _, rfl, .inl (SqL.of upd_same), fun l hl => ⟨(by show 3 ≤ sizeLine; decide), fun p hp => ?_⟩⟩⟩
    have h1 : Same H (upd H q (.lst (cutV (ns.map V.int) none (some 60)))) := fun b o e => by rw [upd_ne (ne_of_none e hq)]; exact e
    have h2 : Same H (upd (upd H q (.lst (cutV (ns.map V.int) none (some 60)))) l (.lst (cutV (ns.map V.int) none (some 60)))) := h1.trans fun b o e => by rw [upd_ne (ne_of_none e hl)]; exact e
    have hlp : l ≠ p := ne_of_none upd_same hp
    refine k p l _ ((h2).free hp) (h1.free hl) (h2.trans fun b o e => by rw [upd_ne (ne_of_none e hp)]; exact e) ⟨(ns.drop (HT.sIx ns.length 0 none)).take (HT.sIx ns.length ns.length (some 60) - HT.sIx ns.length 0 none), 0, 0, hlp, upd_same, ?_, ?_, Int.le_refl _, Int.le_refl _⟩
    · rw [upd_ne hlp, upd_same]
      unfold cutV
      rw [List.map_take, List.map_drop, List.length_map]
    · rw [List.length_take, List.length_drop]
      omega
theorem G__law_pen (T : Tx K mg d) : FnR P w K mg base CX0 1 d._law_pen (spPen K) :=
  (G__law_penL T).imp fun vs H Q E ⟨a, ns, h1, h2, h3, k⟩ => ⟨a, ns, h1, h2, h3, fun p l H' np _ e hp => k p H' np e ⟨l, hp⟩⟩
theorem pen_ix0 {K : PySem.W.Frag} {H : Hp} {p : Addr} {a b c : V} (h : H p = some (.lst [a, b, c])) : SqL K H p [a, b, c] := SqL.of h
theorem G__law_drawL (T : Tx K mg d) : FnR P w K mg base CX0 1 d._law_draw spDrawL := by
  obtain ⟨fd, F⟩ := T.F__law_draw
  refine FnR.imp (FnOk.raw (F.ok sc__law_draw (sp := spDrawL) (fun vs H Q E h => ?_) (fun cdv A outer s H vs Q E hr h => ?_)) (F.binds fun _ _ _ _ _ _ us hl => match us, hl with | [_, _], _ => rfl) .nil) fun vs H Q E h => by rw [List.append_nil]; exact h
  · obtain ⟨p, l, n, many, rfl, _⟩ := h
    rfl
  · obtain ⟨p, l, n, many, rfl, ⟨ns, spot, great, hlp, hp, hl, hlen, hs0, hsn⟩, hn, hm0, hm1, k⟩ := h
    -- slots: 0 _law_pen_here, 1 _law_many, 2 _law_digit, 3 _law_spot, 4 _law_cell, 5 _law_great, 6 _law_mixed
    refine ⟨_, (pss_cons (ps_if (pt_cmpR uGt (pe_ix ix_seq (pv 0) pe_int (fun _ _ => rfl)) pe_int (nomark _)) (pss_cons (ps_set (i := 2) sc__law_draw.nd rfl (Or.inl rfl) (pe_op uMod (pe_callTy call_int1 (by rfl) T.n_int (by decide +kernel) (pa_cons (pe_ix ix_seq (pv 0) pe_int (fun _ _ => rfl)) pa_nil)) (pv 1)))
      (pss_cons (ps_asg (pe_op uDiv (pe_callTy call_int1 (by rfl) T.n_int (by decide +kernel) (pa_cons (pe_ix ix_seq (pv 0) pe_int (fun _ _ => rfl)) pa_nil)) (pv 1)) (pg_sub (pv 0) pe_int set_list))
      (pss_one (ps_ret (pv 2))))) pss_nil)
      (pss_cons (ps_set (i := 3) sc__law_draw.nd rfl (Or.inl rfl) (pe_ix ix_seq (pv 0) pe_int (fun _ _ => rfl)))
      (pss_cons (ps_asg (pe_op uAdd (pv 3) pe_int) (pg_sub (pv 0) pe_int set_list))
      (pss_cons (ps_set (i := 4) sc__law_draw.nd rfl (Or.inl rfl) (pe_op uAdd (pe_op uMul pe_int (pv 3)) pe_int))
      (pss_cons (ps_if (pt_cmpR (uNe hr.units) (pe_ix ix_seq (pv 0) pe_int (fun _ _ => rfl)) (pe_lst pa_nil) (nomark _)) (pss_one (ps_set (i := 4) sc__law_draw.nd rfl (Or.inl rfl) (pe_ix ix_seq (pe_ix ix_seq (pv 0) pe_int (fun _ _ => rfl)) (pe_op uMod (pe_callTy call_int1 (by rfl) T.n_int (by decide +kernel) (pa_cons (pv 3) pa_nil)) (pe_callB call_len_seq (by rfl) T.n_len (by decide +kernel) (pa_cons (pe_ix ix_seq (pv 0) pe_int (fun _ _ => rfl)) pa_nil))) (fun _ _ => rfl)))) pss_nil)
      (pss_cons (ps_if (PW.pt (pw_and (pt_cmpR uLt (pv 3) (pe_callB call_len_seq (by rfl) T.n_len (by decide +kernel) (pa_cons (pe_ix ix_seq (pv 0) pe_int (fun _ _ => rfl)) pa_nil)) (nomark _)) (pw_and1 (pt_cmpR uGe (pe_callB call_abs (by rfl) T.n_abs (by decide +kernel) (pa_cons (pv 4) pa_nil)) (pe_op op_pow pe_int pe_int) (nomark _))))) (pss_cons (ps_set (i := 5) sc__law_draw.nd rfl (Or.inl rfl) (pe_op uAdd (pe_op uMul pe_int (pe_op uSub (pe_callB call_abs (by rfl) T.n_abs (by decide +kernel) (pa_cons (pv 4) pa_nil)) (pe_op op_pow pe_int pe_int))) (pe_callTy call_int1 (by rfl) T.n_int (by decide +kernel) (pa_cons (pe_cmpR uLt (pv 4) pe_int (nomark _)) pa_nil))))
      (pss_cons (ps_asg (pe_op uDiv (pe_callTy call_int1 (by rfl) T.n_int (by decide +kernel) (pa_cons (pv 5) pa_nil)) (pv 1)) (pg_sub (pv 0) pe_int set_list))
      (pss_one (ps_ret (pe_op uMod (pe_callTy call_int1 (by rfl) T.n_int (by decide +kernel) (pa_cons (pv 5) pa_nil)) (pv 1)))))) pss_nil)
      (pss_cons (ps_set (i := 6) sc__law_draw.nd rfl (Or.inl rfl) (pe_op uMod (pe_callTy call_int1 (by rfl) T.n_int (by decide +kernel) (pa_cons (pe_op op_pow (pe_op uAdd (pe_op uAdd (pe_op uMod (pe_callTy call_int1 (by rfl) T.n_int (by decide +kernel) (pa_cons (pv 4) pa_nil)) pe_int) (pe_op uMul pe_int (pv 3))) pe_int) pe_int) pa_nil)) pe_int))
      (pss_cons (ps_set (i := 6) sc__law_draw.nd rfl (Or.inl rfl) (pe_op uMod (pe_callTy call_int1 (by rfl) T.n_int (by decide +kernel) (pa_cons (pe_op op_pow (pe_op uAdd (pe_op uAdd (pe_op uMul (pv 6) (pe_op uAdd (pe_op uMul pe_int (pv 3)) pe_int)) (pe_op uMul (pe_op uMul pe_int (pv 3)) (pv 3))) pe_int) pe_int) pa_nil)) pe_int))
      (pss_one (ps_ret (pe_op uMod (pe_callTy call_int1 (by rfl) T.n_int (by decide +kernel) (pa_cons (pe_op uDiv (pv 6) pe_int) pa_nil)) (pv 1)))))))))))), ?_⟩
    refine ⟨_, rfl, Or.inl ⟨p, _, 2, _, rfl, rfl, SqL.of hp, at_of (j := 2) rfl rfl, Or.inl ⟨_, _, rfl, rfl, _, rfl, ite2 (fun hg => ?_) (fun hg => ?_)⟩⟩⟩
    · refine ⟨_, rfl, Or.inl ⟨p, _, 2, _, rfl, rfl, SqL.of hp, at_of (j := 2) rfl rfl, Or.inl ⟨_, rfl, _, rfl, Or.inl ⟨_, _, rfl, rfl, by omega, ?_⟩⟩⟩⟩
      refine ⟨_, rfl, Or.inl ⟨p, _, 2, _, rfl, rfl, SqL.of hp, at_of (j := 2) rfl rfl, Or.inl ⟨_, rfl, _, rfl, Or.inl ⟨_, _, rfl, rfl, small_div hm0 (by omega), ?_⟩⟩⟩⟩
      refine ⟨_, rfl, p, _, _, 2, rfl, rfl, hp, rfl, ?_⟩
      refine ⟨_, rfl, ?_⟩
      exact k _ _ (fm0 hm0).1 (fm0 hm0).2 ⟨ns, spot, great.fdiv many, hlp, upd_same, by rw [upd_ne hlp]; exact hl, hlen, hs0, by omega⟩ (Up.put hp)
    · refine ⟨_, rfl, Or.inl ⟨p, _, 1, _, rfl, rfl, SqL.of hp, at_of (j := 1) rfl rfl, ?_⟩⟩
      refine ⟨_, rfl, Or.inl ⟨_, _, rfl, rfl, ?_⟩⟩
      refine ⟨_, rfl, p, _, _, 1, rfl, rfl, hp, rfl, ?_⟩
      refine ⟨_, rfl, Or.inl ⟨_, _, rfl, rfl, mulL (by decide), Or.inl ⟨_, _, rfl, rfl, ?_⟩⟩⟩
      have hl1 : upd H p (.lst [.ref l, .int (spot + 1), .int great]) l = some (.lst (ns.map V.int)) := by rw [upd_ne hlp]; exact hl
      have hp1 : upd H p (.lst [.ref l, .int (spot + 1), .int great]) p = some (.lst [.ref l, .int (spot + 1), .int great]) := upd_same
      refine ⟨_, rfl, Or.inl ⟨p, _, 0, _, rfl, rfl, SqL.of hp1, at_of (j := 0) rfl rfl, (by show 0 ≤ sizeLine; decide), fun e he => ?_⟩⟩
      have hpe : p ≠ e := ne_of_none hp1 he
      have hle : l ≠ e := ne_of_none hl1 he
      have hl2 : upd (upd H p (.lst [.ref l, .int (spot + 1), .int great])) e (.lst []) l = some (.lst (ns.map V.int)) := by rw [upd_ne hle]; exact hl1
      have hp2 : upd (upd H p (.lst [.ref l, .int (spot + 1), .int great])) e (.lst []) p = some (.lst [.ref l, .int (spot + 1), .int great]) := by rw [upd_ne hpe]; exact hp1
      refine Or.inr ⟨.list (ns.map PyData.int), .list [], .lst (SqL.of hl2) (dp_ints ns), .lst (SqL.of upd_same) .nil, shaped_ints ns, shaped_ints [], _, rfl, ite2 (fun hc => ?A) (fun hc => ?B)⟩
      case' A =>
        have hne : 0 < ns.length := by
          rw [eqv_nil] at hc
          cases ns with
          | nil => simp at hc
          | cons a r => simp
        obtain ⟨hj0, hj1⟩ := fm0 (a := spot) (b := (ns.length : Int)) (by omega)
        obtain ⟨j, hj⟩ : ∃ j : Nat, spot.fmod ns.length = (j : Int) := ⟨(spot.fmod ns.length).toNat, by omega⟩
        obtain ⟨c, hcj⟩ : ∃ c, ns[j]? = some c := ⟨ns[j]'(by omega), List.getElem?_eq_getElem _⟩
        refine ⟨_, rfl, Or.inl ⟨p, _, 0, _, rfl, rfl, SqL.of hp2, at_of (j := 0) rfl rfl, ?_⟩⟩
        refine ⟨_, rfl, Or.inl ⟨_, rfl, _, rfl, Or.inl ⟨p, _, 0, _, rfl, rfl, SqL.of hp2, at_of (j := 0) rfl rfl, ⟨_, _, rfl, Or.inl (SqL.of hl2), Or.inl ⟨_, _, rfl, rfl, (by rw [List.length_map]; omega), ?_⟩⟩⟩⟩⟩
        refine Or.inl ⟨l, _, _, .int c, rfl, rfl, SqL.of hl2, at_of (j := j) (by rw [List.length_map]; exact hj) (by rw [List.getElem?_map, hcj]; rfl), ?_⟩
      case' B => generalize 70507 * spot + 11205 = c
      all_goals
        have up1 : Up p H (upd (upd H p (.lst [.ref l, .int (spot + 1), .int great])) e (.lst [])) := (Up.put hp).new' he
        refine ⟨_, rfl, _, rfl, Or.inl ⟨p, _, 0, _, rfl, rfl, SqL.of hp2, at_of (j := 0) rfl rfl, ⟨_, _, rfl, Or.inl (SqL.of hl2), Or.inl ⟨_, _, rfl, rfl, _, rfl, ite2 (fun h1 => ?_) (fun h1 => ?_)⟩⟩⟩⟩
        · refine ⟨_, rfl, ⟨_, rfl, ⟨_, _, rfl, rfl, ⟨by decide, by decide, by decide⟩, Or.inl ⟨_, _, rfl, rfl, _, rfl, ite2 (fun h2 => ?_) (fun h2 => ?_)⟩⟩⟩⟩
          · refine ⟨_, rfl, ⟨_, rfl, ⟨_, _, rfl, rfl, ⟨by decide, by decide, by decide⟩, Or.inl ⟨_, _, rfl, rfl, Or.inl ⟨_, _, rfl, rfl, mulL (by decide), ⟨_, rfl, Or.inl ⟨_, _, rfl, rfl, Or.inr ⟨_, rfl, Or.inl ⟨_, _, rfl, rfl, ?_⟩⟩⟩⟩⟩⟩⟩⟩⟩
            refine ⟨_, rfl, Or.inl ⟨_, rfl, _, rfl, Or.inl ⟨_, _, rfl, rfl, small_div hm0 (by omega), ?_⟩⟩⟩
            refine ⟨_, rfl, p, _, _, 2, rfl, rfl, hp2, rfl, ?_⟩
            refine ⟨_, rfl, Or.inl ⟨_, rfl, _, rfl, Or.inl ⟨_, _, rfl, rfl, by omega, ?_⟩⟩⟩
            exact k _ _ (fm0 hm0).1 (fm0 hm0).2 ⟨ns, spot + 1, _, hlp, upd_same, by rw [upd_ne hlp]; exact hl2, hlen, by omega, by omega⟩ (up1.trans (Up.put hp2))
          · refine ⟨_, rfl, Or.inl ⟨_, rfl, Or.inl ⟨_, _, rfl, rfl, nz (by decide), ⟨_, rfl, Or.inl ⟨_, _, rfl, rfl, mulL (by decide), Or.inl ⟨_, _, rfl, rfl, Or.inl ⟨_, _, rfl, rfl, ⟨_, _, rfl, rfl, ⟨by decide, by decide, stir1 (by decide) (by decide) (by decide) (by decide) (by decide) (by decide) hs0 (by omega)⟩, Or.inl ⟨_, rfl, Or.inl ⟨_, _, rfl, rfl, nz (by decide), ?_⟩⟩⟩⟩⟩⟩⟩⟩⟩⟩
            refine ⟨_, rfl, ⟨_, rfl, Or.inl ⟨_, _, rfl, rfl, mulL (by decide), Or.inl ⟨_, _, rfl, rfl, Or.inl ⟨_, _, rfl, rfl, stir3 (by decide) (by decide) _, ⟨_, rfl, Or.inl ⟨_, _, rfl, rfl, mulL (by decide), ⟨_, rfl, Or.inl ⟨_, _, rfl, rfl, stir4 (by decide) (by decide) hs0 (by omega) _, Or.inl ⟨_, _, rfl, rfl, Or.inl ⟨_, _, rfl, rfl, ⟨_, _, rfl, rfl, ⟨by decide, by decide, stir2 (by decide) (by decide) (by decide) (by decide) (by decide) (by decide) (by decide) (by decide) hs0 (by omega)⟩, Or.inl ⟨_, rfl, Or.inl ⟨_, _, rfl, rfl, nz (by decide), ?_⟩⟩⟩⟩⟩⟩⟩⟩⟩⟩⟩⟩⟩⟩
            refine ⟨_, rfl, Or.inl ⟨_, _, rfl, rfl, small_div (by decide) (by decide), Or.inl ⟨_, rfl, ⟨_, rfl, Or.inl ⟨_, _, rfl, rfl, by omega, ?_⟩⟩⟩⟩⟩
            exact k _ _ (fm0 hm0).1 (fm0 hm0).2 ⟨ns, spot + 1, great, hlp, hp2, hl2, hlen, by omega, by omega⟩ up1
        · refine ⟨_, rfl, Or.inl ⟨_, rfl, Or.inl ⟨_, _, rfl, rfl, nz (by decide), ⟨_, rfl, Or.inl ⟨_, _, rfl, rfl, mulL (by decide), Or.inl ⟨_, _, rfl, rfl, Or.inl ⟨_, _, rfl, rfl, ⟨_, _, rfl, rfl, ⟨by decide, by decide, stir1 (by decide) (by decide) (by decide) (by decide) (by decide) (by decide) hs0 (by omega)⟩, Or.inl ⟨_, rfl, Or.inl ⟨_, _, rfl, rfl, nz (by decide), ?_⟩⟩⟩⟩⟩⟩⟩⟩⟩⟩
          refine ⟨_, rfl, ⟨_, rfl, Or.inl ⟨_, _, rfl, rfl, mulL (by decide), Or.inl ⟨_, _, rfl, rfl, Or.inl ⟨_, _, rfl, rfl, stir3 (by decide) (by decide) _, ⟨_, rfl, Or.inl ⟨_, _, rfl, rfl, mulL (by decide), ⟨_, rfl, Or.inl ⟨_, _, rfl, rfl, stir4 (by decide) (by decide) hs0 (by omega) _, Or.inl ⟨_, _, rfl, rfl, Or.inl ⟨_, _, rfl, rfl, ⟨_, _, rfl, rfl, ⟨by decide, by decide, stir2 (by decide) (by decide) (by decide) (by decide) (by decide) (by decide) (by decide) (by decide) hs0 (by omega)⟩, Or.inl ⟨_, rfl, Or.inl ⟨_, _, rfl, rfl, nz (by decide), ?_⟩⟩⟩⟩⟩⟩⟩⟩⟩⟩⟩⟩⟩⟩
          refine ⟨_, rfl, Or.inl ⟨_, _, rfl, rfl, small_div (by decide) (by decide), Or.inl ⟨_, rfl, ⟨_, rfl, Or.inl ⟨_, _, rfl, rfl, by omega, ?_⟩⟩⟩⟩⟩
          exact k _ _ (fm0 hm0).1 (fm0 hm0).2 ⟨ns, spot + 1, great, hlp, hp2, hl2, hlen, by omega, by omega⟩ up1
theorem G__law_draw (T : Tx K mg d) : FnR P w K mg base CX0 1 d._law_draw spDraw :=
  (G__law_drawL T).imp fun vs H Q E ⟨p, n, many, h1, ⟨l, hp⟩, h2, h3, h4, k⟩ => ⟨p, l, n, many, h1, hp, h2, h3, h4, fun x H' a b q u => k x H' a b ⟨l, q⟩ u⟩
theorem G__law_pickL (T : Tx K mg d) : FnR P w K mg base CX0 2 d._law_pick spPickL := by
  obtain ⟨fd, F⟩ := T.F__law_pick
  have G__law_draw : FnR P w K mg base CX0 1 d._law_draw spDrawL := G__law_drawL T
  refine FnR.imp (FnOk.raw (F.ok sc__law_pick (sp := spPickL) (fun vs H Q E h => ?_) (fun cdv A outer s H vs Q E hr h => ?_)) (F.binds fun _ _ _ _ _ _ us hl => match us, hl with | [_, _], _ => rfl) .nil) fun vs H Q E h => by rw [List.append_nil]; exact h
  · obtain ⟨p, l, s, n, xs, rfl, _⟩ := h
    rfl
  · obtain ⟨p, l, a, n, xs, rfl, hp, hn, hs, hx0, hx1, k⟩ := h
    -- slots: 0 _law_pen_here, 1 _law_some
    refine ⟨_, (pss_one (ps_ret (pe_ix ix_seq (pv 1) (pe_fnR G__law_draw (hr.mono (by decide)) T.k__law_draw T.m__law_draw pass0 (pa_cons (pv 0) (pa_cons (pe_callB call_len_seq (by rfl) T.n_len (by decide +kernel) (pa_cons (pv 1) pa_nil)) pa_nil))) (fun _ _ => rfl)))), ?_⟩
    refine ⟨_, rfl, _, rfl, _, rfl, ⟨_, xs, rfl, hs.elim (fun h => Or.inl (SqL.of h.1)) (fun h => Or.inr (SqT.of h)), ⟨p, l, n, _, rfl, hp, hn, by omega, by omega, fun e H' h0 h1 hp' up => ?_⟩⟩⟩
    obtain ⟨j, rfl⟩ : ∃ j : Nat, e = (j : Int) := ⟨e.toNat, by omega⟩
    have hj : j < xs.length := by omega
    have q := k xs[j] H' (List.getElem_mem hj) hp' up
    rcases hs.up up with h | h
    · exact Or.inl ⟨a, xs, _, _, rfl, rfl, SqL.of h.1, atI_nat (List.getElem?_eq_getElem hj), q⟩
    · exact Or.inr (Or.inl ⟨a, xs, _, _, rfl, rfl, SqT.of h, atI_nat (List.getElem?_eq_getElem hj), q⟩)
theorem G__law_pick (T : Tx K mg d) : FnR P w K mg base CX0 2 d._law_pick spPick :=
  (G__law_pickL T).imp fun vs H Q E ⟨p, s, n, xs, h1, ⟨l, hp⟩, h2, h3, h4, h5, k⟩ => ⟨p, l, s, n, xs, h1, hp, h2, h3, h4, h5, fun x H' a q u => k x H' a ⟨l, q⟩ u⟩
end

end AZ
namespace AZ
open PySem L2
/-! ## fractions as objects -/
abbrev ratF (q : Rat) : List (Str × V) := [("over", .int q.num), ("under", .int (q.den : Int))]
def IsRat (C : Addr) (H : Hp) (a : Addr) (q : Rat) : Prop := ∃ dx, H a = some (.ins C dx (ratF q))
theorem IsRat.up {C p a : Addr} {H H' : Hp} {q : Rat} (h : IsRat C H a q) (e : Up p H H') : IsRat C H' a q := let ⟨dx, x⟩ := h; ⟨dx, e.ins x⟩
theorem IsRat.same {C a : Addr} {H H' : Hp} {q : Rat} (h : IsRat C H a q) (e : Same H H') : IsRat C H' a q := let ⟨dx, x⟩ := h; ⟨dx, e _ _ x⟩
/-- an int or a fraction -/
def Num (C : Addr) (H : Hp) (v : V) (q : Rat) : Prop := (∃ i : Int, v = .int i ∧ q = (i : Rat)) ∨ ∃ a, v = .ref a ∧ IsRat C H a q
theorem Num.up {C p : Addr} {H H' : Hp} {v : V} {q : Rat} (h : Num C H v q) (e : Up p H H') : Num C H' v q := h.elim Or.inl fun ⟨a, x, y⟩ => Or.inr ⟨a, x, y.up e⟩
theorem Num.same {C : Addr} {H H' : Hp} {v : V} {q : Rat} (h : Num C H v q) (e : Same H H') : Num C H' v q := h.elim Or.inl fun ⟨a, x, y⟩ => Or.inr ⟨a, x, y.same e⟩
theorem Num.right {C : Addr} {H : Hp} {v : V} {q : Rat} (h : Num C H v q) : RightI C H v := by
  rcases h with ⟨i, rfl, _⟩ | ⟨a, rfl, dx, x⟩
  · exact Or.inl ⟨i, rfl⟩
  · exact Or.inr ⟨a, dx, _, rfl, x⟩
/-- whether x is an integer, by its type -/
def IsI (K : PySem.W.Frag) (H : Hp) (x : V) (b : Bool) : Prop := ∃ (t : Value) (b1 b2 : Bool), TyX K H x t ∧ PySem.W.kitOne K t (.type "int") = some b1 ∧ PySem.W.kitOne K t (.type "bool") = some b2 ∧ (b1 && !b2) = b
def spIsInt (K : PySem.W.Frag) : Sp := fun vs H Q _ => ∃ x b, vs = [x] ∧ IsI K H x b ∧ Q (.bl b) H
def spIsNum (K : PySem.W.Frag) (C : Addr) : Sp := fun vs H Q _ => ∃ x q, vs = [x] ∧ Num C H x q ∧ Q (.bl true) H
def spInit (C : Addr) : Sp := fun vs H Q _ => ∃ (p dx : Addr) (a b : Int), vs = [.ref p, .int a, .int b] ∧ H p = some (.ins C dx []) ∧ b ≠ 0 ∧ b.natAbs < 2 ^ 8000 ∧
  ∀ H', (∀ x o, H x = some o → x ≠ p → H' x = some o) → IsRat C H' p (Rat.divInt a b) → Q .non H'
theorem made {C x dx : Addr} {a b : Int} {H : Hp} {Q : VK} {E : XK} (nx : H x = none) (nd : H dx = none) (hb : b ≠ 0) (hs : b.natAbs < 2 ^ 8000) (k : ∀ H', Same H H' → IsRat C H' x (Rat.divInt a b) → Q (.ref x) H') :
    spInit C [.ref x, .int a, .int b] (upd (upd H dx (.own x)) x (.ins C dx [])) (fun v H2 => v = .non ∧ Q (.ref x) H2) E :=
  ⟨x, dx, a, b, rfl, upd_same, hb, hs, fun H' kp r => ⟨rfl, k H' (Same.made nx nd kp) r⟩⟩
theorem made' {C x dx : Addr} {a b : Int} {H : Hp} {W : VK} {E : XK} (nx : H x = none) (nd : H dx = none) (hb : b ≠ 0) (hs : b.natAbs < 2 ^ 8000) (k : ∀ H', Same H H' → IsRat C H' x (Rat.divInt a b) → W .non H') :
    spInit C [.ref x, .int a, .int b] (upd (upd H dx (.own x)) x (.ins C dx [])) W E :=
  ⟨x, dx, a, b, rfl, upd_same, hb, hs, fun H' kp r => k H' (Same.made nx nd kp) r⟩
def spOf (C : Addr) : Sp := fun vs H Q _ => ∃ v q, vs = [v] ∧ Num C H v q ∧ ∀ p H', Same H H' → IsRat C H' p q → Q (.ref p) H'
def spBin (C : Addr) (f : Rat → Rat → Rat) : Sp := fun vs H Q _ => ∃ a v x y, vs = [.ref a, v] ∧ IsRat C H a x ∧ Num C H v y ∧ Sz 2000 x ∧ Sz 2000 y ∧ ∀ p H', Same H H' → IsRat C H' p (f x y) → Q (.ref p) H'
def spCmp (C : Addr) (f : Rat → Rat → Bool) : Sp := fun vs H Q _ => ∃ a v x y, vs = [.ref a, v] ∧ IsRat C H a x ∧ Num C H v y ∧ Sz 2000 x ∧ Sz 2000 y ∧ ∀ H', Same H H' → Q (.bl (f x y)) H'
def spFlo (C : Addr) (f : Rat → Int) : Sp := fun vs H Q _ => ∃ a x, vs = [.ref a] ∧ IsRat C H a x ∧ Sz 8000 x ∧ Q (.int (f x)) H
section
variable {P : Program} {w : World} {K : PySem.W.Frag} {mg : Str → Option Value} {base : Heap} {d : Ad}
theorem isI_int (T : Tx K mg d) {H : Hp} {i : Int} : IsI K H (.int i) true := ⟨_, true, false, .base (.int i), T.i_int_is_int, T.i_int_is_bool, rfl⟩
theorem isI_rat (T : Tx K mg d) {H : Hp} {a : Addr} {q : Rat} (h : IsRat d.Ratio H a q) : IsI K H (.ref a) false := let ⟨_, x⟩ := h; ⟨_, false, false, T.y_Ratio.ty T.c_Ratio x, T.i_Ratio_is_int, T.i_Ratio_is_bool, rfl⟩
theorem G_is_integer (T : Tx K mg d) : FnR P w K mg base CX0 1 d.is_integer (spIsInt K) := by
  obtain ⟨fd, F⟩ := T.F_is_integer
  refine FnR.imp (FnOk.raw (F.ok sc_is_integer (sp := spIsInt K) (fun vs H Q E h => ?_) (fun cdv A outer s H vs Q E hr h => ?_)) (F.binds fun _ _ _ _ _ _ us hl => match us, hl with | [_], _ => rfl) .nil) fun vs H Q E h => by rw [List.append_nil]; exact h
  · obtain ⟨x, b, rfl, _⟩ := h
    rfl
  · obtain ⟨x, b, rfl, ⟨t, b1, b2, ty, k1, k2, rfl⟩, k⟩ := h
    -- slots: 0 value
    refine ⟨_, (pss_one (ps_ret (pe_and (pe_callB uIsi (by rfl) T.n_isinstance (by decide +kernel) (pa_cons (pv 0) (pa_cons (pe_bltn (v := .ty "int") (by rfl) T.n_int (by decide +kernel) rfl) pa_nil))) (pe_one (pe_not (pe_callB uIsi (by rfl) T.n_isinstance (by decide +kernel) (pa_cons (pv 0) (pa_cons (pe_bltn (v := .ty "bool") (by rfl) T.n_bool (by decide +kernel) rfl) pa_nil)))))))), ?_⟩
    refine ⟨_, rfl, Or.inl ⟨_, _, _, _, b1, rfl, .ty _, ty, k1, b1, rfl, ?_⟩⟩
    cases b1
    · exact k
    · exact ⟨_, rfl, Or.inl ⟨_, _, _, _, b2, rfl, .ty _, ty, k2, b2, rfl, k⟩⟩
theorem G_Ratio___init__ (T : Tx K mg d) : FnR P w K mg base CX0 2 d.Ratio___init__ (fun vs H Q E => spInit d.Ratio vs H Q E ∨ spInit d.Ratio (vs ++ [.int 1]) H Q E) := by
  obtain ⟨fd, F⟩ := T.D_Ratio___init__
  have G_is_integer : FnR P w K mg base CX0 1 d.is_integer (spIsInt K) := G_is_integer T
  have G : FnOk P w K mg base CX0 2 d.Ratio___init__ fd ["self", "over", "under"] (spInit d.Ratio) := by
    refine F.ok sc_Ratio___init__ (fun vs H Q E h => ?_) (fun cdv A outer s H vs Q E hr h => ?_)
    · obtain ⟨p, dx, a, b, rfl, _⟩ := h
      rfl
    obtain ⟨p, dx, a, b, rfl, hp, hb, hs, k⟩ := h
    -- slots: 0 self, 1 over, 2 under, 3 shared
    refine ⟨_, (pss_cons (ps_if (pt_not (pt_val (pe_fnR G_is_integer (hr.mono (by decide)) T.k_is_integer T.m_is_integer pass0 (pa_cons (pv 1) pa_nil)))) pss_never pss_nil)
      (pss_cons (ps_if (PW.pt (pw_or (pt_not (pt_val (pe_fnR G_is_integer (hr.mono (by decide)) T.k_is_integer T.m_is_integer pass0 (pa_cons (pv 2) pa_nil)))) (pw_or1 (pt_cmpR (uEq hr.units) (pv 2) pe_int (nomark _))))) pss_never pss_nil)
      (pss_cons (ps_set (i := 3) sc_Ratio___init__.nd rfl (Or.inl rfl) (pe_callBfun cr_gcd rfl T.m_gcd (pa_cons (pv 1) (pa_cons (pv 2) pa_nil))))
      (pss_cons (ps_if (pt_cmpR uLt (pv 2) pe_int (nomark _)) (pss_one (ps_set (i := 3) sc_Ratio___init__.nd rfl (Or.inl rfl) (pe_un uNeg (pv 3)))) pss_nil)
      (pss_cons (ps_fld (pv 0) (pe_op uDiv (pv 1) (pv 3)) rfl)
      (pss_one (ps_fld (pv 0) (pe_op uDiv (pv 2) (pv 3)) rfl))))))), ?_⟩
    refine ⟨_, rfl, ⟨_, _, rfl, isI_int T, true, rfl, iteF ?_⟩⟩
    refine ⟨_, rfl, ⟨_, _, rfl, isI_int T, true, rfl, iteF ⟨_, rfl, Or.inl ⟨rfl, _, rfl, ifF (by simp [dec_int, hb]) ?_⟩⟩⟩⟩
    refine ⟨_, rfl, _, rfl, ⟨_, _, rfl, ?_⟩⟩
    have hg : ((Nat.gcd a.natAbs b.natAbs : Nat) : Int) = (Int.gcd a b : Int) := rfl
    have g0 := gcd_pos a b hb
    have g1 := gcd_le a b hb
    have fin : ∀ g : Int, g = (if b < 0 then -(Int.gcd a b : Int) else (Int.gcd a b : Int)) → CDivZ a g ∧ CDivZ b g ∧ a.fdiv g = (Rat.divInt a b).num ∧ b.fdiv g = ((Rat.divInt a b).den : Int) := fun g eg => by
      have n0 : g ≠ 0 := by rw [eg]; split <;> omega
      have n1 : g.natAbs < 2 ^ 8000 := by
        have : g.natAbs ≤ b.natAbs := by rw [eg]; split <;> omega
        exact Nat.lt_of_le_of_lt this hs
      exact ⟨divZ n0 n1 (by decide) (by decide), divZ n0 n1 (by decide) (by decide), by rw [eg]; exact (num_di a b hb).symm, by rw [eg]; exact (den_di a b hb).symm⟩
    have last : ∀ (x y : Int), x = (Rat.divInt a b).num → y = ((Rat.divInt a b).den : Int) → Q V.non (upd (upd H p (.ins d.Ratio dx [("over", .int x)])) p (.ins d.Ratio dx [("over", .int x), ("under", .int y)])) := fun x y ex ey => by
      refine k _ (fun z o e n => by rw [upd_ne n, upd_ne n]; exact e) ⟨dx, ?_⟩
      rw [upd_same, ex, ey]
    refine ⟨_, rfl, Or.inl ⟨_, _, rfl, rfl, _, rfl, ite2 (fun h => ?_) (fun h => ?_)⟩⟩
    · have h' : b < 0 := of_decide_eq_true h
      obtain ⟨c1, c2, e1, e2⟩ := fin (-(Int.gcd a b : Int)) (by rw [if_pos h'])
      refine ⟨_, rfl, Or.inl ⟨_, rfl, ?_⟩⟩
      refine ⟨_, rfl, _, rfl, Or.inl ⟨_, _, rfl, rfl, c1, _, rfl, p, _, dx, _, rfl, hp, T.c_Ratio, T.a_Ratio_over, (by show 0 < 1000; decide), ?_⟩⟩
      refine ⟨_, rfl, _, rfl, Or.inl ⟨_, _, rfl, rfl, c2, _, rfl, p, _, dx, _, rfl, upd_same, T.c_Ratio, T.a_Ratio_under, (by show 1 < 1000; decide), ?_⟩⟩
      exact last _ _ e1 e2
    · have h' : ¬ b < 0 := of_decide_eq_false (Bool.not_eq_true _ ▸ h)
      obtain ⟨c1, c2, e1, e2⟩ := fin (Int.gcd a b : Int) (by rw [if_neg h'])
      refine ⟨_, rfl, _, rfl, Or.inl ⟨_, _, rfl, rfl, c1, _, rfl, p, _, dx, _, rfl, hp, T.c_Ratio, T.a_Ratio_over, (by show 0 < 1000; decide), ?_⟩⟩
      refine ⟨_, rfl, _, rfl, Or.inl ⟨_, _, rfl, rfl, c2, _, rfl, p, _, dx, _, rfl, upd_same, T.c_Ratio, T.a_Ratio_under, (by show 1 < 1000; decide), ?_⟩⟩
      exact last _ _ e1 e2
  obtain ⟨ds0, r0, b0⟩ := F.binds1 (ps := ["self", "over", "under"]) 3 1 (by simp) rfl fun T kV doc pm an cdv ct us its h1 h2 => match us, its, h1, h2 with
    | [_, _, _], [_], _, _ => ⟨_, rfl, by dsimp only; rfl⟩
  obtain ⟨ds1, r1, b1⟩ := F.binds1 (ps := ["self", "over", "under"]) 2 0 (by simp) rfl fun T kV doc pm an cdv ct us its h1 h2 => match us, its, h1, h2 with
    | [_, _], [_], _, _ => ⟨_, rfl, by dsimp only; rfl⟩
  exact FnR.or ((FnOk.raw G b0 r0).imp fun vs H Q E h => by rw [show vs ++ List.drop 1 [V.int 1] = vs from List.append_nil vs]; exact h) (FnOk.raw G b1 r1)
theorem G_Ratio_of (T : Tx K mg d) : FnR P w K mg base CX0 4 d.Ratio_of (spOf d.Ratio) := by
  have G_is_integer : FnR P w K mg base CX0 1 d.is_integer (spIsInt K) := G_is_integer T
  have G_Ratio___init__ : FnR P w K mg base CX0 2 d.Ratio___init__ _ := G_Ratio___init__ T
  obtain ⟨fd, F⟩ := T.F_Ratio_of
  refine FnR.imp (FnOk.raw (F.ok sc_Ratio_of (k := 3) (sp := spOf d.Ratio) (fun vs H Q E h => ?_) (fun cdv A outer s H vs Q E hr h => ?_)) (F.binds fun _ _ _ _ _ _ us hl => match us, hl with | [_], _ => rfl) .nil) fun vs H Q E h => by rw [List.append_nil]; exact h
  · obtain ⟨v, q, rfl, _⟩ := h
    rfl
  · obtain ⟨v, q, rfl, hv, k⟩ := h
    -- slots: 0 value
    refine ⟨_, (pss_cons (ps_if (pt_val (pe_callB uIsi (by rfl) T.n_isinstance (by decide +kernel) (pa_cons (pv 0) (pa_cons (pe_glob (v := .ref _) rfl T.m_Ratio rfl) pa_nil)))) (pss_one (ps_ret (pv 0))) pss_nil)
      (pss_cons (ps_if (pt_not (pt_val (pe_fnR G_is_integer (hr.mono (by decide)) T.k_is_integer T.m_is_integer pass0 (pa_cons (pv 0) pa_nil)))) pss_never pss_nil)
      (pss_one (ps_ret (StX.pe_makeR T.mk_Ratio G_Ratio___init__ (hr.mono (by decide)) rfl T.m_Ratio pass0 (pa_cons (pv 0) pa_nil)))))), ?_⟩
    rcases hv with ⟨i, rfl, rfl⟩ | ⟨a, rfl, dx, ha⟩
    · refine ⟨_, rfl, Or.inl ⟨_, _, _, _, false, rfl, .own _, .base (.int i), T.i_int_is_Ratio, false, rfl, iteF ?_⟩⟩
      refine ⟨_, rfl, ⟨_, _, rfl, isI_int T, true, rfl, iteF ?_⟩⟩
      refine ⟨_, rfl, fun x dx nx nd ne => Or.inr (made nx nd (by decide) (by decide) fun H' e r => k x H' e ?_)⟩
      rw [r_int] at r
      exact r
    · refine ⟨_, rfl, Or.inl ⟨_, _, _, _, true, rfl, .own _, T.y_Ratio.ty T.c_Ratio ha, T.i_Ratio_is_Ratio, true, rfl, iteT ?_⟩⟩
      exact ⟨_, rfl, k a H (Same.refl H) ⟨dx, ha⟩⟩
theorem G_Ratio___add__ (T : Tx K mg d) : FnR P w K mg base CX0 5 d.Ratio___add__ (spBin d.Ratio (· + ·)) := by
  have G_Ratio_of : FnR P w K mg base CX0 4 d.Ratio_of (spOf d.Ratio) := G_Ratio_of T
  have G_Ratio___init__ : FnR P w K mg base CX0 2 d.Ratio___init__ _ := G_Ratio___init__ T
  obtain ⟨fd, F⟩ := T.F_Ratio___add__
  refine FnR.imp (FnOk.raw (F.ok sc_Ratio___add__ (k := 4) (sp := spBin d.Ratio (· + ·)) (fun vs H Q E h => ?_) (fun cdv A outer s H vs Q E hr h => ?_)) (F.binds fun _ _ _ _ _ _ us hl => match us, hl with | [_, _], _ => rfl) .nil) fun vs H Q E h => by rw [List.append_nil]; exact h
  · obtain ⟨a, v, x, y, rfl, _⟩ := h
    rfl
  · obtain ⟨a, v, x, y, rfl, ⟨dx, ha⟩, hy, zx, zy, k⟩ := h
    -- slots: 0 self, 1 other, 2 added
    refine ⟨_, (pss_cons (ps_set (i := 2) sc_Ratio___add__.nd rfl (Or.inl rfl) (pe_smeth (pe_glob (v := .ref _) rfl T.m_Ratio rfl) T.s_Ratio_of G_Ratio_of (hr.mono (by decide)) pass0 (pa_cons (pv 1) pa_nil)))
      (pss_one (ps_ret (StX.pe_makeR T.mk_Ratio G_Ratio___init__ (hr.mono (by decide)) rfl T.m_Ratio pass0 (pa_cons (pe_op uAdd (pe_op uMul (pe_fld (pv 0) rfl) (pe_fld (pv 2) rfl)) (pe_op uMul (pe_fld (pv 2) rfl) (pe_fld (pv 0) rfl))) (pa_cons (pe_op uMul (pe_fld (pv 0) rfl) (pe_fld (pv 2) rfl)) pa_nil)))))), ?_⟩
    refine ⟨rfl, _, rfl, ⟨_, y, rfl, hy, fun b H1 e1 ⟨dy, hb⟩ => ?_⟩⟩
    have ha := e1 _ _ ha
    refine ⟨_, rfl, a, _, dx, _, _, rfl, ha, T.c_Ratio, T.a_Ratio_over, rfl, _, rfl, b, _, dy, _, _, rfl, hb, T.c_Ratio, T.a_Ratio_under, rfl, Or.inl ⟨_, _, rfl, rfl, mul2 (szN zx) (szD zy), _, rfl, b, _, dy, _, _, rfl, hb, T.c_Ratio, T.a_Ratio_over, rfl, _, rfl, a, _, dx, _, _, rfl, ha, T.c_Ratio, T.a_Ratio_under, rfl, Or.inl ⟨_, _, rfl, rfl, mul2 (szN zy) (szD zx), Or.inl ⟨_, _, rfl, rfl, ?_⟩⟩⟩⟩
    refine ⟨_, rfl, a, _, dx, _, _, rfl, ha, T.c_Ratio, T.a_Ratio_under, rfl, _, rfl, b, _, dy, _, _, rfl, hb, T.c_Ratio, T.a_Ratio_under, rfl, Or.inl ⟨_, _, rfl, rfl, mul2 (szD zx) (szD zy), fun p dp np nd ne => Or.inl (made np nd (den0 x y) (den2 zx zy) fun H2 e2 r => k p H2 (e1.trans e2) ?_)⟩⟩
    rw [r_add] at r
    exact r
theorem G_Ratio___sub__ (T : Tx K mg d) : FnR P w K mg base CX0 5 d.Ratio___sub__ (spBin d.Ratio (· - ·)) := by
  have G_Ratio_of : FnR P w K mg base CX0 4 d.Ratio_of (spOf d.Ratio) := G_Ratio_of T
  have G_Ratio___init__ : FnR P w K mg base CX0 2 d.Ratio___init__ _ := G_Ratio___init__ T
  obtain ⟨fd, F⟩ := T.F_Ratio___sub__
  refine FnR.imp (FnOk.raw (F.ok sc_Ratio___sub__ (k := 4) (sp := spBin d.Ratio (· - ·)) (fun vs H Q E h => ?_) (fun cdv A outer s H vs Q E hr h => ?_)) (F.binds fun _ _ _ _ _ _ us hl => match us, hl with | [_, _], _ => rfl) .nil) fun vs H Q E h => by rw [List.append_nil]; exact h
  · obtain ⟨a, v, x, y, rfl, _⟩ := h
    rfl
  · obtain ⟨a, v, x, y, rfl, ⟨dx, ha⟩, hy, zx, zy, k⟩ := h
    -- slots: 0 self, 1 other, 2 taken
    refine ⟨_, (pss_cons (ps_set (i := 2) sc_Ratio___sub__.nd rfl (Or.inl rfl) (pe_smeth (pe_glob (v := .ref _) rfl T.m_Ratio rfl) T.s_Ratio_of G_Ratio_of (hr.mono (by decide)) pass0 (pa_cons (pv 1) pa_nil)))
      (pss_one (ps_ret (StX.pe_makeR T.mk_Ratio G_Ratio___init__ (hr.mono (by decide)) rfl T.m_Ratio pass0 (pa_cons (pe_op uSub (pe_op uMul (pe_fld (pv 0) rfl) (pe_fld (pv 2) rfl)) (pe_op uMul (pe_fld (pv 2) rfl) (pe_fld (pv 0) rfl))) (pa_cons (pe_op uMul (pe_fld (pv 0) rfl) (pe_fld (pv 2) rfl)) pa_nil)))))), ?_⟩
    refine ⟨rfl, _, rfl, ⟨_, y, rfl, hy, fun b H1 e1 ⟨dy, hb⟩ => ?_⟩⟩
    have ha := e1 _ _ ha
    refine ⟨_, rfl, a, _, dx, _, _, rfl, ha, T.c_Ratio, T.a_Ratio_over, rfl, _, rfl, b, _, dy, _, _, rfl, hb, T.c_Ratio, T.a_Ratio_under, rfl, Or.inl ⟨_, _, rfl, rfl, mul2 (szN zx) (szD zy), _, rfl, b, _, dy, _, _, rfl, hb, T.c_Ratio, T.a_Ratio_over, rfl, _, rfl, a, _, dx, _, _, rfl, ha, T.c_Ratio, T.a_Ratio_under, rfl, Or.inl ⟨_, _, rfl, rfl, mul2 (szN zy) (szD zx), Or.inl ⟨_, _, rfl, rfl, ?_⟩⟩⟩⟩
    refine ⟨_, rfl, a, _, dx, _, _, rfl, ha, T.c_Ratio, T.a_Ratio_under, rfl, _, rfl, b, _, dy, _, _, rfl, hb, T.c_Ratio, T.a_Ratio_under, rfl, Or.inl ⟨_, _, rfl, rfl, mul2 (szD zx) (szD zy), fun p dp np nd ne => Or.inl (made np nd (den0 x y) (den2 zx zy) fun H2 e2 r => k p H2 (e1.trans e2) ?_)⟩⟩
    rw [r_sub] at r
    exact r
theorem G_Ratio___mul__ (T : Tx K mg d) : FnR P w K mg base CX0 5 d.Ratio___mul__ (spBin d.Ratio (· * ·)) := by
  have G_Ratio_of : FnR P w K mg base CX0 4 d.Ratio_of (spOf d.Ratio) := G_Ratio_of T
  have G_Ratio___init__ : FnR P w K mg base CX0 2 d.Ratio___init__ _ := G_Ratio___init__ T
  obtain ⟨fd, F⟩ := T.F_Ratio___mul__
  refine FnR.imp (FnOk.raw (F.ok sc_Ratio___mul__ (k := 4) (sp := spBin d.Ratio (· * ·)) (fun vs H Q E h => ?_) (fun cdv A outer s H vs Q E hr h => ?_)) (F.binds fun _ _ _ _ _ _ us hl => match us, hl with | [_, _], _ => rfl) .nil) fun vs H Q E h => by rw [List.append_nil]; exact h
  · obtain ⟨a, v, x, y, rfl, _⟩ := h
    rfl
  · obtain ⟨a, v, x, y, rfl, ⟨dx, ha⟩, hy, zx, zy, k⟩ := h
    -- slots: 0 self, 1 other, 2 factor
    refine ⟨_, (pss_cons (ps_set (i := 2) sc_Ratio___mul__.nd rfl (Or.inl rfl) (pe_smeth (pe_glob (v := .ref _) rfl T.m_Ratio rfl) T.s_Ratio_of G_Ratio_of (hr.mono (by decide)) pass0 (pa_cons (pv 1) pa_nil)))
      (pss_one (ps_ret (StX.pe_makeR T.mk_Ratio G_Ratio___init__ (hr.mono (by decide)) rfl T.m_Ratio pass0 (pa_cons (pe_op uMul (pe_fld (pv 0) rfl) (pe_fld (pv 2) rfl)) (pa_cons (pe_op uMul (pe_fld (pv 0) rfl) (pe_fld (pv 2) rfl)) pa_nil)))))), ?_⟩
    refine ⟨rfl, _, rfl, ⟨_, y, rfl, hy, fun b H1 e1 ⟨dy, hb⟩ => ?_⟩⟩
    have ha := e1 _ _ ha
    refine ⟨_, rfl, a, _, dx, _, _, rfl, ha, T.c_Ratio, T.a_Ratio_over, rfl, _, rfl, b, _, dy, _, _, rfl, hb, T.c_Ratio, T.a_Ratio_over, rfl, Or.inl ⟨_, _, rfl, rfl, mul2 (szN zx) (szN zy), ?_⟩⟩
    refine ⟨_, rfl, a, _, dx, _, _, rfl, ha, T.c_Ratio, T.a_Ratio_under, rfl, _, rfl, b, _, dy, _, _, rfl, hb, T.c_Ratio, T.a_Ratio_under, rfl, Or.inl ⟨_, _, rfl, rfl, mul2 (szD zx) (szD zy), fun p dp np nd ne => Or.inl (made np nd (den0 x y) (den2 zx zy) fun H2 e2 r => k p H2 (e1.trans e2) ?_)⟩⟩
    rw [r_mul] at r
    exact r
theorem G_Ratio___lt__ (T : Tx K mg d) : FnR P w K mg base CX0 5 d.Ratio___lt__ (spCmp d.Ratio fun x y => decide (x < y)) := by
  have G_Ratio_of : FnR P w K mg base CX0 4 d.Ratio_of (spOf d.Ratio) := G_Ratio_of T
  have G_Ratio___init__ : FnR P w K mg base CX0 2 d.Ratio___init__ _ := G_Ratio___init__ T
  obtain ⟨fd, F⟩ := T.F_Ratio___lt__
  refine FnR.imp (FnOk.raw (F.ok sc_Ratio___lt__ (k := 4) (sp := spCmp d.Ratio fun x y => decide (x < y)) (fun vs H Q E h => ?_) (fun cdv A outer s H vs Q E hr h => ?_)) (F.binds fun _ _ _ _ _ _ us hl => match us, hl with | [_, _], _ => rfl) .nil) fun vs H Q E h => by rw [List.append_nil]; exact h
  · obtain ⟨a, v, x, y, rfl, _⟩ := h
    rfl
  · obtain ⟨a, v, x, y, rfl, ⟨dx, ha⟩, hy, zx, zy, k⟩ := h
    -- slots: 0 self, 1 other, 2 against
    refine ⟨_, (pss_cons (ps_set (i := 2) sc_Ratio___lt__.nd rfl (Or.inl rfl) (pe_smeth (pe_glob (v := .ref _) rfl T.m_Ratio rfl) T.s_Ratio_of G_Ratio_of (hr.mono (by decide)) pass0 (pa_cons (pv 1) pa_nil)))
      (pss_one (ps_ret (pe_cmpR uLt (pe_op uMul (pe_fld (pv 0) rfl) (pe_fld (pv 2) rfl)) (pe_op uMul (pe_fld (pv 2) rfl) (pe_fld (pv 0) rfl)) (nomark _))))), ?_⟩
    refine ⟨rfl, _, rfl, ⟨_, y, rfl, hy, fun b H1 e1 ⟨dy, hb⟩ => ?_⟩⟩
    have ha := e1 _ _ ha
    refine ⟨_, rfl, a, _, dx, _, _, rfl, ha, T.c_Ratio, T.a_Ratio_over, rfl, _, rfl, b, _, dy, _, _, rfl, hb, T.c_Ratio, T.a_Ratio_under, rfl, Or.inl ⟨_, _, rfl, rfl, mul2 (szN zx) (szD zy), _, rfl, b, _, dy, _, _, rfl, hb, T.c_Ratio, T.a_Ratio_over, rfl, _, rfl, a, _, dx, _, _, rfl, ha, T.c_Ratio, T.a_Ratio_under, rfl, Or.inl ⟨_, _, rfl, rfl, mul2 (szN zy) (szD zx), Or.inl ⟨_, _, rfl, rfl, ?_⟩⟩⟩⟩
    have q : Q (.bl (decide (x < y))) H1 := k H1 e1
    rw [decide_eq_decide.mpr (Rat.lt_iff x y)] at q
    exact q
theorem G_Ratio___le__ (T : Tx K mg d) : FnR P w K mg base CX0 5 d.Ratio___le__ (spCmp d.Ratio fun x y => decide (x ≤ y)) := by
  have G_Ratio_of : FnR P w K mg base CX0 4 d.Ratio_of (spOf d.Ratio) := G_Ratio_of T
  have G_Ratio___init__ : FnR P w K mg base CX0 2 d.Ratio___init__ _ := G_Ratio___init__ T
  obtain ⟨fd, F⟩ := T.F_Ratio___le__
  refine FnR.imp (FnOk.raw (F.ok sc_Ratio___le__ (k := 4) (sp := spCmp d.Ratio fun x y => decide (x ≤ y)) (fun vs H Q E h => ?_) (fun cdv A outer s H vs Q E hr h => ?_)) (F.binds fun _ _ _ _ _ _ us hl => match us, hl with | [_, _], _ => rfl) .nil) fun vs H Q E h => by rw [List.append_nil]; exact h
  · obtain ⟨a, v, x, y, rfl, _⟩ := h
    rfl
  · obtain ⟨a, v, x, y, rfl, ⟨dx, ha⟩, hy, zx, zy, k⟩ := h
    -- slots: 0 self, 1 other, 2 against
    refine ⟨_, (pss_cons (ps_set (i := 2) sc_Ratio___le__.nd rfl (Or.inl rfl) (pe_smeth (pe_glob (v := .ref _) rfl T.m_Ratio rfl) T.s_Ratio_of G_Ratio_of (hr.mono (by decide)) pass0 (pa_cons (pv 1) pa_nil)))
      (pss_one (ps_ret (pe_cmpR uLe (pe_op uMul (pe_fld (pv 0) rfl) (pe_fld (pv 2) rfl)) (pe_op uMul (pe_fld (pv 2) rfl) (pe_fld (pv 0) rfl)) (nomark _))))), ?_⟩
    refine ⟨rfl, _, rfl, ⟨_, y, rfl, hy, fun b H1 e1 ⟨dy, hb⟩ => ?_⟩⟩
    have ha := e1 _ _ ha
    refine ⟨_, rfl, a, _, dx, _, _, rfl, ha, T.c_Ratio, T.a_Ratio_over, rfl, _, rfl, b, _, dy, _, _, rfl, hb, T.c_Ratio, T.a_Ratio_under, rfl, Or.inl ⟨_, _, rfl, rfl, mul2 (szN zx) (szD zy), _, rfl, b, _, dy, _, _, rfl, hb, T.c_Ratio, T.a_Ratio_over, rfl, _, rfl, a, _, dx, _, _, rfl, ha, T.c_Ratio, T.a_Ratio_under, rfl, Or.inl ⟨_, _, rfl, rfl, mul2 (szN zy) (szD zx), Or.inl ⟨_, _, rfl, rfl, ?_⟩⟩⟩⟩
    have q : Q (.bl (decide (x ≤ y))) H1 := k H1 e1
    rw [decide_eq_decide.mpr (Rat.le_iff x y)] at q
    exact q
theorem G_Ratio___gt__ (T : Tx K mg d) : FnR P w K mg base CX0 5 d.Ratio___gt__ (spCmp d.Ratio fun x y => decide (x > y)) := by
  have G_Ratio_of : FnR P w K mg base CX0 4 d.Ratio_of (spOf d.Ratio) := G_Ratio_of T
  have G_Ratio___init__ : FnR P w K mg base CX0 2 d.Ratio___init__ _ := G_Ratio___init__ T
  obtain ⟨fd, F⟩ := T.F_Ratio___gt__
  refine FnR.imp (FnOk.raw (F.ok sc_Ratio___gt__ (k := 4) (sp := spCmp d.Ratio fun x y => decide (x > y)) (fun vs H Q E h => ?_) (fun cdv A outer s H vs Q E hr h => ?_)) (F.binds fun _ _ _ _ _ _ us hl => match us, hl with | [_, _], _ => rfl) .nil) fun vs H Q E h => by rw [List.append_nil]; exact h
  · obtain ⟨a, v, x, y, rfl, _⟩ := h
    rfl
  · obtain ⟨a, v, x, y, rfl, ⟨dx, ha⟩, hy, zx, zy, k⟩ := h
    -- slots: 0 self, 1 other, 2 against
    refine ⟨_, (pss_cons (ps_set (i := 2) sc_Ratio___gt__.nd rfl (Or.inl rfl) (pe_smeth (pe_glob (v := .ref _) rfl T.m_Ratio rfl) T.s_Ratio_of G_Ratio_of (hr.mono (by decide)) pass0 (pa_cons (pv 1) pa_nil)))
      (pss_one (ps_ret (pe_cmpR uGt (pe_op uMul (pe_fld (pv 0) rfl) (pe_fld (pv 2) rfl)) (pe_op uMul (pe_fld (pv 2) rfl) (pe_fld (pv 0) rfl)) (nomark _))))), ?_⟩
    refine ⟨rfl, _, rfl, ⟨_, y, rfl, hy, fun b H1 e1 ⟨dy, hb⟩ => ?_⟩⟩
    have ha := e1 _ _ ha
    refine ⟨_, rfl, a, _, dx, _, _, rfl, ha, T.c_Ratio, T.a_Ratio_over, rfl, _, rfl, b, _, dy, _, _, rfl, hb, T.c_Ratio, T.a_Ratio_under, rfl, Or.inl ⟨_, _, rfl, rfl, mul2 (szN zx) (szD zy), _, rfl, b, _, dy, _, _, rfl, hb, T.c_Ratio, T.a_Ratio_over, rfl, _, rfl, a, _, dx, _, _, rfl, ha, T.c_Ratio, T.a_Ratio_under, rfl, Or.inl ⟨_, _, rfl, rfl, mul2 (szN zy) (szD zx), Or.inl ⟨_, _, rfl, rfl, ?_⟩⟩⟩⟩
    have q : Q (.bl (decide (x > y))) H1 := k H1 e1
    rw [decide_eq_decide.mpr (Rat.lt_iff y x)] at q
    exact q
theorem G_Ratio___ge__ (T : Tx K mg d) : FnR P w K mg base CX0 5 d.Ratio___ge__ (spCmp d.Ratio fun x y => decide (x ≥ y)) := by
  have G_Ratio_of : FnR P w K mg base CX0 4 d.Ratio_of (spOf d.Ratio) := G_Ratio_of T
  have G_Ratio___init__ : FnR P w K mg base CX0 2 d.Ratio___init__ _ := G_Ratio___init__ T
  obtain ⟨fd, F⟩ := T.F_Ratio___ge__
  refine FnR.imp (FnOk.raw (F.ok sc_Ratio___ge__ (k := 4) (sp := spCmp d.Ratio fun x y => decide (x ≥ y)) (fun vs H Q E h => ?_) (fun cdv A outer s H vs Q E hr h => ?_)) (F.binds fun _ _ _ _ _ _ us hl => match us, hl with | [_, _], _ => rfl) .nil) fun vs H Q E h => by rw [List.append_nil]; exact h
  · obtain ⟨a, v, x, y, rfl, _⟩ := h
    rfl
  · obtain ⟨a, v, x, y, rfl, ⟨dx, ha⟩, hy, zx, zy, k⟩ := h
    -- slots: 0 self, 1 other, 2 against
    refine ⟨_, (pss_cons (ps_set (i := 2) sc_Ratio___ge__.nd rfl (Or.inl rfl) (pe_smeth (pe_glob (v := .ref _) rfl T.m_Ratio rfl) T.s_Ratio_of G_Ratio_of (hr.mono (by decide)) pass0 (pa_cons (pv 1) pa_nil)))
      (pss_one (ps_ret (pe_cmpR uGe (pe_op uMul (pe_fld (pv 0) rfl) (pe_fld (pv 2) rfl)) (pe_op uMul (pe_fld (pv 2) rfl) (pe_fld (pv 0) rfl)) (nomark _))))), ?_⟩
    refine ⟨rfl, _, rfl, ⟨_, y, rfl, hy, fun b H1 e1 ⟨dy, hb⟩ => ?_⟩⟩
    have ha := e1 _ _ ha
    refine ⟨_, rfl, a, _, dx, _, _, rfl, ha, T.c_Ratio, T.a_Ratio_over, rfl, _, rfl, b, _, dy, _, _, rfl, hb, T.c_Ratio, T.a_Ratio_under, rfl, Or.inl ⟨_, _, rfl, rfl, mul2 (szN zx) (szD zy), _, rfl, b, _, dy, _, _, rfl, hb, T.c_Ratio, T.a_Ratio_over, rfl, _, rfl, a, _, dx, _, _, rfl, ha, T.c_Ratio, T.a_Ratio_under, rfl, Or.inl ⟨_, _, rfl, rfl, mul2 (szN zy) (szD zx), Or.inl ⟨_, _, rfl, rfl, ?_⟩⟩⟩⟩
    have q : Q (.bl (decide (x ≥ y))) H1 := k H1 e1
    rw [decide_eq_decide.mpr (Rat.le_iff y x)] at q
    exact q
theorem eq_rat {x y : Rat} : (decide (V.int x.num = V.int y.num) && decide (V.int (x.den : Int) = V.int (y.den : Int))) = decide (x = y) := by
  by_cases h : x = y
  · subst h; simp
  · rw [decide_eq_false h]
    by_cases h1 : x.num = y.num
    · have h2 : ¬ (x.den : Int) = y.den := fun e => h (Rat.ext h1 (by omega))
      simp [h2]
    · simp [h1]
theorem eq_int {x : Rat} {j : Int} : (decide (V.int (x.den : Int) = V.int 1) && decide (V.int x.num = V.int j)) = decide (x = (j : Rat)) := by
  have e := eq_rat (x := x) (y := (j : Rat))
  rw [Rat.num_intCast, Rat.den_intCast, Bool.and_comm] at e
  exact e
theorem G_Ratio___eq__ (T : Tx K mg d) : FnR P w K mg base CX0 2 d.Ratio___eq__ (spCmp d.Ratio fun x y => decide (x = y)) := by
  have G_is_integer : FnR P w K mg base CX0 1 d.is_integer (spIsInt K) := G_is_integer T
  obtain ⟨fd, F⟩ := T.F_Ratio___eq__
  refine FnR.imp (FnOk.raw (F.ok sc_Ratio___eq__ (k := 1) (sp := spCmp d.Ratio fun x y => decide (x = y)) (fun vs H Q E h => ?_) (fun cdv A outer s H vs Q E hr h => ?_)) (F.binds fun _ _ _ _ _ _ us hl => match us, hl with | [_, _], _ => rfl) .nil) fun vs H Q E h => by rw [List.append_nil]; exact h
  · obtain ⟨a, v, x, y, rfl, _⟩ := h
    rfl
  · obtain ⟨a, v, x, y, rfl, ⟨dx, ha⟩, hy, _, _, k⟩ := h
    have q : Q (.bl (decide (x = y))) H := k H (Same.refl H)
    -- slots: 0 self, 1 other
    refine ⟨_, (pss_cons (ps_if (pt_val (pe_callB uIsi (by rfl) T.n_isinstance (by decide +kernel) (pa_cons (pv 1) (pa_cons (pe_glob (v := .ref _) rfl T.m_Ratio rfl) pa_nil)))) (pss_one (ps_ret (pe_and (pe_cmpR (uEq hr.units) (pe_fld (pv 0) rfl) (pe_fld (pv 1) rfl) (nomark _)) (pe_one (pe_cmpR (uEq hr.units) (pe_fld (pv 0) rfl) (pe_fld (pv 1) rfl) (nomark _)))))) pss_nil)
      (pss_one (ps_ret (pe_and (pe_fnR G_is_integer (hr.mono (by decide)) T.k_is_integer T.m_is_integer pass0 (pa_cons (pv 1) pa_nil)) (pe_and (pe_cmpR (uEq hr.units) (pe_fld (pv 0) rfl) pe_int (nomark _)) (pe_one (pe_cmpR (uEq hr.units) (pe_fld (pv 0) rfl) (pv 1) (nomark _)))))))), ?_⟩
    rcases hy with ⟨j, rfl, rfl⟩ | ⟨b, rfl, dy, hb⟩
    · rw [← eq_int] at q
      refine ⟨_, rfl, Or.inl ⟨_, _, _, _, false, rfl, .own _, .base (.int j), T.i_int_is_Ratio, false, rfl, iteF ?_⟩⟩
      refine ⟨_, rfl, ⟨_, _, rfl, isI_int T, true, rfl, iteT ?_⟩⟩
      refine ⟨_, rfl, a, _, dx, _, _, rfl, ha, T.c_Ratio, T.a_Ratio_under, rfl, Or.inl ⟨rfl, _, rfl, if2 (fun h1 => ?_) (fun h1 => ?_)⟩⟩
      · rw [h1, Bool.true_and] at q
        exact ⟨_, rfl, a, _, dx, _, _, rfl, ha, T.c_Ratio, T.a_Ratio_over, rfl, _, rfl, Or.inl ⟨rfl, q⟩⟩
      · rw [h1, Bool.false_and] at q
        exact q
    · rw [← eq_rat] at q
      refine ⟨_, rfl, Or.inl ⟨_, _, _, _, true, rfl, .own _, T.y_Ratio.ty T.c_Ratio hb, T.i_Ratio_is_Ratio, true, rfl, iteT ?_⟩⟩
      refine ⟨_, rfl, a, _, dx, _, _, rfl, ha, T.c_Ratio, T.a_Ratio_over, rfl, _, rfl, b, _, dy, _, _, rfl, hb, T.c_Ratio, T.a_Ratio_over, rfl, Or.inl ⟨rfl, _, rfl, if2 (fun h1 => ?_) (fun h1 => ?_)⟩⟩
      · rw [h1, Bool.true_and] at q
        exact ⟨_, rfl, a, _, dx, _, _, rfl, ha, T.c_Ratio, T.a_Ratio_under, rfl, _, rfl, b, _, dy, _, _, rfl, hb, T.c_Ratio, T.a_Ratio_under, rfl, Or.inl ⟨rfl, q⟩⟩
      · rw [h1, Bool.false_and] at q
        exact q
theorem G_Ratio_floor (T : Tx K mg d) : FnR P w K mg base CX0 1 d.Ratio_floor (spFlo d.Ratio Rat.floor) := by
  obtain ⟨fd, F⟩ := T.F_Ratio_floor
  refine FnR.imp (FnOk.raw (F.ok sc_Ratio_floor (k := 0) (sp := spFlo d.Ratio Rat.floor) (fun vs H Q E h => ?_) (fun cdv A outer s H vs Q E hr h => ?_)) (F.binds fun _ _ _ _ _ _ us hl => match us, hl with | [_], _ => rfl) .nil) fun vs H Q E h => by rw [List.append_nil]; exact h
  · obtain ⟨a, x, rfl, _⟩ := h
    rfl
  · obtain ⟨a, x, rfl, ⟨dx, ha⟩, zx, k⟩ := h
    -- slots: 0 self
    refine ⟨_, (pss_one (ps_ret (pe_op uDiv (pe_fld (pv 0) rfl) (pe_fld (pv 0) rfl)))), ?_⟩
    refine ⟨_, rfl, a, _, dx, _, _, rfl, ha, T.c_Ratio, T.a_Ratio_over, rfl, _, rfl, a, _, dx, _, _, rfl, ha, T.c_Ratio, T.a_Ratio_under, rfl, Or.inl ⟨_, _, rfl, rfl, divZ (dne x) (szD zx) (by decide) (by decide), ?_⟩⟩
    rw [← r_floor] at k
    exact k
end

end AZ
namespace AZ
open PySem L2
/-! ## own operators by the promises of fractions -/
section
variable {X : Cx} {C f : Addr} {k : Nat} {H : Hp} {Q : VK} {a : Addr} {v : V} {x y : Rat}
theorem own_cmp {op : CmpOp} {g : Rat → Rat → Bool} (M : CmpM X.K C op f) (F : FnR X.prog X.w X.K X.mg X.base CX0 k f (spCmp C g)) (hr : Room k X.A) (ha : IsRat C H a x) (hv : Num C H v y) (zx : Sz 2000 x) (zy : Sz 2000 y)
    (q : ∀ H', Same H H' → Q (.bl (g x y)) H') : rOwnC X op (.ref a) v H Q := by
  obtain ⟨dx, h⟩ := id ha
  exact ⟨a, C, dx, _, f, CX0, k, _, E0, rfl, h, hv.right, M, F, hr, pass0, ⟨a, v, x, y, rfl, ha, hv, zx, zy, q⟩⟩
theorem own_bin {op : Operator} {g : Rat → Rat → Rat} (M : BinM X.K C op f) (F : FnR X.prog X.w X.K X.mg X.base CX0 k f (spBin C g)) (hr : Room k X.A) (ha : IsRat C H a x) (hv : Num C H v y) (zx : Sz 2000 x) (zy : Sz 2000 y)
    (q : ∀ p H', Same H H' → IsRat C H' p (g x y) → Q (.ref p) H') : rOwn X op (.ref a) v H Q := by
  obtain ⟨dx, h⟩ := id ha
  exact ⟨a, C, dx, _, f, CX0, k, _, E0, rfl, h, hv.right, M, F, hr, pass0, ⟨a, v, x, y, rfl, ha, hv, zx, zy, q⟩⟩
theorem num_i {j : Int} : Num C H (.int j) (j : Rat) := Or.inl ⟨j, rfl, rfl⟩
theorem num_r (h : IsRat C H a x) : Num C H (.ref a) x := Or.inr ⟨a, rfl, h⟩
end
theorem sz_i {n : Nat} {j : Int} (h : j.natAbs < 2 ^ n) (h0 : 0 < n) : Sz n (j : Rat) := ⟨by rw [Rat.num_intCast]; exact h, by rw [Rat.den_intCast]; exact Nat.one_lt_two_pow (by omega)⟩
theorem sz_sub {n m : Nat} {x y : Rat} (h : Sz n x) (h' : Sz m y) : Sz (n + m + 1) (x - y) := by
  rw [← r_sub]
  refine sz_di (den0 x y) ?_ ?_
  · have a1 := mul_lt2 h.1 h'.2
    have a2 := mul_lt2 h'.1 h.2
    have a3 : (x.num * (y.den : Int) - y.num * (x.den : Int)).natAbs ≤ x.num.natAbs * y.den + y.num.natAbs * x.den := by
      have b1 : (x.num * (y.den : Int)).natAbs = x.num.natAbs * y.den := by rw [Int.natAbs_mul]; rfl
      have b2 : (y.num * (x.den : Int)).natAbs = y.num.natAbs * x.den := by rw [Int.natAbs_mul]; rfl
      omega
    rw [Nat.add_comm m n] at a2
    rw [Nat.pow_succ]
    omega
  · rw [Int.natAbs_mul]
    exact Nat.lt_of_lt_of_le (mul_lt2 h.2 h'.2) (Nat.pow_le_pow_right (by decide) (by omega))
theorem sz_add {n m : Nat} {x y : Rat} (h : Sz n x) (h' : Sz m y) : Sz (n + m + 1) (x + y) := by
  rw [← r_add]
  refine sz_di (den0 x y) ?_ ?_
  · have a1 := mul_lt2 h.1 h'.2
    have a2 := mul_lt2 h'.1 h.2
    have a3 : (x.num * (y.den : Int) + y.num * (x.den : Int)).natAbs ≤ x.num.natAbs * y.den + y.num.natAbs * x.den := by
      have b1 : (x.num * (y.den : Int)).natAbs = x.num.natAbs * y.den := by rw [Int.natAbs_mul]; rfl
      have b2 : (y.num * (x.den : Int)).natAbs = y.num.natAbs * x.den := by rw [Int.natAbs_mul]; rfl
      omega
    rw [Nat.add_comm m n] at a2
    rw [Nat.pow_succ]
    omega
  · rw [Int.natAbs_mul]
    exact Nat.lt_of_lt_of_le (mul_lt2 h.2 h'.2) (Nat.pow_le_pow_right (by decide) (by omega))
theorem sz_mul {n m : Nat} {x y : Rat} (h : Sz n x) (h' : Sz m y) : Sz (n + m) (x * y) := by
  rw [← r_mul]
  refine sz_di (den0 x y) ?_ ?_
  · rw [Int.natAbs_mul]; exact mul_lt2 h.1 h'.1
  · rw [Int.natAbs_mul]; exact mul_lt2 h.2 h'.2
section
variable {X : Cx} {C f : Addr} {k : Nat} {H : Hp} {Q : VK} {a : Addr} {v : V} {x y : Rat}
/-- != of a fraction, by its == -/
theorem own_ne (M : NeM X.K C f) (F : FnR X.prog X.w X.K X.mg X.base CX0 k f (spCmp C fun x y => decide (x = y))) (hr : Room (k + 1) X.A) (ha : IsRat C H a x) (hv : Num C H v y) (zx : Sz 2000 x) (zy : Sz 2000 y)
    (q : ∀ H', Same H H' → Q (.bl (!decide (x = y))) H') : rOwnN X (.ref a) v H Q := by
  obtain ⟨dx, h⟩ := id ha
  exact ⟨a, C, dx, _, f, CX0, k, _, E0, rfl, h, hv.right, M, F, hr, pass0, ⟨a, v, x, y, rfl, ha, hv, zx, zy, fun H' e => ⟨_, rfl, q H' e⟩⟩⟩
/-- an int compared with a fraction: the fraction's comparison, turned about -/
theorem own_refl {opr : CmpOp} {g : Rat → Rat → Bool} {j : Int} (M : CmpM X.K C opr f) (ki : PySem.W.kitOne X.K (.ref C) (.type "int") = some false) (F : FnR X.prog X.w X.K X.mg X.base CX0 k f (spCmp C g)) (hr : Room k X.A) (ha : IsRat C H a x) (zx : Sz 2000 x) (zj : Sz 2000 (j : Rat))
    (q : ∀ H', Same H H' → Q (.bl (g x (j : Rat))) H') : rReflC X opr (.int j) (.ref a) H Q := by
  obtain ⟨dx, h⟩ := id ha
  exact ⟨j, a, C, dx, _, f, CX0, k, _, E0, rfl, rfl, h, M, ki, F, hr, pass0, ⟨a, _, x, _, rfl, ha, num_i, zx, zj, q⟩⟩
theorem own_rne {j : Int} (M : NeM X.K C f) (ki : PySem.W.kitOne X.K (.ref C) (.type "int") = some false) (F : FnR X.prog X.w X.K X.mg X.base CX0 k f (spCmp C fun x y => decide (x = y))) (hr : Room (k + 1) X.A) (ha : IsRat C H a x) (zx : Sz 2000 x) (zj : Sz 2000 (j : Rat))
    (q : ∀ H', Same H H' → Q (.bl (!decide (x = (j : Rat)))) H') : rReflN X (.int j) (.ref a) H Q := by
  obtain ⟨dx, h⟩ := id ha
  exact ⟨j, a, C, dx, _, f, CX0, k, _, E0, rfl, rfl, h, M, ki, F, hr, pass0, ⟨a, _, x, _, rfl, ha, num_i, zx, zj, fun H' e => ⟨_, rfl, q H' e⟩⟩⟩
end
/-! ## fractions in order, by cross products -/
theorem divDen' {x y : Int} (h : 0 < y) : Rat.divInt x y * (y : Rat) = (x : Rat) := by
  rw [Rat.divInt_eq_div]
  exact Rat.div_mul_cancel (fun e => by have := Rat.intCast_inj.mp (show ((y : Int) : Rat) = ((0 : Int) : Rat) from e); omega)
theorem posI' {y : Int} (h : 0 < y) : (0 : Rat) < (y : Rat) := by rw [← Rat.intCast_zero]; exact Rat.intCast_lt_intCast.mpr h
theorem cross {a b c d : Int} (hb : 0 < b) (hd : 0 < d) : ((c * b - a * d : Int) : Rat) = (b : Rat) * (d : Rat) * (Rat.divInt c d - Rat.divInt a b) := by
  have h1 := divDen' (x := a) hb
  have h2 := divDen' (x := c) hd
  rw [Rat.intCast_sub, Rat.intCast_mul, Rat.intCast_mul]
  grind
theorem lt_dd {a b c d : Int} (hb : 0 < b) (hd : 0 < d) : Rat.divInt a b < Rat.divInt c d ↔ a * d < c * b := by
  have h := cross (a := a) (c := c) hb hd
  have hp : (0 : Rat) < (b : Rat) * (d : Rat) := Rat.mul_pos (posI' hb) (posI' hd)
  constructor
  · intro q
    have z : 0 < (b : Rat) * (d : Rat) * (Rat.divInt c d - Rat.divInt a b) := Rat.mul_pos hp (by grind)
    rw [← h, ← Rat.intCast_zero] at z
    have := Rat.intCast_lt_intCast.mp z
    omega
  · intro q
    have z : ((0 : Int) : Rat) < ((c * b - a * d : Int) : Rat) := Rat.intCast_lt_intCast.mpr (by omega)
    rw [h, Rat.intCast_zero] at z
    refine Rat.not_le.mp fun k => ?_
    have w : 0 ≤ (b : Rat) * (d : Rat) * (Rat.divInt a b - Rat.divInt c d) := Rat.mul_nonneg (Std.le_of_lt hp) (by grind)
    grind
theorem le_dd {a b c d : Int} (hb : 0 < b) (hd : 0 < d) : Rat.divInt a b ≤ Rat.divInt c d ↔ a * d ≤ c * b := by
  constructor
  · intro q
    refine Int.not_lt.mp fun k => ?_
    have := (lt_dd (a := c) (c := a) hd hb).mpr (by omega)
    exact absurd q (Rat.not_le.mpr this)
  · intro q
    refine Rat.not_lt.mp fun k => ?_
    have := (lt_dd (a := c) (c := a) hd hb).mp k
    omega
theorem eq_dd {a b c d : Int} (hb : 0 < b) (hd : 0 < d) : Rat.divInt a b = Rat.divInt c d ↔ a * d = c * b := by
  constructor
  · intro q
    have h1 := (le_dd (a := a) (c := c) hb hd).mp (by rw [q]; exact Std.le_refl _)
    have h2 := (le_dd (a := c) (c := a) hd hb).mp (by rw [q]; exact Std.le_refl _)
    omega
  · intro q
    have h1 := (le_dd (a := a) (c := c) hb hd).mpr (by omega)
    have h2 := (le_dd (a := c) (c := a) hd hb).mpr (by omega)
    exact Std.le_antisymm h1 h2
theorem int_dd (w : Int) : (w : Rat) = Rat.divInt w 1 := (r_int w).symm
theorem fl_dd {a b : Int} (hb : 0 < b) : (Rat.divInt a b).floor * b ≤ a ∧ a < ((Rat.divInt a b).floor + 1) * b := by
  have h1 := Rat.floor_le (Rat.divInt a b)
  have h2 := Rat.lt_floor_add_one (Rat.divInt a b)
  rw [int_dd] at h1
  have g1 := (le_dd (by decide) hb).mp h1
  constructor
  · omega
  · rw [int_dd] at h2
    have g2 := (lt_dd hb (by decide)).mp h2
    omega
theorem ce_dd {a b : Int} (hb : 0 < b) : ((Rat.divInt a b).ceil - 1) * b < a ∧ a ≤ (Rat.divInt a b).ceil * b := by
  have e : (Rat.divInt a b).ceil = -(Rat.divInt (-a) b).floor := by rw [Rat.ceil_eq_neg_floor_neg, Rat.neg_divInt]
  obtain ⟨h1, h2⟩ := fl_dd (a := -a) hb
  rw [e]
  generalize (Rat.divInt (-a) b).floor = f at h1 h2
  constructor
  · have : (-f - 1) * b = -((f + 1) * b) := by grind
    omega
  · have : -f * b = -(f * b) := by grind
    omega
/-! ## texts and truth of fractions -/
theorem eapp (x : Str) : Str.empty ++ x = x := Str.ext' (by show (#[] : Array _) ++ x.cps = x.cps; simp)
theorem slen (x y : Str) : (x ++ y).length = x.length + y.length := by
  show (x.cps ++ y.cps).size = _
  simp [Str.length]
/-- how a fraction is written -/
def ratS (x : Rat) : Str := if (x.den : Int) = 1 then Str.ofString (toString x.num) else Str.ofString (toString x.num) ++ "/" ++ Str.ofString (toString (x.den : Int))
def spStr (C : Addr) : Sp := fun vs H Q _ => ∃ a x, vs = [.ref a] ∧ IsRat C H a x ∧ Sz 1900 x ∧ Q (.str (ratS x)) H
theorem ratS_len {x : Rat} (zx : Sz 1900 x) : (ratS x).length ≤ 3843 := by
  have zn : x.num.natAbs.log2 < 1920 := Nat.lt_of_lt_of_le (PySem.Flt.log2_lt_of (by decide) zx.1) (by decide)
  have zd : (x.den : Int).natAbs.log2 < 1920 := Nat.lt_of_lt_of_le (PySem.Flt.log2_lt_of (by decide) (szD zx)) (by decide)
  have l1 := PyProof.Rows.int_text_len_1921 zn
  have l2 := PyProof.Rows.int_text_len_1921 zd
  unfold ratS
  split
  · exact Nat.le_trans l1 (by decide)
  · rw [slen, slen]
    exact Nat.add_le_add (Nat.add_le_add l1 (Nat.le_refl 1)) l2
def spBool (C : Addr) : Sp := fun vs H Q _ => ∃ a x, vs = [.ref a] ∧ IsRat C H a x ∧ Q (.bl (x.num != 0)) H
section
variable {P : Program} {w : World} {K : PySem.W.Frag} {mg : Str → Option Value} {base : Heap} {d : Ad}
theorem G_Ratio___str__ (T : Tx K mg d) : FnR P w K mg base CX0 2 d.Ratio___str__ (spStr d.Ratio) := by
  obtain ⟨fd, F⟩ := T.F_Ratio___str__
  refine FnR.imp (FnOk.raw (F.ok sc_Ratio___str__ (k := 1) (sp := spStr d.Ratio) (fun vs H Q E h => ?_) (fun cdv A outer s H vs Q E hr h => ?_)) (F.binds fun _ _ _ _ _ _ us hl => match us, hl with | [_], _ => rfl) .nil) fun vs H Q E h => by rw [List.append_nil]; exact h
  · obtain ⟨a, x, rfl, _⟩ := h
    rfl
  · obtain ⟨a, x, rfl, ⟨dx, ha⟩, zx, k⟩ := h
    -- slots: 0 self
    refine ⟨_, (pss_cons (ps_if (pt_cmpR (uEq hr.units) (pe_fld (pv 0) rfl) pe_int (nomark _)) (pss_one (ps_ret (pe_callTy uStr (by rfl) T.n_str (by decide +kernel) (pa_cons (pe_fld (pv 0) rfl) pa_nil)))) pss_nil)
      (pss_one (ps_ret (pe_joined (PJ.cons (pe_fmtU (pe_fld (pv 0) rfl)) (PJ.cons pe_str (PJ.cons (pe_fmtU (pe_fld (pv 0) rfl)) PJ.nil))))))), ?_⟩
    have zn : x.num.natAbs.log2 < 1920 := Nat.lt_of_lt_of_le (PySem.Flt.log2_lt_of (by decide) zx.1) (by decide)
    have zd : (x.den : Int).natAbs.log2 < 1920 := Nat.lt_of_lt_of_le (PySem.Flt.log2_lt_of (by decide) (szD zx)) (by decide)
    refine ⟨_, rfl, a, _, dx, _, _, rfl, ha, T.c_Ratio, T.a_Ratio_under, rfl, Or.inl ⟨rfl, _, rfl, if2 (fun h1 => ?_) (fun h1 => ?_)⟩⟩
    · refine ⟨_, rfl, a, _, dx, _, _, rfl, ha, T.c_Ratio, T.a_Ratio_over, rfl, Or.inl ⟨_, rfl, zn, ?_⟩⟩
      have e : ratS x = Str.ofString (toString x.num) := if_pos (by have := of_decide_eq_true h1; injection this)
      rw [e] at k
      exact k
    · have e : ratS x = Str.ofString (toString x.num) ++ "/" ++ Str.ofString (toString (x.den : Int)) := if_neg (fun n => by have := of_decide_eq_false h1; exact this (by rw [n]))
      have l1 := PyProof.Rows.int_text_len_1921 zn
      have l2 := PyProof.Rows.int_text_len_1921 zd
      have b1 : (Str.empty ++ Str.ofString (toString x.num)).length ≤ 1921 := by rw [slen]; exact Nat.le_trans (Nat.le_of_eq (Nat.zero_add _)) l1
      have b2 : (Str.empty ++ Str.ofString (toString x.num) ++ "/").length ≤ 1922 := by rw [slen]; exact Nat.add_le_add b1 (Nat.le_refl 1)
      have b3 : (Str.empty ++ Str.ofString (toString x.num) ++ "/" ++ Str.ofString (toString (x.den : Int))).length ≤ 3843 := by rw [slen]; exact Nat.add_le_add b2 l2
      have e0 := eapp (Str.ofString (toString x.num))
      refine ⟨_, rfl, a, _, dx, _, _, rfl, ha, T.c_Ratio, T.a_Ratio_over, rfl, Or.inl (Or.inr ⟨_, rfl, zn, _, rfl, Nat.le_trans b1 (by decide), ?_⟩)⟩
      refine ⟨_, rfl, Nat.le_trans b2 (by decide), ?_⟩
      refine ⟨_, rfl, a, _, dx, _, _, rfl, ha, T.c_Ratio, T.a_Ratio_under, rfl, Or.inl (Or.inr ⟨_, rfl, zd, _, rfl, Nat.le_trans b3 (by decide), ?_⟩)⟩
      rw [e] at k
      rw [e0]
      exact k
theorem G_Ratio___bool__ (T : Tx K mg d) : FnR P w K mg base CX0 1 d.Ratio___bool__ (spBool d.Ratio) := by
  obtain ⟨fd, F⟩ := T.F_Ratio___bool__
  refine FnR.imp (FnOk.raw (F.ok sc_Ratio___bool__ (k := 0) (sp := spBool d.Ratio) (fun vs H Q E h => ?_) (fun cdv A outer s H vs Q E hr h => ?_)) (F.binds fun _ _ _ _ _ _ us hl => match us, hl with | [_], _ => rfl) .nil) fun vs H Q E h => by rw [List.append_nil]; exact h
  · obtain ⟨a, x, rfl, _⟩ := h
    rfl
  · obtain ⟨a, x, rfl, ⟨dx, ha⟩, k⟩ := h
    -- slots: 0 self
    refine ⟨_, (pss_one (ps_ret (pe_callTy call_bool1 (by rfl) T.n_bool (by decide +kernel) (pa_cons (pe_fld (pv 0) rfl) pa_nil)))), ?_⟩
    exact ⟨_, rfl, a, _, dx, _, _, rfl, ha, T.c_Ratio, T.a_Ratio_over, rfl, Or.inl ⟨_, rfl, k⟩⟩
end

end AZ
namespace AZ
open PySem L2
/-! ## what is refused -/
section
variable {P : Program} {w : World} {K : PySem.W.Frag} {mg : Str → Option Value} {base : Heap} {d : Ad}
theorem GX_BadRatio___init__ (T : Tx K mg d) : FnG P w K mg base CX0 1 d.BadRatio___init__ (spErrX K d.BadRatio "value") := by
  obtain ⟨fd, F⟩ := T.F_BadRatio___init__
  refine (fnOG (k := 0) F sc_BadRatio___init__ (sp := spErrX K d.BadRatio "value") (fun vs H Q E h => ?_) (fun cdv A outer s H vs Q E ng hr h => ?_)).pos (fun vs H Q E h => by obtain ⟨a, v, e, rfl, _⟩ := h; rfl) (F.binds fun _ _ _ _ _ _ us hl => match us, hl with | [_, _], _ => rfl)
  · obtain ⟨a, v, e, rfl, _⟩ := h
    rfl
  · obtain ⟨a, v, e, rfl, ha, S, n, k⟩ := h
    -- slots: 0 self, 1 value
    refine ⟨_, (pss_cons (ps_expr (pe_sinit T.vi_SnapError rfl T.m_SnapError (pa_cons (pv 0) (pa_cons (pe_joined (PJ.cons pe_str (PJ.cons (pe_fmtA ng hr.units (pv 1)) PJ.nil))) pa_nil))))
      (pss_one (ps_ost (pv 0) (pv 1)))), ?_⟩
    exact err1x_body T.ex_BadRatio T.a_BadRatio_value ha S n rfl rfl (by decide) k
theorem GX_Ratio_of (T : Tx K mg d) : FnG P w K mg base (CXx P w) 4 d.Ratio_of (spOfX K d.Ratio d.BadRatio) := by
  have G_is_integer : FnR P w K mg base CX0 1 d.is_integer (spIsInt K) := G_is_integer T
  have G_Ratio___init__ : FnR P w K mg base CX0 2 d.Ratio___init__ _ := G_Ratio___init__ T
  have GX_BadRatio___init__ := GX_BadRatio___init__ (P := P) (w := w) (base := base) T
  obtain ⟨fd, F⟩ := T.F_Ratio_of
  refine fnX_of (k := 3) F sc_Ratio_of (sp := spOfX K d.Ratio d.BadRatio) (fun vs H Q E h => ?_) (fun cdv A outer s H vs Q E ng hr tk h => ?_) (F.binds fun _ _ _ _ _ _ us hl => match us, hl with | [_], _ => rfl)
  · obtain ⟨v, e, rfl, _⟩ := h
    rfl
  · obtain ⟨v, e, rfl, ⟨⟨S, ty, nr, nf, b1, b2, i1, i2, ib⟩, sh, n⟩, k⟩ := h
    -- slots: 0 value
    refine ⟨_, (pss_cons (ps_if (pt_val (pe_callB uIsi (by rfl) T.n_isinstance (by decide +kernel) (pa_cons (pv 0) (pa_cons (pe_glob (v := .ref _) rfl T.m_Ratio rfl) pa_nil)))) (pss_one (ps_ret (pv 0))) pss_nil)
      (pss_cons (ps_if (pt_not (pt_val (pe_fnR G_is_integer (hr.mono (by decide)) T.k_is_integer T.m_is_integer pass0 (pa_cons (pv 0) pa_nil)))) (pss_one (ps_raise rfl tk (pmk_err T.ex_BadRatio.err GX_BadRatio___init__ ng (hr.mono (by decide)) pass0 rfl T.m_BadRatio (pa_cons (pv 0) pa_nil)))) pss_nil)
      (pss_one (ps_ret (StX.pe_makeR T.mk_Ratio G_Ratio___init__ (hr.mono (by decide)) rfl T.m_Ratio pass0 (pa_cons (pv 0) pa_nil)))))), ?_⟩
    refine ⟨_, rfl, Or.inl ⟨_, _, _, _, false, rfl, .own _, ty, nr, false, rfl, iteF ?_⟩⟩
    refine ⟨_, rfl, ⟨_, _, rfl, ⟨_, b1, b2, ty, i1, i2, ib⟩, false, rfl, iteT ?_⟩⟩
    exact mkX1 (fun Q' q => ⟨_, rfl, q⟩) sh n k
theorem GX_Ratio___lt__ (T : Tx K mg d) : FnG P w K mg base (CXx P w) 5 d.Ratio___lt__ (spCmpX K d.Ratio d.BadRatio) := by
  have GX_Ratio_of := GX_Ratio_of (P := P) (w := w) (base := base) T
  obtain ⟨fd, F⟩ := T.F_Ratio___lt__
  refine fnX_of (k := 4) F sc_Ratio___lt__ (sp := spCmpX K d.Ratio d.BadRatio) (fun vs H Q E h => ?_) (fun cdv A outer s H vs Q E ng hr tk h => ?_) (F.binds fun _ _ _ _ _ _ us hl => match us, hl with | [_, _], _ => rfl)
  · obtain ⟨a, v, e, dx, fs, rfl, _⟩ := h
    rfl
  · obtain ⟨a, v, e, dx, fs, rfl, ha, odd, k⟩ := h
    -- slots: 0 self, 1 other, 2 against
    refine ⟨_, (pss_cons (ps_set (i := 2) sc_Ratio___lt__.nd rfl (Or.inl rfl) (pe_smethG (pe_glob (v := .ref _) rfl T.m_Ratio rfl) T.s_Ratio_of GX_Ratio_of ng (hr.mono (by decide)) (on tk) (pa_cons (pv 1) pa_nil)))
      (pss_one (ps_ret (pe_cmpR uLt (pe_op uMul (pe_fld (pv 0) rfl) (pe_fld (pv 2) rfl)) (pe_op uMul (pe_fld (pv 2) rfl) (pe_fld (pv 0) rfl)) (nomark _))))), ?_⟩
    exact ⟨rfl, _, rfl, v, e, rfl, odd, k⟩
theorem GX_Ratio___le__ (T : Tx K mg d) : FnG P w K mg base (CXx P w) 5 d.Ratio___le__ (spCmpX K d.Ratio d.BadRatio) := by
  have GX_Ratio_of := GX_Ratio_of (P := P) (w := w) (base := base) T
  obtain ⟨fd, F⟩ := T.F_Ratio___le__
  refine fnX_of (k := 4) F sc_Ratio___le__ (sp := spCmpX K d.Ratio d.BadRatio) (fun vs H Q E h => ?_) (fun cdv A outer s H vs Q E ng hr tk h => ?_) (F.binds fun _ _ _ _ _ _ us hl => match us, hl with | [_, _], _ => rfl)
  · obtain ⟨a, v, e, dx, fs, rfl, _⟩ := h
    rfl
  · obtain ⟨a, v, e, dx, fs, rfl, ha, odd, k⟩ := h
    -- slots: 0 self, 1 other, 2 against
    refine ⟨_, (pss_cons (ps_set (i := 2) sc_Ratio___le__.nd rfl (Or.inl rfl) (pe_smethG (pe_glob (v := .ref _) rfl T.m_Ratio rfl) T.s_Ratio_of GX_Ratio_of ng (hr.mono (by decide)) (on tk) (pa_cons (pv 1) pa_nil)))
      (pss_one (ps_ret (pe_cmpR uLe (pe_op uMul (pe_fld (pv 0) rfl) (pe_fld (pv 2) rfl)) (pe_op uMul (pe_fld (pv 2) rfl) (pe_fld (pv 0) rfl)) (nomark _))))), ?_⟩
    exact ⟨rfl, _, rfl, v, e, rfl, odd, k⟩
theorem GX_Ratio___gt__ (T : Tx K mg d) : FnG P w K mg base (CXx P w) 5 d.Ratio___gt__ (spCmpX K d.Ratio d.BadRatio) := by
  have GX_Ratio_of := GX_Ratio_of (P := P) (w := w) (base := base) T
  obtain ⟨fd, F⟩ := T.F_Ratio___gt__
  refine fnX_of (k := 4) F sc_Ratio___gt__ (sp := spCmpX K d.Ratio d.BadRatio) (fun vs H Q E h => ?_) (fun cdv A outer s H vs Q E ng hr tk h => ?_) (F.binds fun _ _ _ _ _ _ us hl => match us, hl with | [_, _], _ => rfl)
  · obtain ⟨a, v, e, dx, fs, rfl, _⟩ := h
    rfl
  · obtain ⟨a, v, e, dx, fs, rfl, ha, odd, k⟩ := h
    -- slots: 0 self, 1 other, 2 against
    refine ⟨_, (pss_cons (ps_set (i := 2) sc_Ratio___gt__.nd rfl (Or.inl rfl) (pe_smethG (pe_glob (v := .ref _) rfl T.m_Ratio rfl) T.s_Ratio_of GX_Ratio_of ng (hr.mono (by decide)) (on tk) (pa_cons (pv 1) pa_nil)))
      (pss_one (ps_ret (pe_cmpR uGt (pe_op uMul (pe_fld (pv 0) rfl) (pe_fld (pv 2) rfl)) (pe_op uMul (pe_fld (pv 2) rfl) (pe_fld (pv 0) rfl)) (nomark _))))), ?_⟩
    exact ⟨rfl, _, rfl, v, e, rfl, odd, k⟩
theorem GX_Ratio___ge__ (T : Tx K mg d) : FnG P w K mg base (CXx P w) 5 d.Ratio___ge__ (spCmpX K d.Ratio d.BadRatio) := by
  have GX_Ratio_of := GX_Ratio_of (P := P) (w := w) (base := base) T
  obtain ⟨fd, F⟩ := T.F_Ratio___ge__
  refine fnX_of (k := 4) F sc_Ratio___ge__ (sp := spCmpX K d.Ratio d.BadRatio) (fun vs H Q E h => ?_) (fun cdv A outer s H vs Q E ng hr tk h => ?_) (F.binds fun _ _ _ _ _ _ us hl => match us, hl with | [_, _], _ => rfl)
  · obtain ⟨a, v, e, dx, fs, rfl, _⟩ := h
    rfl
  · obtain ⟨a, v, e, dx, fs, rfl, ha, odd, k⟩ := h
    -- slots: 0 self, 1 other, 2 against
    refine ⟨_, (pss_cons (ps_set (i := 2) sc_Ratio___ge__.nd rfl (Or.inl rfl) (pe_smethG (pe_glob (v := .ref _) rfl T.m_Ratio rfl) T.s_Ratio_of GX_Ratio_of ng (hr.mono (by decide)) (on tk) (pa_cons (pv 1) pa_nil)))
      (pss_one (ps_ret (pe_cmpR uGe (pe_op uMul (pe_fld (pv 0) rfl) (pe_fld (pv 2) rfl)) (pe_op uMul (pe_fld (pv 2) rfl) (pe_fld (pv 0) rfl)) (nomark _))))), ?_⟩
    exact ⟨rfl, _, rfl, v, e, rfl, odd, k⟩
end

end AZ
namespace AZ
open PySem L2
/-! ## what is no number -/
section
variable {K : PySem.W.Frag} {H H' : Hp}
theorem PenAt.up {p : Addr} {n : Nat} (h : PenAt H p n) (e : Same H H') : PenAt H' p n := by
  obtain ⟨l, ns, s, g, a, b, c, r⟩ := h
  exact ⟨l, ns, s, g, a, e _ _ b, e _ _ c, r⟩
theorem PenAt.ext {p : Addr} {n : Nat} (h : PenAt H p n) (e : LamX.ExtN H H') : PenAt H' p n := by
  obtain ⟨l, ns, s, g, a, b, c, r⟩ := h
  exact ⟨l, ns, s, g, a, e _ _ b (fun _ z => nomatch z), e _ _ c (fun _ z => nomatch z), r⟩
theorem tyX_ext {K : PySem.W.Frag} {v : V} {T : String} (e : LamX.ExtN H H') (h : TyX K H v (.type T)) : TyX K H' v (.type T) := by
  cases h with
  | base b =>
    cases b with
    | non => exact .base .non
    | bl x => exact .base (.bl x)
    | int i => exact .base (.int i)
    | str x => exact .base (.str x)
    | flt x => exact .base (.flt x)
    | lst q => exact .base (.lst (e _ _ q fun _ z => nomatch z))
    | frz q => exact .base (.frz (e _ _ q fun _ z => nomatch z))
    | tup q => exact .base (.tup (e _ _ q fun _ z => nomatch z))
    | dK q => exact .base (.dK (e _ _ q fun _ z => nomatch z))
    | dT q => exact .base (.dT (e _ _ q fun _ z => nomatch z))
  | byt b => exact .byt b
  | set q => exact .set (e _ _ q fun _ z => nomatch z)
  | kList a b => exact .kList a b
  | kTuple a b => exact .kTuple a b
  | kDict a b => exact .kDict a b
  | fTuple q => exact .fTuple (e _ _ q fun _ z => nomatch z)
  | fDict q => exact .fDict (e _ _ q fun _ z => nomatch z)
theorem Odd.ext {C : Addr} {v : V} {x : PyData} (e : LamX.ExtN H H') (h : Odd K C H v x) : Odd K C H' v x :=
  let ⟨T, ty, r⟩ := h.ty
  ⟨⟨T, tyX_ext e ty, r⟩, h.sh.ext e, h.shn⟩
end

end AZ
namespace AZ
open PySem L2
/-! ## comparisons whose outcome is told -/
section
variable {X : Cx} {C f : Addr} {k : Nat} {H : Hp} {Q : VK} {a : Addr} {v : V} {x y : Rat} {r : Bool}
theorem oc {op : CmpOp} {g : Rat → Rat → Bool} (M : CmpM X.K C op f) (F : FnR X.prog X.w X.K X.mg X.base CX0 k f (spCmp C g)) (hr : Room k X.A) (ha : IsRat C H a x) (hv : Num C H v y) (zx : Sz 2000 x) (zy : Sz 2000 y) (e : g x y = r)
    (q : ∀ H', Same H H' → Q (.bl r) H') : rOwnC X op (.ref a) v H Q := own_cmp M F hr ha hv zx zy fun H' s => by rw [e]; exact q H' s
theorem orf {opr : CmpOp} {g : Rat → Rat → Bool} {j : Int} (M : CmpM X.K C opr f) (ki : PySem.W.kitOne X.K (.ref C) (.type "int") = some false) (F : FnR X.prog X.w X.K X.mg X.base CX0 k f (spCmp C g)) (hr : Room k X.A) (ha : IsRat C H a x) (zx : Sz 2000 x) (zj : Sz 2000 (j : Rat)) (e : g x (j : Rat) = r)
    (q : ∀ H', Same H H' → Q (.bl r) H') : rReflC X opr (.int j) (.ref a) H Q := own_refl M ki F hr ha zx zj fun H' s => by rw [e]; exact q H' s
theorem onn (M : NeM X.K C f) (F : FnR X.prog X.w X.K X.mg X.base CX0 k f (spCmp C fun x y => decide (x = y))) (hr : Room (k + 1) X.A) (ha : IsRat C H a x) (hv : Num C H v y) (zx : Sz 2000 x) (zy : Sz 2000 y) (e : (!decide (x = y)) = r)
    (q : ∀ H', Same H H' → Q (.bl r) H') : rOwnN X (.ref a) v H Q := own_ne M F hr ha hv zx zy fun H' s => by rw [e]; exact q H' s
theorem orn {j : Int} (M : NeM X.K C f) (ki : PySem.W.kitOne X.K (.ref C) (.type "int") = some false) (F : FnR X.prog X.w X.K X.mg X.base CX0 k f (spCmp C fun x y => decide (x = y))) (hr : Room (k + 1) X.A) (ha : IsRat C H a x) (zx : Sz 2000 x) (zj : Sz 2000 (j : Rat)) (e : (!decide (x = (j : Rat))) = r)
    (q : ∀ H', Same H H' → Q (.bl r) H') : rReflN X (.int j) (.ref a) H Q := own_rne M ki F hr ha zx zj fun H' s => by rw [e]; exact q H' s
end

end AZ
namespace AZ
open PySem L2
/-! ## lists and tuples of numbers -/
abbrev sq (b : Bool) (xs : List V) : HO := match b with | true => .tup xs | false => .lst xs
/-- all of them are fractions at their places -/
abbrev Rats (C : Addr) (H : Hp) : List V → List Rat → Prop := Paired (fun y q => ∃ p, y = .ref p ∧ IsRat C H p q)
abbrev Nums (C : Addr) (H : Hp) : List V → List Rat → Prop := Paired (Num C H)
theorem Rats.same {C : Addr} {H H' : Hp} (e : Same H H') : ∀ {xs : List V} {qs : List Rat}, Rats C H xs qs → Rats C H' xs qs
  | _, _, .nil => .nil
  | _, _, .cons ⟨p, x, y⟩ r => .cons ⟨p, x, y.same e⟩ (Rats.same e r)
theorem Nums.same {C : Addr} {H H' : Hp} (e : Same H H') : ∀ {xs : List V} {qs : List Rat}, Nums C H xs qs → Nums C H' xs qs
  | _, _, .nil => .nil
  | _, _, .cons x r => .cons (x.same e) (Nums.same e r)
theorem Rats.up {C p : Addr} {H H' : Hp} (e : Up p H H') : ∀ {xs : List V} {qs : List Rat}, Rats C H xs qs → Rats C H' xs qs
  | _, _, .nil => .nil
  | _, _, .cons ⟨p, x, y⟩ r => .cons ⟨p, x, y.up e⟩ (Rats.up e r)
theorem Nums.up {C p : Addr} {H H' : Hp} (e : Up p H H') : ∀ {xs : List V} {qs : List Rat}, Nums C H xs qs → Nums C H' xs qs
  | _, _, .nil => .nil
  | _, _, .cons x r => .cons (x.up e) (Nums.up e r)
theorem Rats.nums {C : Addr} {H : Hp} : ∀ {xs : List V} {qs : List Rat}, Rats C H xs qs → Nums C H xs qs
  | _, _, .nil => .nil
  | _, _, .cons ⟨_, x, y⟩ r => .cons (Or.inr ⟨_, x, y⟩) (Rats.nums r)
theorem pd_at {α β : Type} {R : α → β → Prop} : ∀ {xs : List α} {ys : List β} {i : Nat} {x : α}, Paired R xs ys → xs[i]? = some x → ∃ y, ys[i]? = some y ∧ R x y
  | _, _, 0, _, .cons h _, e => ⟨_, rfl, by simp at e; subst e; exact h⟩
  | _, _, i + 1, _, .cons _ r, e => by
    obtain ⟨y, e', h⟩ := pd_at (i := i) r (by simpa using e)
    exact ⟨y, by simpa using e', h⟩
theorem pd_len {α β : Type} {R : α → β → Prop} : ∀ {xs : List α} {ys : List β}, Paired R xs ys → xs.length = ys.length
  | _, _, .nil => rfl
  | _, _, .cons _ r => by simp [pd_len r]
theorem take_at {α : Type} {xs : List α} {i : Nat} {x : α} (h : xs[i]? = some x) : xs.take (i + 1) = xs.take i ++ [x] := by
  rw [List.take_add_one, h]; rfl
theorem same_at {H H' : Hp} {D : Addr} {o : HO} (h : Same H H') (hD : H D = none) : Same H (upd H' D o) := fun b x e => by
  rw [upd_ne (fun z => by rw [z, hD] at e; cases e)]
  exact h b x e
theorem Rats.app {C : Addr} {H : Hp} {xs : List V} {qs : List Rat} {p : Addr} {q : Rat} (h : Rats C H xs qs) (r : IsRat C H p q) : Rats C H (xs ++ [.ref p]) (qs ++ [q]) := by
  induction h with
  | nil => exact .cons ⟨p, rfl, r⟩ .nil
  | cons a _ ih => exact .cons a ih
/-- a comprehension over a list or a tuple -/
theorem lc_seq {K : PySem.W.Frag} {a : Addr} {b : Bool} {xs : List V} {tl : TE} {g : TG} {tt : TT} {te : TE} {vs : List Nat} {σ : L2.St} {H : Hp} {Q : VK} (Pv : Addr → Nat → Hp → Prop)
    (he : ∀ R : VK, R (.ref a) H → tl σ H R) (hq : H a = some (sq b xs)) (h0 : ∀ D, H D = none → Pv D 0 (upd H D (.lst []))) (hl : ∀ D i H', i ≤ xs.length → Pv D i H' → H' a = some (sq b xs))
    (hs : ∀ D i x H', xs[i]? = some x → Pv D i H' → g x (wipe σ vs) H' fun σ2 H2 => wipe σ2 vs = wipe σ vs ∧ tt σ2 H2 fun b H3 =>
      if b = true then te σ2 H3 fun y H4 => ∃ acc, H4 D = some (.lst acc) ∧ acc.length < sizeLine ∧ Pv D (i + 1) (upd H4 D (.lst (acc ++ [y]))) else Pv D (i + 1) H3)
    (hd : ∀ D H', Pv D xs.length H' → Q (.ref D) H') : tLc (fun σ H R => iList K tl σ H R ∨ iTup K tl σ H R) g tt te vs σ H Q := by
  cases b with
  | false => exact Or.inl (he _ ⟨a, rfl, ⟨xs, SqL.of hq⟩, fun D hD => lc_list (xs := xs) (Pv D) (h0 D hD) (fun i H' h p => SqL.of (hl D i H' h p)) (hs D) (hd D)⟩)
  | true => exact Or.inr (he _ ⟨a, rfl, ⟨xs, SqT.of hq⟩, fun D hD => lc_tup (xs := xs) (Pv D) (h0 D hD) (fun i H' h p => SqT.of (hl D i H' h p)) (hs D) (hd D)⟩)
/-- no list and no tuple -/
def NoSeq (K : PySem.W.Frag) (H : Hp) (v : V) : Prop := ∃ T, TyX K H v (.type T) ∧ PySem.W.kitAny K (.type T) [.type "list", .type "tuple"] = some false
/-- what is raised for v, sooner or later -/
def RaiL (CB : Addr) (v : V) (H : Hp) (E : XK) : Prop := ∀ dx H', Same H H' → H dx = none → H' dx = some (.xd [("value", v)]) → E (.ref CB) (some dx) H'
theorem RaiL.now {CB : Addr} {v : V} {H H1 : Hp} {E : XK} (h : RaiL CB v H E) (e : Same H H1) : Rai CB v H1 E := fun dx hd => h dx _ (e.trans (sameNew hd)) (e.free hd) upd_same
/-- what is refused -/
def Bad (K : PySem.W.Frag) (C CB : Addr) (H : Hp) (v : V) (E : XK) : Prop :=
  (∃ a b ys qs y zs e, v = .ref a ∧ H a = some (sq b (ys ++ y :: zs)) ∧ Nums C H ys qs ∧ Odd K C H y e ∧ (ys ++ y :: zs).length ≤ 1000 ∧ RaiL CB y H E) ∨
  (∃ e, NoSeq K H v ∧ Sh K H v e ∧ Shn e ∧ RaiL CB v H E)
def Good' (C : Addr) (H : Hp) (v : V) (qs : List Rat) : Prop := ∃ a b xs, v = .ref a ∧ H a = some (sq b xs) ∧ Nums C H xs qs ∧ xs.length ≤ 1000
theorem RaiL.same {CB : Addr} {v : V} {H H1 : Hp} {E : XK} (h : RaiL CB v H E) (e : Same H H1) : RaiL CB v H1 E := fun dx H' e' n => h dx H' (e.trans e') (e.free n)
theorem Good'.same {C : Addr} {H H' : Hp} {v : V} {qs : List Rat} (h : Good' C H v qs) (e : Same H H') : Good' C H' v qs :=
  let ⟨a, b, xs, x, y, z, l⟩ := h
  ⟨a, b, xs, x, e _ _ y, z.same e, l⟩
theorem NoSeq.same {K : PySem.W.Frag} {H H' : Hp} {v : V} (h : NoSeq K H v) (e : Same H H') : NoSeq K H' v := let ⟨T, t, k⟩ := h; ⟨T, tyX_ext (ExtN.same e) t, k⟩
theorem Bad.same {K : PySem.W.Frag} {C CB : Addr} {H H' : Hp} {v : V} {E : XK} (h : Bad K C CB H v E) (e : Same H H') : Bad K C CB H' v E := by
  rcases h with ⟨a, b, ys, qs, y, zs, x, h1, h2, h3, h4, h5, h6⟩ | ⟨x, h1, h2, h3, h4⟩
  · exact Or.inl ⟨a, b, ys, qs, y, zs, x, h1, e _ _ h2, h3.same e, h4.ext (ExtN.same e), h5, h6.same e⟩
  · exact Or.inr ⟨x, h1.same e, h2.same e, h3, h4.same e⟩
def spAll (C : Addr) : Sp := fun vs H Q _ => ∃ v qs, vs = [v] ∧ Good' C H v qs ∧ ∀ l ys H', Same H H' → H l = none → H' l = some (.lst ys) → Rats C H' ys qs → Q (.ref l) H'
def spAllX (K : PySem.W.Frag) (C CB : Addr) : Sp := fun vs H _ E => ∃ v, vs = [v] ∧ Bad K C CB H v E
section
variable {P : Program} {w : World} {K : PySem.W.Frag} {mg : Str → Option Value} {base : Heap} {d : Ad}
theorem GB_Ratio_of (T : Tx K mg d) : FnG P w K mg base (CXx P w) 4 d.Ratio_of (fun vs H Q E => spOf d.Ratio vs H Q E ∨ spOfX K d.Ratio d.BadRatio vs H Q E) :=
  FnG.or (FnG.toX (FnG.of (G_Ratio_of T))) (GX_Ratio_of T)
theorem kit_lst (T : Tx K mg d) : PySem.W.kitAny K (.type "list") [.type "list", .type "tuple"] = some true := by
  have h1 := T.i_list_is_list
  simp [PySem.W.kitAny, h1]
theorem kit_tup (T : Tx K mg d) : PySem.W.kitAny K (.type "tuple") [.type "list", .type "tuple"] = some true := by
  have h1 := T.i_tuple_is_list
  have h2 := T.i_tuple_is_tuple
  simp [PySem.W.kitAny, h1, h2]
theorem sq_ty (T : Tx K mg d) {H : Hp} {a : Addr} {b : Bool} {xs : List V} (h : H a = some (sq b xs)) : ∃ t, TyX K H (.ref a) (.type t) ∧ PySem.W.kitAny K (.type t) [.type "list", .type "tuple"] = some true := by
  cases b with
  | false => exact ⟨_, .base (.lst h), kit_lst T⟩
  | true => exact ⟨_, .base (.tup h), kit_tup T⟩
theorem GX_all_numbers (T : Tx K mg d) : FnG P w K mg base (CXx P w) 5 d.all_numbers (fun vs H Q E => spAll d.Ratio vs H Q E ∨ spAllX K d.Ratio d.BadRatio vs H Q E) := by
  have GX_BadRatio___init__ := GX_BadRatio___init__ (P := P) (w := w) (base := base) T
  have GX_Ratio_of := GB_Ratio_of (P := P) (w := w) (base := base) T
  obtain ⟨fd, F⟩ := T.F_all_numbers
  refine fnX_of (k := 4) F sc_all_numbers (sp := (fun vs H Q E => spAll d.Ratio vs H Q E ∨ spAllX K d.Ratio d.BadRatio vs H Q E)) (fun vs H Q E h => ?_) (fun cdv A outer s H vs Q E ng hr tk h => ?_) (F.binds fun _ _ _ _ _ _ us hl => match us, hl with | [_], _ => rfl)
  · rcases h with ⟨v, qs, rfl, _⟩ | ⟨v, rfl, _⟩ <;> rfl
  · -- slots: 0 values, 1 value
    refine ⟨_, (pss_cons (ps_if (pt_not (pt_val (pe_callB uIsi (by rfl) T.n_isinstance (by decide +kernel) (pa_cons (pv 0) (pa_cons (pe_tup (pa_cons (pe_bltn (v := .ty "list") (by rfl) T.n_list (by decide +kernel) rfl) (pa_cons (pe_bltn (v := .ty "tuple") (by rfl) T.n_tuple (by decide +kernel) rfl) pa_nil))) pa_nil))))) (pss_one (ps_raise rfl tk (pmk_err T.ex_BadRatio.err GX_BadRatio___init__ ng (hr.mono (by decide)) pass0 rfl T.m_BadRatio (pa_cons (pv 0) pa_nil)))) pss_nil)
      (pss_one (ps_ret (pe_lcx (E := E) (own := [("value", 1)]) (g := gName 1) tk rfl rfl (by rfl) sc_all_numbers.nd (pi_seq (pv 0)) (blkOk_by (own := [("value", 1)]) (N := ["values", "value"]) (sc := defScope s_all_numbers) (by decide +kernel)) (fun _ _ _ _ _ _ => pg_name (i := 1) sc_all_numbers.nd rfl (Or.inl rfl)) (fun _ _ _ _ _ _ on1 => (pe_smethG (pe_glob (v := .ref _) rfl T.m_Ratio rfl) T.s_Ratio_of GX_Ratio_of ng (hr.mono (by decide)) on1 (pa_cons (pv 1) pa_nil))))))), ?_⟩
    have clss : Paired ClsV [V.ty "list", .ty "tuple"] [Value.type "list", .type "tuple"] := .cons (.ty _) (.cons (.ty _) .nil)
    rcases h with ⟨v, qs, rfl, ⟨a, b, xs, rfl, ha, hn, hlen⟩, k⟩ | ⟨v, rfl, ⟨a, b, ys, qs, y, zs, e, rfl, ha, hn, od, hlen, k⟩ | ⟨e, ⟨t, ty, kt⟩, sh, sn, k⟩⟩
    · obtain ⟨t, ty, kt⟩ := sq_ty T ha
      refine ⟨_, rfl, (by show 2 ≤ sizeLine; decide), fun tp htp => Or.inr ⟨_, tp, _, _, _, true, rfl, upd_same, clss, tyX_ext (ExtN.same (sameNew htp)) ty, kt, true, rfl, iteF ?_⟩⟩
      have e1 : Same H _ := sameNew (o := HO.tup [V.ty "list", .ty "tuple"]) htp
      generalize upd H tp (HO.tup [V.ty "list", .ty "tuple"]) = H1 at e1 ⊢
      try dsimp only [tNext, gName]
      have hn1 := hn.same e1
      refine lc_seq (b := b) (xs := xs) (fun D i H' => Same H1 H' ∧ H1 D = none ∧ ∃ zs, H' D = some (.lst zs) ∧ Rats d.Ratio H' zs (qs.take i) ∧ zs.length = i) (fun R q => ⟨_, rfl, q⟩) (e1 _ _ ha) (fun D hD => ⟨sameNew hD, hD, [], upd_same, .nil, rfl⟩)
        (fun D i H' _ h => h.1 _ _ (e1 _ _ ha)) (fun D i x H' hx h => ?_) (fun D H' h => ?_)
      · obtain ⟨e2, hD, zs, hz, hr, hi⟩ := h
        have hlt : i < xs.length := (List.getElem?_eq_some_iff.mp hx).1
        obtain ⟨q, hq, nx⟩ := pd_at hn1 hx
        refine ⟨rfl, rfl, ⟨_, rfl, Or.inl ⟨x, q, rfl, nx.same e2, fun p H4 e4 hp => ?_⟩⟩⟩
        have up4 : Up D H4 (upd H4 D (.lst (zs ++ [.ref p]))) := Up.put (e4 _ _ hz)
        exact ⟨zs, e4 _ _ hz, by rw [hi]; exact Nat.lt_of_lt_of_le (Nat.lt_of_lt_of_le hlt hlen) (by decide), same_at (e2.trans e4) hD, hD, _, upd_same, by rw [take_at hq]; exact Rats.app (Rats.up up4 (hr.same e4)) (hp.up up4), by simp [hi]⟩
      · obtain ⟨e2, hD, zs, hz, hr, _⟩ := h
        refine k D zs H' (e1.trans e2) (e1.free hD) hz ?_
        rw [pd_len hn, List.take_length] at hr
        exact hr
    · obtain ⟨t, ty, kt⟩ := sq_ty T ha
      refine ⟨_, rfl, (by show 2 ≤ sizeLine; decide), fun tp htp => Or.inr ⟨_, tp, _, _, _, true, rfl, upd_same, clss, tyX_ext (ExtN.same (sameNew htp)) ty, kt, true, rfl, iteF ?_⟩⟩
      have e1 : Same H _ := sameNew (o := HO.tup [V.ty "list", .ty "tuple"]) htp
      generalize upd H tp (HO.tup [V.ty "list", .ty "tuple"]) = H1 at e1 ⊢
      try dsimp only [tNext, gName]
      have hn1 := hn.same e1
      refine lc_seq (b := b) (xs := ys ++ y :: zs) (fun D i H' => i ≤ ys.length ∧ Same H1 H' ∧ H1 D = none ∧ ∃ zs, H' D = some (.lst zs) ∧ zs.length = i) (fun R q => ⟨_, rfl, q⟩) (e1 _ _ ha) (fun D hD => ⟨Nat.zero_le _, sameNew hD, hD, [], upd_same, rfl⟩)
        (fun D i H' _ h => h.2.1 _ _ (e1 _ _ ha)) (fun D i x H' hx h => ?_) (fun D H' h => ?_)
      · obtain ⟨hle, e2, hD, zs', hz, hi⟩ := h
        rcases Nat.lt_or_eq_of_le hle with hlt | heq
        · have hx' : ys[i]? = some x := by rw [List.getElem?_append_left hlt] at hx; exact hx
          obtain ⟨q, hq, nx⟩ := pd_at hn1 hx'
          refine ⟨rfl, rfl, ⟨_, rfl, Or.inl ⟨x, q, rfl, nx.same e2, fun p H4 e4 hp => ?_⟩⟩⟩
          have hlen' : ys.length ≤ 1000 := by rw [List.length_append] at hlen; omega
          exact ⟨zs', e4 _ _ hz, by rw [hi]; exact Nat.lt_of_lt_of_le (Nat.lt_of_lt_of_le hlt hlen') (by decide), hlt, same_at (e2.trans e4) hD, hD, _, upd_same, by simp [hi]⟩
        · subst heq
          have hx' : x = y := by simpa using hx.symm
          subst hx'
          exact ⟨rfl, rfl, ⟨_, rfl, Or.inr ⟨x, e, rfl, od.ext (ExtN.same (e1.trans e2)), k.now (e1.trans e2)⟩⟩⟩
      · exfalso
        have := h.1
        rw [List.length_append, List.length_cons] at this
        omega
    · refine ⟨_, rfl, (by show 2 ≤ sizeLine; decide), fun tp htp => Or.inr ⟨_, tp, _, _, _, false, rfl, upd_same, clss, tyX_ext (ExtN.same (sameNew htp)) ty, kt, false, rfl, iteT ?_⟩⟩
      exact mkX1 (fun Q' q => ⟨_, rfl, q⟩) (sh.same (sameNew htp)) sn (k.now (sameNew htp))
end

end AZ
namespace AZ
open PySem L2
/-! ## the greatest and the least one -/
def IsEnd (g : Bool) (qs : List Rat) (q : Rat) : Prop := q ∈ qs ∧ ∀ x ∈ qs, if g = true then x ≤ q else q ≤ x
def spBound (C : Addr) : Sp := fun vs H Q _ => ∃ v g qs, vs = [v, .bl g] ∧ Good' C H v qs ∧ qs ≠ [] ∧ (∀ q ∈ qs, Sz 2000 q) ∧ ∀ p q H', Same H H' → IsRat C H' p q → IsEnd g qs q → Q (.ref p) H'
def BadB (K : PySem.W.Frag) (C CB : Addr) (H : Hp) (v : V) (E : XK) : Prop := Bad K C CB H v E ∨ (Good' C H v [] ∧ RaiL CB (.str "values") H E)
def spBoundX (K : PySem.W.Frag) (C CB : Addr) : Sp := fun vs H _ E => ∃ v g, vs = [v, .bl g] ∧ BadB K C CB H v E
theorem cutV_from (xs : List V) (k : Nat) : cutV xs (some (k : Int)) none = xs.drop k := by
  unfold cutV
  rw [HT.sIx_nat, HT.sIx_none]
  rcases Nat.le_total k xs.length with h | h
  · rw [Nat.min_eq_left h]
    exact List.take_of_length_le (by rw [List.length_drop]; exact Nat.le_refl _)
  · rw [Nat.min_eq_right h, Nat.sub_self, List.take_zero, List.drop_eq_nil_of_le h]
theorem cutV_upto (xs : List V) (k : Nat) : cutV xs none (some (k : Int)) = xs.take k := by
  unfold cutV
  rw [HT.sIx_nat, HT.sIx_none, Nat.sub_zero, List.drop_zero]
  rcases Nat.le_total k xs.length with h | h
  · rw [Nat.min_eq_left h]
  · rw [Nat.min_eq_right h, List.take_length, List.take_of_length_le h]
section
variable {P : Program} {w : World} {K : PySem.W.Frag} {mg : Str → Option Value} {base : Heap} {d : Ad}
theorem IsEnd.one {g : Bool} {q : Rat} : IsEnd g [q] q := ⟨by simp, fun x h => by simp at h; subst h; cases g <;> exact Std.le_refl _⟩
theorem IsEnd.more {g : Bool} {qs : List Rat} {q x : Rat} (h : IsEnd g qs q) : IsEnd g (qs ++ [x]) (if (if g = true then decide (x > q) else decide (x < q)) = true then x else q) := by
  obtain ⟨hm, ha⟩ := h
  cases g with
  | true =>
    simp only [if_true, decide_eq_true_eq]
    split
    · rename_i hx
      refine ⟨by simp, fun y hy => ?_⟩
      simp only [List.mem_append, List.mem_singleton] at hy
      rcases hy with hy | rfl
      · have := ha y hy
        simp only [if_true] at this ⊢
        grind
      · simp
    · rename_i hx
      refine ⟨by simp [hm], fun y hy => ?_⟩
      simp only [List.mem_append, List.mem_singleton] at hy
      rcases hy with hy | rfl
      · exact ha y hy
      · simp only [if_true]; grind
  | false =>
    simp only [Bool.false_eq_true, if_false, decide_eq_true_eq]
    split
    · rename_i hx
      refine ⟨by simp, fun y hy => ?_⟩
      simp only [List.mem_append, List.mem_singleton] at hy
      rcases hy with hy | rfl
      · have := ha y hy
        simp only [Bool.false_eq_true, if_false] at this ⊢
        grind
      · simp
    · rename_i hx
      refine ⟨by simp [hm], fun y hy => ?_⟩
      simp only [List.mem_append, List.mem_singleton] at hy
      rcases hy with hy | rfl
      · exact ha y hy
      · simp only [Bool.false_eq_true, if_false]; grind
theorem GX_bound_of (T : Tx K mg d) : FnG P w K mg base (CXx P w) 6 d.bound_of (fun vs H Q E => spBound d.Ratio vs H Q E ∨ spBoundX K d.Ratio d.BadRatio vs H Q E) := by
  have GX_BadRatio___init__ := GX_BadRatio___init__ (P := P) (w := w) (base := base) T
  have GX_all_numbers := GX_all_numbers (P := P) (w := w) (base := base) T
  have G_gt : FnR P w K mg base CX0 5 d.Ratio___gt__ (spCmp d.Ratio fun x y => decide (x > y)) := G_Ratio___gt__ T
  have G_lt : FnR P w K mg base CX0 5 d.Ratio___lt__ (spCmp d.Ratio fun x y => decide (x < y)) := G_Ratio___lt__ T
  obtain ⟨fd, F⟩ := T.F_bound_of
  refine fnX_of (k := 5) F sc_bound_of (sp := (fun vs H Q E => spBound d.Ratio vs H Q E ∨ spBoundX K d.Ratio d.BadRatio vs H Q E)) (fun vs H Q E h => ?_) (fun cdv A outer s H vs Q E ng hr tk h => ?_) (F.binds fun _ _ _ _ _ _ us hl => match us, hl with | [_, _], _ => rfl)
  · rcases h with ⟨v, g, qs, rfl, _⟩ | ⟨v, g, rfl, _⟩ <;> rfl
  · -- slots: 0 values, 1 is_greatest, 2 numbers, 3 bound, 4 number
    refine ⟨_, (pss_cons (ps_set (i := 2) sc_bound_of.nd rfl (Or.inl rfl) (pe_fnG GX_all_numbers ng (hr.mono (by decide)) T.k_all_numbers T.m_all_numbers (on tk) (pa_cons (pv 0) pa_nil)))
      (pss_cons (ps_if (pt_not (pt_truth (pv 2) (by intro _; rfl))) (pss_one (ps_raise rfl tk (pmk_err T.ex_BadRatio.err GX_BadRatio___init__ ng (hr.mono (by decide)) pass0 rfl T.m_BadRatio (pa_cons pe_str pa_nil)))) pss_nil)
      (pss_cons (ps_set (i := 3) sc_bound_of.nd rfl (Or.inl rfl) (pe_ix ix_seq (pv 2) pe_int (fun _ _ => rfl)))
      (pss_cons (ps_for (passes_of rfl) rfl (pi_list (pe_slice sl_list (pv 2) (po_some pe_int) po_none)) (pg_name (i := 4) sc_bound_of.nd rfl (Or.inl rfl)) (pss_one (ps_if (pt_ifE (pt_val (pv 1)) (pt_cmpR uGt (pv 4) (pv 3) (nomark _)) (pt_cmpR uLt (pv 4) (pv 3) (nomark _))) (pss_one (ps_set (i := 3) sc_bound_of.nd rfl (Or.inl rfl) (pv 4))) pss_nil)))
      (pss_one (ps_ret (pv 3))))))), ?_⟩
    rcases h with ⟨v, g, qs, rfl, hg, hne, hsz, k⟩ | ⟨v, g, rfl, h⟩
    · refine ⟨_, rfl, Or.inl ⟨v, qs, rfl, hg, fun l ys H1 e1 _ hl hR => ?_⟩⟩
      try dsimp only [tNext, gName]
      obtain ⟨q0, qs, rfl⟩ : ∃ q0 r, qs = q0 :: r := by
        cases qs with
        | nil => exact absurd rfl hne
        | cons a r => exact ⟨a, r, rfl⟩
      obtain ⟨y0, ys, rfl⟩ : ∃ y0 r, ys = y0 :: r := by
        cases hR with
        | cons _ _ => exact ⟨_, _, rfl⟩
      obtain ⟨p0, rfl, r0⟩ := (show ∃ p, y0 = V.ref p ∧ IsRat d.Ratio H1 p q0 from by cases hR with | cons h _ => exact h)
      replace hR : Rats d.Ratio H1 ys qs := by cases hR with | cons _ h => exact h
      refine ⟨_, rfl, true, Or.inl ⟨_, SqL.of hl, rfl⟩, iteF ?_⟩
      try dsimp only [tNext, gName]
      refine ⟨_, rfl, Or.inl ⟨l, _, 0, _, rfl, rfl, SqL.of hl, at_of (j := 0) rfl rfl, ?_⟩⟩
      try dsimp only [tNext, gName]
      refine ⟨_, rfl, _, rfl, l, _, rfl, SqL.of hl, fun c hc => ⟨c, rfl, ⟨_, SqL.of upd_same⟩, ?_⟩⟩
      have e2 := sameNew (o := HO.lst (cutV (V.ref p0 :: ys) (some 1) none)) hc
      have hc2 : upd H1 c (HO.lst (cutV (V.ref p0 :: ys) (some 1) none)) c = some (.lst ys) := by rw [upd_same]; exact congrArg (fun z => some (HO.lst z)) (cutV_from (V.ref p0 :: ys) 1)
      generalize upd H1 c (HO.lst (cutV (V.ref p0 :: ys) (some 1) none)) = H2 at e2 hc2 ⊢
      refine for_list (xs := ys) (fun i σ' H' => ∃ pb qb z4, σ' = [some v, some (.bl g), some (.ref l), some (.ref pb), z4] ∧ Same H2 H' ∧ IsRat d.Ratio H' pb qb ∧ Sz 2000 qb ∧ IsEnd g (q0 :: qs.take i) qb) ⟨p0, q0, none, rfl, Same.refl _, r0.same e2, hsz q0 (by simp), .one⟩
        (fun i σ' H' _ h => by obtain ⟨_, _, _, _, e3, _⟩ := h; exact SqL.of (e3 _ _ hc2)) (fun i x σ' H' hx h => ?_) (fun σ' H' h => ?_)
      · obtain ⟨pb, qb, z4, rfl, e3, rb, zb, ib⟩ := h
        obtain ⟨q, hq, pn, rfl, rn⟩ := pd_at (hR.same (e2.trans e3)) hx
        have zq : Sz 2000 q := hsz q (by simp [List.mem_of_getElem? hq])
        have mo := ib.more (x := q)
        rw [List.cons_append, ← take_at hq] at mo
        dsimp only [gName]
        cases g with
        | true =>
          refine ⟨_, rfl, true, rfl, iteT ⟨_, rfl, _, rfl, Or.inr (oc T.q_Ratio_gt G_gt (hr.mono (by decide)) rn (num_r rb) zq zb rfl fun H4 e4 => ⟨_, rfl, ite2 (fun hb => ?_) (fun hb => ?_)⟩)⟩⟩
          · rw [if_pos rfl, if_pos hb] at mo
            exact ⟨_, rfl, pn, q, _, rfl, e3.trans e4, rn.same e4, zq, mo⟩
          · rw [if_pos rfl, if_neg hb] at mo
            exact ⟨pb, qb, _, rfl, e3.trans e4, rb.same e4, zb, mo⟩
        | false =>
          refine ⟨_, rfl, false, rfl, iteF ⟨_, rfl, _, rfl, Or.inr (oc T.q_Ratio_lt G_lt (hr.mono (by decide)) rn (num_r rb) zq zb rfl fun H4 e4 => ⟨_, rfl, ite2 (fun hb => ?_) (fun hb => ?_)⟩)⟩⟩
          · rw [if_neg Bool.false_ne_true, if_pos hb] at mo
            exact ⟨_, rfl, pn, q, _, rfl, e3.trans e4, rn.same e4, zq, mo⟩
          · rw [if_neg Bool.false_ne_true, if_neg hb] at mo
            exact ⟨pb, qb, _, rfl, e3.trans e4, rb.same e4, zb, mo⟩
      · obtain ⟨pb, qb, z4, rfl, e3, rb, _, ib⟩ := h
        rw [pd_len hR, List.take_length] at ib
        exact ⟨_, rfl, k pb qb H' ((e1.trans e2).trans e3) rb ib⟩
    · rcases h with h | ⟨hg, k⟩
      · exact ⟨_, rfl, Or.inr ⟨v, rfl, h⟩⟩
      · refine ⟨_, rfl, Or.inl ⟨v, [], rfl, hg, fun l ys H1 e1 _ hl hR => ?_⟩⟩
        cases hR
        try dsimp only [tNext, gName]
        refine ⟨_, rfl, false, Or.inl ⟨_, SqL.of hl, rfl⟩, iteT ?_⟩
        exact mkX1 (e := .str "values") (fun Q' q => q) (.dp (.str _) rfl) ⟨by decide +kernel, by decide +kernel, by decide +kernel⟩ (k.now e1)
end

end AZ
namespace AZ
open PySem L2
/-! ## the greatest number of which all are whole multiples -/
theorem r_divInt_eq (a b : Int) : Rat.divInt a b = (a : Rat) / (b : Rat) := Rat.divInt_eq_div a b
/-- the whole combinations of some numbers -/
inductive Spn (p : Rat → Prop) : Rat → Prop
  | zero : Spn p 0
  | mem {x} : p x → Spn p x
  | add {x y} : Spn p x → Spn p y → Spn p (x + y)
  | smul {x} (k : Int) : Spn p x → Spn p ((k : Rat) * x)
theorem Spn.mono {p q : Rat → Prop} (h : ∀ x, p x → Spn q x) {x : Rat} (s : Spn p x) : Spn q x := by
  induction s with
  | zero => exact .zero
  | mem m => exact h _ m
  | add _ _ a b => exact .add a b
  | smul k _ a => exact .smul k a
/-- the greatest number of which all are whole multiples -/
structure IsG (p : Rat → Prop) (g : Rat) : Prop where
  pos : 0 ≤ g
  span : Spn p g
  dvd : ∀ x, p x → ∃ k : Int, x = (k : Rat) * g
theorem Spn.dvd {p : Rat → Prop} {g : Rat} (h : ∀ x, p x → ∃ k : Int, x = (k : Rat) * g) {x : Rat} (s : Spn p x) : ∃ k : Int, x = (k : Rat) * g := by
  induction s with
  | zero => exact ⟨0, by rw [Rat.intCast_zero]; exact (Rat.zero_mul g).symm⟩
  | mem m => exact h _ m
  | add _ _ a b =>
    obtain ⟨k, rfl⟩ := a
    obtain ⟨j, rfl⟩ := b
    exact ⟨k + j, by rw [Rat.intCast_add, Rat.add_mul]⟩
  | smul k _ a =>
    obtain ⟨j, rfl⟩ := a
    exact ⟨k * j, by rw [Rat.intCast_mul, Rat.mul_assoc]⟩
theorem IsG.uniq {p q : Rat → Prop} {g h : Rat} (a : IsG p g) (b : IsG q h) (e1 : ∀ x, p x → Spn q x) (e2 : ∀ x, q x → Spn p x) : g = h := by
  obtain ⟨k, hk⟩ := (a.span.mono e1).dvd b.dvd
  obtain ⟨j, hj⟩ := (b.span.mono e2).dvd a.dvd
  by_cases z : h = 0
  · rw [hk, z, Rat.mul_zero]
  by_cases z2 : g = 0
  · exact absurd (by rw [hj, z2, Rat.mul_zero]) z
  -- both are above 0
  have ph : 0 < h := by have := b.pos; grind
  have pg : 0 < g := by have := a.pos; grind
  have k1 : 0 < k := by
    refine Int.not_le.mp fun n => ?_
    have : (k : Rat) ≤ 0 := by rw [← Rat.intCast_zero]; exact Rat.intCast_le_intCast.mpr n
    have w : 0 ≤ (-(k : Rat)) * h := Rat.mul_nonneg (by grind) (by grind)
    grind
  have j1 : 0 < j := by
    refine Int.not_le.mp fun n => ?_
    have : (j : Rat) ≤ 0 := by rw [← Rat.intCast_zero]; exact Rat.intCast_le_intCast.mpr n
    have w : 0 ≤ (-(j : Rat)) * g := Rat.mul_nonneg (by grind) (by grind)
    grind
  have le1 : h ≤ g := by
    have : (1 : Rat) ≤ (k : Rat) := Rat.intCast_le_intCast (a := 1).mpr (by omega)
    have w : 0 ≤ ((k : Rat) - 1) * h := Rat.mul_nonneg (by grind) (by grind)
    grind
  have le2 : g ≤ h := by
    have : (1 : Rat) ≤ (j : Rat) := Rat.intCast_le_intCast (a := 1).mpr (by omega)
    have w : 0 ≤ ((j : Rat) - 1) * g := Rat.mul_nonneg (by grind) (by grind)
    grind
  exact Std.le_antisymm le2 le1
/-- one step: a number more -/
def gcdQ (s n : Rat) : Rat := Rat.divInt (Int.gcd (s.num * (n.den : Int)) (n.num * (s.den : Int)) : Int) ((s.den : Int) * (n.den : Int))
theorem bez_nat (m n : Nat) : ∃ u v : Int, ((Nat.gcd m n : Nat) : Int) = m * u + n * v := by
  induction m, n using Nat.gcd.induction with
  | H0 n => exact ⟨0, 1, by simp⟩
  | H1 m n hm ih =>
    obtain ⟨u, v, h⟩ := ih
    rw [Nat.gcd_rec]
    have e : ((n % m : Nat) : Int) = n - m * ((n / m : Nat) : Int) := by
      have := Nat.div_add_mod n m
      have : ((m * (n / m) + n % m : Nat) : Int) = n := by rw [this]
      rw [Int.natCast_add, Int.natCast_mul] at this
      omega
    rw [e] at h
    exact ⟨v - ((n / m : Nat) : Int) * u, u, by rw [h]; grind⟩
theorem bez (a b : Int) : ∃ u v : Int, (Int.gcd a b : Int) = a * u + b * v := by
  obtain ⟨u, v, h⟩ := bez_nat a.natAbs b.natAbs
  have sg : ∀ c : Int, ∃ e : Int, (c.natAbs : Int) = c * e := fun c => by
    rcases Int.natAbs_eq c with h | h
    · exact ⟨1, by omega⟩
    · exact ⟨-1, by omega⟩
  obtain ⟨e, he⟩ := sg a
  obtain ⟨f, hf⟩ := sg b
  rw [he, hf] at h
  exact ⟨e * u, f * v, by show ((Nat.gcd a.natAbs b.natAbs : Nat) : Int) = _; rw [h]; grind⟩
theorem den_ne (s : Rat) : (s.den : Rat) ≠ 0 := fun h => by
  have := s.den_pos
  have e : ((s.den : Int) : Rat) = ((0 : Int) : Rat) := h
  have := Rat.intCast_inj.mp e
  omega
theorem num_eq (s : Rat) : (s.num : Rat) = s * ((s.den : Int) : Rat) := by
  have h := Rat.num_divInt_den s
  rw [Rat.divInt_eq_div] at h
  have h2 := Rat.div_mul_cancel (a := (s.num : Rat)) (den_ne s)
  rw [show ((s.num : Rat) / (s.den : Rat)) = s from h] at h2
  exact h2.symm
theorem gcdQ_eq (s n : Rat) : gcdQ s n * (((s.den : Int) : Rat) * ((n.den : Int) : Rat)) = ((Int.gcd (s.num * (n.den : Int)) (n.num * (s.den : Int)) : Int) : Rat) := by
  unfold gcdQ
  rw [Rat.divInt_eq_div, ← Rat.intCast_mul]
  refine Rat.div_mul_cancel fun e => ?_
  have e : (((s.den : Int) * (n.den : Int) : Int) : Rat) = ((0 : Int) : Rat) := e
  have := Rat.intCast_inj.mp e
  have a := s.den_pos
  have b := n.den_pos
  have : 0 < (s.den : Int) * (n.den : Int) := Int.mul_pos (by omega) (by omega)
  omega
theorem gcdQ_step {p : Rat → Prop} {s n : Rat} (h : IsG p s) : IsG (fun x => p x ∨ x = n) (gcdQ s n) := by
  have ds := den_ne s
  have dn := den_ne n
  have e := gcdQ_eq s n
  have es := num_eq s
  have en := num_eq n
  have dd : (((s.den : Int) : Rat) * ((n.den : Int) : Rat)) ≠ 0 := fun z => by
    rcases Rat.mul_eq_zero.mp z with z | z
    · exact ds z
    · exact dn z
  have hs : ∃ k : Int, s = (k : Rat) * gcdQ s n := by
    obtain ⟨k, hk⟩ := Int.gcd_dvd_left (s.num * (n.den : Int)) (n.num * (s.den : Int))
    refine ⟨k, ?_⟩
    have hk' : ((s.num * (n.den : Int) : Int) : Rat) = ((Int.gcd (s.num * (n.den : Int)) (n.num * (s.den : Int)) : Int) : Rat) * (k : Rat) := by rw [← Rat.intCast_mul, ← hk]
    rw [Rat.intCast_mul, es, ← e] at hk'
    have : (s - (k : Rat) * gcdQ s n) * (((s.den : Int) : Rat) * ((n.den : Int) : Rat)) = 0 := by grind
    rcases Rat.mul_eq_zero.mp this with z | z
    · grind
    · exact absurd z dd
  have hn : ∃ k : Int, n = (k : Rat) * gcdQ s n := by
    obtain ⟨k, hk⟩ := Int.gcd_dvd_right (s.num * (n.den : Int)) (n.num * (s.den : Int))
    refine ⟨k, ?_⟩
    have hk' : ((n.num * (s.den : Int) : Int) : Rat) = ((Int.gcd (s.num * (n.den : Int)) (n.num * (s.den : Int)) : Int) : Rat) * (k : Rat) := by rw [← Rat.intCast_mul, ← hk]
    rw [Rat.intCast_mul, en, ← e] at hk'
    have : (n - (k : Rat) * gcdQ s n) * (((s.den : Int) : Rat) * ((n.den : Int) : Rat)) = 0 := by grind
    rcases Rat.mul_eq_zero.mp this with z | z
    · grind
    · exact absurd z dd
  refine ⟨?_, ?_, ?_⟩
  · refine Rat.not_lt.mp fun z => ?_
    have p1 : (0 : Rat) < ((s.den : Int) : Rat) := by rw [← Rat.intCast_zero]; exact Rat.intCast_lt_intCast.mpr (by have := s.den_pos; omega)
    have p2 : (0 : Rat) < ((n.den : Int) : Rat) := by rw [← Rat.intCast_zero]; exact Rat.intCast_lt_intCast.mpr (by have := n.den_pos; omega)
    have p3 := Rat.mul_pos p1 p2
    have p4 : (0 : Rat) < (-gcdQ s n) * (((s.den : Int) : Rat) * ((n.den : Int) : Rat)) := Rat.mul_pos (by grind) p3
    have p5 : (0 : Rat) ≤ ((Int.gcd (s.num * (n.den : Int)) (n.num * (s.den : Int)) : Int) : Rat) := by rw [← Rat.intCast_zero]; exact Rat.intCast_le_intCast.mpr (by omega)
    grind
  · obtain ⟨u, v, huv⟩ : ∃ u v : Int, (Int.gcd (s.num * (n.den : Int)) (n.num * (s.den : Int)) : Int) = s.num * (n.den : Int) * u + n.num * (s.den : Int) * v := by
      exact bez _ _
    have ee : gcdQ s n = (u : Rat) * s + (v : Rat) * n := by
      have h2 : ((Int.gcd (s.num * (n.den : Int)) (n.num * (s.den : Int)) : Int) : Rat) = s * ((s.den : Int) : Rat) * ((n.den : Int) : Rat) * (u : Rat) + n * ((n.den : Int) : Rat) * ((s.den : Int) : Rat) * (v : Rat) := by
        rw [huv, Rat.intCast_add, Rat.intCast_mul, Rat.intCast_mul, Rat.intCast_mul, Rat.intCast_mul, es, en]
      rw [← e] at h2
      have : (gcdQ s n - ((u : Rat) * s + (v : Rat) * n)) * (((s.den : Int) : Rat) * ((n.den : Int) : Rat)) = 0 := by grind
      rcases Rat.mul_eq_zero.mp this with z | z
      · grind
      · exact absurd z dd
    rw [ee]
    exact .add (.smul u (h.span.mono fun x m => .mem (Or.inl m))) (.smul v (.mem (Or.inr rfl)))
  · intro x hx
    rcases hx with hx | rfl
    · obtain ⟨k, rfl⟩ := h.dvd x hx
      obtain ⟨j, hj⟩ := hs
      refine ⟨k * j, ?_⟩
      rw [Rat.intCast_mul, Rat.mul_assoc, ← hj]
    · exact hn
theorem isG_nil : IsG (fun _ => False) 0 := ⟨by grind, .zero, fun _ h => h.elim⟩
def gcds (qs : List Rat) : Rat := qs.foldl gcdQ 0
theorem IsG.congr {p q : Rat → Prop} {g : Rat} (h : IsG p g) (e : ∀ x, p x ↔ q x) : IsG q g := by
  rw [show q = p from funext fun x => propext (e x).symm]
  exact h
theorem isG_fold : ∀ (qs : List Rat) (p : Rat → Prop) (s : Rat), IsG p s → IsG (fun x => p x ∨ x ∈ qs) (qs.foldl gcdQ s)
  | [], p, s, h => h.congr fun x => by simp
  | q :: qs, p, s, h => (isG_fold qs _ _ (gcdQ_step (n := q) h)).congr fun x => by simp [or_assoc]
theorem isG_gcds (qs : List Rat) : IsG (· ∈ qs) (gcds qs) := (isG_fold qs _ 0 isG_nil).congr fun x => by simp
theorem gcds_uniq {ps qs : List Rat} (h1 : ∀ x ∈ ps, Spn (· ∈ qs) x) (h2 : ∀ x ∈ qs, Spn (· ∈ ps) x) : gcds ps = gcds qs := (isG_gcds ps).uniq (isG_gcds qs) h1 h2
theorem gcds_rev (qs : List Rat) : gcds qs.reverse = gcds qs := gcds_uniq (fun x h => .mem (by simpa using h)) fun x h => .mem (by simpa using h)
theorem gcds_two (ps qs : List Rat) : gcds [gcds ps, gcds qs] = gcds (ps ++ qs) := by
  refine gcds_uniq (fun x h => ?_) (fun x h => ?_)
  · simp only [List.mem_cons, List.not_mem_nil, or_false] at h
    rcases h with rfl | rfl
    · exact (isG_gcds ps).span.mono fun y m => .mem (by simp [show y ∈ ps from m])
    · exact (isG_gcds qs).span.mono fun y m => .mem (by simp [show y ∈ qs from m])
  · rcases List.mem_append.mp h with h | h
    · obtain ⟨k, rfl⟩ := (isG_gcds ps).dvd x h
      exact .smul k (.mem (by simp))
    · obtain ⟨k, rfl⟩ := (isG_gcds qs).dvd x h
      exact .smul k (.mem (by simp))
theorem gcd_lt {a b : Int} {n : Nat} (h1 : a.natAbs < 2 ^ n) (h2 : b.natAbs < 2 ^ n) : (Int.gcd a b : Int).natAbs < 2 ^ n := by
  show (Nat.gcd a.natAbs b.natAbs) < 2 ^ n
  by_cases z : a.natAbs = 0
  · rw [z, Nat.gcd_zero_left]; exact h2
  · exact Nat.lt_of_le_of_lt (Nat.gcd_le_left _ (by omega)) h1
theorem sz_gcdQ {n m : Nat} {s q : Rat} (h : Sz n s) (h' : Sz m q) : Sz (n + m) (gcdQ s q) := by
  unfold gcdQ
  refine sz_di ?_ (gcd_lt ?_ ?_) ?_
  · have a := s.den_pos
    have b := q.den_pos
    have : 0 < (s.den : Int) * (q.den : Int) := Int.mul_pos (by omega) (by omega)
    omega
  · rw [Int.natAbs_mul]; exact mul_lt2 h.1 h'.2
  · rw [Int.natAbs_mul, Nat.add_comm]; exact mul_lt2 h'.1 h.2
  · rw [Int.natAbs_mul]; exact mul_lt2 h.2 h'.2
theorem sz_mono {n m : Nat} {x : Rat} (h : Sz n x) (e : n ≤ m) : Sz m x := ⟨Nat.lt_of_lt_of_le h.1 (Nat.pow_le_pow_right (by decide) e), Nat.lt_of_lt_of_le h.2 (Nat.pow_le_pow_right (by decide) e)⟩
theorem sz_fold {m : Nat} : ∀ (qs : List Rat) (n : Nat) (s : Rat), Sz n s → (∀ q ∈ qs, Sz m q) → Sz (n + qs.length * m) (qs.foldl gcdQ s)
  | [], n, s, h, _ => by simpa using h
  | q :: qs, n, s, h, hq => by
    have := sz_fold qs (n + m) (gcdQ s q) (sz_gcdQ h (hq q (by simp))) fun x hx => hq x (by simp [hx])
    rw [show n + (q :: qs).length * m = n + m + qs.length * m from by rw [List.length_cons, Nat.add_mul]; omega]
    exact this
theorem sz_gcds {m : Nat} {qs : List Rat} (h : ∀ q ∈ qs, Sz m q) : Sz (1 + qs.length * m) (gcds qs) := sz_fold qs 1 0 ⟨by decide +kernel, by decide +kernel⟩ h
theorem gcds_take {qs : List Rat} {i : Nat} {q : Rat} (h : qs[i]? = some q) : gcds (qs.take (i + 1)) = gcdQ (gcds (qs.take i)) q := by
  rw [take_at h]
  unfold gcds
  rw [List.foldl_append]
  rfl

end AZ
namespace AZ
open PySem L2
/-! ## greatest, least and common -/
def spEnd (C : Addr) (g : Bool) : Sp := fun vs H Q _ => ∃ v qs, vs = [v] ∧ Good' C H v qs ∧ qs ≠ [] ∧ (∀ q ∈ qs, Sz 2000 q) ∧ ∀ p q H', Same H H' → IsRat C H' p q → IsEnd g qs q → Q (.ref p) H'
def spEndX (K : PySem.W.Frag) (C CB : Addr) : Sp := fun vs H _ E => ∃ v, vs = [v] ∧ BadB K C CB H v E
def spCom (C : Addr) : Sp := fun vs H Q _ => ∃ v qs m, vs = [v] ∧ Good' C H v qs ∧ (∀ q ∈ qs, Sz m q) ∧ 1 + (qs.length + 1) * m ≤ 2000 ∧ ∀ p H', Same H H' → IsRat C H' p (gcds qs) → Q (.ref p) H'
section
variable {P : Program} {w : World} {K : PySem.W.Frag} {mg : Str → Option Value} {base : Heap} {d : Ad}
abbrev spHi (K : PySem.W.Frag) (d : Ad) (g : Bool) : Sp := fun vs H Q E => spEnd d.Ratio g vs H Q E ∨ spEndX K d.Ratio d.BadRatio vs H Q E
abbrev spCo (K : PySem.W.Frag) (d : Ad) : Sp := fun vs H Q E => spCom d.Ratio vs H Q E ∨ spAllX K d.Ratio d.BadRatio vs H Q E
theorem spHi_len {g : Bool} : ∀ vs H Q E, spHi K d g vs H Q E → vs.length = 1 := fun vs H Q E h => by rcases h with ⟨v, qs, rfl, _⟩ | ⟨v, rfl, _⟩ <;> rfl
theorem spCo_len : ∀ vs H Q E, spCo K d vs H Q E → vs.length = 1 := fun vs H Q E h => by rcases h with ⟨v, qs, m, rfl, _⟩ | ⟨v, rfl, _⟩ <;> rfl
theorem GX_Ratio_highest (T : Tx K mg d) : FnG P w K mg base (CXx P w) 7 d.Ratio_highest (spHi K d true) := by
  have GX_bound_of := GX_bound_of (P := P) (w := w) (base := base) T
  obtain ⟨fd, F⟩ := T.F_Ratio_highest
  refine fnX_of (k := 6) F sc_Ratio_highest (sp := spHi K d true) (fun vs H Q E h => ?_) (fun cdv A outer s H vs Q E ng hr tk h => ?_) (F.binds fun _ _ _ _ _ _ us hl => match us, hl with | [_], _ => rfl)
  · exact spHi_len _ _ _ _ h
  · -- slots: 0 values
    refine ⟨_, (pss_one (ps_ret (pe_fnG GX_bound_of ng (hr.mono (by decide)) T.k_bound_of T.m_bound_of (on tk) (pa_cons (pv 0) (pa_cons pe_bl pa_nil))))), ?_⟩
    rcases h with ⟨v, qs, rfl, hg, hne, hz, k⟩ | ⟨v, rfl, h⟩
    · exact ⟨_, rfl, Or.inl ⟨v, true, qs, rfl, hg, hne, hz, k⟩⟩
    · exact ⟨_, rfl, Or.inr ⟨v, true, rfl, h⟩⟩
theorem GO_Ratio_lowest (T : Tx K mg d) : ∃ fd, Binds K fd ["values"] [] ∧ (∀ a : Value, bindArgs fd ⟨[], [(("values" : Str), a)]⟩ = pure [(("values" : Str), a)]) ∧ FnOG P w K mg base (CXx P w) 7 d.Ratio_lowest fd ["values"] (spHi K d false) := by
  have GX_bound_of := GX_bound_of (P := P) (w := w) (base := base) T
  obtain ⟨fd, F⟩ := T.F_Ratio_lowest
  refine ⟨fd, F.binds fun _ _ _ _ _ _ us hl => match us, hl with | [_], _ => rfl, ?_, fnXO_of (k := 6) F sc_Ratio_lowest spHi_len (fun cdv A outer s H vs Q E ng hr tk h => ?_)⟩
  · obtain ⟨oc, od, kV, doc, pm, an, cdv, ct, osl, rfl, lk, cg⟩ := F.ex
    exact fun a => rfl
  · -- slots: 0 values
    refine ⟨_, (pss_one (ps_ret (pe_fnG GX_bound_of ng (hr.mono (by decide)) T.k_bound_of T.m_bound_of (on tk) (pa_cons (pv 0) (pa_cons pe_bl pa_nil))))), ?_⟩
    rcases h with ⟨v, qs, rfl, hg, hne, hz, k⟩ | ⟨v, rfl, h⟩
    · exact ⟨_, rfl, Or.inl ⟨v, false, qs, rfl, hg, hne, hz, k⟩⟩
    · exact ⟨_, rfl, Or.inr ⟨v, false, rfl, h⟩⟩
theorem GX_Ratio_lowest (T : Tx K mg d) : FnG P w K mg base (CXx P w) 7 d.Ratio_lowest (spHi K d false) :=
  let ⟨_, b, _, F⟩ := GO_Ratio_lowest (P := P) (w := w) (base := base) T
  F.pos spHi_len b
theorem GK_Ratio_lowest (T : Tx K mg d) : FnGk P w K mg base (CXx P w) 7 d.Ratio_lowest ["values"] g01 (spHi K d false) :=
  let ⟨_, _, b, F⟩ := GO_Ratio_lowest (P := P) (w := w) (base := base) T
  F.key01 spHi_len b
theorem GO_Ratio_common (T : Tx K mg d) : ∃ fd, Binds K fd ["values"] [] ∧ (∀ a : Value, bindArgs fd ⟨[], [(("values" : Str), a)]⟩ = pure [(("values" : Str), a)]) ∧ FnOG P w K mg base (CXx P w) 6 d.Ratio_common fd ["values"] (spCo K d) := by
  have GX_all_numbers := GX_all_numbers (P := P) (w := w) (base := base) T
  have G_Ratio___init__ : FnR P w K mg base CX0 2 d.Ratio___init__ _ := G_Ratio___init__ T
  obtain ⟨fd, F⟩ := T.F_Ratio_common
  refine ⟨fd, F.binds fun _ _ _ _ _ _ us hl => match us, hl with | [_], _ => rfl, ?_, fnXO_of (k := 5) F sc_Ratio_common spCo_len (fun cdv A outer s H vs Q E ng hr tk h => ?_)⟩
  · obtain ⟨oc, od, kV, doc, pm, an, cdv, ct, osl, rfl, lk, cg⟩ := F.ex
    exact fun a => rfl
  · -- slots: 0 values, 1 shared, 2 number, 3 over
    refine ⟨_, (pss_cons (ps_set (i := 1) sc_Ratio_common.nd rfl (Or.inl rfl) (StX.pe_makeR T.mk_Ratio G_Ratio___init__ (hr.mono (by decide)) rfl T.m_Ratio pass0 (pa_cons pe_int pa_nil)))
      (pss_cons (ps_for (passes_of rfl) rfl (pi_list (pe_fnG GX_all_numbers ng (hr.mono (by decide)) T.k_all_numbers T.m_all_numbers (on tk) (pa_cons (pv 0) pa_nil))) (pg_name (i := 2) sc_Ratio_common.nd rfl (Or.inl rfl)) (pss_cons (ps_set (i := 3) sc_Ratio_common.nd rfl (Or.inl rfl) (pe_callBfun cr_gcd rfl T.m_gcd (pa_cons (pe_op uMul (pe_fld (pv 1) rfl) (pe_fld (pv 2) rfl)) (pa_cons (pe_op uMul (pe_fld (pv 2) rfl) (pe_fld (pv 1) rfl)) pa_nil))))
      (pss_one (ps_set (i := 1) sc_Ratio_common.nd rfl (Or.inl rfl) (StX.pe_makeR T.mk_Ratio G_Ratio___init__ (hr.mono (by decide)) rfl T.m_Ratio pass0 (pa_cons (pv 3) (pa_cons (pe_op uMul (pe_fld (pv 1) rfl) (pe_fld (pv 2) rfl)) pa_nil)))))))
      (pss_one (ps_ret (pv 1))))), ?_⟩
    refine fun x dx nx nd nn => Or.inr (made' nx nd (by decide) (by decide) fun Ha ea ra => ⟨rfl, ?_⟩)
    have z0 : Rat.divInt 0 1 = gcds [] := by decide +kernel
    rw [z0] at ra
    clear nx nd nn
    try dsimp only [tNext, gName]
    rcases h with ⟨v, qs, m, rfl, hg, hz, hm, k⟩ | ⟨v, rfl, h⟩
    · refine ⟨_, rfl, Or.inl ⟨v, qs, rfl, hg.same ea, fun l ys H1 e1 _ hl hR => ⟨l, rfl, ⟨_, SqL.of hl⟩, ?_⟩⟩⟩
      refine for_list (xs := ys) (fun i σ' H' => ∃ px z2 z3, σ' = [some v, some (.ref px), z2, z3] ∧ Same H1 H' ∧ IsRat d.Ratio H' px (gcds (qs.take i))) ⟨x, none, none, rfl, Same.refl _, ra.same e1⟩
        (fun i σ' H' _ h => by obtain ⟨_, _, _, _, e3, _⟩ := h; exact SqL.of (e3 _ _ hl)) (fun i y σ' H' hy h => ?_) (fun σ' H' h => ?_)
      · obtain ⟨px, z2, z3, rfl, e3, rs⟩ := h
        obtain ⟨q, hq, pn, rfl, rn⟩ := pd_at (hR.same e3) hy
        have il : i < qs.length := (List.getElem?_eq_some_iff.mp hq).1
        have bd : 1 + i * m + m ≤ 2000 := by
          have : i * m ≤ qs.length * m := Nat.mul_le_mul_right m (by omega)
          rw [Nat.add_mul] at hm
          omega
        have zs : Sz 2000 (gcds (qs.take i)) := by
          have h1 := sz_gcds (m := m) (qs := qs.take i) fun y hy => hz y (List.mem_of_mem_take hy)
          rw [List.length_take, Nat.min_eq_left (by omega)] at h1
          exact sz_mono h1 (by omega)
        have zq : Sz 2000 q := sz_mono (hz q (List.mem_of_getElem? hq)) (by omega)
        have gt := gcds_take hq
        generalize gcds (qs.take i) = s at rs zs gt
        obtain ⟨dx, hs⟩ := rs
        obtain ⟨dn, hn⟩ := rn
        dsimp only [gName]
        refine ⟨_, rfl, px, _, dx, _, _, rfl, hs, T.c_Ratio, T.a_Ratio_over, rfl, _, rfl, pn, _, dn, _, _, rfl, hn, T.c_Ratio, T.a_Ratio_under, rfl, Or.inl ⟨_, _, rfl, rfl, mul2 (szN zs) (szD zq), _, rfl, pn, _, dn, _, _, rfl, hn, T.c_Ratio, T.a_Ratio_over, rfl, _, rfl, px, _, dx, _, _, rfl, hs, T.c_Ratio, T.a_Ratio_under, rfl, Or.inl ⟨_, _, rfl, rfl, mul2 (szN zq) (szD zs), ⟨_, _, rfl, ?_⟩⟩⟩⟩
        refine ⟨_, rfl, _, rfl, px, _, dx, _, _, rfl, hs, T.c_Ratio, T.a_Ratio_under, rfl, _, rfl, pn, _, dn, _, _, rfl, hn, T.c_Ratio, T.a_Ratio_under, rfl, Or.inl ⟨_, _, rfl, rfl, mul2 (szD zs) (szD zq), fun p dp np nd ne => Or.inl (made' np nd (den0 s q) (den2 zs zq) fun H4 e4 r4 => ⟨rfl, ?_⟩)⟩⟩
        exact ⟨p, _, _, rfl, e3.trans e4, by rw [gt]; exact r4⟩
      · obtain ⟨px, z2, z3, rfl, e3, rs⟩ := h
        rw [pd_len hR, List.take_length] at rs
        exact ⟨_, rfl, k px H' ((ea.trans e1).trans e3) rs⟩
    · exact ⟨_, rfl, Or.inr ⟨v, rfl, h.same ea⟩⟩
theorem GX_Ratio_common (T : Tx K mg d) : FnG P w K mg base (CXx P w) 6 d.Ratio_common (spCo K d) :=
  let ⟨_, b, _, F⟩ := GO_Ratio_common (P := P) (w := w) (base := base) T
  F.pos spCo_len b
theorem GK_Ratio_common (T : Tx K mg d) : FnGk P w K mg base (CXx P w) 6 d.Ratio_common ["values"] g01 (spCo K d) :=
  let ⟨_, _, b, F⟩ := GO_Ratio_common (P := P) (w := w) (base := base) T
  F.key01 spCo_len b
end

end AZ
namespace AZ
open PySem L2
/-! ## drawn integers and fractions -/
theorem pen_mono {H : Hp} {p l : Addr} {n m : Nat} (h : PenL H p l n) (e : n ≤ m) : PenL H p l m := by
  obtain ⟨ns, s, g, a, b, c, h1, h2, h3⟩ := h
  exact ⟨ns, s, g, a, b, c, h1, h2, by omega⟩
theorem pen_up {H H' : Hp} {p l : Addr} {n : Nat} (h : PenL H p l n) (e : Same H H') : PenL H' p l n := by
  obtain ⟨ns, s, g, a, b, c, r⟩ := h
  exact ⟨ns, s, g, a, e _ _ b, e _ _ c, r⟩
theorem pen_ext {H H' : Hp} {p l : Addr} {n : Nat} (h : PenL H p l n) (e : LamX.ExtN H H') : PenL H' p l n := by
  obtain ⟨ns, s, g, a, b, c, r⟩ := h
  exact ⟨ns, s, g, a, e _ _ b (fun _ z => nomatch z), e _ _ c (fun _ z => nomatch z), r⟩
theorem pen_at {H : Hp} {p l q : Addr} {n : Nat} {o : HO} (h : PenL H p l n) (hp : q ≠ p) (hl : q ≠ l) : PenL (upd H q o) p l n := by
  obtain ⟨ns, s, g, a, b, c, r⟩ := h
  exact ⟨ns, s, g, a, by rw [upd_ne (Ne.symm hp)]; exact b, by rw [upd_ne (Ne.symm hl)]; exact c, r⟩
theorem pen_ne {H : Hp} {p l q : Addr} {n : Nat} (h : PenL H p l n) (hq : H q = none) : q ≠ p ∧ q ≠ l := by
  obtain ⟨ns, s, g, a, b, c, r⟩ := h
  exact ⟨(ne_of_none b hq).symm, (ne_of_none c hq).symm⟩
theorem up_at {H H' : Hp} {p q : Addr} {o : HO} (e : Up p H H') (h : H q = none) : Up p H (upd H' q o) := fun b x hb hn => by
  rw [upd_ne (fun z => by rw [z, h] at hb; cases hb)]
  exact e b x hb hn
theorem if_join {tc : TT} {tb u : TS} {D : Ends} {σ : L2.St} {H : Hp} (I : L2.St → Hp → Prop) (h : ∀ N : L2.St → Hp → Prop, (∀ σ' H', I σ' H' → N σ' H') → tc σ H (fun b H1 => if b = true then tb { D with nx := N } σ H1 else N σ H1)) (k : ∀ σ' H', I σ' H' → u D σ' H') : tSeq (tIfS tc tb tNext) u D σ H := h (u D) k
theorem fdiv_bd {a b : Int} (hb : 0 < b) : (a.fdiv b).natAbs ≤ a.natAbs := by
  rw [Int.fdiv_eq_ediv_of_nonneg _ (by omega)]
  exact Int.natAbs_ediv_le_natAbs a b
theorem mul_bd {a b : Int} (h1 : a.natAbs < 2 ^ 100) (h2 : b.natAbs < 2 ^ 100) : (a * b).natAbs < 2 ^ 200 := by
  rw [Int.natAbs_mul]
  exact mul_lt2 h1 h2
def spIntL : Sp := fun vs H Q _ => ∃ (p lp : Addr) (n : Nat), vs = [.ref p] ∧ PenL H p lp n ∧ n < 99000 ∧ ∀ (i : Int) H', i.natAbs < 2 ^ 100 → PenL H' p lp (n + 3) → Up p H H' → Q (.int i) H'
def spPairL : Sp := fun vs H Q _ => ∃ (p lp : Addr) (n : Nat), vs = [.ref p] ∧ PenL H p lp n ∧ n < 99000 ∧ ∀ t (a b : Int) H', H' t = some (.tup [.int a, .int b]) → 0 < b → a.natAbs < 2 ^ 100 → b.natAbs < 2 ^ 100 → PenL H' p lp (n + 6) → Up p H H' → Q (.ref t) H'
section
variable {P : Program} {w : World} {K : PySem.W.Frag} {mg : Str → Option Value} {base : Heap} {d : Ad}
theorem G__law_intL (T : Tx K mg d) : FnR P w K mg base CX0 3 d._law_int spIntL := by
  have G__law_draw : FnR P w K mg base CX0 1 d._law_draw spDrawL := G__law_drawL T
  have G__law_pick : FnR P w K mg base CX0 2 d._law_pick spPickL := G__law_pickL T
  obtain ⟨fd, F⟩ := T.F__law_int
  refine FnR.imp (FnOk.raw (F.ok sc__law_int (k := 2) (sp := spIntL) (fun vs H Q E h => ?_) (fun cdv A outer s H vs Q E hr h => ?_)) (F.binds fun _ _ _ _ _ _ us hl => match us, hl with | [_], _ => rfl) .nil) fun vs H Q E h => by rw [List.append_nil]; exact h
  · obtain ⟨p, lp, n, rfl, _⟩ := h
    rfl
  · obtain ⟨p, lp, n, rfl, hp, hn, k⟩ := h
    -- slots: 0 _law_pen_here, 1 _law_far
    refine ⟨_, (pss_cons (ps_set (i := 1) sc__law_int.nd rfl (Or.inl rfl) (pe_op uAdd (pe_op op_pow pe_int pe_int) (pe_fnR G__law_draw (hr.mono (by decide)) T.k__law_draw T.m__law_draw pass0 (pa_cons (pv 0) (pa_cons pe_int pa_nil)))))
      (pss_one (ps_ret (pe_fnR G__law_pick (hr.mono (by decide)) T.k__law_pick T.m__law_pick pass0 (pa_cons (pv 0) (pa_cons (pe_lst (pa_cons pe_int (pa_cons pe_int (pa_cons (pe_un uNeg pe_int) (pa_cons pe_int (pa_cons (pe_un uNeg pe_int) (pa_cons pe_int (pa_cons pe_int (pa_cons (pv 1) (pa_cons (pe_un uNeg (pv 1)) (pa_cons (pe_op uSub (pe_fnR G__law_draw (hr.mono (by decide)) T.k__law_draw T.m__law_draw pass0 (pa_cons (pv 0) (pa_cons pe_int pa_nil))) pe_int) pa_nil))))))))))) pa_nil)))))), ?_⟩
    refine ⟨_, _, rfl, rfl, ⟨by decide, by decide, by decide⟩, _, rfl, ⟨p, lp, n, _, rfl, hp, by omega, by decide, by decide, fun e H1 e0 e1 hp1 u1 => Or.inl ⟨_, _, rfl, rfl, ?_⟩⟩⟩
    have e30 : (10 : Int) ^ Int.toNat 30 = 1000000000000000000000000000000 := by decide +kernel
    refine ⟨_, rfl, Or.inl ⟨_, rfl, Or.inl ⟨_, rfl, _, rfl, _, rfl, Or.inl ⟨_, rfl, _, rfl, ⟨p, lp, n + 1, _, rfl, hp1, by omega, by decide, by decide, fun g H2 g0 g1 hp2 u2 => Or.inl ⟨_, _, rfl, rfl, (by show 10 ≤ sizeLine; decide), fun L hL => ?_⟩⟩⟩⟩⟩⟩
    have nL : L ≠ p := by
      obtain ⟨ns', s', g', h1, h2, h3⟩ := id hp2
      exact (ne_of_none h2 hL).symm
    refine ⟨p, lp, L, n + 2, _, rfl, pen_up hp2 (sameNew hL), by omega, Or.inl ⟨upd_same, nL⟩, (by simp), (by simp), fun x H3 hx hp3 u3 => ?_⟩
    have uu := (u1.trans u2).trans ((Up.new hL).trans u3)
    obtain ⟨i, rfl, hi⟩ : ∃ i : Int, x = .int i ∧ i.natAbs < 2 ^ 100 := by
      simp only [List.mem_cons, List.not_mem_nil, or_false] at hx
      rcases hx with rfl | rfl | rfl | rfl | rfl | rfl | rfl | rfl | rfl | rfl <;> exact ⟨_, rfl, by omega⟩
    exact k i H3 hi hp3 uu
theorem G__law_pairL (T : Tx K mg d) : FnR P w K mg base CX0 4 d._law_pair spPairL := by
  have G__law_draw : FnR P w K mg base CX0 1 d._law_draw spDrawL := G__law_drawL T
  have G__law_pick : FnR P w K mg base CX0 2 d._law_pick spPickL := G__law_pickL T
  have G__law_int : FnR P w K mg base CX0 3 d._law_int spIntL := G__law_intL T
  obtain ⟨fd, F⟩ := T.F__law_pair
  refine FnR.imp (FnOk.raw (F.ok sc__law_pair (k := 3) (sp := spPairL) (fun vs H Q E h => ?_) (fun cdv A outer s H vs Q E hr h => ?_)) (F.binds fun _ _ _ _ _ _ us hl => match us, hl with | [_], _ => rfl) .nil) fun vs H Q E h => by rw [List.append_nil]; exact h
  · obtain ⟨p, lp, n, rfl, _⟩ := h
    rfl
  · obtain ⟨p, lp, n, rfl, hp, hn, k⟩ := h
    -- slots: 0 _law_pen_here
    refine ⟨_, (pss_one (ps_ret (pe_tup (pa_cons (pe_fnR G__law_int (hr.mono (by decide)) T.k__law_int T.m__law_int pass0 (pa_cons (pv 0) pa_nil)) (pa_cons (pe_fnR G__law_pick (hr.mono (by decide)) T.k__law_pick T.m__law_pick pass0 (pa_cons (pv 0) (pa_cons (pe_lst (pa_cons pe_int (pa_cons pe_int (pa_cons pe_int (pa_cons pe_int (pa_cons pe_int (pa_cons pe_int (pa_cons pe_int (pa_cons (pe_op uAdd (pe_op op_pow pe_int pe_int) (pe_fnR G__law_draw (hr.mono (by decide)) T.k__law_draw T.m__law_draw pass0 (pa_cons (pv 0) (pa_cons pe_int pa_nil)))) (pa_cons (pe_op uAdd pe_int (pe_fnR G__law_draw (hr.mono (by decide)) T.k__law_draw T.m__law_draw pass0 (pa_cons (pv 0) (pa_cons pe_int pa_nil)))) pa_nil)))))))))) pa_nil))) pa_nil))))), ?_⟩
    refine ⟨_, rfl, ⟨p, lp, n, rfl, hp, hn, fun i H1 hi hp1 u1 => ?_⟩⟩
    have e30 : (10 : Int) ^ Int.toNat 30 = 1000000000000000000000000000000 := by decide +kernel
    refine ⟨_, rfl, _, _, rfl, rfl, ⟨by decide, by decide, by decide⟩, _, rfl, ⟨p, lp, n + 3, _, rfl, hp1, by omega, by decide, by decide, fun e H2 e0 e1 hp2 u2 => Or.inl ⟨_, _, rfl, rfl, _, rfl, ⟨p, lp, n + 4, _, rfl, hp2, by omega, by decide, by decide, fun g H3 g0 g1 hp3 u3 => Or.inl ⟨_, _, rfl, rfl, (by show 9 ≤ sizeLine; decide), fun L hL => ?_⟩⟩⟩⟩⟩
    have nL : L ≠ p := by
      obtain ⟨ns', s', g', h1, h2, h3⟩ := id hp3
      exact (ne_of_none h2 hL).symm
    refine ⟨p, lp, L, n + 5, _, rfl, pen_up hp3 (sameNew hL), by omega, Or.inl ⟨upd_same, nL⟩, (by simp), (by simp), fun x H4 hx hp4 u4 => ?_⟩
    have uu := ((u1.trans u2).trans u3).trans ((Up.new hL).trans u4)
    obtain ⟨b, rfl, hb0, hb⟩ : ∃ b : Int, x = .int b ∧ 0 < b ∧ b.natAbs < 2 ^ 100 := by
      simp only [List.mem_cons, List.not_mem_nil, or_false] at hx
      rcases hx with rfl | rfl | rfl | rfl | rfl | rfl | rfl | rfl | rfl <;> exact ⟨_, rfl, by omega, by omega⟩
    refine ⟨(by show 2 ≤ sizeLine; decide), fun t ht => ?_⟩
    exact k t i b _ upd_same hb0 hi hb (pen_up hp4 (sameNew ht)) (uu.trans (Up.new ht))
end

end AZ
namespace AZ
open PySem L2
/-! ## drawn numbers; the divisor of some integers -/
def spDrawn (C : Addr) : Sp := fun vs H Q _ => ∃ (p lp : Addr) (n : Nat), vs = [.ref p, .int 5] ∧ PenL H p lp n ∧ n < 90000 ∧
  ∀ l xs qs H', H l = none → H' l = some (.lst xs) → Nums C H' xs qs → xs.length ≤ 5 → (∀ q ∈ qs, Sz 101 q) → PenL H' p lp (n + 60) → Up p H H' → Q (.ref l) H'
def spDiv1 (K : PySem.W.Frag) : Sp := fun vs H Q _ => ∃ (a : Addr) (ns : List Int), vs = [.ref a] ∧ H a = some (.lst (ns.map V.int)) ∧ ∀ r : Int, 0 ≤ r → (∀ n ∈ ns, r ∣ n) → Q (.int r) H
theorem while_to {c : TT} {tb : TS} {D : Ends} {σ : L2.St} {H : Hp} (Pv : L2.St → Hp → Prop) (μ : L2.St → Hp → Nat) (h0 : Pv σ H)
    (hs : ∀ σ H, Pv σ H → c σ H fun b H1 => if b = true then ∃ N : L2.St → Hp → Prop, (∀ σ' H', N σ' H' → ∃ m', m' < μ σ H ∧ m' = μ σ' H' ∧ Pv σ' H') ∧ tb { D with nx := N, ct := N, bk := D.nx } σ H1 else D.nx σ H1) : tWhile c tb D σ H :=
  ⟨fun m σ H => m = μ σ H ∧ Pv σ H, ⟨_, rfl, h0⟩, by rintro m σ H ⟨rfl, p⟩; exact hs σ H p⟩
theorem st_eq {u : TS} {D : Ends} {σ σ' : L2.St} {H : Hp} (e : σ = σ') (h : u D σ' H) : u D σ H := e ▸ h
section
variable {P : Program} {w : World} {K : PySem.W.Frag} {mg : Str → Option Value} {base : Heap} {d : Ad}
theorem G__law_drawn (T : Tx K mg d) : FnR P w K mg base CX0 5 d._law_drawn (spDrawn d.Ratio) := by
  have G__law_draw : FnR P w K mg base CX0 1 d._law_draw spDrawL := G__law_drawL T
  have G__law_pair : FnR P w K mg base CX0 4 d._law_pair spPairL := G__law_pairL T
  have G_Ratio___init__ : FnR P w K mg base CX0 2 d.Ratio___init__ _ := G_Ratio___init__ T
  obtain ⟨fd, F⟩ := T.F__law_drawn
  refine FnR.imp (FnOk.raw (F.ok sc__law_drawn (k := 4) (sp := spDrawn d.Ratio) (fun vs H Q E h => ?_) (fun cdv A outer s H vs Q E hr h => ?_)) (F.binds fun _ _ _ _ _ _ us hl => match us, hl with | [_, _], _ => rfl) .nil) fun vs H Q E h => by rw [List.append_nil]; exact h
  · obtain ⟨p, lp, n, rfl, _⟩ := h
    rfl
  · obtain ⟨p, lp, n, rfl, hp, hn, k⟩ := h
    -- slots: 0 _law_pen_here, 1 _law_most, 2 _law_found, 3 _law_turn, 4 _law_over, 5 _law_under
    refine ⟨_, (pss_cons (ps_set (i := 2) sc__law_drawn.nd rfl (Or.inl rfl) (pe_lst pa_nil))
      (pss_cons (ps_for PassesOwn.never rfl (pi_range1 rfl T.n_range (pa_cons (pe_fnR G__law_draw (hr.mono (by decide)) T.k__law_draw T.m__law_draw pass0 (pa_cons (pv 0) (pa_cons (pe_op uAdd (pv 1) pe_int) pa_nil))) pa_nil)) (pg_name (i := 3) sc__law_drawn.nd rfl (Or.inl rfl)) (pss_cons (ps_asg (pe_fnR G__law_pair (hr.mono (by decide)) T.k__law_pair T.m__law_pair pass0 (pa_cons (pv 0) pa_nil)) (pg_tup (by rfl) (pgs_cons (pg_name (i := 4) sc__law_drawn.nd rfl (Or.inl rfl)) (pgs_cons (pg_name (i := 5) sc__law_drawn.nd rfl (Or.inl rfl)) pgs_nil))))
      (pss_one (ps_expr (pe_bm PySem.F.plainAttrs_list PySem.F.slot_list_append PySem.F.type_list_append mt_append (pv 2) (pa_cons (pe_ifExp (pt_cmpR uGt (pe_fnR G__law_draw (hr.mono (by decide)) T.k__law_draw T.m__law_draw pass0 (pa_cons (pv 0) (pa_cons pe_int pa_nil))) pe_int (nomark _)) (StX.pe_makeR T.mk_Ratio G_Ratio___init__ (hr.mono (by decide)) rfl T.m_Ratio pass0 (pa_cons (pv 4) (pa_cons (pv 5) pa_nil))) (pv 4)) pa_nil))))))
      (pss_one (ps_ret (pv 2))))), ?_⟩
    refine ⟨(by show 0 ≤ sizeLine; decide), fun l hl => ?_⟩
    obtain ⟨nlp, nll⟩ := pen_ne hp hl
    have hp0 := pen_up hp (sameNew (o := HO.lst []) hl)
    have u0 : Up p H _ := Up.new (o := HO.lst []) hl
    have hl0 : upd H l (.lst []) l = some (.lst []) := upd_same
    clear hp
    generalize upd H l (HO.lst []) = H0 at hp0 u0 hl0 ⊢
    try dsimp only [tNext, gName]
    refine ⟨_, rfl, _, rfl, Or.inl ⟨_, _, rfl, rfl, ⟨p, lp, n, _, rfl, hp0, by omega, by decide, by decide, fun m H1 m0 m1 hp1 u1 => ?_⟩⟩⟩
    obtain ⟨m, rfl⟩ : ∃ j : Nat, m = (j : Int) := ⟨m.toNat, by omega⟩
    have hl1 := u1.lst hl0 nlp
    refine ⟨m, rfl, ?_, ?_, for_range (n := m) (fun i σ' H' => ∃ z3 z4 z5 xs qs, σ' = [some (.ref p), some (.int 5), some (.ref l), z3, z4, z5] ∧ H' l = some (.lst xs) ∧ Nums d.Ratio H' xs qs ∧ xs.length = i ∧ (∀ q ∈ qs, Sz 101 q) ∧ PenL H' p lp (n + 1 + 7 * i) ∧ Up p H H')
      ⟨none, none, none, [], [], rfl, hl1, .nil, rfl, (by simp), hp1, u0.trans u1⟩ (fun i σ' H' hi h => ?_) (fun σ' H' h => ?_)⟩
    · omega
    · omega
    · obtain ⟨z3, z4, z5, xs, qs, rfl, hx, hn', hlen, hz, hp', u⟩ := h
      dsimp only [gName]
      refine ⟨_, rfl, ⟨p, lp, _, rfl, hp', by omega, fun t x y H2 ht hy zx zy hp2 u2 => ?_⟩⟩
      have hx2 := u2.lst hx nlp
      have hn2 := hn'.up u2
      have u3 := u.trans u2
      clear hp' hx hn' u u2
      refine ⟨t, _, rfl, SqT.of ht, rfl, _, _, rfl, _, _, rfl, rfl, ?_⟩
      dsimp only [gName]
      refine ⟨_, rfl, .inl ⟨rfl, _, SqL.of hx2⟩, _, rfl, ⟨p, lp, _, _, rfl, hp2, by omega, by decide, by decide, fun g H3 g0 g1 hp3 u4 => Or.inl ⟨_, _, rfl, rfl, _, rfl, ite2 (fun hg => ?_) (fun hg => ?_)⟩⟩⟩
      · refine ⟨_, rfl, _, rfl, fun q dq nq nd ne => Or.inl (made' nq nd (by omega) (Nat.lt_of_lt_of_le zy (Nat.pow_le_pow_right (by decide) (by decide))) fun H4 e4 r4 => ⟨rfl, ?_⟩)⟩
        have hx4 := e4 _ _ (u4.lst hx2 nlp)
        have hp4 := pen_up hp3 e4
        have uq := (u3.trans u4).trans (Up.same e4)
        refine ⟨l, xs, _, rfl, rfl, hx4, Nat.lt_of_lt_of_le (show xs.length < 1000 by omega) (by decide), ?_⟩
        have up4 : Up l H4 (upd H4 l (.lst (xs ++ [.ref q]))) := Up.put hx4
        refine ⟨_, _, _, _, qs ++ [Rat.divInt x y], rfl, upd_same, paired_append ((((hn2.up u4).same e4).up up4)) (.cons (Or.inr ⟨q, rfl, r4.up up4⟩) .nil), by simp [hlen], fun z hm => ?_, pen_mono (pen_at hp4 nlp nll) (by omega), up_at uq hl⟩
        rcases List.mem_append.mp hm with hm | hm
        · exact hz z hm
        · rw [List.mem_singleton.mp hm]
          exact sz_mono (sz_di (n := 100) (by omega) zx zy) (by decide)
      · have hx4 := u4.lst hx2 nlp
        have uq := u3.trans u4
        refine ⟨_, rfl, l, xs, _, rfl, rfl, hx4, Nat.lt_of_lt_of_le (show xs.length < 1000 by omega) (by decide), ?_⟩
        have up4 : Up l H3 (upd H3 l (.lst (xs ++ [.int x]))) := Up.put hx4
        refine ⟨_, _, _, _, qs ++ [(x : Rat)], rfl, upd_same, paired_append (((hn2.up u4).up up4)) (.cons (Or.inl ⟨x, rfl, rfl⟩) .nil), by simp [hlen], fun z hm => ?_, pen_mono (pen_at hp3 nlp nll) (by omega), up_at uq hl⟩
        rcases List.mem_append.mp hm with hm | hm
        · exact hz z hm
        · rw [List.mem_singleton.mp hm]
          exact sz_mono (sz_i zx (by decide)) (by decide)
    · obtain ⟨z3, z4, z5, xs, qs, rfl, hx, hn', hlen, hz, hp', u⟩ := h
      exact ⟨_, rfl, k l xs qs H' hl hx hn' (by omega) hz (pen_mono hp' (by omega)) u⟩
theorem G__law_divisor (T : Tx K mg d) : FnR P w K mg base CX0 1 d._law_divisor (spDiv1 K) := by
  obtain ⟨fd, F⟩ := T.F__law_divisor
  refine FnR.imp (FnOk.raw (F.ok sc__law_divisor (k := 0) (sp := spDiv1 K) (fun vs H Q E h => ?_) (fun cdv A outer s H vs Q E hr h => ?_)) (F.binds fun _ _ _ _ _ _ us hl => match us, hl with | [_], _ => rfl) .nil) fun vs H Q E h => by rw [List.append_nil]; exact h
  · obtain ⟨a, ns, rfl, _⟩ := h
    rfl
  · obtain ⟨a, ns, rfl, ha, k⟩ := h
    -- slots: 0 _law_numbers, 1 _law_found, 2 _law_number, 3 _law_one, 4 _law_other
    refine ⟨_, (pss_cons (ps_set (i := 1) sc__law_divisor.nd rfl (Or.inl rfl) pe_int)
      (pss_cons (ps_for PassesOwn.never rfl (pi_list (pv 0)) (pg_name (i := 2) sc__law_divisor.nd rfl (Or.inl rfl)) (pss_cons (ps_par (i := 3) (j := 4) (by rfl) sc__law_divisor.nd rfl rfl (by decide) rfl rfl (pa_cons (pe_callB call_abs (by rfl) T.n_abs (by decide +kernel) (pa_cons (pv 2) pa_nil)) (pa_cons (pv 1) pa_nil)) (by rfl))
      (pss_cons (ps_while PassesOwn.never (pt_cmpR uGt (pv 4) pe_int (nomark _)) (pss_one (ps_par (i := 3) (j := 4) (by rfl) sc__law_divisor.nd rfl rfl (by decide) rfl rfl (pa_cons (pv 4) (pa_cons (pe_op uMod (pe_callTy call_int1 (by rfl) T.n_int (by decide +kernel) (pa_cons (pv 3) pa_nil)) (pv 4)) pa_nil)) (by rfl))))
      (pss_one (ps_set (i := 1) sc__law_divisor.nd rfl (Or.inl rfl) (pv 3))))))
      (pss_one (ps_ret (pv 1))))), ?_⟩
    try dsimp only [tNext, gName]
    refine ⟨_, rfl, a, rfl, ⟨_, SqL.of ha⟩, ?_⟩
    refine for_list (xs := ns.map V.int) (fun i σ' H' => ∃ r z2 z3 z4, σ' = [some (.ref a), some (.int r), z2, z3, z4] ∧ H = H' ∧ 0 ≤ r ∧ ∀ n ∈ ns.take i, r ∣ n) ⟨0, none, none, none, rfl, rfl, Int.le_refl _, by simp⟩
      (fun i σ' H' _ h => by obtain ⟨_, _, _, _, _, e, _⟩ := h; exact SqL.of (e ▸ ha)) (fun i x σ' H' hx h => ?_) (fun σ' H' h => ?_)
    · obtain ⟨r, z2, z3, z4, rfl, rfl, r0, hd⟩ := h
      rw [List.getElem?_map] at hx
      obtain ⟨n, hn, rfl⟩ := Option.map_eq_some_iff.mp hx
      dsimp only [gName]
      refine ⟨_, rfl, _, rfl, _, rfl, _, _, rfl, ?_⟩
      try dsimp only [tNext, gName]
      refine st_eq (σ' := [some (.ref a), some (.int r), some (.int n), some (.int (if n < 0 then -n else n)), some (.int r)]) rfl ?_
      refine while_to (fun σ' H' => ∃ x y : Int, σ' = [some (.ref a), some (.int r), some (.int n), some (.int x), some (.int y)] ∧ H = H' ∧ 0 ≤ x ∧ 0 ≤ y ∧ ∀ g : Int, g ∣ x → g ∣ y → g ∣ n ∧ g ∣ r)
        (fun σ' _ => match σ'[4]? with | some (some (V.int y)) => y.toNat | _ => 0) ⟨_, r, rfl, rfl, by split <;> omega, r0, fun g h1 h2 => ⟨by
          split at h1
          · exact (Int.dvd_neg.mp h1)
          · exact h1, h2⟩⟩ (fun σ' H' h => ?_)
      · obtain ⟨x, y, rfl, rfl, x0, y0, hg⟩ := h
        refine ⟨_, rfl, Or.inl ⟨_, _, rfl, rfl, _, rfl, ite2 (fun hy => ?_) (fun hy => ?_)⟩⟩
        · have hy' : 0 < y := of_decide_eq_true hy
          refine ⟨fun σ' H' => ∃ y' : Int, σ' = [some (.ref a), some (.int r), some (.int n), some (.int y), some (.int y')] ∧ H = H' ∧ 0 ≤ y' ∧ y' < y ∧ ∀ g : Int, g ∣ y → g ∣ y' → g ∣ n ∧ g ∣ r,
            fun σ' H' ⟨y', e1, e2, y1, y2, h⟩ => ⟨_, by subst e1; exact (Int.toNat_lt_toNat hy').mpr y2, rfl, y, y', e1, e2, y0, y1, h⟩, ?_⟩
          refine ⟨_, rfl, _, rfl, Or.inl ⟨_, rfl, _, rfl, Or.inl ⟨_, _, rfl, rfl, (by omega), _, _, rfl, ?_⟩⟩⟩
          refine ⟨_, rfl, rfl, Int.fmod_nonneg_of_pos x hy', Int.fmod_lt_of_pos x hy', fun g h1 h2 => hg g ?_ h1⟩
          rw [← Int.mul_fdiv_add_fmod x y]
          exact Int.dvd_add (Int.dvd_mul_of_dvd_left h1) h2
        · have hy' : y = 0 := by have := of_decide_eq_false ((Bool.not_eq_true _).mp hy); omega
          subst hy'
          refine ⟨_, rfl, x, _, _, _, rfl, rfl, x0, fun m hm => ?_⟩
          obtain ⟨g1, g2⟩ := hg x (Int.dvd_refl x) (Int.dvd_zero x)
          rw [take_at hn] at hm
          rcases List.mem_append.mp hm with hm | hm
          · exact Int.dvd_trans g2 (hd m hm)
          · rw [List.mem_singleton.mp hm]; exact g1
    · obtain ⟨r, z2, z3, z4, rfl, rfl, r0, hd⟩ := h
      rw [List.length_map, List.take_length] at hd
      exact ⟨_, rfl, k r r0 hd⟩
end

end AZ
namespace AZ
open PySem L2
/-! ## the ends are told -/
def spEnds (C : Addr) : Sp := fun vs H Q _ => ∃ a xs qs, vs = [.ref a] ∧ H a = some (.lst xs) ∧ Nums C H xs qs ∧ 0 < xs.length ∧ xs.length ≤ 5 ∧ (∀ q ∈ qs, Sz 101 q) ∧ ∀ H', Same H H' → Q (.bl true) H'
theorem in_test {te : TE} {σ : L2.St} {H : Hp} {Q : Bool → Hp → Prop} (h : te σ H fun x H1 => ∃ b, x = .bl b ∧ Q b H1) : tTest te σ H Q := h
theorem in_op {r : R2} {ta tb : TE} {σ : L2.St} {H : Hp} {Q : VK} (h : ta σ H fun x H1 => tb σ H1 fun y H2 => r x y H2 Q) : tOp r ta tb σ H Q := h
theorem in_cb1 {r : List V → Hp → VK → Prop} {te : TE} {σ : L2.St} {H : Hp} {Q : VK} (h : te σ H fun x H1 => r [x] H1 Q) : tCB r (tCons te tNil) σ H Q := h
theorem in_asg {te : TE} {i : Nat} {u : TS} {D : Ends} {σ : L2.St} {H : Hp} (h : te σ H fun x H1 => u D (σ.set i (some x)) H1) : tSeq (tAsg te (gName i)) u D σ H := h
/-- how many pass a test -/
theorem lc_ones {K : PySem.W.Frag} {C a : Addr} {xs : List V} {qs : List Rat} {tl : TE} {g : TG} {tt : TT} {vs : List Nat} {σ : L2.St} {H : Hp} {Q : VK} (ps : Rat → Bool)
    (he : ∀ R : VK, R (.ref a) H → tl σ H R) (ha : H a = some (.lst xs)) (hn : Nums C H xs qs) (hlen : xs.length ≤ 1000)
    (hs : ∀ x q H' (W : Bool → Hp → Prop), q ∈ qs → Num C H' x q → Same H H' → (∀ H'', Same H' H'' → W (ps q) H'') → g x (wipe σ vs) H' fun σ2 H2 => wipe σ2 vs = wipe σ vs ∧ tt σ2 H2 W)
    (hd : ∀ D H', Same H H' → H D = none → H' D = some (.lst ((List.replicate (qs.filter ps).length (1 : Int)).map V.int)) → Q (.ref D) H') : tLc (iList K tl) g tt (tC (.int 1)) vs σ H Q := by
  refine he _ ⟨a, rfl, ⟨xs, SqL.of ha⟩, fun D hD => lc_list (xs := xs) (fun i H' => Same H H' ∧ H' D = some (.lst ((List.replicate ((qs.take i).filter ps).length (1 : Int)).map V.int))) ⟨sameNew hD, upd_same⟩ (fun i H' h p => SqL.of (p.1 _ _ ha)) (fun i x H' hx p => ?_) (fun H' p => ?_)⟩
  · obtain ⟨e, hDl⟩ := p
    obtain ⟨q, hq, nx⟩ := pd_at hn hx
    refine hs x q H' (fun b H3 => if b = true then ∃ acc, H3 D = some (HO.lst acc) ∧ acc.length < sizeLine ∧ Same H (upd H3 D (HO.lst (acc ++ [V.int 1]))) ∧ upd H3 D (HO.lst (acc ++ [V.int 1])) D = some (HO.lst (List.map V.int (List.replicate (List.filter ps (List.take (i + 1) qs)).length 1)))
      else Same H H3 ∧ H3 D = some (HO.lst (List.map V.int (List.replicate (List.filter ps (List.take (i + 1) qs)).length 1)))) (List.mem_of_getElem? hq) (nx.same e) e fun H'' e2 => ?_
    have hi : i < xs.length := (List.getElem?_eq_some_iff.mp hx).1
    have hb : ((qs.take i).filter ps).length ≤ i := Nat.le_trans (List.length_filter_le _ _) (by rw [List.length_take]; exact Nat.min_le_left _ _)
    rw [take_at hq, List.filter_append, List.length_append]
    cases hp : ps q with
    | true =>
      refine ⟨_, e2 _ _ hDl, by rw [List.length_map, List.length_replicate]; exact Nat.lt_of_le_of_lt hb (Nat.lt_of_lt_of_le (Nat.lt_of_lt_of_le hi hlen) (by decide)), same_at (e.trans e2) hD, ?_⟩
      rw [upd_same]
      simp [hp, List.replicate_succ']
    | false =>
      refine ⟨e.trans e2, ?_⟩
      simp [hp]
      simpa using e2 _ _ hDl
  · refine hd D H' p.1 hD ?_
    have := p.2
    rwa [pd_len hn, List.take_length] at this
section
variable {P : Program} {w : World} {K : PySem.W.Frag} {mg : Str → Option Value} {base : Heap} {d : Ad}
theorem G__law_ends_right (T : Tx K mg d) : FnG P w K mg base CX0 8 d._law_ends_right (spEnds d.Ratio) := by
  have GX_Ratio_highest := GX_Ratio_highest (P := P) (w := w) (base := base) T
  have GK_Ratio_lowest := GK_Ratio_lowest (P := P) (w := w) (base := base) T
  have G_le : FnR P w K mg base CX0 5 d.Ratio___le__ (spCmp d.Ratio fun x y => decide (x ≤ y)) := G_Ratio___le__ T
  have G_ge : FnR P w K mg base CX0 5 d.Ratio___ge__ (spCmp d.Ratio fun x y => decide (x ≥ y)) := G_Ratio___ge__ T
  have G_eq : FnR P w K mg base CX0 2 d.Ratio___eq__ (spCmp d.Ratio fun x y => decide (x = y)) := G_Ratio___eq__ T
  obtain ⟨fd, F⟩ := T.F__law_ends_right
  refine fnG_of (k := 7) F sc__law_ends_right (sp := spEnds d.Ratio) (fun vs H Q E h => ?_) (fun cdv A outer s H vs Q E ng hr h => ?_) (F.binds fun _ _ _ _ _ _ us hl => match us, hl with | [_], _ => rfl)
  · obtain ⟨a, xs, qs, rfl, _⟩ := h
    rfl
  · obtain ⟨a, xs, qs, rfl, ha, hn, h0, h5, hz, k⟩ := h
    -- slots: 0 _law_some, 1 _law_high, 2 _law_low, 3 _law_one
    refine ⟨_, (pss_cons (ps_asg (pe_tup (pa_cons (pe_smethG (pe_glob (v := .ref _) rfl T.m_Ratio rfl) T.s_Ratio_highest GX_Ratio_highest ng (hr.mono (by decide)) passF (pa_cons (pv 0) pa_nil)) (pa_cons (pe_smethGk (pe_glob (v := .ref _) rfl T.m_Ratio rfl) T.s_Ratio_lowest GK_Ratio_lowest ng (hr.mono (by decide)) passF (pk_cons (pe_callTy call_tuple_of (by rfl) T.n_tuple (by decide +kernel) (pa_cons (pv 0) pa_nil)) pk_nil)) pa_nil))) (pg_tup (by rfl) (pgs_cons (pg_name (i := 1) sc__law_ends_right.nd rfl (Or.inr rfl)) (pgs_cons (pg_name (i := 2) sc__law_ends_right.nd rfl (Or.inr rfl)) pgs_nil))))
      (pss_cons (ps_if (PW.pt (pw_or (pt_not (pt_val (pe_callB uIsi (by rfl) T.n_isinstance (by decide +kernel) (pa_cons (pv 1) (pa_cons (pe_glob (v := .ref _) rfl T.m_Ratio rfl) pa_nil))))) (pw_or (pt_not (pt_val (pe_callB uIsi (by rfl) T.n_isinstance (by decide +kernel) (pa_cons (pv 2) (pa_cons (pe_glob (v := .ref _) rfl T.m_Ratio rfl) pa_nil))))) (pw_or1 (pt_cmpR (uNe hr.units) (pe_callB call_len_seq (by rfl) T.n_len (by decide +kernel) (pa_cons (pe_lc (own := [("_law_one", 3)]) (g := gName 3) (by rfl) sc__law_ends_right.nd (pi_list (pv 0)) (blkOk_by (own := [("_law_one", 3)]) (N := ["_law_some", "_law_high", "_law_low", "_law_one"]) (sc := defScope s__law_ends_right) (by decide +kernel)) (fun _ _ _ _ _ => pg_name (i := 3) sc__law_ends_right.nd rfl (Or.inl rfl)) (fun _ _ _ _ _ => pts_one (pt_chain (op_or2 (op_ownCF T.q_Ratio_le G_le (hr.mono (by decide)) pass0) (op_reflCF .GtE rfl decC_le T.q_Ratio_ge T.i_Ratio_is_int G_ge (hr.mono (by decide)) pass0)) (op_or2 (op_ownCF T.q_Ratio_le G_le (hr.mono (by decide)) pass0) (op_reflCF .GtE rfl decC_le T.q_Ratio_ge T.i_Ratio_is_int G_ge (hr.mono (by decide)) pass0)) (pv 2) (pv 3) (pv 1))) (fun _ _ _ _ _ => pe_int)) pa_nil)) (pe_callB call_len_seq (by rfl) T.n_len (by decide +kernel) (pa_cons (pv 0) pa_nil)) (nomark _)))))) (pss_one (ps_ret pe_bl)) pss_nil)
      (pss_one (ps_ret (pe_and (pe_cmpR (uNe hr.units) (pe_lc (own := [("_law_one", 3)]) (g := gName 3) (by rfl) sc__law_ends_right.nd (pi_list (pv 0)) (blkOk_by (own := [("_law_one", 3)]) (N := ["_law_some", "_law_high", "_law_low", "_law_one"]) (sc := defScope s__law_ends_right) (by decide +kernel)) (fun _ _ _ _ _ => pg_name (i := 3) sc__law_ends_right.nd rfl (Or.inl rfl)) (fun _ _ _ _ _ => pts_one (pt_cmpR (op_or2 (op_ownCF T.q_Ratio_eq G_eq (hr.mono (by decide)) pass0) (op_reflCF .Eq rfl decC_eq T.q_Ratio_eq T.i_Ratio_is_int G_eq (hr.mono (by decide)) pass0)) (pv 3) (pv 1) (nomark _))) (fun _ _ _ _ _ => pe_int)) (pe_lst pa_nil) (nomark _)) (pe_one (pe_cmpR (uNe hr.units) (pe_lc (own := [("_law_one", 3)]) (g := gName 3) (by rfl) sc__law_ends_right.nd (pi_list (pv 0)) (blkOk_by (own := [("_law_one", 3)]) (N := ["_law_some", "_law_high", "_law_low", "_law_one"]) (sc := defScope s__law_ends_right) (by decide +kernel)) (fun _ _ _ _ _ => pg_name (i := 3) sc__law_ends_right.nd rfl (Or.inl rfl)) (fun _ _ _ _ _ => pts_one (pt_cmpR (op_or2 (op_ownCF T.q_Ratio_eq G_eq (hr.mono (by decide)) pass0) (op_reflCF .Eq rfl decC_eq T.q_Ratio_eq T.i_Ratio_is_int G_eq (hr.mono (by decide)) pass0)) (pv 3) (pv 2) (nomark _))) (fun _ _ _ _ _ => pe_int)) (pe_lst pa_nil) (nomark _)))))))), ?_⟩
    have z2 : ∀ q ∈ qs, Sz 2000 q := fun q h => sz_mono (hz q h) (by decide)
    have ne : qs ≠ [] := fun z => by have := pd_len hn; rw [z] at this; rw [this] at h0; exact absurd h0 (by simp)
    refine ⟨rfl, ⟨_, rfl, Or.inl ⟨.ref a, qs, rfl, ⟨a, false, xs, rfl, ha, hn, by omega⟩, ne, z2, fun ph h H1 e1 rh ih => ?_⟩⟩⟩
    have ha1 := e1 _ _ ha
    have hn1 := hn.same e1
    refine ⟨rfl, ⟨_, rfl, a, xs, rfl, Or.inl ⟨SqL.of ha1, fun t ht => Or.inl ⟨.ref t, qs, rfl, ⟨t, true, xs, rfl, upd_same, hn1.same (sameNew ht), by omega⟩, ne, z2, fun pl l H2 e2 rl il => ?_⟩⟩⟩⟩
    refine ⟨(by show 2 ≤ sizeLine; decide), fun tt htt => ⟨tt, _, rfl, SqT.of upd_same, rfl, _, _, rfl, _, _, rfl, rfl, ?_⟩⟩
    have ee := (sameNew (o := HO.tup xs) ht).trans (e2.trans (sameNew (o := HO.tup [.ref ph, .ref pl]) htt))
    have rh := rh.same ee
    have rl := rl.same (sameNew (o := HO.tup [.ref ph, .ref pl]) htt)
    have ha := ee _ _ ha1
    have hn := hn1.same ee
    have ea := e1.trans ee
    clear e1 ha1 hn1 e2 ee
    generalize upd H2 tt (HO.tup [V.ref ph, V.ref pl]) = H3 at rh rl ha hn ea ⊢
    try dsimp only [tNext, gName]
    refine st_eq (σ' := [some (.ref a), some (.ref ph), some (.ref pl), none]) rfl ?_
    obtain ⟨dh, hih⟩ := id rh
    obtain ⟨dl, hil⟩ := id rl
    refine ⟨_, rfl, Or.inl ⟨_, _, _, _, true, rfl, .own _, T.y_Ratio.ty T.c_Ratio hih, T.i_Ratio_is_Ratio, true, rfl, iteF ?_⟩⟩
    refine ⟨_, rfl, Or.inl ⟨_, _, _, _, true, rfl, .own _, T.y_Ratio.ty T.c_Ratio hil, T.i_Ratio_is_Ratio, true, rfl, iteF ?_⟩⟩
    have zh : Sz 2000 h := z2 h ih.1
    have zl : Sz 2000 l := z2 l il.1
    have nle : xs.length ≤ 1000 := by omega
    refine in_test (in_op (in_cb1 (lc_ones (a := a) (xs := xs) (qs := qs) (fun _ => true) (fun R q => ⟨_, rfl, q⟩) ha hn nle (fun x q H' W hq nx ex hw => ?_) (fun D H' e' hD hDl => ?_))))
    · refine ⟨rfl, ?_⟩
      have lq : decide (l ≤ q) = true := decide_eq_true (by simpa using il.2 q hq)
      have qh : decide (q ≤ h) = true := decide_eq_true (by simpa using ih.2 q hq)
      refine ⟨_, rfl, _, rfl, Or.inl ⟨pl, dl, _, rfl, ex _ _ hil, nx.right, ⟨pl, x, l, q, rfl, rl.same ex, nx, zl, z2 q hq, fun H4 e4 => ⟨true, congrArg V.bl lq, iteT ⟨_, rfl, ?_⟩⟩⟩⟩⟩
      have ihh : IsRat d.Ratio H4 ph h := (rh.same ex).same e4
      obtain ⟨dh4, hih4⟩ := id ihh
      rcases nx.same e4 with ⟨j, rfl, rfl⟩ | ⟨b, rfl, hb⟩
      · exact Or.inr ⟨j, ph, dh4, _, rfl, rfl, hih4, ⟨ph, _, h, _, rfl, ihh, num_i, zh, z2 _ hq, fun H5 e5 => ⟨true, congrArg V.bl qh, hw H5 (e4.trans e5)⟩⟩⟩
      · obtain ⟨db, hib⟩ := id hb
        exact Or.inl ⟨b, db, _, rfl, hib, (num_r ihh).right, ⟨b, _, q, h, rfl, hb, num_r ihh, z2 q hq, zh, fun H5 e5 => ⟨true, congrArg V.bl qh, hw H5 (e4.trans e5)⟩⟩⟩
    refine ⟨D, _, rfl, Or.inl (SqL.of hDl), _, rfl, a, _, rfl, Or.inl (SqL.of (e' _ _ ha)), Or.inl ⟨rfl, _, rfl, ifF ?_ ?_⟩⟩
    · rw [List.length_map, List.length_replicate, List.filter_eq_self.mpr (fun _ _ => rfl), pd_len hn]
      simp
    clear hDl
    try dsimp only [tNext, gName]
    have rh := rh.same e'
    have rl := rl.same e'
    have ha := e' _ _ ha
    have hn := hn.same e'
    have ea := ea.trans e'
    clear e' hD hih hil
    have some_one : ∀ {z : Rat} {b : Bool}, IsEnd b qs z → 0 < (qs.filter fun q => decide (q = z)).length := fun {z b} i => List.length_pos_iff_exists_mem.mpr ⟨z, List.mem_filter.mpr ⟨i.1, by simp⟩⟩
    have one : ∀ {pz : Addr} {z : Rat} {x : V} {q : Rat} {H4 : Hp} {W : Bool → Hp → Prop}, IsRat d.Ratio H4 pz z → Sz 2000 z → q ∈ qs → Num d.Ratio H4 x q → (∀ H'', Same H4 H'' → W (decide (q = z)) H'') →
        orR (rCF d.Ratio (spCmp d.Ratio fun x y => decide (x = y)) E0) (rRF d.Ratio (spCmp d.Ratio fun x y => decide (x = y)) E0) x (.ref pz) H4 fun x H' => ∃ k, x = V.bl k ∧ W k H' := fun {pz z x q H4 W} rz zz hq nx hw => by
      rcases nx with ⟨j, rfl, rfl⟩ | ⟨b, rfl, hb⟩
      · obtain ⟨dz, hiz⟩ := id rz
        refine Or.inr ⟨j, pz, dz, _, rfl, rfl, hiz, ⟨pz, _, z, _, rfl, rz, num_i, zz, z2 _ hq, fun H5 e5 => ⟨_, rfl, ?_⟩⟩⟩
        have := hw H5 e5
        rwa [show decide ((j : Rat) = z) = decide (z = (j : Rat)) from decide_eq_decide.mpr ⟨fun h => h.symm, fun h => h.symm⟩] at this
      · obtain ⟨db, hib⟩ := id hb
        exact Or.inl ⟨b, db, _, rfl, hib, (num_r rz).right, ⟨b, _, q, z, rfl, hb, num_r rz, z2 q hq, zz, fun H5 e5 => ⟨_, rfl, hw H5 e5⟩⟩⟩
    refine in_op (lc_ones (a := a) (xs := xs) (qs := qs) (fun q => decide (q = h)) (fun R q => ⟨_, rfl, q⟩) ha hn nle (fun x q H' W hq nx ex hw => ⟨rfl, _, rfl, _, rfl, one (rh.same ex) zh hq nx hw⟩) (fun D H' e' hD hDl => ⟨(by show 0 ≤ sizeLine; decide), fun em hem => ?_⟩))
    have notnil : ∀ {m : Nat}, 0 < m → (!PyData.eqv (.list ((List.replicate m (1 : Int)).map PyData.int)) (.list [])) = true := fun {m} h => by
      rw [eqv_nil]
      cases m with
      | zero => exact absurd h (by decide)
      | succ m => rfl
    refine Or.inr ⟨.list ((List.replicate _ (1 : Int)).map PyData.int), .list [], .lst (SqL.of (sameNew hem _ _ hDl)) (dp_ints _), .lst (SqL.of upd_same) .nil, shaped_ints _, shaped_ints [], _, rfl, ifT (notnil (some_one ih)) ?_⟩
    have e2 := e'.trans (sameNew (o := HO.lst []) hem)
    have ha := e2 _ _ ha
    have hn := hn.same e2
    have rl := rl.same e2
    have ea := ea.trans e2
    clear hDl e' hD
    generalize upd H' em (HO.lst []) = H5 at e2 ha hn rl ea ⊢
    refine in_op (lc_ones (a := a) (xs := xs) (qs := qs) (fun q => decide (q = l)) (fun R q => ⟨_, rfl, q⟩) ha hn nle (fun x q H' W hq nx ex hw => ⟨rfl, _, rfl, _, rfl, one (rl.same ex) zl hq nx hw⟩) (fun D H' e' hD hDl => ⟨(by show 0 ≤ sizeLine; decide), fun em hem => ?_⟩))
    refine Or.inr ⟨.list ((List.replicate _ (1 : Int)).map PyData.int), .list [], .lst (SqL.of (sameNew hem _ _ hDl)) (dp_ints _), .lst (SqL.of upd_same) .nil, shaped_ints _, shaped_ints [], ?_⟩
    have q := k _ ((ea.trans e').trans (sameNew (o := HO.lst []) hem))
    rw [← notnil (some_one il)] at q
    exact q
end

end AZ
namespace AZ
open PySem L2
/-! ## the common number is told -/
theorem q_div {x y : Rat} (hy : y ≠ 0) : Rat.divInt (x.num * (y.den : Int)) ((x.den : Int) * y.num) = x / y := by
  have dx := den_ne x
  have dy := den_ne y
  have ny : (y.num : Rat) ≠ 0 := fun z => hy (by
    have := num_eq y
    rw [z] at this
    rcases Rat.mul_eq_zero.mp this.symm with h | h
    · exact h
    · exact absurd h dy)
  rw [Rat.divInt_eq_div, Rat.intCast_mul, Rat.intCast_mul, num_eq x, num_eq y]
  have e : x * ((x.den : Int) : Rat) * ((y.den : Int) : Rat) / (((x.den : Int) : Rat) * (y * ((y.den : Int) : Rat))) * (((x.den : Int) : Rat) * (y * ((y.den : Int) : Rat))) = x * ((x.den : Int) : Rat) * ((y.den : Int) : Rat) := Rat.div_mul_cancel fun z => by
    rcases Rat.mul_eq_zero.mp z with z | z
    · exact dx z
    · rcases Rat.mul_eq_zero.mp z with z | z
      · exact hy z
      · exact dy z
  have e2 : x / y * y = x := Rat.div_mul_cancel hy
  generalize x * ((x.den : Int) : Rat) * ((y.den : Int) : Rat) / (((x.den : Int) : Rat) * (y * ((y.den : Int) : Rat))) = a at e ⊢
  generalize x / y = b at e2 ⊢
  have h : (a - b) * (((x.den : Int) : Rat) * (y * ((y.den : Int) : Rat))) = 0 := by
    have e3 : b * (((x.den : Int) : Rat) * (y * ((y.den : Int) : Rat))) = x * ((x.den : Int) : Rat) * ((y.den : Int) : Rat) := by
      rw [← e2]; grind
    grind
  rcases Rat.mul_eq_zero.mp h with z | z
  · grind
  · rcases Rat.mul_eq_zero.mp z with z | z
    · exact absurd z dx
    · rcases Rat.mul_eq_zero.mp z with z | z
      · exact absurd z hy
      · exact absurd z dy
theorem gcds_zero {qs : List Rat} (h : ∀ q ∈ qs, q = 0) : gcds qs = 0 := by
  obtain ⟨k, hk⟩ := (isG_gcds qs).span.dvd (g := 0) fun x m => ⟨0, by rw [h x m]; simp⟩
  rw [hk, Rat.mul_zero]
theorem gcds_ne {qs : List Rat} {q : Rat} (m : q ∈ qs) (h : q ≠ 0) : gcds qs ≠ 0 := fun z => by
  obtain ⟨k, hk⟩ := (isG_gcds qs).dvd q m
  exact h (by rw [hk, z, Rat.mul_zero])
theorem div_int {x g : Rat} {k : Int} (e : x = (k : Rat) * g) (h : g ≠ 0) : x / g = (k : Rat) := by
  have e2 : x / g * g = x := Rat.div_mul_cancel h
  generalize x / g = b at e2 ⊢
  have : (b - (k : Rat)) * g = 0 := by grind
  rcases Rat.mul_eq_zero.mp this with z | z
  · grind
  · exact absurd z h
theorem times_int {qs : List Rat} (h : gcds qs ≠ 0) {q : Rat} (m : q ∈ qs) : ∃ k : Int, q / gcds qs = (k : Rat) := by
  obtain ⟨k, hk⟩ := (isG_gcds qs).dvd q m
  exact ⟨k, div_int hk h⟩
/-- a number of which all the quotients are whole multiples is 1 -/
theorem div_one {qs : List Rat} (h : gcds qs ≠ 0) {r : Int} (r0 : 0 ≤ r) (hr : ∀ q ∈ qs, r ∣ (q / gcds qs).num) : r = 1 := by
  have G := isG_gcds qs
  obtain ⟨m, hm⟩ := G.span.dvd (g := (r : Rat) * gcds qs) fun x hx => by
    obtain ⟨k, hk⟩ := G.dvd x hx
    have e := div_int hk h
    obtain ⟨j, hj⟩ := hr x hx
    rw [e, Rat.num_intCast] at hj
    exact ⟨j, by rw [hk, hj, Rat.intCast_mul]; grind⟩
  have e : ((m * r : Int) : Rat) = ((1 : Int) : Rat) := by
    rw [Rat.intCast_mul]
    have : ((m : Rat) * (r : Rat) - 1) * gcds qs = 0 := by grind
    rcases Rat.mul_eq_zero.mp this with z | z
    · have : (m : Rat) * (r : Rat) = 1 := by grind
      rw [this]; rfl
    · exact absurd z h
  have e' := Rat.intCast_inj.mp e
  exact Int.eq_one_of_dvd_one r0 ⟨m, by rw [Int.mul_comm]; exact e'.symm⟩
theorem pd_rev {α β : Type} {R : α → β → Prop} {xs : List α} {ys : List β} (h : Paired R xs ys) : Paired R xs.reverse ys.reverse := by
  induction h with
  | nil => exact .nil
  | cons a _ ih => rw [List.reverse_cons, List.reverse_cons]; exact paired_append ih (.cons a .nil)
theorem pd_take {α β : Type} {R : α → β → Prop} {xs : List α} {ys : List β} (n : Nat) (h : Paired R xs ys) : Paired R (xs.take n) (ys.take n) := by
  induction h generalizing n with
  | nil => simp; exact .nil
  | cons a _ ih =>
    cases n with
    | zero => exact .nil
    | succ n => exact .cons a (ih n)
theorem pd_drop {α β : Type} {R : α → β → Prop} {xs : List α} {ys : List β} (n : Nat) (h : Paired R xs ys) : Paired R (xs.drop n) (ys.drop n) := by
  induction h generalizing n with
  | nil => simp; exact .nil
  | cons a r ih =>
    cases n with
    | zero => exact .cons a r
    | succ n => exact ih n
/-- what passes a test is kept -/
theorem lc_keep {K : PySem.W.Frag} {a : Addr} {xs : List V} {qs : List Rat} {tl : TE} {i : Nat} {tt : TT} {vs : List Nat} {σ : L2.St} {H : Hp} {Q : VK} (ps : Rat → Bool) (N : Hp → V → Rat → Prop) (ns : ∀ {H H' : Hp} {x : V} {q : Rat}, N H x q → Same H H' → N H' x q)
    (he : ∀ R : VK, R (.ref a) H → tl σ H R) (ha : H a = some (.lst xs)) (hn : Paired (N H) xs qs) (hlen : xs.length ≤ 1000) (hi : ∀ x : V, ((wipe σ vs).set i (some x))[i]? = some (some x)) (hw : ∀ x : V, wipe ((wipe σ vs).set i (some x)) vs = wipe σ vs)
    (hs : ∀ x q H' (W : Bool → Hp → Prop), q ∈ qs → N H' x q → Same H H' → (∀ H'', Same H' H'' → W (ps q) H'') → tt ((wipe σ vs).set i (some x)) H' W)
    (hd : ∀ D H' zs, Same H H' → H D = none → H' D = some (.lst zs) → zs.length = (qs.filter ps).length → Q (.ref D) H') : tLc (iList K tl) (gName i) tt (tVar i) vs σ H Q := by
  refine he _ ⟨a, rfl, ⟨xs, SqL.of ha⟩, fun D hD => lc_list (xs := xs) (fun j H' => Same H H' ∧ ∃ zs, H' D = some (.lst zs) ∧ zs.length = ((qs.take j).filter ps).length) ⟨sameNew hD, [], upd_same, rfl⟩ (fun j H' h p => SqL.of (p.1 _ _ ha)) (fun j x H' hx p => ?_) (fun H' p => ?_)⟩
  · obtain ⟨e, zs, hDl, hz⟩ := p
    obtain ⟨q, hq, nx⟩ := pd_at hn hx
    refine ⟨hw x, hs x q H' _ (List.mem_of_getElem? hq) (ns nx e) e fun H'' e2 => ?_⟩
    have hi' : j < xs.length := (List.getElem?_eq_some_iff.mp hx).1
    have hb : ((qs.take j).filter ps).length ≤ j := Nat.le_trans (List.length_filter_le _ _) (by rw [List.length_take]; exact Nat.min_le_left _ _)
    rw [take_at hq, List.filter_append, List.length_append]
    cases hp : ps q with
    | true => exact ⟨x, hi x, zs, e2 _ _ hDl, by rw [hz]; exact Nat.lt_of_le_of_lt hb (Nat.lt_of_lt_of_le (Nat.lt_of_lt_of_le hi' hlen) (by decide)), same_at (e.trans e2) hD, _, upd_same, by simp [hp, hz]⟩
    | false => exact ⟨e.trans e2, zs, e2 _ _ hDl, by simp [hp, hz]⟩
  · obtain ⟨e, zs, hDl, hz⟩ := p
    rw [pd_len hn, List.take_length] at hz
    exact hd D H' zs e hD hDl hz
/-- each becomes a fraction -/
theorem lc_mapR {K : PySem.W.Frag} {C a : Addr} {xs : List V} {qs : List Rat} {tl te : TE} {g : TG} {vs : List Nat} {σ : L2.St} {H : Hp} {Q : VK} (f : Rat → Rat)
    (he : ∀ R : VK, R (.ref a) H → tl σ H R) (ha : H a = some (.lst xs)) (hn : Nums C H xs qs) (hlen : xs.length ≤ 1000)
    (hs : ∀ x q H' (W : VK), q ∈ qs → Num C H' x q → Same H H' → (∀ p H'', Same H' H'' → IsRat C H'' p (f q) → W (.ref p) H'') → g x (wipe σ vs) H' fun σ2 H2 => wipe σ2 vs = wipe σ vs ∧ te σ2 H2 W)
    (hd : ∀ D H' zs, Same H H' → H D = none → H' D = some (.lst zs) → Rats C H' zs (qs.map f) → Q (.ref D) H') : tLc (iList K tl) g tYes te vs σ H Q := by
  refine he _ ⟨a, rfl, ⟨xs, SqL.of ha⟩, fun D hD => lc_list (xs := xs) (fun j H' => Same H H' ∧ ∃ zs, H' D = some (.lst zs) ∧ Rats C H' zs ((qs.take j).map f) ∧ zs.length = j) ⟨sameNew hD, [], upd_same, .nil, rfl⟩ (fun j H' h p => SqL.of (p.1 _ _ ha)) (fun j x H' hx p => ?_) (fun H' p => ?_)⟩
  · obtain ⟨e, zs, hDl, hz, hj⟩ := p
    obtain ⟨q, hq, nx⟩ := pd_at hn hx
    have hi' : j < xs.length := (List.getElem?_eq_some_iff.mp hx).1
    refine hs x q H' (fun y H4 => ∃ acc, H4 D = some (HO.lst acc) ∧ acc.length < sizeLine ∧ (Same H (upd H4 D (HO.lst (acc ++ [y]))) ∧ ∃ zs, upd H4 D (HO.lst (acc ++ [y])) D = some (HO.lst zs) ∧ Rats C (upd H4 D (HO.lst (acc ++ [y]))) zs ((qs.take (j + 1)).map f) ∧ zs.length = j + 1)) (List.mem_of_getElem? hq) (nx.same e) e fun p H'' e2 hp => ?_
    have up4 : Up D H'' (upd H'' D (.lst (zs ++ [.ref p]))) := Up.put (e2 _ _ hDl)
    refine ⟨zs, e2 _ _ hDl, by rw [hj]; exact Nat.lt_of_lt_of_le (Nat.lt_of_lt_of_le hi' hlen) (by decide), same_at (e.trans e2) hD, _, upd_same, ?_, by simp [hj]⟩
    rw [take_at hq, List.map_append]
    exact Rats.app (Rats.up up4 (hz.same e2)) (hp.up up4)
  · obtain ⟨e, zs, hDl, hz, _⟩ := p
    rw [pd_len hn, List.take_length] at hz
    exact hd D H' zs e hD hDl hz
/-- each becomes an int -/
theorem lc_mapI {K : PySem.W.Frag} {C a : Addr} {xs : List V} {qs : List Rat} {tl te : TE} {g : TG} {vs : List Nat} {σ : L2.St} {H : Hp} {Q : VK} (f : Rat → Int)
    (he : ∀ R : VK, R (.ref a) H → tl σ H R) (ha : H a = some (.lst xs)) (hn : Rats C H xs qs) (hlen : xs.length ≤ 1000)
    (hs : ∀ p q H' (W : VK), q ∈ qs → IsRat C H' p q → Same H H' → W (.int (f q)) H' → g (.ref p) (wipe σ vs) H' fun σ2 H2 => wipe σ2 vs = wipe σ vs ∧ te σ2 H2 W)
    (hd : ∀ D H', Same H H' → H D = none → H' D = some (.lst ((qs.map f).map V.int)) → Q (.ref D) H') : tLc (iList K tl) g tYes te vs σ H Q := by
  refine he _ ⟨a, rfl, ⟨xs, SqL.of ha⟩, fun D hD => lc_list (xs := xs) (fun j H' => Same H H' ∧ H' D = some (.lst (((qs.take j).map f).map V.int))) ⟨sameNew hD, upd_same⟩ (fun j H' h p => SqL.of (p.1 _ _ ha)) (fun j x H' hx p => ?_) (fun H' p => ?_)⟩
  · obtain ⟨e, hDl⟩ := p
    obtain ⟨q, hq, y, rfl, nx⟩ := pd_at hn hx
    have hi' : j < xs.length := (List.getElem?_eq_some_iff.mp hx).1
    refine hs y q H' (fun y H4 => ∃ acc, H4 D = some (HO.lst acc) ∧ acc.length < sizeLine ∧ (Same H (upd H4 D (HO.lst (acc ++ [y]))) ∧ upd H4 D (HO.lst (acc ++ [y])) D = some (HO.lst (((qs.take (j + 1)).map f).map V.int)))) (List.mem_of_getElem? hq) (nx.same e) e ?_
    refine ⟨_, hDl, ?_, same_at e hD, ?_⟩
    · rw [List.length_map, List.length_map]
      exact Nat.lt_of_le_of_lt (by rw [List.length_take]; exact Nat.min_le_left _ _) (Nat.lt_of_lt_of_le (Nat.lt_of_lt_of_le hi' hlen) (by decide))
    · rw [upd_same, take_at hq]
      simp
  · obtain ⟨e, hDl⟩ := p
    rw [pd_len hn, List.take_length] at hDl
    exact hd D H' e hD hDl
def spDivd (C : Addr) : Sp := fun vs H Q _ => ∃ a v x y, vs = [.ref a, v] ∧ IsRat C H a x ∧ Num C H v y ∧ y ≠ 0 ∧ Sz 2000 x ∧ Sz 2000 y ∧ ∀ p H', Same H H' → IsRat C H' p (x / y) → Q (.ref p) H'
def spCRight (C : Addr) : Sp := fun vs H Q _ => ∃ a xs qs, vs = [.ref a] ∧ H a = some (.lst xs) ∧ Nums C H xs qs ∧ xs.length ≤ 5 ∧ (∀ q ∈ qs, Sz 101 q) ∧ ∀ H', Same H H' → Q (.bl true) H'
section
variable {P : Program} {w : World} {K : PySem.W.Frag} {mg : Str → Option Value} {base : Heap} {d : Ad}
theorem G_Ratio_divided (T : Tx K mg d) : FnR P w K mg base CX0 5 d.Ratio_divided (spDivd d.Ratio) := by
  have G_Ratio_of : FnR P w K mg base CX0 4 d.Ratio_of (spOf d.Ratio) := G_Ratio_of T
  have G_Ratio___init__ : FnR P w K mg base CX0 2 d.Ratio___init__ _ := G_Ratio___init__ T
  obtain ⟨fd, F⟩ := T.F_Ratio_divided
  refine FnR.imp (FnOk.raw (F.ok sc_Ratio_divided (k := 4) (sp := spDivd d.Ratio) (fun vs H Q E h => ?_) (fun cdv A outer s H vs Q E hr h => ?_)) (F.binds fun _ _ _ _ _ _ us hl => match us, hl with | [_, _], _ => rfl) .nil) fun vs H Q E h => by rw [List.append_nil]; exact h
  · obtain ⟨a, v, x, y, rfl, _⟩ := h
    rfl
  · obtain ⟨a, v, x, y, rfl, ⟨dx, ha⟩, hy, y0, zx, zy, k⟩ := h
    -- slots: 0 self, 1 other, 2 divisor
    refine ⟨_, (pss_cons (ps_set (i := 2) sc_Ratio_divided.nd rfl (Or.inl rfl) (pe_smeth (pe_glob (v := .ref _) rfl T.m_Ratio rfl) T.s_Ratio_of G_Ratio_of (hr.mono (by decide)) pass0 (pa_cons (pv 1) pa_nil)))
      (pss_cons (ps_if (pt_cmpR (uEq hr.units) (pe_fld (pv 2) rfl) pe_int (nomark _)) pss_never pss_nil)
      (pss_one (ps_ret (StX.pe_makeR T.mk_Ratio G_Ratio___init__ (hr.mono (by decide)) rfl T.m_Ratio pass0 (pa_cons (pe_op uMul (pe_fld (pv 0) rfl) (pe_fld (pv 2) rfl)) (pa_cons (pe_op uMul (pe_fld (pv 0) rfl) (pe_fld (pv 2) rfl)) pa_nil))))))), ?_⟩
    refine ⟨rfl, _, rfl, ⟨_, y, rfl, hy, fun b H1 e1 ⟨dy, hb⟩ => ?_⟩⟩
    have ha := e1 _ _ ha
    have yn : y.num ≠ 0 := fun z => y0 (by
      have := num_eq y
      rw [z] at this
      rcases Rat.mul_eq_zero.mp this.symm with h | h
      · exact h
      · exact absurd h (den_ne y))
    refine ⟨_, rfl, b, _, dy, _, _, rfl, hb, T.c_Ratio, T.a_Ratio_over, rfl, Or.inl ⟨rfl, _, rfl, ifF (by simp [dec_int, yn]) ?_⟩⟩
    refine ⟨_, rfl, a, _, dx, _, _, rfl, ha, T.c_Ratio, T.a_Ratio_over, rfl, _, rfl, b, _, dy, _, _, rfl, hb, T.c_Ratio, T.a_Ratio_under, rfl, Or.inl ⟨_, _, rfl, rfl, mul2 (szN zx) (szD zy), ?_⟩⟩
    refine ⟨_, rfl, a, _, dx, _, _, rfl, ha, T.c_Ratio, T.a_Ratio_under, rfl, _, rfl, b, _, dy, _, _, rfl, hb, T.c_Ratio, T.a_Ratio_over, rfl, Or.inl ⟨_, _, rfl, rfl, mul2 (szD zx) (szN zy), fun p dp np nd ne => Or.inl (made np nd (Int.mul_ne_zero (dne x) yn) ?_ fun H2 e2 r => k p H2 (e1.trans e2) ?_)⟩⟩
    · rw [Int.natAbs_mul]
      exact Nat.lt_of_lt_of_le (mul_lt2 (szD zx) (szN zy)) (Nat.pow_le_pow_right (by decide) (by decide))
    · rw [q_div y0] at r
      exact r
theorem G__law_common_right (T : Tx K mg d) : FnG P w K mg base CX0 8 d._law_common_right (spCRight d.Ratio) := by
  have GX_Ratio_common := GX_Ratio_common (P := P) (w := w) (base := base) T
  have GK_Ratio_common := GK_Ratio_common (P := P) (w := w) (base := base) T
  have G_Ratio_of : FnR P w K mg base CX0 4 d.Ratio_of (spOf d.Ratio) := G_Ratio_of T
  have G_Ratio_divided : FnR P w K mg base CX0 5 d.Ratio_divided (spDivd d.Ratio) := G_Ratio_divided T
  have G__law_divisor : FnR P w K mg base CX0 1 d._law_divisor (spDiv1 K) := G__law_divisor T
  have G_le : FnR P w K mg base CX0 5 d.Ratio___le__ (spCmp d.Ratio fun x y => decide (x ≤ y)) := G_Ratio___le__ T
  have G_eq : FnR P w K mg base CX0 2 d.Ratio___eq__ (spCmp d.Ratio fun x y => decide (x = y)) := G_Ratio___eq__ T
  obtain ⟨fd, F⟩ := T.F__law_common_right
  refine fnG_of (k := 7) F sc__law_common_right (sp := spCRight d.Ratio) (fun vs H Q E h => ?_) (fun cdv A outer s H vs Q E ng hr h => ?_) (F.binds fun _ _ _ _ _ _ us hl => match us, hl with | [_], _ => rfl)
  · obtain ⟨a, xs, qs, rfl, _⟩ := h
    rfl
  · obtain ⟨a, xs, qs, rfl, ha, hn, h5, hz, k⟩ := h
    -- slots: 0 _law_some, 1 _law_told, 2 _law_one, 3 _law_times, 4 _law_half
    refine ⟨_, (pss_cons (ps_set (i := 1) sc__law_common_right.nd rfl (Or.inr rfl) (pe_smethGk (pe_glob (v := .ref _) rfl T.m_Ratio rfl) T.s_Ratio_common GK_Ratio_common ng (hr.mono (by decide)) passF (pk_cons (pv 0) pk_nil)))
      (pss_cons (ps_if (PW.pt (pw_or (pt_not (pt_val (pe_callB uIsi (by rfl) T.n_isinstance (by decide +kernel) (pa_cons (pv 1) (pa_cons (pe_glob (v := .ref _) rfl T.m_Ratio rfl) pa_nil))))) (pw_or1 (pt_cmpR (op_or2 op_ne (op_or2 op_ownN (op_neD hr.units))) (pe_smethG (pe_glob (v := .ref _) rfl T.m_Ratio rfl) T.s_Ratio_common GX_Ratio_common ng (hr.mono (by decide)) passF (pa_cons (pe_revL (pv 0)) pa_nil)) (pv 1) (nomark _))))) (pss_one (ps_ret pe_bl)) pss_nil)
      (pss_cons (ps_if (pt_cmpR (op_or2 (op_eqDiff hr.units0) (op_or2 (op_ownC _) (op_eqD hr.units))) (pe_lc (own := [("_law_one", 2)]) (g := gName 2) (by rfl) sc__law_common_right.nd (pi_list (pv 0)) (blkOk_by (own := [("_law_one", 2)]) (N := ["_law_some", "_law_told", "_law_one", "_law_times", "_law_half"]) (sc := defScope s__law_common_right) (by decide +kernel)) (fun _ _ _ _ _ => pg_name (i := 2) sc__law_common_right.nd rfl (Or.inl rfl)) (fun _ _ _ _ _ => pts_one (pt_cmpR (op_or2 op_ne (op_ownNF T.z_Ratio G_eq (hr.mono (by decide)) pass0)) (pv 2) pe_int (nomark _))) (fun _ _ _ _ _ => (pv 2))) (pe_lst pa_nil) (nomark _)) (pss_one (ps_ret (pe_cmpR (op_or2 (op_eqDiff hr.units0) (op_or2 (op_ownC _) (op_eqD hr.units))) (pv 1) pe_int (nomark _)))) pss_nil)
      (pss_cons (ps_setLc (own := [("_law_one", 2)]) (g := gName 2) (i := 3) (by rfl) sc__law_common_right.nd rfl rfl (sw_true rfl rfl rfl rfl) (pi_list (pv 0)) (blkOk_by (own := [("_law_one", 2)]) (N := ["_law_some", "_law_told", "_law_one", "_law_times", "_law_half"]) (sc := defScope s__law_common_right) (by decide +kernel)) (fun _ _ _ _ _ => pg_name (i := 2) sc__law_common_right.nd rfl (Or.inl rfl)) (fun _ _ _ _ _ => pts_nil) (fun _ _ _ _ _ => (pe_mR (pe_smeth (pe_glob (v := .ref _) rfl T.m_Ratio rfl) T.s_Ratio_of G_Ratio_of (hr.mono (by decide)) pass0 (pa_cons (pv 2) pa_nil)) T.c_Ratio T.h_Ratio_divided G_Ratio_divided (hr.mono (by decide)) pass0 (pa_cons (pv 1) pa_nil))))
      (pss_cons (ps_if (PW.pt (pw_or (pt_cmpR uLe (pv 1) pe_int (nomark _)) (pw_or (pt_cmpR (op_or2 op_ne (op_or2 op_ownN (op_neD hr.units))) (pe_lc (own := [("_law_one", 2)]) (g := gName 2) (by rfl) sc__law_common_right.nd (pi_list (pv 3)) (blkOk_by (own := [("_law_one", 2)]) (N := ["_law_some", "_law_told", "_law_one", "_law_times", "_law_half"]) (sc := defScope s__law_common_right) (by decide +kernel)) (fun _ _ _ _ _ => pg_name (i := 2) sc__law_common_right.nd rfl (Or.inl rfl)) (fun _ _ _ _ _ => pts_one (pt_cmpR (op_or2 op_ne (op_ownNF T.z_Ratio G_eq (hr.mono (by decide)) pass0)) (pe_fldK (K := K) rfl (pv 2) rfl) pe_int (nomark _))) (fun _ _ _ _ _ => (pv 2))) (pe_lst pa_nil) (nomark _)) (pw_or1 (pt_cmpR (op_or2 op_ne (op_or2 op_ownN (op_neD hr.units))) (pe_fnR G__law_divisor (hr.mono (by decide)) T.k__law_divisor T.m__law_divisor pass0 (pa_cons (pe_lc (own := [("_law_one", 2)]) (g := gName 2) (by rfl) sc__law_common_right.nd (pi_list (pv 3)) (blkOk_by (own := [("_law_one", 2)]) (N := ["_law_some", "_law_told", "_law_one", "_law_times", "_law_half"]) (sc := defScope s__law_common_right) (by decide +kernel)) (fun _ _ _ _ _ => pg_name (i := 2) sc__law_common_right.nd rfl (Or.inl rfl)) (fun _ _ _ _ _ => pts_nil) (fun _ _ _ _ _ => (pe_fldK (K := K) rfl (pv 2) rfl))) pa_nil)) pe_int (nomark _)))))) (pss_one (ps_ret pe_bl)) pss_nil)
      (pss_cons (ps_set (i := 4) sc__law_common_right.nd rfl (Or.inl rfl) (pe_slice sl_list (pv 0) po_none (po_some (pe_op uDiv (pe_callB call_len_seq (by rfl) T.n_len (by decide +kernel) (pa_cons (pv 0) pa_nil)) pe_int))))
      (pss_one (ps_ret (pe_cmpR (op_or2 (op_eqDiff hr.units0) (op_or2 (op_ownC _) (op_eqD hr.units))) (pe_smethG (pe_glob (v := .ref _) rfl T.m_Ratio rfl) T.s_Ratio_common GX_Ratio_common ng (hr.mono (by decide)) passF (pa_cons (pe_lst (pa_cons (pe_smethG (pe_glob (v := .ref _) rfl T.m_Ratio rfl) T.s_Ratio_common GX_Ratio_common ng (hr.mono (by decide)) passF (pa_cons (pv 4) pa_nil)) (pa_cons (pe_smethG (pe_glob (v := .ref _) rfl T.m_Ratio rfl) T.s_Ratio_common GX_Ratio_common ng (hr.mono (by decide)) passF (pa_cons (pe_slice sl_list (pv 0) (po_some (pe_callB call_len_seq (by rfl) T.n_len (by decide +kernel) (pa_cons (pv 4) pa_nil))) po_none) pa_nil)) pa_nil))) pa_nil)) (pv 1) (nomark _)))))))))), ?_⟩
    have ql : qs.length ≤ 5 := by rw [← pd_len hn]; exact h5
    have bd : ∀ n, n ≤ 5 → 1 + (n + 1) * 101 ≤ 2000 := fun n h => by omega
    have sg : ∀ {ys : List Rat}, ys.length ≤ 5 → (∀ q ∈ ys, Sz 101 q) → Sz 600 (gcds ys) := fun {ys} h z => sz_mono (sz_gcds z) (by omega)
    refine ⟨rfl, ⟨_, rfl, Or.inl ⟨.ref a, qs, 101, rfl, ⟨a, false, xs, rfl, ha, hn, by omega⟩, hz, bd _ ql, fun pt H1 e1 rt => ?_⟩⟩⟩
    have ha := e1 _ _ ha
    have hn := hn.same e1
    have zg : Sz 600 (gcds qs) := sg ql hz
    generalize hgg : gcds qs = g at rt zg
    have zg2 : Sz 2000 g := sz_mono zg (by decide)
    try dsimp only [tNext, gName]
    refine st_eq (σ' := [some (.ref a), some (.ref pt), none, none, none]) rfl ?_
    obtain ⟨dt, hit⟩ := id rt
    refine ⟨_, rfl, Or.inl ⟨_, _, _, _, true, rfl, .own _, T.y_Ratio.ty T.c_Ratio hit, T.i_Ratio_is_Ratio, true, rfl, iteF ?_⟩⟩
    refine in_test (in_op ⟨rfl, ⟨_, rfl, a, xs, rfl, SqL.of ha, fun c hc => Or.inl ⟨.ref c, qs.reverse, 101, rfl, ⟨c, false, xs.reverse, rfl, upd_same, pd_rev (hn.same (sameNew hc)), by rw [List.length_reverse]; omega⟩, fun q m => hz q (by simpa using m), by rw [List.length_reverse]; exact bd _ ql, fun pr H2 e2 rr => ?_⟩⟩⟩)
    rw [gcds_rev, hgg] at rr
    have e12 := (sameNew (o := HO.lst xs.reverse) hc).trans e2
    have rt := rt.same e12
    refine ⟨_, rfl, Or.inr (Or.inl (onn (r := false) T.z_Ratio G_eq (hr.mono (by decide)) rr (num_r rt) zg2 zg2 (by simp) fun H3 e3 => ⟨_, rfl, ifF rfl ?_⟩))⟩
    have e23 := e12.trans e3
    have rt := rt.same e3
    have ha := e23 _ _ ha
    have hn := hn.same e23
    have ea := e1.trans e23
    clear e1 e2 e3 e12 e23 rr hit hc
    try dsimp only [tNext, gName]
    refine in_test (in_op (lc_keep (a := a) (xs := xs) (qs := qs) (fun q => !decide (q = 0)) (Num d.Ratio) Num.same (fun R q => ⟨_, rfl, q⟩) ha hn (by omega) (fun x => rfl) (fun x => rfl) (fun x q H' W hq nx ex hw => ?_) (fun D H' zs e' hD hDl hzl => ?_)))
    · rcases nx with ⟨j, rfl, rfl⟩ | ⟨b, rfl, hb⟩
      · have e : decide (V.int j = V.int 0) = decide ((j : Rat) = 0) := decide_eq_decide.mpr ⟨fun z => by injection z with z; rw [z]; rfl, fun z => by rw [Rat.intCast_inj.mp (show (j : Rat) = ((0 : Int) : Rat) from z)]⟩
        exact ⟨_, rfl, Or.inl ⟨rfl, _, rfl, by rw [e]; exact hw H' (Same.refl _)⟩⟩
      · obtain ⟨db, hib⟩ := id hb
        exact ⟨_, rfl, Or.inr ⟨b, db, _, rfl, hib, num_i.right, ⟨b, _, q, _, rfl, hb, num_i, sz_mono (hz q hq) (by decide), ⟨by decide +kernel, by decide +kernel⟩, fun H5 e5 => ⟨_, rfl, _, rfl, hw H5 e5⟩⟩⟩⟩
    have rt := rt.same e'
    have ha := e' _ _ ha
    have hn := hn.same e'
    have ea := ea.trans e'
    clear e' hD
    refine ⟨(by show 0 ≤ sizeLine; decide), fun em hem => ?_⟩
    by_cases hall : ∀ q ∈ qs, q = 0
    · have z0 : zs = [] := by
        rw [List.filter_eq_nil_iff.mpr (fun q m => by simp [hall q m])] at hzl
        exact List.length_eq_zero_iff.mp hzl
      subst z0
      refine Or.inr (Or.inr ⟨.list [], .list [], .lst (SqL.of (sameNew hem _ _ hDl)) .nil, .lst (SqL.of upd_same) .nil, by decide +kernel, by decide +kernel, _, rfl, ifT (by decide +kernel) ?_⟩)
      have g0 : g = 0 := by rw [← hgg]; exact gcds_zero hall
      exact ⟨_, rfl, Or.inr (Or.inl (oc (r := true) T.q_Ratio_eq G_eq (hr.mono (by decide)) (rt.same (sameNew hem)) num_i zg2 ⟨by decide +kernel, by decide +kernel⟩ (by rw [g0]; decide +kernel) fun H4 e4 => k _ ((ea.trans (sameNew hem)).trans e4)))⟩
    have hzn : zs.length ≠ ([] : List V).length := fun z => hall fun q m => by
      rw [z] at hzl
      have := List.filter_eq_nil_iff.mp (List.length_eq_zero_iff.mp hzl.symm) q m
      simpa using this
    refine Or.inl ⟨D, em, zs, [], rfl, rfl, sameNew hem _ _ hDl, upd_same, hzn, _, rfl, ifF rfl ?_⟩
    have gne : g ≠ 0 := by
      rw [← hgg]
      obtain ⟨q, m, nq⟩ : ∃ q, q ∈ qs ∧ q ≠ 0 := by
        refine Classical.byContradiction fun h => hall fun q m => Classical.byContradiction fun z => h ⟨q, m, z⟩
      exact gcds_ne m nq
    have gpos : 0 < g := by
      have := (isG_gcds qs).pos
      rw [hgg] at this
      grind
    have rt := rt.same (sameNew (o := HO.lst []) hem)
    have ha := sameNew (o := HO.lst []) hem _ _ ha
    have hn := hn.same (sameNew (o := HO.lst []) hem)
    have ea := ea.trans (sameNew (o := HO.lst []) hem)
    clear hDl hzl
    generalize upd H' em (HO.lst []) = H4 at rt ha hn ea ⊢
    try dsimp only [tNext, gName]
    refine in_asg (lc_mapR (a := a) (xs := xs) (qs := qs) (fun q => q / g) (fun R q => ⟨_, rfl, q⟩) ha hn (by omega) (fun x q H' W hq nx ex hw => ⟨rfl, rfl, _, rfl, ⟨x, q, rfl, nx, fun p H5 e5 hp => ?_⟩⟩) (fun D H' zs e' hD hDl hzs => ?_))
    · obtain ⟨dp, hpi⟩ := id hp
      exact ⟨p, dp, _, rfl, hpi, rfl, _, rfl, ⟨p, _, q, g, rfl, hp, num_r ((rt.same ex).same e5), gne, sz_mono (hz q hq) (by decide), zg2, fun p' H6 e6 hp' => hw p' H6 (e5.trans e6) hp'⟩⟩
    have rt := rt.same e'
    have ha := e' _ _ ha
    have hn := hn.same e'
    have ea := ea.trans e'
    clear e' hD
    have zl : zs.length ≤ 5 := by rw [pd_len hzs, List.length_map]; exact ql
    try dsimp only [tNext, gName]
    refine st_eq (σ' := [some (.ref a), some (.ref pt), none, some (.ref D), none]) rfl ?_
    refine ⟨_, rfl, Or.inr (oc (r := false) T.q_Ratio_le G_le (hr.mono (by decide)) rt num_i zg2 ⟨by decide +kernel, by decide +kernel⟩ (decide_eq_false fun z => absurd gpos (Rat.not_lt.mpr z)) fun H5 e5 => ⟨_, rfl, ifF rfl ?_⟩)⟩
    have rt := rt.same e5
    have ha := e5 _ _ ha
    have hn := hn.same e5
    have ea := ea.trans e5
    have hDl := e5 _ _ hDl
    have hzs := hzs.same e5
    clear e5
    refine in_test (in_op (lc_keep (a := D) (xs := zs) (qs := qs.map fun q => q / g) (fun q => !decide ((q.den : Int) = 1)) (fun H y q => ∃ p, y = .ref p ∧ IsRat d.Ratio H p q) (fun ⟨p, e, r⟩ s => ⟨p, e, r.same s⟩) (fun R q => ⟨_, rfl, q⟩) hDl hzs (by omega) (fun x => rfl) (fun x => rfl) (fun x q H' W hq nx ex hw => ?_) (fun D2 H' zs2 e' hD2 hD2l hz2 => ?_)))
    · obtain ⟨p, rfl, dp, hp⟩ := nx
      have e : decide (V.int (q.den : Int) = V.int 1) = decide ((q.den : Int) = 1) := decide_eq_decide.mpr ⟨fun z => by injection z, fun z => by rw [z]⟩
      exact ⟨_, rfl, p, _, dp, _, _, rfl, hp, T.c_Ratio, T.a_Ratio_under, rfl, Or.inl ⟨rfl, _, rfl, by rw [e]; exact hw H' (Same.refl _)⟩⟩
    have tint : ∀ q ∈ qs, ∃ k : Int, q / g = (k : Rat) := fun q m => by
      have := times_int (qs := qs) (by rw [hgg]; exact gne) m
      rwa [hgg] at this
    have z2 : zs2 = [] := by
      rw [List.filter_eq_nil_iff.mpr (fun q m => ?_)] at hz2
      · exact List.length_eq_zero_iff.mp hz2
      · obtain ⟨q', m', rfl⟩ := List.mem_map.mp m
        obtain ⟨k, hk⟩ := tint q' m'
        rw [hk]
        simp
    subst z2
    refine ⟨(by show 0 ≤ sizeLine; decide), fun em hem => Or.inr (Or.inr ⟨.list [], .list [], .lst (SqL.of (sameNew hem _ _ hD2l)) .nil, .lst (SqL.of upd_same) .nil, by decide +kernel, by decide +kernel, _, rfl, ifF (by decide +kernel) ?_⟩)⟩
    have e6 := e'.trans (sameNew (o := HO.lst []) hem)
    have rt := rt.same e6
    have ha := e6 _ _ ha
    have hn := hn.same e6
    have ea := ea.trans e6
    have hDl := e6 _ _ hDl
    have hzs := hzs.same e6
    clear e6 e' hD2 hD2l hz2
    generalize upd H' em (HO.lst []) = H6 at rt ha hn ea hDl hzs ⊢
    refine in_test (in_op (lc_mapI (a := D) (xs := zs) (qs := qs.map fun q => q / g) Rat.num (fun R q => ⟨_, rfl, q⟩) hDl hzs (by omega) (fun p q H' W hq ⟨dp, hp⟩ ex hw => ⟨rfl, _, rfl, p, _, dp, _, _, rfl, hp, T.c_Ratio, T.a_Ratio_over, rfl, hw⟩) (fun D3 H' e' hD3 hD3l => ⟨D3, _, rfl, hD3l, fun r r0 hr' => ?_⟩)))
    have r1 : r = 1 := div_one (qs := qs) (by rw [hgg]; exact gne) r0 fun q m => by
      rw [hgg]
      exact hr' _ (List.mem_map.mpr ⟨q / g, List.mem_map.mpr ⟨q, m, rfl⟩, rfl⟩)
    subst r1
    refine Or.inl ⟨rfl, _, rfl, ifF (by decide) ?_⟩
    have rt := rt.same e'
    have ha := e' _ _ ha
    have hn := hn.same e'
    have ea := ea.trans e'
    clear e' hD3 hD3l hDl hzs hr'
    try dsimp only [tNext, gName]
    have hk : ((xs.length : Int).fdiv 2) = ((xs.length / 2 : Nat) : Int) := by
      rw [Int.fdiv_eq_ediv_of_nonneg _ (by decide)]
      rfl
    refine ⟨_, rfl, _, rfl, a, xs, rfl, Or.inl (SqL.of ha), Or.inl ⟨_, _, rfl, rfl, small_div (by decide) (by decide), _, rfl, a, xs, rfl, SqL.of ha, fun c hc => ?_⟩⟩
    generalize hm : xs.length / 2 = m at hk
    rw [hk]
    have hcL : upd H' c (.lst (cutV xs none (some (m : Int)))) c = some (.lst (xs.take m)) := by rw [upd_same, cutV_upto]
    have e1 := sameNew (o := HO.lst (cutV xs none (some (m : Int)))) hc
    have rt := rt.same e1
    have ha := e1 _ _ ha
    have hn := hn.same e1
    have ea := ea.trans e1
    clear e1 hc
    generalize upd H' c (HO.lst (cutV xs none (some (m : Int)))) = H7 at hcL rt ha hn ea ⊢
    dsimp only [gName]
    have zt : ∀ q ∈ qs.take m, Sz 101 q := fun q h => hz q (List.mem_of_mem_take h)
    have zd : ∀ q ∈ qs.drop m, Sz 101 q := fun q h => hz q (List.mem_of_mem_drop h)
    have lt : (qs.take m).length ≤ 5 := by rw [List.length_take]; exact Nat.le_trans (Nat.min_le_right _ _) ql
    have ld : (qs.drop m).length ≤ 5 := by rw [List.length_drop]; omega
    refine ⟨rfl, rfl, _, rfl, Or.inl ⟨.ref c, qs.take m, 101, rfl, ⟨c, false, xs.take m, rfl, hcL, pd_take m hn, by rw [List.length_take]; omega⟩, zt, bd _ lt, fun p1 K1 f1 r1 => ?_⟩⟩
    refine ⟨rfl, _, rfl, _, rfl, c, _, rfl, Or.inl (SqL.of (f1 _ _ hcL)), _, rfl, a, xs, rfl, SqL.of (f1 _ _ ha), fun c2 hc2 => ?_⟩
    have hl : (xs.take m).length = m := by rw [List.length_take]; omega
    have hc2L : upd K1 c2 (.lst (cutV xs (some ((xs.take m).length : Int)) none)) c2 = some (.lst (xs.drop m)) := by rw [upd_same, cutV_from, hl]
    have e2 := sameNew (o := HO.lst (cutV xs (some ((xs.take m).length : Int)) none)) hc2
    have f12 := f1.trans e2
    have r1 := r1.same e2
    refine Or.inl ⟨.ref c2, qs.drop m, 101, rfl, ⟨c2, false, xs.drop m, rfl, hc2L, pd_drop m (hn.same f12), by rw [List.length_drop]; omega⟩, zd, bd _ ld, fun p2 K2 f2 r2 => ⟨(by show 2 ≤ sizeLine; decide), fun L hL => ?_⟩⟩
    have e3 := sameNew (o := HO.lst [.ref p1, .ref p2]) hL
    refine Or.inl ⟨.ref L, [gcds (qs.take m), gcds (qs.drop m)], 600, rfl, ⟨L, false, [.ref p1, .ref p2], rfl, upd_same, .cons (num_r ((r1.same f2).same e3)) (.cons (num_r (r2.same e3)) .nil), (by show 2 ≤ 1000; decide)⟩, fun q hq => ?_, (by show 1 + (2 + 1) * 600 ≤ 2000; decide), fun p3 K3 f3 r3 => ?_⟩
    · simp only [List.mem_cons, List.not_mem_nil, or_false] at hq
      rcases hq with rfl | rfl
      · exact sg lt zt
      · exact sg ld zd
    rw [gcds_two, List.take_append_drop, hgg] at r3
    have eall := ((f12.trans f2).trans e3).trans f3
    exact ⟨_, rfl, Or.inr (Or.inl (oc (r := true) T.q_Ratio_eq G_eq (hr.mono (by decide)) r3 (num_r (rt.same eall)) zg2 zg2 (by simp) fun H9 e9 => k _ ((ea.trans eall).trans e9)))⟩
end

end AZ
namespace AZ
open PySem L2
/-! ## what is heard, sooner or later -/
def TTl (K : PySem.W.Frag) (CB : Addr) : (XK → Hp → VK → Prop) → Hp → VK → Prop := fun tl H Q => ∃ v e, Sh K H v e ∧ Shn e ∧ (∀ Q', tl (fun cls dd H' => cls = .ref CB ∧ ∃ dx, dd = some dx ∧ Same H H' ∧ H' dx = some (.xd [("value", v)])) H Q') ∧
  ∀ t H', Same H H' → H' t = some (.tup [.str "ratio", .str e.shown]) → Q (.ref t) H'
section
variable {d : Ad} {X : Cx}
theorem pss_ex {α : Type} {body : List Stmt} {t : α → TS} {t' : TS} (h : ∀ e, PSs X body (t e)) (k : ∀ D σ H, t' D σ H → ∃ e, t e D σ H) : PSs X body t' :=
  ⟨fun pins s σ H D I q => let ⟨e, q'⟩ := k D σ H q; (h e).run pins s σ H D I q'⟩
theorem heardG (T : Tx X.K X.mg d) {cdg : Value} {q : Str} : GivesG X ["_law_ask", "_law_caught", "error"] "_law_heard" (defScope s__law_heard) d._law_heard cdg (defBody s__law_heard) "_law_ask" q (TTl X.K d.BadRatio) := by
  have _ := T.F__law_heard
  intro f c' s H Q tl ng act hr hc h
  obtain ⟨v, e, S, n, raises, k⟩ := h
  refine ⟨_, pss_cons (ps_set (i := 1) sc__law_heard.nd rfl (Or.inl rfl) pe_non)
    (pss_cons (ps_try_keep (x := "SnapError") (c := .ref d.SnapError) (i := 2) (Wout := fun _ _ _ _ => False)
        (tb := fun W D σ H => ∃ Ech : XK, σ[0]? = some (some (.ref f)) ∧ H c' = some (LamX.CodeO c' q) ∧ (∀ cls dd H', Ech cls dd H' → W cls dd σ H') ∧ ∀ Q', tl Ech H Q')
        (ts := fun a cls dd => tAsg (tVar 2) (gName 1)) rfl rfl rfl sc__law_heard.nd rfl rfl ⟨rfl, by decide, Or.inl T.m_SnapError⟩ L2.takes0 (fun W pn xe tk _ => ?_)
        (fun a oe cls dd pn _ _ => pss_one (ps_set (i := 1) sc__law_heard.nd rfl (Or.inl rfl) (pv 2))))
      (pss_one (ps_ret (pe_ifExp (pt_val (pe_callB call_isEK (by rfl) T.n_isinstance (by decide +kernel) (pa_cons (pv 1) (pa_cons (pe_glob (v := .ref _) rfl T.m_BadRatio rfl) pa_nil))))
        (pe_tup (pa_cons pe_str (pa_cons (pe_callB (call_reprS ng hr.units70) (by rfl) T.n_repr (by decide +kernel) (pa_cons (pe_xfK (pv 1)) pa_nil)) pa_nil))) (pe_tup (pa_cons pe_str pa_nil)))))), ?_⟩
  · exact pss_ex (fun Ech => pss_one (ps_ret (pe_lst (pa_cons (act W pn xe Ech _ _ tk) pa_nil)))) fun D σ H' ⟨Ech, h1, h2, h3, h4⟩ => ⟨Ech, h1, h2, h3, h4 _⟩
  · refine ⟨fun cls dd H' => cls = .ref d.BadRatio ∧ ∃ dx, dd = some dx ∧ Same H H' ∧ H' dx = some (.xd [("value", v)]), rfl, hc, fun cls dd H' ⟨ec, dx, ed, s1, hd⟩ => ⟨true, ?_, fun _ a na => ⟨_, rfl, fun _ => ?_⟩, fun z => nomatch z⟩, raises⟩
    · subst ec; exact T.ex_BadRatio.exm T.sx_SnapError
    · subst ec ed
      have nad : dx ≠ a := fun z => by rw [z, na] at hd; cases hd
      have s2 : Same H' (upd H' a (exk a (.ref d.BadRatio) (some dx))) := sameNew na
      have ek : ErrK (upd H' a (exk a (.ref d.BadRatio) (some dx))) a d.BadRatio [("value", v)] := ⟨dx, upd_same, by rw [upd_ne nad]; exact hd⟩
      refine ⟨_, rfl, a, _, _, _, _, _, _, true, _, rfl, T.gx_object, T.ex_BadRatio, ek, .own _, kit_rr, true, rfl, iteT ?_⟩
      refine ⟨_, rfl, a, d.BadRatio, _, v, rfl, T.ex_BadRatio.xf, T.a_BadRatio_value, ek, by simp [List.lookup], v, e, rfl, S.same (s1.trans s2), n, (by show 2 ≤ sizeLine; decide), fun t ht => ?_⟩
      exact k t _ ((s1.trans s2).trans (sameNew ht)) upd_same
end

end AZ
namespace AZ
open PySem L2
/-! ## the law -/
-- asks T.i_NoneType_is_Ratio T.w_Ratio_NoneType T.i_NoneType_is_int T.i_NoneType_is_bool T.i_str_is_Ratio T.w_Ratio_str T.i_str_is_int T.i_str_is_bool T.i_tuple_is_Ratio T.w_Ratio_tuple T.i_tuple_is_int T.i_tuple_is_bool T.i_list_is_Ratio T.w_Ratio_list T.i_list_is_int T.i_list_is_bool T.i_dict_is_Ratio T.w_Ratio_dict T.i_dict_is_int T.i_dict_is_bool T.i_bool_is_Ratio T.w_Ratio_bool T.i_bool_is_int T.i_bool_is_bool
-- asks T.i_NoneType_is_list T.i_NoneType_is_tuple T.i_int_is_list T.i_int_is_tuple T.i_str_is_list T.i_str_is_tuple T.i_dict_is_list T.i_dict_is_tuple T.i_bool_is_list T.i_bool_is_tuple T.tab_law T.m__law_heard
abbrev lamQ : Str := (PyProof.Rows.envOfC "law" (defScope s_law) 0 0 .none).qual ++ "<lambda>"
def levelLaw : Nat := 10
def spLaw (K : PySem.W.Frag) (cs : List (Addr × Addr)) : Sp := fun vs H Q _ => ∃ (a : Addr) (ns : List Int), vs = [.ref a] ∧ SqL K H a (ns.map V.int) ∧ ns.length ≤ 63 ∧ (∀ p ∈ cs, H p.2 = some (.tbl #[])) ∧ ∀ H', Q (.bl true) H'
/-- a value that is no list, and how it is told -/
structure Wrong (K : PySem.W.Frag) (H : Hp) (v : V) (e : PyData) : Prop where
  no : NoSeq K H v
  sh : Sh K H v e
  shn : Shn e
/-! ## a list of what is heard -/
def Good (fs : List (Addr × HO)) (G : Hp) : Prop := ∀ q ∈ fs, G q.1 = some q.2
def NoTbl (fs : List (Addr × HO)) : Prop := ∀ q ∈ fs, ∀ ps, q.2 ≠ .tbl ps
theorem Good.ext {fs : List (Addr × HO)} {G G' : Hp} (g : Good fs G) (nt : NoTbl fs) (e : LamX.ExtN G G') : Good fs G' := fun q hq => e _ _ (g q hq) (nt q hq)
theorem Good.upd {fs : List (Addr × HO)} {G : Hp} {a : Addr} {o : HO} (g : Good fs G) (n : ∀ q ∈ fs, q.1 ≠ a) : Good fs (L2.upd G a o) := fun q hq => by
  rw [upd_ne (n q hq)]; exact g q hq
theorem IsRat.ext {C a : Addr} {H H' : Hp} {q : Rat} (h : IsRat C H a q) (e : LamX.ExtN H H') : IsRat C H' a q := let ⟨dx, x⟩ := h; ⟨dx, e _ _ x fun _ z => nomatch z⟩
theorem Nums.ext {C : Addr} {H H' : Hp} (e : LamX.ExtN H H') : ∀ {xs : List V} {qs : List Rat}, Nums C H xs qs → Nums C H' xs qs
  | _, _, .nil => .nil
  | _, _, .cons (Or.inl x) r => .cons (Or.inl x) (Nums.ext e r)
  | _, _, .cons (Or.inr ⟨a, x, y⟩) r => .cons (Or.inr ⟨a, x, y.ext e⟩) (Nums.ext e r)
/-- what holds while the list at lh grows -/
structure Grow (C : Addr) (ys : List V) (qs : List Rat) (T : List (Addr × Str)) (fs : List (Addr × HO)) (lh : Addr) (xs : List V) (G : Hp) : Prop where
  good : Good fs G
  nt : NoTbl fs
  ne : ∀ q ∈ fs, q.1 ≠ lh
  tabs : LamX.Tabs T G
  list : G lh = some (.lst xs)
  nums : Nums C G ys qs
theorem Grow.step {C : Addr} {zs : List V} {qs : List Rat} {T : List (Addr × Str)} {fs : List (Addr × HO)} {lh t : Addr} {xs ys : List V} {G G' : Hp} (g : Grow C zs qs T fs lh xs G) (e : LamX.ExtN G G') (tb : LamX.Tabs T G') (ht : G' t = some (.tup ys)) : Grow C zs qs T ((t, .tup ys) :: fs) lh (xs ++ [.ref t]) (upd G' lh (.lst (xs ++ [.ref t]))) := by
  have hl : G' lh = some (.lst xs) := e _ _ g.list fun _ z => nomatch z
  have ntl : t ≠ lh := fun z => by rw [z, hl] at ht; cases ht
  have ne' : ∀ q ∈ (t, HO.tup ys) :: fs, q.1 ≠ lh := fun q hq => by
    rcases List.mem_cons.mp hq with rfl | hq
    · exact ntl
    · exact g.ne q hq
  refine ⟨Good.upd (fun q hq => ?_) ne', fun q hq => ?_, ne', Tabs.up tb (Up.put hl), upd_same, (g.nums.ext e).up (Up.put hl)⟩
  · rcases List.mem_cons.mp hq with rfl | hq
    · exact ht
    · exact g.good.ext g.nt e q hq
  · rcases List.mem_cons.mp hq with rfl | hq
    · exact fun _ z => nomatch z
    · exact g.nt q hq
theorem Grow.first {C : Addr} {zs : List V} {qs : List Rat} {T : List (Addr × Str)} {fs : List (Addr × HO)} {lh t : Addr} {ys : List V} {G G' : Hp} (g : Good fs G) (nt : NoTbl fs) (n : Nums C G zs qs) (e : LamX.ExtN G G') (tb : LamX.Tabs T G') (ht : G' t = some (.tup ys)) (hlh : G' lh = none) : Grow C zs qs T ((t, .tup ys) :: fs) lh [.ref t] (upd G' lh (.lst [.ref t])) := by
  have g3 := g.ext nt e
  have ne1 : ∀ q ∈ (t, HO.tup ys) :: fs, q.1 ≠ lh := fun q hq => by
    rcases List.mem_cons.mp hq with rfl | hq
    · exact ne_of_none ht hlh
    · exact ne_of_none (g3 q hq) hlh
  refine ⟨Good.upd (fun q hq => ?_) ne1, fun q hq => ?_, ne1, LamX.Tabs.ext tb (sameNew hlh), upd_same, (n.ext e).same (sameNew hlh)⟩
  · rcases List.mem_cons.mp hq with rfl | hq
    · exact ht
    · exact g3 q hq
  · rcases List.mem_cons.mp hq with rfl | hq
    · exact fun _ z => nomatch z
    · exact nt q hq
theorem lst_h {R : TE} {σ : L2.St} {H : Hp} {Q : VK} {PP : Addr → Hp → Prop} (h : ∀ Q' : VK, (∀ t H', PP t H' → Q' (.ref t) H') → R σ H Q') (k : ∀ l t H', PP t H' → H' l = none → Q (.ref l) (upd H' l (.lst [.ref t]))) : tLst (tCons R tNil) σ H Q :=
  h _ fun t H' q => ⟨(by show 1 ≤ sizeLine; decide), fun l hl => k l t H' q hl⟩
theorem app_h {K : PySem.W.Frag} {R : TE} {σ : L2.St} {D : Ends} {H : Hp} {l : Addr} {xs : List V} {i : Nat} {PP : Addr → Hp → Prop} (h3 : σ[i]? = some (some (.ref l))) (hl : H l = some (.lst xs)) (h : ∀ Q' : VK, (∀ t H', PP t H' → Q' (.ref t) H') → R σ H Q')
    (pl : ∀ t H', PP t H' → H' l = some (.lst xs)) (hz : xs.length < 1000) (k : ∀ t H', PP t H' → D.nx σ (upd H' l (.lst (xs ++ [.ref t])))) : tDrop (tBM K "list" rAppend (tVar i) (tCons R tNil)) D σ H :=
  ⟨_, h3, .inl ⟨rfl, _, SqL.of hl⟩, h _ fun t H' q => ⟨l, xs, _, rfl, rfl, pl t H' q, Nat.lt_trans hz (by decide), k t H' q⟩⟩
theorem go_sd {t u : TS} {D : Ends} {σ : L2.St} {H : Hp} (h : t { D with nx := u D } σ H) : tSeq t u D σ H := h
/-- the wish of a caught error -/
abbrev Caught (CB : Addr) (v : V) (H : Hp) : XK := fun cls dd H' => cls = .ref CB ∧ ∃ dx, dd = some dx ∧ Same H H' ∧ H' dx = some (.xd [("value", v)])
theorem caught_rai {CB : Addr} {v : V} {H H1 : Hp} (e : Same H H1) : RaiL CB v H1 (Caught CB v H) := fun dx _ s _ h => ⟨rfl, dx, rfl, e.trans s, h⟩
def PP6 (K : PySem.W.Frag) (T : List (Addr × Str)) (H : Hp) (e : PyData) (t : Addr) (H' : Hp) : Prop := LamX.ExtN H H' ∧ LamX.Tabs T H' ∧ H' t = some (.tup [.str "ratio", .str e.shown])
theorem heardS {K : PySem.W.Frag} {CB : Addr} {T : List (Addr × Str)} {t : XK → TE} {σ : L2.St} {H : Hp} {Q : VK} {v : V} {e : PyData} (tabs : LamX.Tabs T H) (sh : Sh K H v e) (sn : Shn e) (hr : ∀ H1 Q', LamX.ExtN H H1 → t (Caught CB v H1) σ H1 Q')
    (k : ∀ t H', PP6 K T H e t H' → Q (.ref t) H') : LamX.tLam T (TTl K CB) t σ H Q :=
  ⟨tabs, fun H1 eN t1 => ⟨v, e, sh.ext eN, sn, fun Q' => hr H1 Q' eN, fun t H' e' ht => k t H' ⟨LamX.ExtN.trans eN (ExtN.same e'), t1.ext e', ht⟩⟩⟩
theorem heard_eq6 {x y : Str} : PyData.eqv (.list [.tuple [.str "ratio", .str x], .tuple [.str "ratio", .str x], .tuple [.str "ratio", .str x], .tuple [.str "ratio", .str y], .tuple [.str "ratio", .str y], .tuple [.str "ratio", .str y]])
    (.list [.tuple [.str "ratio", .str x], .tuple [.str "ratio", .str x], .tuple [.str "ratio", .str x], .tuple [.str "ratio", .str y], .tuple [.str "ratio", .str y], .tuple [.str "ratio", .str y]]) = true := by
  simp [PyData.eqv, PyData.eqvAll]
theorem heard_shaped6 {x y : Str} (hx : PyData.strOk x = true) (hy : PyData.strOk y = true) : SeqAt.shaped (.list [.tuple [.str "ratio", .str x], .tuple [.str "ratio", .str x], .tuple [.str "ratio", .str x], .tuple [.str "ratio", .str y], .tuple [.str "ratio", .str y], .tuple [.str "ratio", .str y]]) = true := by
  simp [SeqAt.shaped, PyData.canLay0, PyData.canLayAll0, PyData.depth, PyData.depthAll, hx, hy]
  decide +kernel
theorem heard_eq2 {x : Str} : PyData.eqv (.list [.tuple [.str "ratio", .str x], .tuple [.str "ratio", .str x]]) (.list [.tuple [.str "ratio", .str x], .tuple [.str "ratio", .str x]]) = true := by
  simp [PyData.eqv, PyData.eqvAll]
theorem heard_shaped2 {x : Str} (hx : PyData.strOk x = true) : SeqAt.shaped (.list [.tuple [.str "ratio", .str x], .tuple [.str "ratio", .str x]]) = true := by
  simp [SeqAt.shaped, PyData.canLay0, PyData.canLayAll0, PyData.depth, PyData.depthAll, hx]
  decide +kernel
section
variable {P : Program} {w : World} {K : PySem.W.Frag} {mg : Str → Option Value} {base : Heap} {d : Ad} {H H' : Hp}
theorem no_seq {t : String} (h1 : PySem.W.kitOne K (.type t) (.type "list") = some false) (h2 : PySem.W.kitOne K (.type t) (.type "tuple") = some false) : PySem.W.kitAny K (.type t) [.type "list", .type "tuple"] = some false := by
  simp [PySem.W.kitAny, h1, h2]
theorem odd_ok (T : Tx K mg d) {t l dd : Addr} {x : V} (hx : x ∈ [V.non, .str "1", .bl true, .ref t, .ref l, .ref dd]) : ∃ e, PyData.strOk e.shown = true ∧ ∀ H : Hp, H t = some (.tup [.int 1]) → H l = some (.lst []) → H dd = some (.dK []) → Odd K d.Ratio H x e := by
  simp only [List.mem_cons, List.not_mem_nil, or_false] at hx
  rcases hx with rfl | rfl | rfl | rfl | rfl | rfl
  · refine ⟨_, ?_, fun H h1 h2 h3 => ⟨⟨_, .base .non, T.i_NoneType_is_Ratio, T.w_Ratio_NoneType, _, _, T.i_NoneType_is_int, T.i_NoneType_is_bool, rfl⟩, .dp .non rfl, by decide +kernel, by decide +kernel, by decide +kernel⟩⟩
    decide +kernel
  · refine ⟨_, ?_, fun H h1 h2 h3 => ⟨⟨_, .base (.str _), T.i_str_is_Ratio, T.w_Ratio_str, _, _, T.i_str_is_int, T.i_str_is_bool, rfl⟩, .dp (.str _) rfl, by decide +kernel, by decide +kernel, by decide +kernel⟩⟩
    decide +kernel
  · refine ⟨_, ?_, fun H h1 h2 h3 => ⟨⟨_, .base (.bl _), T.i_bool_is_Ratio, T.w_Ratio_bool, _, _, T.i_bool_is_int, T.i_bool_is_bool, rfl⟩, .dp (.bl _) rfl, by decide +kernel, by decide +kernel, by decide +kernel⟩⟩
    decide +kernel
  · refine ⟨_, ?_, fun H h1 h2 h3 => ⟨⟨_, .base (.tup h1), T.i_tuple_is_Ratio, T.w_Ratio_tuple, _, _, T.i_tuple_is_int, T.i_tuple_is_bool, rfl⟩, .dp (.tup (SqT.of h1) (.cons (.int 1) .nil)) rfl, by decide +kernel, by decide +kernel, by decide +kernel⟩⟩
    decide +kernel
  · refine ⟨_, ?_, fun H h1 h2 h3 => ⟨⟨_, .base (.lst h2), T.i_list_is_Ratio, T.w_Ratio_list, _, _, T.i_list_is_int, T.i_list_is_bool, rfl⟩, .dp (.lst (SqL.of h2) .nil) rfl, by decide +kernel, by decide +kernel, by decide +kernel⟩⟩
    decide +kernel
  · refine ⟨_, ?_, fun H h1 h2 h3 => ⟨⟨_, .base (.dK h3), T.i_dict_is_Ratio, T.w_Ratio_dict, _, _, T.i_dict_is_int, T.i_dict_is_bool, rfl⟩, .dict (l := []) h3, by decide +kernel, by decide +kernel, by decide +kernel⟩⟩
    decide +kernel
theorem wrong_ok (T : Tx K mg d) {t dd : Addr} {x : V} (hx : x ∈ [V.non, .int 3, .str "12", .ref t, .ref dd, .bl true]) : ∃ e, PyData.strOk e.shown = true ∧ ∀ H : Hp, H t = some (.dK []) → H dd = some (.dK [(Sum.inl 1, .int 2)]) → Wrong K H x e := by
  simp only [List.mem_cons, List.not_mem_nil, or_false] at hx
  rcases hx with rfl | rfl | rfl | rfl | rfl | rfl
  · refine ⟨_, ?_, fun H h1 h2 => ⟨⟨_, .base .non, no_seq T.i_NoneType_is_list T.i_NoneType_is_tuple⟩, .dp .non rfl, by decide +kernel, by decide +kernel, by decide +kernel⟩⟩
    decide +kernel
  · refine ⟨_, ?_, fun H h1 h2 => ⟨⟨_, .base (.int _), no_seq T.i_int_is_list T.i_int_is_tuple⟩, .dp (.int _) rfl, by decide +kernel, by decide +kernel, by decide +kernel⟩⟩
    decide +kernel
  · refine ⟨_, ?_, fun H h1 h2 => ⟨⟨_, .base (.str _), no_seq T.i_str_is_list T.i_str_is_tuple⟩, .dp (.str _) rfl, by decide +kernel, by decide +kernel, by decide +kernel⟩⟩
    decide +kernel
  · refine ⟨_, ?_, fun H h1 h2 => ⟨⟨_, .base (.dK h1), no_seq T.i_dict_is_list T.i_dict_is_tuple⟩, .dict (l := []) h1, by decide +kernel, by decide +kernel, by decide +kernel⟩⟩
    decide +kernel
  · refine ⟨_, ?_, fun H h1 h2 => ⟨⟨_, .base (.dK h2), no_seq T.i_dict_is_list T.i_dict_is_tuple⟩, .dict (l := [(Sum.inl 1, 2)]) h2, by decide +kernel, by decide +kernel, by decide +kernel⟩⟩
    decide +kernel
  · refine ⟨_, ?_, fun H h1 h2 => ⟨⟨_, .base (.bl _), no_seq T.i_bool_is_list T.i_bool_is_tuple⟩, .dp (.bl _) rfl, by decide +kernel, by decide +kernel, by decide +kernel⟩⟩
    decide +kernel
theorem uMulP {X : Cx} : OpR X (binaryOp .Mult) (orR (rI CMulU fun i j => .int (i * j)) rRep) := op_or2 op_mulU op_rep
theorem G_law (T : Tx K mg d) (TB : LamX.TabB base mg d.cc_law d.cp_law) : FnG P w K mg base CX0 levelLaw d.law (spLaw K [(d.cc_law, d.cp_law)]) := by
  have G__law_pen : FnR P w K mg base CX0 1 d._law_pen (spPenL K) := G__law_penL T
  have G__law_draw : FnR P w K mg base CX0 1 d._law_draw spDrawL := G__law_drawL T
  have G__law_pick : FnR P w K mg base CX0 2 d._law_pick spPickL := G__law_pickL T
  have G__law_drawn := G__law_drawn (P := P) (w := w) (base := base) T
  have G__law_common_right := G__law_common_right (P := P) (w := w) (base := base) T
  have G__law_ends_right := G__law_ends_right (P := P) (w := w) (base := base) T
  have GX_Ratio_highest := GX_Ratio_highest (P := P) (w := w) (base := base) T
  have GX_Ratio_lowest := GX_Ratio_lowest (P := P) (w := w) (base := base) T
  have GX_Ratio_common := GX_Ratio_common (P := P) (w := w) (base := base) T
  have G_Ratio___init__ : FnR P w K mg base CX0 2 d.Ratio___init__ _ := G_Ratio___init__ T
  have G_Ratio___str__ := G_Ratio___str__ (P := P) (w := w) (base := base) T
  have G_eq : FnR P w K mg base CX0 2 d.Ratio___eq__ (spCmp d.Ratio fun x y => decide (x = y)) := G_Ratio___eq__ T
  obtain ⟨fdH, Fh⟩ := T.F__law_heard
  have hbH := Fh.binds (ps := ["_law_ask"]) fun _ _ _ _ _ _ us hl => match us, hl with | [_], _ => rfl
  obtain ⟨ocH, odH, kVH, docH, pmH, anH, cdvH, ctH, oslH, rfl, lkH, cgH⟩ := Fh.ex
  obtain ⟨fd, F⟩ := T.F_law
  refine fnC_of (k := 9) F sc_law (sp := spLaw K [(d.cc_law, d.cp_law)]) (fun vs H Q E h => ?_) (fun cdv A outer s H vs Q E hcode ng hr h => ?_) (F.binds fun _ _ _ _ _ _ us hl => match us, hl with | [_], _ => rfl)
  · obtain ⟨a, ns, rfl, _⟩ := h
    rfl
  · obtain ⟨a, ns, rfl, hS, hlen, htab, k⟩ := h
    have hc := T.tab_law.code_eq hcode
    subst hc
    -- slots: 0 _law_script, 1 _law_pen_here, 2 _law_turn, 3 _law_some, 4 _law_odd, 5 _law_spot, 6 _law_near, 7 _law_wrong, 8 _law_heard_here
    refine ⟨_, (pss_cons (ps_set (i := 1) sc_law.nd rfl (Or.inl rfl) (pe_fnR G__law_pen (hr.mono (by decide)) T.k__law_pen T.m__law_pen pass0 (pa_cons (pv 0) pa_nil)))
      (pss_cons (ps_for PassesOwn.never rfl (pi_range1 rfl T.n_range (pa_cons pe_int pa_nil)) (pg_name (i := 2) sc_law.nd rfl (Or.inl rfl)) (pss_cons (ps_set (i := 3) sc_law.nd rfl (Or.inl rfl) (pe_fnR G__law_drawn (hr.mono (by decide)) T.k__law_drawn T.m__law_drawn pass0 (pa_cons (pv 1) (pa_cons pe_int pa_nil))))
      (pss_cons (ps_if (PW.pt (pw_or (pt_not (pt_val (pe_fnG G__law_common_right ng (hr.mono (by decide)) T.k__law_common_right T.m__law_common_right pass0 (pa_cons (pv 3) pa_nil)))) (pw_or1 (PW.pt (pw_and (pt_cmpR (op_or2 op_ne (op_or2 (op_neDiff hr.units0) (op_or2 op_ownN (op_neD hr.units)))) (pv 3) (pe_lst pa_nil) (nomark _)) (pw_and1 (pt_not (pt_val (pe_fnG G__law_ends_right ng (hr.mono (by decide)) T.k__law_ends_right T.m__law_ends_right pass0 (pa_cons (pv 3) pa_nil)))))))))) (pss_one (ps_ret pe_bl)) pss_nil)
      (pss_cons (ps_par (i := 4) (j := 5) (by rfl) sc_law.nd rfl rfl (by decide) rfl rfl (pa_cons (pe_fnR G__law_pick (hr.mono (by decide)) T.k__law_pick T.m__law_pick pass0 (pa_cons (pv 1) (pa_cons (pe_lst (pa_cons pe_non (pa_cons pe_str (pa_cons pe_bl (pa_cons (pe_tup (pa_cons pe_int pa_nil)) (pa_cons (pe_lst pa_nil) (pa_cons pe_dnewK pa_nil))))))) pa_nil))) (pa_cons (pe_fnR G__law_draw (hr.mono (by decide)) T.k__law_draw T.m__law_draw pass0 (pa_cons (pv 1) (pa_cons (pe_op uAdd (pe_callB call_len_seq (by rfl) T.n_len (by decide +kernel) (pa_cons (pv 3) pa_nil)) pe_int) pa_nil))) pa_nil)) (by rfl))
      (pss_cons (ps_asg (pe_tup (pa_cons (pe_op uAdd (pe_op uAdd (pe_op uAdd (pe_slice sl_list (pv 3) po_none (po_some (pv 5))) (pe_lst (pa_cons (pv 4) pa_nil))) (pe_slice sl_list (pv 3) (po_some (pv 5)) po_none)) (pe_lst (pa_cons pe_non pa_nil))) (pa_cons (pe_fnR G__law_pick (hr.mono (by decide)) T.k__law_pick T.m__law_pick pass0 (pa_cons (pv 1) (pa_cons (pe_lst (pa_cons pe_non (pa_cons pe_int (pa_cons pe_str (pa_cons pe_dnewK (pa_cons (pe_disp (pps_cons pe_int pe_int pps_nil) rfl rfl (by simp) (by decide)) (pa_cons pe_bl pa_nil))))))) pa_nil))) pa_nil))) (pg_tup (by rfl) (pgs_cons (pg_name (i := 6) sc_law.nd rfl (Or.inr rfl)) (pgs_cons (pg_name (i := 7) sc_law.nd rfl (Or.inr rfl)) pgs_nil))))
      (pss_cons (ps_set (i := 8) sc_law.nd rfl (Or.inl rfl) (pe_lst (pa_cons (pe_lamG (k := 7) (t := fun E => tSM d.Ratio (spHi K d true) E (tC (.ref d.Ratio)) (tCons (tVar 6) tNil)) (T := [(d.cp_law, lamQ)]) (TT := TTl K d.BadRatio) ng rfl T.m__law_heard T.k__law_heard lkH cgH hbH sc__law_heard rfl (Or.inl rfl) (heardG T) TB rfl (List.mem_cons_self ..) (fun p hp _ => by rw [List.mem_singleton.mp hp]; rfl) (hr.mono (by decide)) (LamX.lamS_by (sc := defScope s_law) (by decide +kernel)) rfl (fun _ _ _ _ _ => rfl) (fun A outer s H E f c' ng hr => pe_smethG (pe_glob (v := .ref _) rfl T.m_Ratio rfl) T.s_Ratio_highest GX_Ratio_highest ng (hr.mono (by decide)) (on (takes_of rfl rfl rfl rfl)) (pa_cons (pv 6) pa_nil))) pa_nil)))
      (pss_cons (ps_expr (pe_bm PySem.F.plainAttrs_list PySem.F.slot_list_append PySem.F.type_list_append mt_append (pv 8) (pa_cons (pe_lamG (k := 7) (t := fun E => tSM d.Ratio (spHi K d false) E (tC (.ref d.Ratio)) (tCons (tVar 6) tNil)) (T := [(d.cp_law, lamQ)]) (TT := TTl K d.BadRatio) ng rfl T.m__law_heard T.k__law_heard lkH cgH hbH sc__law_heard rfl (Or.inl rfl) (heardG T) TB rfl (List.mem_cons_self ..) (fun p hp _ => by rw [List.mem_singleton.mp hp]; rfl) (hr.mono (by decide)) (LamX.lamS_by (sc := defScope s_law) (by decide +kernel)) rfl (fun _ _ _ _ _ => rfl) (fun A outer s H E f c' ng hr => pe_smethG (pe_glob (v := .ref _) rfl T.m_Ratio rfl) T.s_Ratio_lowest GX_Ratio_lowest ng (hr.mono (by decide)) (on (takes_of rfl rfl rfl rfl)) (pa_cons (pv 6) pa_nil))) pa_nil)))
      (pss_cons (ps_expr (pe_bm PySem.F.plainAttrs_list PySem.F.slot_list_append PySem.F.type_list_append mt_append (pv 8) (pa_cons (pe_lamG (k := 7) (t := fun E => tSM d.Ratio (spCo K d) E (tC (.ref d.Ratio)) (tCons (tCB (rTupK K) (tCons (tVar 6) tNil)) tNil)) (T := [(d.cp_law, lamQ)]) (TT := TTl K d.BadRatio) ng rfl T.m__law_heard T.k__law_heard lkH cgH hbH sc__law_heard rfl (Or.inl rfl) (heardG T) TB rfl (List.mem_cons_self ..) (fun p hp _ => by rw [List.mem_singleton.mp hp]; rfl) (hr.mono (by decide)) (LamX.lamS_by (sc := defScope s_law) (by decide +kernel)) rfl (fun _ _ _ _ _ => rfl) (fun A outer s H E f c' ng hr => pe_smethG (pe_glob (v := .ref _) rfl T.m_Ratio rfl) T.s_Ratio_common GX_Ratio_common ng (hr.mono (by decide)) (on (takes_of rfl rfl rfl rfl)) (pa_cons (pe_callTy (call_tupleK rfl) (by rfl) T.n_tuple (by decide +kernel) (pa_cons (pv 6) pa_nil)) pa_nil))) pa_nil)))
      (pss_cons (ps_expr (pe_bm PySem.F.plainAttrs_list PySem.F.slot_list_append PySem.F.type_list_append mt_append (pv 8) (pa_cons (pe_lamG (k := 7) (t := fun E => tSM d.Ratio (spHi K d true) E (tC (.ref d.Ratio)) (tCons (tVar 7) tNil)) (T := [(d.cp_law, lamQ)]) (TT := TTl K d.BadRatio) ng rfl T.m__law_heard T.k__law_heard lkH cgH hbH sc__law_heard rfl (Or.inl rfl) (heardG T) TB rfl (List.mem_cons_self ..) (fun p hp _ => by rw [List.mem_singleton.mp hp]; rfl) (hr.mono (by decide)) (LamX.lamS_by (sc := defScope s_law) (by decide +kernel)) rfl (fun _ _ _ _ _ => rfl) (fun A outer s H E f c' ng hr => pe_smethG (pe_glob (v := .ref _) rfl T.m_Ratio rfl) T.s_Ratio_highest GX_Ratio_highest ng (hr.mono (by decide)) (on (takes_of rfl rfl rfl rfl)) (pa_cons (pv 7) pa_nil))) pa_nil)))
      (pss_cons (ps_expr (pe_bm PySem.F.plainAttrs_list PySem.F.slot_list_append PySem.F.type_list_append mt_append (pv 8) (pa_cons (pe_lamG (k := 7) (t := fun E => tSM d.Ratio (spHi K d false) E (tC (.ref d.Ratio)) (tCons (tVar 7) tNil)) (T := [(d.cp_law, lamQ)]) (TT := TTl K d.BadRatio) ng rfl T.m__law_heard T.k__law_heard lkH cgH hbH sc__law_heard rfl (Or.inl rfl) (heardG T) TB rfl (List.mem_cons_self ..) (fun p hp _ => by rw [List.mem_singleton.mp hp]; rfl) (hr.mono (by decide)) (LamX.lamS_by (sc := defScope s_law) (by decide +kernel)) rfl (fun _ _ _ _ _ => rfl) (fun A outer s H E f c' ng hr => pe_smethG (pe_glob (v := .ref _) rfl T.m_Ratio rfl) T.s_Ratio_lowest GX_Ratio_lowest ng (hr.mono (by decide)) (on (takes_of rfl rfl rfl rfl)) (pa_cons (pv 7) pa_nil))) pa_nil)))
      (pss_cons (ps_expr (pe_bm PySem.F.plainAttrs_list PySem.F.slot_list_append PySem.F.type_list_append mt_append (pv 8) (pa_cons (pe_lamG (k := 7) (t := fun E => tSM d.Ratio (spCo K d) E (tC (.ref d.Ratio)) (tCons (tVar 7) tNil)) (T := [(d.cp_law, lamQ)]) (TT := TTl K d.BadRatio) ng rfl T.m__law_heard T.k__law_heard lkH cgH hbH sc__law_heard rfl (Or.inl rfl) (heardG T) TB rfl (List.mem_cons_self ..) (fun p hp _ => by rw [List.mem_singleton.mp hp]; rfl) (hr.mono (by decide)) (LamX.lamS_by (sc := defScope s_law) (by decide +kernel)) rfl (fun _ _ _ _ _ => rfl) (fun A outer s H E f c' ng hr => pe_smethG (pe_glob (v := .ref _) rfl T.m_Ratio rfl) T.s_Ratio_common GX_Ratio_common ng (hr.mono (by decide)) (on (takes_of rfl rfl rfl rfl)) (pa_cons (pv 7) pa_nil))) pa_nil)))
      (pss_one (ps_if (pt_cmpR (op_or2 op_ne (op_or2 (op_neDiff hr.units0) (op_or2 op_ownN (op_neD hr.units)))) (pv 8) (pe_op uAdd (pe_op uMulP (pe_lst (pa_cons (pe_tup (pa_cons pe_str (pa_cons (pe_callB (call_reprS ng hr.units70) (by rfl) T.n_repr (by decide +kernel) (pa_cons (pv 4) pa_nil)) pa_nil))) pa_nil)) pe_int) (pe_op uMulP (pe_lst (pa_cons (pe_tup (pa_cons pe_str (pa_cons (pe_callB (call_reprS ng hr.units70) (by rfl) T.n_repr (by decide +kernel) (pa_cons (pv 7) pa_nil)) pa_nil))) pa_nil)) pe_int)) (nomark _)) (pss_one (ps_ret pe_bl)) pss_nil)))))))))))))
      (pss_cons (ps_set (i := 8) sc_law.nd rfl (Or.inl rfl) (pe_lst (pa_cons (pe_lamG (k := 7) (t := fun E => tSM d.Ratio (spHi K d true) E (tC (.ref d.Ratio)) (tCons (tLst tNil) tNil)) (T := [(d.cp_law, lamQ)]) (TT := TTl K d.BadRatio) ng rfl T.m__law_heard T.k__law_heard lkH cgH hbH sc__law_heard rfl (Or.inl rfl) (heardG T) TB rfl (List.mem_cons_self ..) (fun p hp _ => by rw [List.mem_singleton.mp hp]; rfl) (hr.mono (by decide)) (LamX.lamS_by (sc := defScope s_law) (by decide +kernel)) rfl (fun _ _ _ _ _ => rfl) (fun A outer s H E f c' ng hr => pe_smethG (pe_glob (v := .ref _) rfl T.m_Ratio rfl) T.s_Ratio_highest GX_Ratio_highest ng (hr.mono (by decide)) (on (takes_of rfl rfl rfl rfl)) (pa_cons (pe_lst pa_nil) pa_nil))) pa_nil)))
      (pss_cons (ps_expr (pe_bm PySem.F.plainAttrs_list PySem.F.slot_list_append PySem.F.type_list_append mt_append (pv 8) (pa_cons (pe_lamG (k := 7) (t := fun E => tSM d.Ratio (spHi K d false) E (tC (.ref d.Ratio)) (tCons (tTup tNil) tNil)) (T := [(d.cp_law, lamQ)]) (TT := TTl K d.BadRatio) ng rfl T.m__law_heard T.k__law_heard lkH cgH hbH sc__law_heard rfl (Or.inl rfl) (heardG T) TB rfl (List.mem_cons_self ..) (fun p hp _ => by rw [List.mem_singleton.mp hp]; rfl) (hr.mono (by decide)) (LamX.lamS_by (sc := defScope s_law) (by decide +kernel)) rfl (fun _ _ _ _ _ => rfl) (fun A outer s H E f c' ng hr => pe_smethG (pe_glob (v := .ref _) rfl T.m_Ratio rfl) T.s_Ratio_lowest GX_Ratio_lowest ng (hr.mono (by decide)) (on (takes_of rfl rfl rfl rfl)) (pa_cons (pe_tup pa_nil) pa_nil))) pa_nil)))
      (pss_cons (ps_if (PW.pt (pw_or (pt_cmpR (op_or2 op_ne (op_or2 (op_neDiff hr.units0) (op_or2 op_ownN (op_neD hr.units)))) (pv 8) (pe_op uMulP (pe_lst (pa_cons (pe_tup (pa_cons pe_str (pa_cons (pe_callB (call_reprS ng hr.units70) (by rfl) T.n_repr (by decide +kernel) (pa_cons pe_str pa_nil)) pa_nil))) pa_nil)) pe_int) (nomark _)) (pw_or (pt_cmpR (op_or2 op_ne (op_or2 (op_neDiff hr.units0) (op_or2 op_ownN (op_neD hr.units)))) (pe_smethG (pe_glob (v := .ref _) rfl T.m_Ratio rfl) T.s_Ratio_common GX_Ratio_common ng (hr.mono (by decide)) passF (pa_cons (pe_lst pa_nil) pa_nil)) pe_int (nomark _)) (pw_or1 (pt_cmpR (op_or2 op_ne (op_or2 (op_neDiff hr.units0) (op_or2 op_ownN (op_neD hr.units)))) (pe_smethG (pe_glob (v := .ref _) rfl T.m_Ratio rfl) T.s_Ratio_common GX_Ratio_common ng (hr.mono (by decide)) passF (pa_cons (pe_tup (pa_cons pe_int (pa_cons (StX.pe_makeR T.mk_Ratio G_Ratio___init__ (hr.mono (by decide)) rfl T.m_Ratio pass0 (pa_cons pe_int pa_nil)) pa_nil))) pa_nil)) pe_int (nomark _)))))) (pss_one (ps_ret pe_bl)) pss_nil)
      (pss_one (ps_ret (pe_and (pe_cmpR (op_or2 op_eq (op_or2 (op_ownC _) (op_eqD hr.units))) (pe_callTy uStr (by rfl) T.n_str (by decide +kernel) (pa_cons (pe_smethG (pe_glob (v := .ref _) rfl T.m_Ratio rfl) T.s_Ratio_common GX_Ratio_common ng (hr.mono (by decide)) passF (pa_cons (pe_lst (pa_cons (StX.pe_makeR T.mk_Ratio G_Ratio___init__ (hr.mono (by decide)) rfl T.m_Ratio pass0 (pa_cons pe_int (pa_cons pe_int pa_nil))) (pa_cons (StX.pe_makeR T.mk_Ratio G_Ratio___init__ (hr.mono (by decide)) rfl T.m_Ratio pass0 (pa_cons pe_int (pa_cons pe_int pa_nil))) (pa_cons pe_int pa_nil)))) pa_nil)) pa_nil)) pe_str (nomark _)) (pe_one (pe_cmpR (op_or2 op_eq (op_or2 (op_ownC _) (op_eqD hr.units))) (pe_smethG (pe_glob (v := .ref _) rfl T.m_Ratio rfl) T.s_Ratio_highest GX_Ratio_highest ng (hr.mono (by decide)) passF (pa_cons (pe_lst (pa_cons (StX.pe_makeR T.mk_Ratio G_Ratio___init__ (hr.mono (by decide)) rfl T.m_Ratio pass0 (pa_cons (pe_un uNeg pe_int) (pa_cons pe_int pa_nil))) (pa_cons (pe_un uNeg pe_int) pa_nil))) pa_nil)) (StX.pe_makeR T.mk_Ratio G_Ratio___init__ (hr.mono (by decide)) rfl T.m_Ratio pass0 (pa_cons (pe_un uNeg pe_int) (pa_cons pe_int pa_nil))) (nomark _))))))))))), ?_⟩
    have tabs : LamX.Tabs [(d.cp_law, lamQ)] H := fun q hq => by
      rw [List.mem_singleton.mp hq]
      exact ⟨#[], htab _ (List.mem_singleton.mpr rfl), trivial, fun _ _ hc => nomatch hc⟩
    refine ⟨_, rfl, ⟨a, ns, rfl, hS, hlen, fun p lp H1 np _ e1 hp => ?_⟩⟩
    have tabs1 := LamX.Tabs.ext tabs e1
    clear tabs e1 htab hS np
    try dsimp only [tNext, gName]
    refine ⟨9, rfl, by decide, by decide, for_range (n := 9) (fun i σ H' => ∃ z2 z3 z4 z5 z6 z7 z8, σ = [some (.ref a), some (.ref p), z2, z3, z4, z5, z6, z7, z8] ∧ PenL H' p lp (100 * i) ∧ LamX.Tabs [(d.cp_law, lamQ)] H') ⟨_, _, _, _, _, _, _, rfl, hp, tabs1⟩ (fun i σ H' hi h => ?_) (fun σ H' h => ?_)⟩
    · obtain ⟨z2, z3, z4, z5, z6, z7, z8, rfl, hp, tabs⟩ := h
      clear tabs1
      try dsimp only [tNext, gName]
      refine ⟨_, rfl, ⟨p, lp, 100 * i, rfl, hp, by omega, fun l xs qs H2 nl hl hn h5 hz hp2 u2 => ?_⟩⟩
      obtain ⟨nlp, nll⟩ := pen_ne hp nl
      have tabs := Tabs.up tabs u2
      clear hp u2 nl
      try dsimp only [tNext, gName]
      refine st_eq (σ' := [some (.ref a), some (.ref p), some (.int (0 + ↑i)), some (.ref l), z4, z5, z6, z7, z8]) rfl ?_
      refine if_join (I := fun σ' H' => σ' = [some (.ref a), some (.ref p), some (.int (0 + ↑i)), some (.ref l), z4, z5, z6, z7, z8] ∧ Same H2 H') (fun N kN => ?_) (fun σ' H' h => ?_)
      · refine ⟨_, rfl, ⟨l, xs, qs, rfl, hl, hn, h5, hz, fun H3 e3 => ⟨true, rfl, iteF ?_⟩⟩⟩
        refine ⟨_, rfl, (by show 0 ≤ sizeLine; decide), fun em hem => ?_⟩
        have e4 := e3.trans (sameNew (o := HO.lst []) hem)
        by_cases hx : xs = []
        · subst hx
          refine Or.inr (Or.inr (Or.inr ⟨.list [], .list [], .lst (SqL.of (e4 _ _ hl)) .nil, .lst (SqL.of upd_same) .nil, by decide +kernel, by decide +kernel, _, rfl, ifF (by decide +kernel) ?_⟩))
          exact kN _ _ ⟨rfl, e4⟩
        · have pos : 0 < xs.length := List.length_pos_iff.mpr hx
          refine Or.inr (Or.inl ⟨l, em, xs, [], rfl, rfl, e4 _ _ hl, upd_same, by intro z; rw [z] at pos; exact absurd pos (by decide), _, rfl, iteT ?_⟩)
          exact ⟨_, rfl, ⟨l, xs, qs, rfl, e4 _ _ hl, hn.same e4, pos, h5, hz, fun H5 e5 => ⟨true, rfl, kN _ _ ⟨rfl, e4.trans e5⟩⟩⟩⟩
      obtain ⟨rfl, e3⟩ := h
      have hl := e3 _ _ hl
      have hn := hn.same e3
      have hp2 := pen_up hp2 e3
      have tabs := LamX.Tabs.ext tabs e3
      clear e3
      try dsimp only [tNext, gName]
      refine ⟨_, rfl, ⟨(by show 1 ≤ sizeLine; decide), fun t ht => ⟨(by show 0 ≤ sizeLine; decide), fun l1 hl1 => fun dd hdd => ⟨(by show 6 ≤ sizeLine; decide), fun L hL => ?_⟩⟩⟩⟩
      have sa : Same _ _ := (sameNew (o := HO.tup [V.int 1]) ht).trans ((sameNew (o := HO.lst []) hl1).trans (sameNew (o := HO.dK []) hdd))
      obtain ⟨nl1p, nl1l⟩ := pen_ne (pen_up hp2 (sameNew (o := HO.tup [V.int 1]) ht)) hl1
      obtain ⟨nLp, nLl⟩ := pen_ne (pen_up hp2 sa) hL
      have sL := sa.trans (sameNew (o := HO.lst [V.non, .str "1", .bl true, .ref t, .ref l1, .ref dd]) hL)
      refine ⟨p, lp, L, _, _, rfl, pen_up hp2 sL, by omega, Or.inl ⟨upd_same, nLp⟩, (by show 0 < 6; decide), (by show 6 ≤ 1000; decide), fun y H4 hy hp4 u4 => ?_⟩
      have b1 : H4 t = some (.tup [.int 1]) := u4.tup (sameNew hL _ _ (sameNew hdd _ _ (sameNew hl1 _ _ upd_same)))
      have b2 : H4 l1 = some (.lst []) := u4.lst (sameNew hL _ _ (sameNew hdd _ _ upd_same)) nl1p
      have b3 : H4 dd = some (.dK []) := u4 _ _ (sameNew hL _ _ upd_same) fun _ => rfl
      have hl := u4.lst (sL _ _ hl) nlp
      have hn := (hn.same sL).up u4
      have tabs := Tabs.up (LamX.Tabs.ext tabs sL) u4
      obtain ⟨e, okS, odd⟩ := odd_ok T hy
      clear sa sL ht hl1 hdd hL hp2 u4 hy
      refine ⟨_, rfl, _, rfl, l, _, rfl, Or.inl (SqL.of hl), Or.inl ⟨_, _, rfl, rfl, ⟨p, lp, _, _, rfl, hp4, by omega, by omega, by omega, fun sp H5 s0 s1 hp5 u5 => ?_⟩⟩⟩
      have b1 := u5.tup b1
      have b2 := u5.lst b2 nl1p
      have b3 := u5 _ _ b3 fun _ => rfl
      have hl := u5.lst hl nlp
      have hn := hn.up u5
      have tabs := Tabs.up tabs u5
      clear hp4 u5
      obtain ⟨m, rfl⟩ : ∃ m : Nat, sp = (m : Int) := ⟨sp.toNat, by omega⟩
      have hm : m ≤ xs.length := by omega
      refine ⟨_, _, rfl, ?_⟩
      try dsimp only [tNext, gName]
      refine st_eq (σ' := [some (.ref a), some (.ref p), some (.int (0 + ↑i)), some (.ref l), some y, some (.int m), z6, z7, z8]) rfl ?_
      -- near
      refine ⟨_, rfl, _, rfl, _, rfl, l, xs, rfl, SqL.of hl, fun c1 hc1 => ?_⟩
      have n1 : upd H5 c1 (.lst (cutV xs none (some (m : Int)))) c1 = some (.lst (xs.take m)) := by rw [upd_same, cutV_upto]
      have f1 := sameNew (o := HO.lst (cutV xs none (some (m : Int)))) hc1
      generalize upd H5 c1 (HO.lst (cutV xs none (some (m : Int)))) = K1 at n1 f1 ⊢
      refine ⟨_, rfl, (by show 1 ≤ sizeLine; decide), fun c2 hc2 => ?_⟩
      have n1 := sameNew (o := HO.lst [y]) hc2 _ _ n1
      have n2 : upd K1 c2 (HO.lst [y]) c2 = some (.lst [y]) := upd_same
      have f2 := f1.trans (sameNew (o := HO.lst [y]) hc2)
      generalize upd K1 c2 (HO.lst [y]) = K2 at n1 n2 f2 ⊢
      have lt : (xs.take m).length ≤ 5 := by rw [List.length_take]; omega
      have ld : (xs.drop m).length ≤ 5 := by rw [List.length_drop]; omega
      have big : ∀ n : Nat, n ≤ 1000 → n ≤ sizeLine := fun n h => Nat.le_trans h (by decide)
      refine Or.inr (Or.inr (Or.inl ⟨c1, c2, _, _, rfl, rfl, n1, n2, big _ (by show _ + 1 ≤ _; omega), fun c3 hc3 => ?_⟩))
      have f3 := f2.trans (sameNew (o := HO.lst (xs.take m ++ [y])) hc3)
      have n3 : upd K2 c3 (HO.lst (xs.take m ++ [y])) c3 = some (.lst (xs.take m ++ [y])) := upd_same
      generalize upd K2 c3 (HO.lst (xs.take m ++ [y])) = K3 at n3 f3 ⊢
      refine ⟨_, rfl, _, rfl, _, rfl, l, xs, rfl, SqL.of (f3 _ _ hl), fun c4 hc4 => ?_⟩
      have n4 : upd K3 c4 (.lst (cutV xs (some (m : Int)) none)) c4 = some (.lst (xs.drop m)) := by rw [upd_same, cutV_from]
      have n3 := sameNew (o := HO.lst (cutV xs (some (m : Int)) none)) hc4 _ _ n3
      have f4 := f3.trans (sameNew (o := HO.lst (cutV xs (some (m : Int)) none)) hc4)
      generalize upd K3 c4 (HO.lst (cutV xs (some (m : Int)) none)) = K4 at n3 n4 f4 ⊢
      refine Or.inr (Or.inr (Or.inl ⟨c3, c4, _, _, rfl, rfl, n3, n4, big _ (by rw [List.length_append]; show _ + 1 + _ ≤ _; omega), fun c5 hc5 => ?_⟩))
      have f5 := f4.trans (sameNew (o := HO.lst (xs.take m ++ [y] ++ xs.drop m)) hc5)
      have n5 : upd K4 c5 (HO.lst (xs.take m ++ [y] ++ xs.drop m)) c5 = some (.lst (xs.take m ++ [y] ++ xs.drop m)) := upd_same
      generalize upd K4 c5 (HO.lst (xs.take m ++ [y] ++ xs.drop m)) = K5 at n5 f5 ⊢
      refine ⟨(by show 1 ≤ sizeLine; decide), fun c6 hc6 => ?_⟩
      have n5 := sameNew (o := HO.lst [V.non]) hc6 _ _ n5
      have n6 : upd K5 c6 (HO.lst [V.non]) c6 = some (.lst [V.non]) := upd_same
      have f6 := f5.trans (sameNew (o := HO.lst [V.non]) hc6)
      generalize upd K5 c6 (HO.lst [V.non]) = K6 at n5 n6 f6 ⊢
      refine Or.inr (Or.inr (Or.inl ⟨c5, c6, _, _, rfl, rfl, n5, n6, big _ (by rw [List.length_append, List.length_append]; show _ + 1 + _ + 1 ≤ _; omega), fun nr hnr => ?_⟩))
      have f7 := f6.trans (sameNew (o := HO.lst (xs.take m ++ [y] ++ xs.drop m ++ [V.non])) hnr)
      have n7 : upd K6 nr (HO.lst (xs.take m ++ [y] ++ xs.drop m ++ [V.non])) nr = some (.lst (xs.take m ++ y :: (xs.drop m ++ [V.non]))) := by rw [upd_same]; simp
      obtain ⟨nnp, nnl⟩ := pen_ne (pen_up hp5 f6) hnr
      generalize upd K6 nr (HO.lst (xs.take m ++ [y] ++ xs.drop m ++ [V.non])) = K7 at n7 f7 ⊢
      have hp7 := pen_up hp5 f7
      have b1 := f7 _ _ b1
      have b2 := f7 _ _ b2
      have b3 := f7 _ _ b3
      have hn := hn.same f7
      have tabs := LamX.Tabs.ext tabs f7
      clear f1 f2 f3 f4 f5 f6 f7 n1 n2 n3 n4 n5 n6 hc1 hc2 hc3 hc4 hc5 hc6 hnr hl hp5
      -- wrong
      refine ⟨_, rfl, fun w1 hw1 => fun w2 hw2 => ⟨upd_same, [(Sum.inl 1, .int 2)], rfl, (by show 1 ≤ 15; decide), ⟨(by show 6 ≤ sizeLine; decide), fun W hW => ?_⟩⟩⟩
      have g1 := sameNew (o := HO.dK []) hw1
      have c1 : upd K7 w1 (.dK []) w1 = some (.dK []) := upd_same
      generalize upd K7 w1 (HO.dK []) = M1 at g1 c1 hw2 hW ⊢
      have c1 : upd (upd M1 w2 (.dK [])) w2 (.dK (mergeK [] [(Sum.inl 1, .int 2)])) w1 = some (.dK []) := by
        have : w1 ≠ w2 := ne_of_none c1 hw2
        rw [upd_ne this, upd_ne this]; exact c1
      have c2 : upd (upd M1 w2 (.dK [])) w2 (.dK (mergeK [] [(Sum.inl 1, .int 2)])) w2 = some (.dK [(Sum.inl 1, .int 2)]) := upd_same
      have g2 : Same M1 (upd (upd M1 w2 (.dK [])) w2 (.dK (mergeK [] [(Sum.inl 1, .int 2)]))) := fun b o e => by
        rw [upd_ne (ne_of_none e hw2), upd_ne (ne_of_none e hw2)]; exact e
      generalize upd (upd M1 w2 (HO.dK [])) w2 (HO.dK (mergeK [] [(Sum.inl 1, .int 2)])) = M2 at c1 c2 g2 hW ⊢
      have g12 := g1.trans g2
      obtain ⟨nWp, nWl⟩ := pen_ne (pen_up hp7 g12) hW
      have g3 := g12.trans (sameNew (o := HO.lst [V.non, .int 3, .str "12", .ref w1, .ref w2, .bl true]) hW)
      refine ⟨p, lp, W, _, _, rfl, pen_up hp7 g3, by omega, Or.inl ⟨upd_same, nWp⟩, (by show 0 < 6; decide), (by show 6 ≤ 1000; decide), fun v H8 hv hp8 u8 => ?_⟩
      obtain ⟨we, okW, wro⟩ := wrong_ok T hv
      have d1 : H8 w1 = some (.dK []) := u8 _ _ (sameNew hW _ _ c1) fun _ => rfl
      have d2 : H8 w2 = some (.dK [(Sum.inl 1, .int 2)]) := u8 _ _ (sameNew hW _ _ c2) fun _ => rfl
      have n7 := u8.lst (g3 _ _ n7) nnp
      have b1 := u8.tup (g3 _ _ b1)
      have b2 := u8.lst (g3 _ _ b2) nl1p
      have b3 := u8 _ _ (g3 _ _ b3) fun _ => rfl
      have hn := (hn.same g3).up u8
      have tabs := Tabs.up (LamX.Tabs.ext tabs g3) u8
      clear g1 g2 g12 g3 c1 c2 hW hw1 hw2 u8 hp7 hv
      refine ⟨(by show 2 ≤ sizeLine; decide), fun tt htt => ⟨tt, _, rfl, SqT.of upd_same, rfl, _, _, rfl, _, _, rfl, rfl, ?_⟩⟩
      have s9 := sameNew (o := HO.tup [.ref nr, v]) htt
      have d1 := s9 _ _ d1
      have d2 := s9 _ _ d2
      have n7 := s9 _ _ n7
      have b1 := s9 _ _ b1
      have b2 := s9 _ _ b2
      have b3 := s9 _ _ b3
      have hn := hn.same s9
      have hp9 := pen_up hp8 s9
      have tabs := LamX.Tabs.ext tabs s9
      clear s9 htt hp8
      generalize upd H8 tt (HO.tup [V.ref nr, v]) = H9 at d1 d2 n7 b1 b2 b3 hn hp9 tabs ⊢
      obtain ⟨pns, pspot, pgreat, hlpp, hpp, hpl, hprest⟩ := id hp9
      try dsimp only [tNext, gName]
      refine st_eq (σ' := [some (.ref a), some (.ref p), some (.int (0 + ↑i)), some (.ref l), some y, some (.int m), some (.ref nr), some v, z8]) rfl ?_
      have g0 : Good [(t, HO.tup [.int 1]), (l1, .lst []), (dd, .dK []), (nr, .lst (xs.take m ++ y :: (xs.drop m ++ [V.non]))), (w1, .dK []), (w2, .dK [(Sum.inl 1, .int 2)]), (p, .lst [.ref lp, .int pspot, .int pgreat]), (lp, .lst (pns.map V.int))] H9 := by
        intro q hq
        simp only [List.mem_cons, List.not_mem_nil, or_false] at hq
        rcases hq with rfl | rfl | rfl | rfl | rfl | rfl | rfl | rfl <;> assumption
      have nt0 : NoTbl [(t, HO.tup [.int 1]), (l1, .lst []), (dd, .dK []), (nr, .lst (xs.take m ++ y :: (xs.drop m ++ [V.non]))), (w1, .dK []), (w2, .dK [(Sum.inl 1, .int 2)]), (p, .lst [.ref lp, .int pspot, .int pgreat]), (lp, .lst (pns.map V.int))] := by
        intro q hq ps
        simp only [List.mem_cons, List.not_mem_nil, or_false] at hq
        rcases hq with rfl | rfl | rfl | rfl | rfl | rfl | rfl | rfl <;> exact fun z => nomatch z
      generalize hfs : [(t, HO.tup [.int 1]), (l1, .lst []), (dd, .dK []), (nr, .lst (xs.take m ++ y :: (xs.drop m ++ [V.non]))), (w1, .dK []), (w2, .dK [(Sum.inl 1, .int 2)]), (p, .lst [.ref lp, .int pspot, .int pgreat]), (lp, .lst (pns.map V.int))] = fs at g0 nt0
      have m1 : (t, HO.tup [.int 1]) ∈ fs := by rw [← hfs]; simp
      have m2 : (l1, HO.lst []) ∈ fs := by rw [← hfs]; simp
      have m3 : (dd, HO.dK []) ∈ fs := by rw [← hfs]; simp
      have m4 : (nr, HO.lst (xs.take m ++ y :: (xs.drop m ++ [V.non]))) ∈ fs := by rw [← hfs]; simp
      have m5 : (w1, HO.dK []) ∈ fs := by rw [← hfs]; simp
      have m6 : (w2, HO.dK [(Sum.inl 1, .int 2)]) ∈ fs := by rw [← hfs]; simp
      have m7 : (p, HO.lst [.ref lp, .int pspot, .int pgreat]) ∈ fs := by rw [← hfs]; simp
      have m8 : (lp, HO.lst (pns.map V.int)) ∈ fs := by rw [← hfs]; simp
      clear hfs d1 d2 n7 b1 b2 b3 hpp hpl
      have odG : ∀ {G : Hp}, Good fs G → Odd K d.Ratio G y e := fun g => odd _ (g _ m1) (g _ m2) (g _ m3)
      have wrG : ∀ {G : Hp}, Good fs G → Wrong K G v we := fun g => wro _ (g _ m5) (g _ m6)
      have nlen : (xs.take m ++ y :: (xs.drop m ++ [V.non])).length ≤ 1000 := by
        simp only [List.length_append, List.length_cons, List.length_nil]
        omega
      -- what is raised of the list with an odd value, and of the wrong one
      have badN : ∀ {G G' : Hp}, Good fs G → Nums d.Ratio G xs qs → Same G G' → ∀ {bb : Bool} {q : Addr}, G' q = some (sq bb (xs.take m ++ y :: (xs.drop m ++ [V.non]))) → Bad K d.Ratio d.BadRatio G' (.ref q) (Caught d.BadRatio y G) := fun {G G'} g nu s {bb q} hq =>
        Or.inl ⟨q, bb, xs.take m, qs.take m, y, xs.drop m ++ [V.non], e, rfl, hq, pd_take m (nu.same s), (odG g).ext (ExtN.same s), nlen, caught_rai s⟩
      have badW : ∀ {G : Hp}, Good fs G → Bad K d.Ratio d.BadRatio G v (Caught d.BadRatio v G) := fun {G} g =>
        Or.inr ⟨we, (wrG g).no, (wrG g).sh, (wrG g).shn, caught_rai (Same.refl _)⟩
      have gx : ∀ {G G' : Hp}, Good fs G → LamX.ExtN G G' → Good fs G' := fun g x => g.ext nt0 x
      refine in_asg (lst_h (fun Q' k' => heardS tabs (odG g0).sh (odG g0).shn (fun H1 Q'' eN => ⟨rfl, _, rfl, Or.inr ⟨_, rfl, Or.inl (badN (gx g0 eN) (hn.ext eN) (Same.refl _) (bb := false) (gx g0 eN _ m4))⟩⟩) k') fun lh t1 H10 ⟨x1, tb1, ht1⟩ hlh => ?_)
      have q1 := Grow.first g0 nt0 hn x1 tb1 ht1 hlh
      generalize upd H10 lh (HO.lst [.ref t1]) = G1 at q1 ⊢
      have s1 : ∀ q ∈ fs, q ∈ (t1, HO.tup [.str "ratio", .str e.shown]) :: fs := fun q h => List.mem_cons_of_mem _ h
      have r1 : Good fs G1 := fun q h => q1.good q (s1 q h)
      clear x1 tb1 ht1 hlh
      refine go_sd (app_h (i := 8) rfl q1.list (fun Q' k' => heardS q1.tabs (odG r1).sh (odG r1).shn (fun H1 Q'' eN => ⟨rfl, _, rfl, Or.inr ⟨_, rfl, Or.inl (badN (gx r1 eN) (q1.nums.ext eN) (Same.refl _) (bb := false) (gx r1 eN _ m4))⟩⟩) k') (fun _ _ h => h.1 _ _ q1.list fun _ z => nomatch z) (by simp) fun t2 H11 ⟨x2, tb2, ht2⟩ => ?_)
      have q2 := q1.step x2 tb2 ht2
      generalize upd H11 lh (HO.lst ([V.ref t1] ++ [.ref t2])) = G2 at q2 ⊢
      have s2 : ∀ q ∈ fs, q ∈ (t2, HO.tup [.str "ratio", .str e.shown]) :: (t1, HO.tup [.str "ratio", .str e.shown]) :: fs := fun q h => List.mem_cons_of_mem _ (s1 q h)
      have r2 : Good fs G2 := fun q h => q2.good q (s2 q h)
      clear x2 tb2 ht2 r1
      refine go_sd (app_h (i := 8) rfl q2.list (fun Q' k' => heardS q2.tabs (odG r2).sh (odG r2).shn (fun H1 Q'' eN => ⟨rfl, _, rfl, nr, _, rfl, Or.inl ⟨SqL.of (gx r2 eN _ m4), fun q hq => Or.inr ⟨_, rfl, badN (gx r2 eN) (q2.nums.ext eN) (sameNew hq) (bb := true) upd_same⟩⟩⟩) k') (fun _ _ h => h.1 _ _ q2.list fun _ z => nomatch z) (by simp) fun t3 H12 ⟨x3, tb3, ht3⟩ => ?_)
      have q3 := q2.step x3 tb3 ht3
      generalize upd H12 lh (HO.lst ([V.ref t1] ++ [.ref t2] ++ [.ref t3])) = G3 at q3 ⊢
      have s3 : ∀ q ∈ fs, q ∈ (t3, HO.tup [.str "ratio", .str e.shown]) :: (t2, HO.tup [.str "ratio", .str e.shown]) :: (t1, HO.tup [.str "ratio", .str e.shown]) :: fs := fun q h => List.mem_cons_of_mem _ (s2 q h)
      have r3 : Good fs G3 := fun q h => q3.good q (s3 q h)
      clear x3 tb3 ht3 r2
      refine go_sd (app_h (i := 8) rfl q3.list (fun Q' k' => heardS q3.tabs (wrG r3).sh (wrG r3).shn (fun H1 Q'' eN => ⟨rfl, _, rfl, Or.inr ⟨_, rfl, Or.inl (badW (gx r3 eN))⟩⟩) k') (fun _ _ h => h.1 _ _ q3.list fun _ z => nomatch z) (by simp) fun t4 H13 ⟨x4, tb4, ht4⟩ => ?_)
      have q4 := q3.step x4 tb4 ht4
      generalize upd H13 lh (HO.lst ([V.ref t1] ++ [.ref t2] ++ [.ref t3] ++ [.ref t4])) = G4 at q4 ⊢
      have s4 : ∀ q ∈ fs, q ∈ (t4, HO.tup [.str "ratio", .str we.shown]) :: (t3, HO.tup [.str "ratio", .str e.shown]) :: (t2, HO.tup [.str "ratio", .str e.shown]) :: (t1, HO.tup [.str "ratio", .str e.shown]) :: fs := fun q h => List.mem_cons_of_mem _ (s3 q h)
      have r4 : Good fs G4 := fun q h => q4.good q (s4 q h)
      clear x4 tb4 ht4 r3
      refine go_sd (app_h (i := 8) rfl q4.list (fun Q' k' => heardS q4.tabs (wrG r4).sh (wrG r4).shn (fun H1 Q'' eN => ⟨rfl, _, rfl, Or.inr ⟨_, rfl, Or.inl (badW (gx r4 eN))⟩⟩) k') (fun _ _ h => h.1 _ _ q4.list fun _ z => nomatch z) (by simp) fun t5 H14 ⟨x5, tb5, ht5⟩ => ?_)
      have q5 := q4.step x5 tb5 ht5
      generalize upd H14 lh (HO.lst ([V.ref t1] ++ [.ref t2] ++ [.ref t3] ++ [.ref t4] ++ [.ref t5])) = G5 at q5 ⊢
      have s5 : ∀ q ∈ fs, q ∈ (t5, HO.tup [.str "ratio", .str we.shown]) :: (t4, HO.tup [.str "ratio", .str we.shown]) :: (t3, HO.tup [.str "ratio", .str e.shown]) :: (t2, HO.tup [.str "ratio", .str e.shown]) :: (t1, HO.tup [.str "ratio", .str e.shown]) :: fs := fun q h => List.mem_cons_of_mem _ (s4 q h)
      have r5 : Good fs G5 := fun q h => q5.good q (s5 q h)
      clear x5 tb5 ht5 r4
      refine go_sd (app_h (i := 8) rfl q5.list (fun Q' k' => heardS q5.tabs (wrG r5).sh (wrG r5).shn (fun H1 Q'' eN => ⟨rfl, _, rfl, Or.inr ⟨_, rfl, badW (gx r5 eN)⟩⟩) k') (fun _ _ h => h.1 _ _ q5.list fun _ z => nomatch z) (by simp) fun t6 H15 ⟨x6, tb6, ht6⟩ => ?_)
      have q6 := q5.step x6 tb6 ht6
      generalize upd H15 lh (HO.lst ([V.ref t1] ++ [.ref t2] ++ [.ref t3] ++ [.ref t4] ++ [.ref t5] ++ [.ref t6])) = G6 at q6 ⊢
      have s6 : ∀ q ∈ fs, q ∈ (t6, HO.tup [.str "ratio", .str we.shown]) :: (t5, HO.tup [.str "ratio", .str we.shown]) :: (t4, HO.tup [.str "ratio", .str we.shown]) :: (t3, HO.tup [.str "ratio", .str e.shown]) :: (t2, HO.tup [.str "ratio", .str e.shown]) :: (t1, HO.tup [.str "ratio", .str e.shown]) :: fs := fun q h => List.mem_cons_of_mem _ (s5 q h)
      have r6 : Good fs G6 := fun q h => q6.good q (s6 q h)
      clear x6 tb6 ht6 r5
      have y1 : G6 t1 = some (.tup [.str "ratio", .str e.shown]) := q6.good (t1, _) (by simp)
      have y2 : G6 t2 = some (.tup [.str "ratio", .str e.shown]) := q6.good (t2, _) (by simp)
      have y3 : G6 t3 = some (.tup [.str "ratio", .str e.shown]) := q6.good (t3, _) (by simp)
      have y4 : G6 t4 = some (.tup [.str "ratio", .str we.shown]) := q6.good (t4, _) (by simp)
      have y5 : G6 t5 = some (.tup [.str "ratio", .str we.shown]) := q6.good (t5, _) (by simp)
      have y6 : G6 t6 = some (.tup [.str "ratio", .str we.shown]) := q6.good (t6, _) (by simp)
      have dpt : ∀ {G : Hp} {b : Addr} {z : Str}, G b = some (.tup [.str "ratio", .str z]) → Dp K G (.ref b) (.tuple [.str "ratio", .str z]) := fun h => .tup (SqT.of h) (.cons (.str _) (.cons (.str _) .nil))
      refine ⟨_, rfl, ⟨_, rfl, y, e, rfl, (odG r6).sh, (odG r6).shn, (by show 2 ≤ sizeLine; decide), fun tt htt => ⟨(by show 1 ≤ sizeLine; decide), fun j1 hj1 => Or.inr ⟨j1, 3, [.ref tt], rfl, rfl, upd_same, by decide, by decide, (by show 1 * 3 ≤ sizeLine; decide), fun k1 hk1 => ?_⟩⟩⟩⟩
      have z1 := (sameNew (o := HO.tup [.str "ratio", .str e.shown]) htt).trans ((sameNew (o := HO.lst [.ref tt]) hj1).trans (sameNew (o := HO.lst (List.replicate (3 : Int).toNat [V.ref tt]).flatten) hk1))
      have p1 := sameNew (o := HO.lst (List.replicate (3 : Int).toNat [V.ref tt]).flatten) hk1 _ _ (sameNew (o := HO.lst [.ref tt]) hj1 _ _ (upd_same (H := G6) (a := tt) (o := HO.tup [.str "ratio", .str e.shown])))
      have p2 : upd (upd (upd G6 tt (HO.tup [.str "ratio", .str e.shown])) j1 (HO.lst [.ref tt])) k1 (HO.lst (List.replicate (3 : Int).toNat [V.ref tt]).flatten) k1 = some (.lst [.ref tt, .ref tt, .ref tt]) := upd_same
      generalize upd (upd (upd G6 tt (HO.tup [.str "ratio", .str e.shown])) j1 (HO.lst [.ref tt])) k1 (HO.lst (List.replicate (3 : Int).toNat [V.ref tt]).flatten) = F1 at z1 p1 p2 ⊢
      have r7 : Good fs F1 := fun q h => z1 _ _ (r6 q h)
      refine ⟨_, rfl, v, we, rfl, (wrG r7).sh, (wrG r7).shn, (by show 2 ≤ sizeLine; decide), fun tu htu => ⟨(by show 1 ≤ sizeLine; decide), fun j2 hj2 => Or.inr ⟨j2, 3, [.ref tu], rfl, rfl, upd_same, by decide, by decide, (by show 1 * 3 ≤ sizeLine; decide), fun k2 hk2 => ?_⟩⟩⟩
      have z2 := (sameNew (o := HO.tup [.str "ratio", .str we.shown]) htu).trans ((sameNew (o := HO.lst [.ref tu]) hj2).trans (sameNew (o := HO.lst (List.replicate (3 : Int).toNat [V.ref tu]).flatten) hk2))
      have p3 := sameNew (o := HO.lst (List.replicate (3 : Int).toNat [V.ref tu]).flatten) hk2 _ _ (sameNew (o := HO.lst [.ref tu]) hj2 _ _ (upd_same (H := F1) (a := tu) (o := HO.tup [.str "ratio", .str we.shown])))
      have p4 : upd (upd (upd F1 tu (HO.tup [.str "ratio", .str we.shown])) j2 (HO.lst [.ref tu])) k2 (HO.lst (List.replicate (3 : Int).toNat [V.ref tu]).flatten) k2 = some (.lst [.ref tu, .ref tu, .ref tu]) := upd_same
      generalize upd (upd (upd F1 tu (HO.tup [.str "ratio", .str we.shown])) j2 (HO.lst [.ref tu])) k2 (HO.lst (List.replicate (3 : Int).toNat [V.ref tu]).flatten) = F2 at z2 p3 p4 ⊢
      have p1 := z2 _ _ p1
      have p2 := z2 _ _ p2
      refine Or.inr (Or.inr (Or.inl ⟨k1, k2, _, _, rfl, rfl, p2, p4, (by show 6 ≤ sizeLine; decide), fun k3 hk3 => ?_⟩))
      have z3 := sameNew (o := HO.lst ([V.ref tt, .ref tt, .ref tt] ++ [V.ref tu, .ref tu, .ref tu])) hk3
      have zz := (z1.trans z2).trans z3
      have p1 := z3 _ _ p1
      have p3 := z3 _ _ p3
      refine Or.inr (Or.inr (Or.inr ⟨_, _, .lst (SqL.of (zz _ _ q6.list)) (.cons (dpt (zz _ _ y1)) (.cons (dpt (zz _ _ y2)) (.cons (dpt (zz _ _ y3)) (.cons (dpt (zz _ _ y4)) (.cons (dpt (zz _ _ y5)) (.cons (dpt (zz _ _ y6)) .nil)))))), .lst (SqL.of upd_same) (.cons (dpt p1) (.cons (dpt p1) (.cons (dpt p1) (.cons (dpt p3) (.cons (dpt p3) (.cons (dpt p3) .nil)))))), heard_shaped6 okS okW, heard_shaped6 okS okW, _, rfl, ifF (by rw [heard_eq6]; rfl) ?_⟩))
      refine ⟨_, _, _, _, _, _, _, rfl, ⟨pns, pspot, pgreat, hlpp, zz _ _ (r6 _ m7), zz _ _ (r6 _ m8), hprest.1, hprest.2.1, by have := hprest.2.2; omega⟩, LamX.Tabs.ext q6.tabs zz⟩
    · obtain ⟨z2, z3, z4, z5, z6, z7, z8, rfl, _, tabs⟩ := h
      clear hp tabs1
      try dsimp only [tNext, gName]
      refine in_asg (lst_h (fun Q' k' => heardS (v := .str "values") (e := .str "values") tabs (.dp (.str _) rfl) ⟨by decide +kernel, by decide +kernel, by decide +kernel⟩ (fun H1 Q'' eN => ⟨rfl, (by show 0 ≤ sizeLine; decide), fun q hq => Or.inr ⟨_, rfl, Or.inr ⟨⟨q, false, [], rfl, upd_same, .nil, by decide⟩, caught_rai (sameNew hq)⟩⟩⟩) k') fun lh t1 H10 ⟨x1, tb1, ht1⟩ hlh => ?_)
      have q1 := Grow.first (C := d.Ratio) (fs := []) (zs := []) (qs := []) (fun _ h => nomatch h) (fun _ h => nomatch h) .nil x1 tb1 ht1 hlh
      generalize upd H10 lh (HO.lst [.ref t1]) = G1 at q1 ⊢
      clear x1 tb1 ht1 hlh tabs
      refine go_sd (app_h (i := 8) rfl q1.list (fun Q' k' => heardS (v := .str "values") (e := .str "values") q1.tabs (.dp (.str _) rfl) ⟨by decide +kernel, by decide +kernel, by decide +kernel⟩ (fun H1 Q'' eN => ⟨rfl, (by show 0 ≤ sizeLine; decide), fun q hq => Or.inr ⟨_, rfl, Or.inr ⟨⟨q, true, [], rfl, upd_same, .nil, by decide⟩, caught_rai (sameNew hq)⟩⟩⟩) k') (fun _ _ h => h.1 _ _ q1.list fun _ z => nomatch z) (by simp) fun t2 H11 ⟨x2, tb2, ht2⟩ => ?_)
      have q2 := q1.step x2 tb2 ht2
      generalize upd H11 lh (HO.lst ([V.ref t1] ++ [.ref t2])) = G2 at q2 ⊢
      clear x2 tb2 ht2
      have y1 : G2 t1 = some (.tup [.str "ratio", .str (PyData.str "values").shown]) := q2.good (t1, _) (by simp)
      have y2 : G2 t2 = some (.tup [.str "ratio", .str (PyData.str "values").shown]) := q2.good (t2, _) (by simp)
      have dpt : ∀ {G : Hp} {b : Addr} {z : Str}, G b = some (.tup [.str "ratio", .str z]) → Dp K G (.ref b) (.tuple [.str "ratio", .str z]) := fun h => .tup (SqT.of h) (.cons (.str _) (.cons (.str _) .nil))
      have okV : PyData.strOk (PyData.str "values").shown = true := by decide +kernel
      try dsimp only [tNext, gName]
      refine ⟨_, rfl, .str "values", .str "values", rfl, .dp (.str _) rfl, ⟨by decide +kernel, by decide +kernel, by decide +kernel⟩, (by show 2 ≤ sizeLine; decide), fun tt htt => ⟨(by show 1 ≤ sizeLine; decide), fun j1 hj1 => Or.inr ⟨j1, 2, [.ref tt], rfl, rfl, upd_same, by decide, by decide, (by show 1 * 2 ≤ sizeLine; decide), fun k1 hk1 => ?_⟩⟩⟩
      have z1 := (sameNew (o := HO.tup [.str "ratio", .str (PyData.str "values").shown]) htt).trans ((sameNew (o := HO.lst [.ref tt]) hj1).trans (sameNew (o := HO.lst (List.replicate (2 : Int).toNat [V.ref tt]).flatten) hk1))
      have p1 := sameNew (o := HO.lst (List.replicate (2 : Int).toNat [V.ref tt]).flatten) hk1 _ _ (sameNew (o := HO.lst [.ref tt]) hj1 _ _ (upd_same (H := G2) (a := tt) (o := HO.tup [.str "ratio", .str (PyData.str "values").shown])))
      refine Or.inr (Or.inr (Or.inr ⟨_, _, .lst (SqL.of (z1 _ _ q2.list)) (.cons (dpt (z1 _ _ y1)) (.cons (dpt (z1 _ _ y2)) .nil)), .lst (SqL.of upd_same) (.cons (dpt p1) (.cons (dpt p1) .nil)), heard_shaped2 okV, heard_shaped2 okV, _, rfl, ifF (by rw [heard_eq2]; rfl) ?_⟩))
      clear z1 p1 htt hj1 hk1 y1 y2 q1 q2
      have z0 : Sz 2000 ((0 : Int) : Rat) := ⟨by decide +kernel, by decide +kernel⟩
      refine in_test (in_op ⟨rfl, (by show 0 ≤ sizeLine; decide), fun q hq => Or.inl ⟨.ref q, [], 0, rfl, ⟨q, false, [], rfl, upd_same, .nil, by decide⟩, (fun _ h => nomatch h), by decide, fun pc Hc ec rc => ?_⟩⟩)
      refine Or.inr (Or.inr (Or.inl (onn (r := false) T.z_Ratio G_eq (hr.mono (by decide)) rc num_i z0 z0 (by decide +kernel) fun Hd ed => ⟨_, rfl, ifF rfl ?_⟩)))
      clear rc ec ed hq
      refine in_test (in_op ⟨rfl, fun x dx nx nd nn => Or.inr (made' nx nd (by decide) (by decide) fun He ee re => ⟨rfl, (by show 2 ≤ sizeLine; decide), fun q hq => Or.inl ⟨.ref q, [((0 : Int) : Rat), Rat.divInt 0 1], 10, rfl, ⟨q, true, [.int 0, .ref x], rfl, upd_same, .cons num_i (.cons (num_r (re.same (sameNew hq))) .nil), (by show 2 ≤ 1000; decide)⟩, (fun z hz => ?_), (by show 1 + (2 + 1) * 10 ≤ 2000; decide), fun pc Hc ec rc => ?_⟩⟩)⟩)
      · simp only [List.mem_cons, List.not_mem_nil, or_false] at hz
        rcases hz with rfl | rfl <;> exact ⟨by decide +kernel, by decide +kernel⟩
      refine Or.inr (Or.inr (Or.inl (onn (r := false) T.z_Ratio G_eq (hr.mono (by decide)) rc num_i ⟨by decide +kernel, by decide +kernel⟩ z0 (by decide +kernel) fun Hf ef => ⟨_, rfl, ?_⟩)))
      clear rc ec ef hq re ee nx nd nn
      try dsimp only [tNext, gName]
      refine iteF ?_
      try dsimp only [tNext, gName]
      have up1 : ∀ {a b : Int}, b ≠ 0 → a.natAbs < 2 ^ 20 → b.natAbs < 2 ^ 20 → Sz 20 (Rat.divInt a b) := fun h1 h2 h3 => sz_di h1 h2 h3
      refine ⟨rfl, fun x dx nx nd nn => Or.inl (made' nx nd (by decide) (by decide) fun Ha ea ra => ⟨rfl, fun y dy ny nd' nn' => Or.inl (made' ny nd' (by decide) (by decide) fun Hb eb rb => ⟨rfl, (by show 3 ≤ sizeLine; decide), fun q hq => ?_⟩)⟩)⟩
      refine Or.inl ⟨.ref q, [Rat.divInt 1 4, Rat.divInt 1 6, ((0 : Int) : Rat)], 20, rfl, ⟨q, false, [.ref x, .ref y, .int 0], rfl, upd_same, .cons (num_r ((ra.same eb).same (sameNew hq))) (.cons (num_r (rb.same (sameNew hq))) (.cons num_i .nil)), (by show 3 ≤ 1000; decide)⟩, (fun z hz => ?_), (by show 1 + (3 + 1) * 20 ≤ 2000; decide), fun pc Hc ec rc => ?_⟩
      · simp only [List.mem_cons, List.not_mem_nil, or_false] at hz
        rcases hz with rfl | rfl | rfl
        · exact up1 (by decide) (by decide) (by decide)
        · exact up1 (by decide) (by decide) (by decide)
        · exact ⟨by decide +kernel, by decide +kernel⟩
      obtain ⟨dpc, hpc⟩ := id rc
      refine Or.inr ⟨_, rfl, pc, _, dpc, _, _, CX0, 2, _, E0, rfl, hpc, T.t_Ratio, G_Ratio___str__, hr.mono (by decide), pass0, ⟨pc, _, rfl, rc, ⟨by decide +kernel, by decide +kernel⟩, _, rfl, ?_⟩⟩
      refine Or.inl ⟨rfl, _, rfl, ifT (by decide +kernel) ?_⟩
      clear rc ec hpc hq ra rb ea eb nx nd nn ny nd' nn'
      refine ⟨rfl, Or.inl ⟨_, rfl, fun x dx nx nd nn => Or.inl (made' nx nd (by decide) (by decide) fun Ha ea ra => ⟨rfl, Or.inl ⟨_, rfl, (by show 2 ≤ sizeLine; decide), fun q hq => ?_⟩⟩)⟩⟩
      refine Or.inl ⟨.ref q, [Rat.divInt (-1) 2, ((-3 : Int) : Rat)], rfl, ⟨q, false, [.ref x, .int (-3)], rfl, upd_same, .cons (num_r (ra.same (sameNew hq))) (.cons num_i .nil), (by show 2 ≤ 1000; decide)⟩, List.cons_ne_nil _ _, (fun z hz => ?_), fun ph h Hc ec rh ih => ?_⟩
      · simp only [List.mem_cons, List.not_mem_nil, or_false] at hz
        rcases hz with rfl | rfl
        · exact sz_mono (up1 (by decide) (by decide) (by decide)) (by decide)
        · exact ⟨by decide +kernel, by decide +kernel⟩
      have hh : h = Rat.divInt (-1) 2 := by
        obtain ⟨hm, hle⟩ := ih
        simp only [List.mem_cons, List.not_mem_nil, or_false] at hm
        rcases hm with rfl | rfl
        · rfl
        · have := hle (Rat.divInt (-1) 2) (by simp)
          rw [if_pos rfl] at this
          exact absurd this (by decide +kernel)
      subst hh
      refine Or.inl ⟨_, rfl, fun x' dx' nx' nd' nn' => Or.inl (made' nx' nd' (by decide) (by decide) fun Hd ed rd => ⟨rfl, ?_⟩)⟩
      exact Or.inr (Or.inl (oc (r := true) T.q_Ratio_eq G_eq (hr.mono (by decide)) (rh.same ed) (num_r rd) ⟨by decide +kernel, by decide +kernel⟩ ⟨by decide +kernel, by decide +kernel⟩ (by decide +kernel) fun He ee => k _))
theorem law_end {q : Program} {fa : Addr} {h : Heap} (hq : ((PyProof.Rows.recsOf q).any fun e => e.name == "law") = true) (hfa : mg "law" = some (.ref fa)) (T : Tx K mg d) :
    ∃ cs : List (Addr × Addr), (∀ p ∈ cs, ∃ (x : Str) (f : Addr), ((PyProof.Rows.recsOf q).any fun e => e.name == x) = true ∧ mg x = some (.ref f) ∧ TabK K f p.1 p.2) ∧
      ∀ base : Heap, K.In base → base.Ns mainGlobals mg → (∀ p ∈ cs, LamX.TabB base mg p.1 p.2) → FnG P w K mg base CX0 levelLaw fa (spLaw K cs) := by
  have e := hfa.symm.trans T.m_law
  cases e
  exact ⟨[(d.cc_law, d.cp_law)], fun p hp => by rw [List.mem_singleton.mp hp]; exact ⟨_, _, hq, T.m_law, T.tab_law⟩, fun base _ _ tb => G_law T (tb _ (List.mem_singleton.mpr rfl))⟩
end

end AZ
namespace AZ
open PySem L2
theorem tx_mk {K : PySem.W.Frag} {h : Heap} {mg : Str → Option Value} {A__law_pen A__law_draw A__law_pick A_Ratio A_is_integer A_Ratio___init__ A_Ratio_of A_Ratio___add__ A_Ratio___sub__ A_Ratio___mul__ A_Ratio___lt__ A_Ratio___le__ A_Ratio___gt__ A_Ratio___ge__ A_Ratio___eq__ A_Ratio_floor A_Ratio___str__ A_Ratio___bool__ A_BadRatio___init__ A_SnapError A_BadRatio A_all_numbers A_bound_of A_Ratio_highest A_Ratio_lowest A_Ratio_common A__law_int A__law_pair A__law_drawn A__law_divisor A__law_ends_right A_Ratio_divided A__law_common_right A__law_heard A_law A_cc_law A_cp_law : Addr} {cd2_law cd_BadRatio___init__ cd_Ratio___add__ cd_Ratio___bool__ cd_Ratio___eq__ cd_Ratio___ge__ cd_Ratio___gt__ cd_Ratio___init__ cd_Ratio___le__ cd_Ratio___lt__ cd_Ratio___mul__ cd_Ratio___str__ cd_Ratio___sub__ cd_Ratio_common cd_Ratio_divided cd_Ratio_floor cd_Ratio_highest cd_Ratio_lowest cd_Ratio_of cd__law_common_right cd__law_divisor cd__law_draw cd__law_drawn cd__law_ends_right cd__law_heard cd__law_int cd__law_pair cd__law_pen cd__law_pick cd_all_numbers cd_bound_of cd_is_integer cd_law ct2_law ct_BadRatio___init__ ct_Ratio___add__ ct_Ratio___bool__ ct_Ratio___eq__ ct_Ratio___ge__ ct_Ratio___gt__ ct_Ratio___init__ ct_Ratio___le__ ct_Ratio___lt__ ct_Ratio___mul__ ct_Ratio___str__ ct_Ratio___sub__ ct_Ratio_common ct_Ratio_divided ct_Ratio_floor ct_Ratio_highest ct_Ratio_lowest ct_Ratio_of ct__law_common_right ct__law_divisor ct__law_draw ct__law_drawn ct__law_ends_right ct__law_heard ct__law_int ct__law_pair ct__law_pen ct__law_pick ct_all_numbers ct_bound_of ct_is_integer ct_law dc2_law dc_BadRatio___init__ dc_Ratio___add__ dc_Ratio___bool__ dc_Ratio___eq__ dc_Ratio___ge__ dc_Ratio___gt__ dc_Ratio___init__ dc_Ratio___le__ dc_Ratio___lt__ dc_Ratio___mul__ dc_Ratio___str__ dc_Ratio___sub__ dc_Ratio_common dc_Ratio_divided dc_Ratio_floor dc_Ratio_highest dc_Ratio_lowest dc_Ratio_of dc__law_common_right dc__law_divisor dc__law_draw dc__law_drawn dc__law_ends_right dc__law_heard dc__law_int dc__law_pair dc__law_pen dc__law_pick dc_all_numbers dc_bound_of dc_is_integer dc_law kV2_law kV_BadRatio___init__ kV_Ratio___add__ kV_Ratio___bool__ kV_Ratio___eq__ kV_Ratio___ge__ kV_Ratio___gt__ kV_Ratio___init__ kV_Ratio___le__ kV_Ratio___lt__ kV_Ratio___mul__ kV_Ratio___str__ kV_Ratio___sub__ kV_Ratio_common kV_Ratio_divided kV_Ratio_floor kV_Ratio_highest kV_Ratio_lowest kV_Ratio_of kV__law_common_right kV__law_divisor kV__law_draw kV__law_drawn kV__law_ends_right kV__law_heard kV__law_int kV__law_pair kV__law_pen kV__law_pick kV_all_numbers kV_bound_of kV_is_integer kV_law oc2_law oc_BadRatio___init__ oc_Ratio___add__ oc_Ratio___bool__ oc_Ratio___eq__ oc_Ratio___ge__ oc_Ratio___gt__ oc_Ratio___init__ oc_Ratio___le__ oc_Ratio___lt__ oc_Ratio___mul__ oc_Ratio___str__ oc_Ratio___sub__ oc_Ratio_common oc_Ratio_divided oc_Ratio_floor oc_Ratio_highest oc_Ratio_lowest oc_Ratio_of oc__law_common_right oc__law_divisor oc__law_draw oc__law_drawn oc__law_ends_right oc__law_heard oc__law_int oc__law_pair oc__law_pen oc__law_pick oc_all_numbers oc_bound_of oc_is_integer oc_law pm2_law pm_BadRatio___init__ pm_Ratio___add__ pm_Ratio___bool__ pm_Ratio___eq__ pm_Ratio___ge__ pm_Ratio___gt__ pm_Ratio___init__ pm_Ratio___le__ pm_Ratio___lt__ pm_Ratio___mul__ pm_Ratio___str__ pm_Ratio___sub__ pm_Ratio_common pm_Ratio_divided pm_Ratio_floor pm_Ratio_highest pm_Ratio_lowest pm_Ratio_of pm__law_common_right pm__law_divisor pm__law_draw pm__law_drawn pm__law_ends_right pm__law_heard pm__law_int pm__law_pair pm__law_pen pm__law_pick pm_all_numbers pm_bound_of pm_is_integer pm_law tc_Ratio___init__ : Value} {an2_law an_BadRatio___init__ an_Ratio___add__ an_Ratio___bool__ an_Ratio___eq__ an_Ratio___ge__ an_Ratio___gt__ an_Ratio___init__ an_Ratio___le__ an_Ratio___lt__ an_Ratio___mul__ an_Ratio___str__ an_Ratio___sub__ an_Ratio_common an_Ratio_divided an_Ratio_floor an_Ratio_highest an_Ratio_lowest an_Ratio_of an__law_common_right an__law_divisor an__law_draw an__law_drawn an__law_ends_right an__law_heard an__law_int an__law_pair an__law_pen an__law_pick an_all_numbers an_bound_of an_is_integer an_law od2_law od_BadRatio___init__ od_Ratio___add__ od_Ratio___bool__ od_Ratio___eq__ od_Ratio___ge__ od_Ratio___gt__ od_Ratio___init__ od_Ratio___le__ od_Ratio___lt__ od_Ratio___mul__ od_Ratio___str__ od_Ratio___sub__ od_Ratio_common od_Ratio_divided od_Ratio_floor od_Ratio_highest od_Ratio_lowest od_Ratio_of od__law_common_right od__law_divisor od__law_draw od__law_drawn od__law_ends_right od__law_heard od__law_int od__law_pair od__law_pen od__law_pick od_all_numbers od_bound_of od_is_integer od_law td2_law td_Ratio___init__ : Option Addr} {sl2_law sl_BadRatio___init__ sl_Ratio___add__ sl_Ratio___bool__ sl_Ratio___eq__ sl_Ratio___ge__ sl_Ratio___gt__ sl_Ratio___init__ sl_Ratio___le__ sl_Ratio___lt__ sl_Ratio___mul__ sl_Ratio___str__ sl_Ratio___sub__ sl_Ratio_common sl_Ratio_divided sl_Ratio_floor sl_Ratio_highest sl_Ratio_lowest sl_Ratio_of sl__law_common_right sl__law_divisor sl__law_draw sl__law_drawn sl__law_ends_right sl__law_heard sl__law_int sl__law_pair sl__law_pen sl__law_pick sl_all_numbers sl_bound_of sl_is_integer sl_law ts2_law ts_Ratio___init__ : Array (Option Value)} {tn_Ratio___init__ : Nat} {tk0_Ratio___init__ : Tok} {dT_Ratio___init__ pp_Ratio_common pp_Ratio_highest pp_Ratio_lowest pp_Ratio_of : Addr} {fv_law rr_Ratio_common rr_Ratio_highest rr_Ratio_lowest rr_Ratio_of : List Value} {e0_BadRatio e0_SnapError : Option Value} {e1_BadRatio e1_SnapError : Option Value} {e2_BadRatio e2_SnapError : Option Value} {e3_BadRatio e3_SnapError : Option Value} {e5_BadRatio e5_SnapError : Option Value} {eN_BadRatio eN_SnapError : Addr} {ea_BadRatio ea_SnapError : Bool} {eb_BadRatio eb_SnapError : List Value} {ec_BadRatio ec_SnapError : Option Bool} {ed_BadRatio ed_SnapError : Option Addr} {en_BadRatio en_SnapError : List Str} {eq_BadRatio eq_SnapError : Str} {eu_BadRatio eu_SnapError : List Value} (X : K.In h) (G : h.Ns mainGlobals mg)
    (L__law_pen : PySem.W.nsIn K mainGlobals "_law_pen" = some (some (.ref A__law_pen)))
    (L__law_draw : PySem.W.nsIn K mainGlobals "_law_draw" = some (some (.ref A__law_draw)))
    (L__law_pick : PySem.W.nsIn K mainGlobals "_law_pick" = some (some (.ref A__law_pick)))
    (L_Ratio : PySem.W.nsIn K mainGlobals "Ratio" = some (some (.ref A_Ratio)))
    (L_is_integer : PySem.W.nsIn K mainGlobals "is_integer" = some (some (.ref A_is_integer)))
    (L_SnapError : PySem.W.nsIn K mainGlobals "SnapError" = some (some (.ref A_SnapError)))
    (L_BadRatio : PySem.W.nsIn K mainGlobals "BadRatio" = some (some (.ref A_BadRatio)))
    (L_all_numbers : PySem.W.nsIn K mainGlobals "all_numbers" = some (some (.ref A_all_numbers)))
    (L_bound_of : PySem.W.nsIn K mainGlobals "bound_of" = some (some (.ref A_bound_of)))
    (L__law_int : PySem.W.nsIn K mainGlobals "_law_int" = some (some (.ref A__law_int)))
    (L__law_pair : PySem.W.nsIn K mainGlobals "_law_pair" = some (some (.ref A__law_pair)))
    (L__law_drawn : PySem.W.nsIn K mainGlobals "_law_drawn" = some (some (.ref A__law_drawn)))
    (L__law_divisor : PySem.W.nsIn K mainGlobals "_law_divisor" = some (some (.ref A__law_divisor)))
    (L__law_ends_right : PySem.W.nsIn K mainGlobals "_law_ends_right" = some (some (.ref A__law_ends_right)))
    (L__law_common_right : PySem.W.nsIn K mainGlobals "_law_common_right" = some (some (.ref A__law_common_right)))
    (L__law_heard : PySem.W.nsIn K mainGlobals "_law_heard" = some (some (.ref A__law_heard)))
    (L_law : PySem.W.nsIn K mainGlobals "law" = some (some (.ref A_law)))
    (L_Ratio___init__ : PySem.W.findIn K (.ref A_Ratio) "__init__" = some (some (.ref A_Ratio___init__)))
    (L_Ratio___add__ : PySem.W.findIn K (.ref A_Ratio) "__add__" = some (some (.ref A_Ratio___add__)))
    (L_Ratio___sub__ : PySem.W.findIn K (.ref A_Ratio) "__sub__" = some (some (.ref A_Ratio___sub__)))
    (L_Ratio___mul__ : PySem.W.findIn K (.ref A_Ratio) "__mul__" = some (some (.ref A_Ratio___mul__)))
    (L_Ratio___lt__ : PySem.W.findIn K (.ref A_Ratio) "__lt__" = some (some (.ref A_Ratio___lt__)))
    (L_Ratio___le__ : PySem.W.findIn K (.ref A_Ratio) "__le__" = some (some (.ref A_Ratio___le__)))
    (L_Ratio___gt__ : PySem.W.findIn K (.ref A_Ratio) "__gt__" = some (some (.ref A_Ratio___gt__)))
    (L_Ratio___ge__ : PySem.W.findIn K (.ref A_Ratio) "__ge__" = some (some (.ref A_Ratio___ge__)))
    (L_Ratio___eq__ : PySem.W.findIn K (.ref A_Ratio) "__eq__" = some (some (.ref A_Ratio___eq__)))
    (L_Ratio_floor : PySem.W.findIn K (.ref A_Ratio) "floor" = some (some (.ref A_Ratio_floor)))
    (L_Ratio___str__ : PySem.W.findIn K (.ref A_Ratio) "__str__" = some (some (.ref A_Ratio___str__)))
    (L_Ratio___bool__ : PySem.W.findIn K (.ref A_Ratio) "__bool__" = some (some (.ref A_Ratio___bool__)))
    (L_BadRatio___init__ : PySem.W.findIn K (.ref A_BadRatio) "__init__" = some (some (.ref A_BadRatio___init__)))
    (L_Ratio_divided : PySem.W.findIn K (.ref A_Ratio) "divided" = some (some (.ref A_Ratio_divided)))
    (s_Ratio_of_r : PySem.W.readsIn K A_Ratio (.type "type") = true)
    (s_Ratio_highest_r : PySem.W.readsIn K A_Ratio (.type "type") = true)
    (s_Ratio_lowest_r : PySem.W.readsIn K A_Ratio (.type "type") = true)
    (s_Ratio_common_r : PySem.W.readsIn K A_Ratio (.type "type") = true)
    (s_Ratio_of_a : PySem.W.findCls K (.ref A_Ratio) (.type "type") "of" = some (.get (.builtin "staticmethod.__get__") (.ref pp_Ratio_of) .none (.ref A_Ratio)))
    (s_Ratio_highest_a : PySem.W.findCls K (.ref A_Ratio) (.type "type") "highest" = some (.get (.builtin "staticmethod.__get__") (.ref pp_Ratio_highest) .none (.ref A_Ratio)))
    (s_Ratio_lowest_a : PySem.W.findCls K (.ref A_Ratio) (.type "type") "lowest" = some (.get (.builtin "staticmethod.__get__") (.ref pp_Ratio_lowest) .none (.ref A_Ratio)))
    (s_Ratio_common_a : PySem.W.findCls K (.ref A_Ratio) (.type "type") "common" = some (.get (.builtin "staticmethod.__get__") (.ref pp_Ratio_common) .none (.ref A_Ratio)))
    (s_Ratio_of_q : PySem.W.recIn K pp_Ratio_of "staticmethod" = some (.ref A_Ratio_of :: rr_Ratio_of))
    (s_Ratio_highest_q : PySem.W.recIn K pp_Ratio_highest "staticmethod" = some (.ref A_Ratio_highest :: rr_Ratio_highest))
    (s_Ratio_lowest_q : PySem.W.recIn K pp_Ratio_lowest "staticmethod" = some (.ref A_Ratio_lowest :: rr_Ratio_lowest))
    (s_Ratio_common_q : PySem.W.recIn K pp_Ratio_common "staticmethod" = some (.ref A_Ratio_common :: rr_Ratio_common))
    (F__law_pen_l : K.lookup A__law_pen = some ⟨oc__law_pen, od__law_pen, .func (PySem.W.fnOf "_law_pen" "_law_pen" (defArgs s__law_pen) (defBody s__law_pen) (defScope s__law_pen) .none kV__law_pen dc__law_pen pm__law_pen an__law_pen cd__law_pen ct__law_pen), sl__law_pen⟩)
    (F__law_draw_l : K.lookup A__law_draw = some ⟨oc__law_draw, od__law_draw, .func (PySem.W.fnOf "_law_draw" "_law_draw" (defArgs s__law_draw) (defBody s__law_draw) (defScope s__law_draw) .none kV__law_draw dc__law_draw pm__law_draw an__law_draw cd__law_draw ct__law_draw), sl__law_draw⟩)
    (F__law_pick_l : K.lookup A__law_pick = some ⟨oc__law_pick, od__law_pick, .func (PySem.W.fnOf "_law_pick" "_law_pick" (defArgs s__law_pick) (defBody s__law_pick) (defScope s__law_pick) .none kV__law_pick dc__law_pick pm__law_pick an__law_pick cd__law_pick ct__law_pick), sl__law_pick⟩)
    (F_is_integer_l : K.lookup A_is_integer = some ⟨oc_is_integer, od_is_integer, .func (PySem.W.fnOf "is_integer" "is_integer" (defArgs s_is_integer) (defBody s_is_integer) (defScope s_is_integer) .none kV_is_integer dc_is_integer pm_is_integer an_is_integer cd_is_integer ct_is_integer), sl_is_integer⟩)
    (D_Ratio___init___l : K.lookup A_Ratio___init__ = some ⟨oc_Ratio___init__, od_Ratio___init__, .func (PySem.W.fnOf "__init__" "Ratio.__init__" (defArgs s_Ratio___init__) (defBody s_Ratio___init__) (defScope s_Ratio___init__) (.ref dT_Ratio___init__) kV_Ratio___init__ dc_Ratio___init__ pm_Ratio___init__ an_Ratio___init__ cd_Ratio___init__ ct_Ratio___init__), sl_Ratio___init__⟩)
    (F_Ratio_of_l : K.lookup A_Ratio_of = some ⟨oc_Ratio_of, od_Ratio_of, .func (PySem.W.fnOf "of" "Ratio.of" (defArgs s_Ratio_of) (defBody s_Ratio_of) (defScope s_Ratio_of) .none kV_Ratio_of dc_Ratio_of pm_Ratio_of an_Ratio_of cd_Ratio_of ct_Ratio_of), sl_Ratio_of⟩)
    (F_Ratio___add___l : K.lookup A_Ratio___add__ = some ⟨oc_Ratio___add__, od_Ratio___add__, .func (PySem.W.fnOf "__add__" "Ratio.__add__" (defArgs s_Ratio___add__) (defBody s_Ratio___add__) (defScope s_Ratio___add__) .none kV_Ratio___add__ dc_Ratio___add__ pm_Ratio___add__ an_Ratio___add__ cd_Ratio___add__ ct_Ratio___add__), sl_Ratio___add__⟩)
    (F_Ratio___sub___l : K.lookup A_Ratio___sub__ = some ⟨oc_Ratio___sub__, od_Ratio___sub__, .func (PySem.W.fnOf "__sub__" "Ratio.__sub__" (defArgs s_Ratio___sub__) (defBody s_Ratio___sub__) (defScope s_Ratio___sub__) .none kV_Ratio___sub__ dc_Ratio___sub__ pm_Ratio___sub__ an_Ratio___sub__ cd_Ratio___sub__ ct_Ratio___sub__), sl_Ratio___sub__⟩)
    (F_Ratio___mul___l : K.lookup A_Ratio___mul__ = some ⟨oc_Ratio___mul__, od_Ratio___mul__, .func (PySem.W.fnOf "__mul__" "Ratio.__mul__" (defArgs s_Ratio___mul__) (defBody s_Ratio___mul__) (defScope s_Ratio___mul__) .none kV_Ratio___mul__ dc_Ratio___mul__ pm_Ratio___mul__ an_Ratio___mul__ cd_Ratio___mul__ ct_Ratio___mul__), sl_Ratio___mul__⟩)
    (F_Ratio___lt___l : K.lookup A_Ratio___lt__ = some ⟨oc_Ratio___lt__, od_Ratio___lt__, .func (PySem.W.fnOf "__lt__" "Ratio.__lt__" (defArgs s_Ratio___lt__) (defBody s_Ratio___lt__) (defScope s_Ratio___lt__) .none kV_Ratio___lt__ dc_Ratio___lt__ pm_Ratio___lt__ an_Ratio___lt__ cd_Ratio___lt__ ct_Ratio___lt__), sl_Ratio___lt__⟩)
    (F_Ratio___le___l : K.lookup A_Ratio___le__ = some ⟨oc_Ratio___le__, od_Ratio___le__, .func (PySem.W.fnOf "__le__" "Ratio.__le__" (defArgs s_Ratio___le__) (defBody s_Ratio___le__) (defScope s_Ratio___le__) .none kV_Ratio___le__ dc_Ratio___le__ pm_Ratio___le__ an_Ratio___le__ cd_Ratio___le__ ct_Ratio___le__), sl_Ratio___le__⟩)
    (F_Ratio___gt___l : K.lookup A_Ratio___gt__ = some ⟨oc_Ratio___gt__, od_Ratio___gt__, .func (PySem.W.fnOf "__gt__" "Ratio.__gt__" (defArgs s_Ratio___gt__) (defBody s_Ratio___gt__) (defScope s_Ratio___gt__) .none kV_Ratio___gt__ dc_Ratio___gt__ pm_Ratio___gt__ an_Ratio___gt__ cd_Ratio___gt__ ct_Ratio___gt__), sl_Ratio___gt__⟩)
    (F_Ratio___ge___l : K.lookup A_Ratio___ge__ = some ⟨oc_Ratio___ge__, od_Ratio___ge__, .func (PySem.W.fnOf "__ge__" "Ratio.__ge__" (defArgs s_Ratio___ge__) (defBody s_Ratio___ge__) (defScope s_Ratio___ge__) .none kV_Ratio___ge__ dc_Ratio___ge__ pm_Ratio___ge__ an_Ratio___ge__ cd_Ratio___ge__ ct_Ratio___ge__), sl_Ratio___ge__⟩)
    (F_Ratio___eq___l : K.lookup A_Ratio___eq__ = some ⟨oc_Ratio___eq__, od_Ratio___eq__, .func (PySem.W.fnOf "__eq__" "Ratio.__eq__" (defArgs s_Ratio___eq__) (defBody s_Ratio___eq__) (defScope s_Ratio___eq__) .none kV_Ratio___eq__ dc_Ratio___eq__ pm_Ratio___eq__ an_Ratio___eq__ cd_Ratio___eq__ ct_Ratio___eq__), sl_Ratio___eq__⟩)
    (F_Ratio_floor_l : K.lookup A_Ratio_floor = some ⟨oc_Ratio_floor, od_Ratio_floor, .func (PySem.W.fnOf "floor" "Ratio.floor" (defArgs s_Ratio_floor) (defBody s_Ratio_floor) (defScope s_Ratio_floor) .none kV_Ratio_floor dc_Ratio_floor pm_Ratio_floor an_Ratio_floor cd_Ratio_floor ct_Ratio_floor), sl_Ratio_floor⟩)
    (F_Ratio___str___l : K.lookup A_Ratio___str__ = some ⟨oc_Ratio___str__, od_Ratio___str__, .func (PySem.W.fnOf "__str__" "Ratio.__str__" (defArgs s_Ratio___str__) (defBody s_Ratio___str__) (defScope s_Ratio___str__) .none kV_Ratio___str__ dc_Ratio___str__ pm_Ratio___str__ an_Ratio___str__ cd_Ratio___str__ ct_Ratio___str__), sl_Ratio___str__⟩)
    (F_Ratio___bool___l : K.lookup A_Ratio___bool__ = some ⟨oc_Ratio___bool__, od_Ratio___bool__, .func (PySem.W.fnOf "__bool__" "Ratio.__bool__" (defArgs s_Ratio___bool__) (defBody s_Ratio___bool__) (defScope s_Ratio___bool__) .none kV_Ratio___bool__ dc_Ratio___bool__ pm_Ratio___bool__ an_Ratio___bool__ cd_Ratio___bool__ ct_Ratio___bool__), sl_Ratio___bool__⟩)
    (F_BadRatio___init___l : K.lookup A_BadRatio___init__ = some ⟨oc_BadRatio___init__, od_BadRatio___init__, .func (PySem.W.fnOf "__init__" "BadRatio.__init__" (defArgs s_BadRatio___init__) (defBody s_BadRatio___init__) (defScope s_BadRatio___init__) .none kV_BadRatio___init__ dc_BadRatio___init__ pm_BadRatio___init__ an_BadRatio___init__ cd_BadRatio___init__ ct_BadRatio___init__), sl_BadRatio___init__⟩)
    (F_all_numbers_l : K.lookup A_all_numbers = some ⟨oc_all_numbers, od_all_numbers, .func (PySem.W.fnOf "all_numbers" "all_numbers" (defArgs s_all_numbers) (defBody s_all_numbers) (defScope s_all_numbers) .none kV_all_numbers dc_all_numbers pm_all_numbers an_all_numbers cd_all_numbers ct_all_numbers), sl_all_numbers⟩)
    (F_bound_of_l : K.lookup A_bound_of = some ⟨oc_bound_of, od_bound_of, .func (PySem.W.fnOf "bound_of" "bound_of" (defArgs s_bound_of) (defBody s_bound_of) (defScope s_bound_of) .none kV_bound_of dc_bound_of pm_bound_of an_bound_of cd_bound_of ct_bound_of), sl_bound_of⟩)
    (F_Ratio_highest_l : K.lookup A_Ratio_highest = some ⟨oc_Ratio_highest, od_Ratio_highest, .func (PySem.W.fnOf "highest" "Ratio.highest" (defArgs s_Ratio_highest) (defBody s_Ratio_highest) (defScope s_Ratio_highest) .none kV_Ratio_highest dc_Ratio_highest pm_Ratio_highest an_Ratio_highest cd_Ratio_highest ct_Ratio_highest), sl_Ratio_highest⟩)
    (F_Ratio_lowest_l : K.lookup A_Ratio_lowest = some ⟨oc_Ratio_lowest, od_Ratio_lowest, .func (PySem.W.fnOf "lowest" "Ratio.lowest" (defArgs s_Ratio_lowest) (defBody s_Ratio_lowest) (defScope s_Ratio_lowest) .none kV_Ratio_lowest dc_Ratio_lowest pm_Ratio_lowest an_Ratio_lowest cd_Ratio_lowest ct_Ratio_lowest), sl_Ratio_lowest⟩)
    (F_Ratio_common_l : K.lookup A_Ratio_common = some ⟨oc_Ratio_common, od_Ratio_common, .func (PySem.W.fnOf "common" "Ratio.common" (defArgs s_Ratio_common) (defBody s_Ratio_common) (defScope s_Ratio_common) .none kV_Ratio_common dc_Ratio_common pm_Ratio_common an_Ratio_common cd_Ratio_common ct_Ratio_common), sl_Ratio_common⟩)
    (F__law_int_l : K.lookup A__law_int = some ⟨oc__law_int, od__law_int, .func (PySem.W.fnOf "_law_int" "_law_int" (defArgs s__law_int) (defBody s__law_int) (defScope s__law_int) .none kV__law_int dc__law_int pm__law_int an__law_int cd__law_int ct__law_int), sl__law_int⟩)
    (F__law_pair_l : K.lookup A__law_pair = some ⟨oc__law_pair, od__law_pair, .func (PySem.W.fnOf "_law_pair" "_law_pair" (defArgs s__law_pair) (defBody s__law_pair) (defScope s__law_pair) .none kV__law_pair dc__law_pair pm__law_pair an__law_pair cd__law_pair ct__law_pair), sl__law_pair⟩)
    (F__law_drawn_l : K.lookup A__law_drawn = some ⟨oc__law_drawn, od__law_drawn, .func (PySem.W.fnOf "_law_drawn" "_law_drawn" (defArgs s__law_drawn) (defBody s__law_drawn) (defScope s__law_drawn) .none kV__law_drawn dc__law_drawn pm__law_drawn an__law_drawn cd__law_drawn ct__law_drawn), sl__law_drawn⟩)
    (F__law_divisor_l : K.lookup A__law_divisor = some ⟨oc__law_divisor, od__law_divisor, .func (PySem.W.fnOf "_law_divisor" "_law_divisor" (defArgs s__law_divisor) (defBody s__law_divisor) (defScope s__law_divisor) .none kV__law_divisor dc__law_divisor pm__law_divisor an__law_divisor cd__law_divisor ct__law_divisor), sl__law_divisor⟩)
    (F__law_ends_right_l : K.lookup A__law_ends_right = some ⟨oc__law_ends_right, od__law_ends_right, .func (PySem.W.fnOf "_law_ends_right" "_law_ends_right" (defArgs s__law_ends_right) (defBody s__law_ends_right) (defScope s__law_ends_right) .none kV__law_ends_right dc__law_ends_right pm__law_ends_right an__law_ends_right cd__law_ends_right ct__law_ends_right), sl__law_ends_right⟩)
    (F_Ratio_divided_l : K.lookup A_Ratio_divided = some ⟨oc_Ratio_divided, od_Ratio_divided, .func (PySem.W.fnOf "divided" "Ratio.divided" (defArgs s_Ratio_divided) (defBody s_Ratio_divided) (defScope s_Ratio_divided) .none kV_Ratio_divided dc_Ratio_divided pm_Ratio_divided an_Ratio_divided cd_Ratio_divided ct_Ratio_divided), sl_Ratio_divided⟩)
    (F__law_common_right_l : K.lookup A__law_common_right = some ⟨oc__law_common_right, od__law_common_right, .func (PySem.W.fnOf "_law_common_right" "_law_common_right" (defArgs s__law_common_right) (defBody s__law_common_right) (defScope s__law_common_right) .none kV__law_common_right dc__law_common_right pm__law_common_right an__law_common_right cd__law_common_right ct__law_common_right), sl__law_common_right⟩)
    (F__law_heard_l : K.lookup A__law_heard = some ⟨oc__law_heard, od__law_heard, .func (PySem.W.fnOf "_law_heard" "_law_heard" (defArgs s__law_heard) (defBody s__law_heard) (defScope s__law_heard) .none kV__law_heard dc__law_heard pm__law_heard an__law_heard cd__law_heard ct__law_heard), sl__law_heard⟩)
    (F_law_l : K.lookup A_law = some ⟨oc_law, od_law, .func (PySem.W.fnOf "law" "law" (defArgs s_law) (defBody s_law) (defScope s_law) .none kV_law dc_law pm_law an_law cd_law ct_law), sl_law⟩)
    (F__law_pen_c : PySem.W.codeIn K cd__law_pen "_law_pen" = true)
    (F__law_pen_k : PySem.W.keepIn K (.ref A__law_pen) = true)
    (n_list_a : PySem.W.nsIn K mainGlobals "list" = some none)
    (F__law_draw_c : PySem.W.codeIn K cd__law_draw "_law_draw" = true)
    (F__law_draw_k : PySem.W.keepIn K (.ref A__law_draw) = true)
    (n_int_a : PySem.W.nsIn K mainGlobals "int" = some none)
    (n_len_a : PySem.W.nsIn K mainGlobals "len" = some none)
    (n_abs_a : PySem.W.nsIn K mainGlobals "abs" = some none)
    (F__law_pick_c : PySem.W.codeIn K cd__law_pick "_law_pick" = true)
    (F__law_pick_k : PySem.W.keepIn K (.ref A__law_pick) = true)
    (k__law_draw_a : PySem.W.keepIn K (.ref A__law_draw) = true)
    (m__law_draw_a : PySem.W.nsIn K mainGlobals "_law_draw" = some (some (.ref A__law_draw)))
    (y_Ratio_a : PySem.W.findIn K (.ref A_Ratio) "__class__" = some (some (.builtin "object.__class__")))
    (y_Ratio_n : PySem.W.specialIn K (.builtin "object.__class__") "__get__" = some (some (.builtin "getset_descriptor.__get__")))
    (y_Ratio_t : PySem.W.takesIn K (.builtin "object.__class__") = some true)
    (y_Ratio_m : PySem.W.mroIn K A_Ratio (.type "object") = some true)
    (c_Ratio_p : PySem.W.plainGet K A_Ratio Str.empty = true)
    (c_Ratio_h : PySem.W.hasDictIn K A_Ratio = true)
    (c_Ratio_o : PySem.W.plainOver K A_Ratio = true)
    (c_Ratio_s : PySem.W.findIn K (.ref A_Ratio) "__setattr__" = some (some (.builtin "object.__setattr__")))
    (i_Ratio_is_int_a : PySem.W.subIn K (.ref A_Ratio) (.type "int") = some false)
    (i_Ratio_is_bool_a : PySem.W.subIn K (.ref A_Ratio) (.type "bool") = some false)
    (F_is_integer_c : PySem.W.codeIn K cd_is_integer "is_integer" = true)
    (F_is_integer_k : PySem.W.keepIn K (.ref A_is_integer) = true)
    (n_isinstance_a : PySem.W.nsIn K mainGlobals "isinstance" = some none)
    (n_bool_a : PySem.W.nsIn K mainGlobals "bool" = some none)
    (D_Ratio___init___c : PySem.W.codeIn K cd_Ratio___init__ "Ratio.__init__" = true)
    (D_Ratio___init___k : PySem.W.keepIn K (.ref A_Ratio___init__) = true)
    (D_Ratio___init___t : K.lookup dT_Ratio___init__ = some ⟨tc_Ratio___init__, td_Ratio___init__, .seq (List.toArray [.int 1 tk0_Ratio___init__]) tn_Ratio___init__, ts_Ratio___init__⟩)
    (k_is_integer_a : PySem.W.keepIn K (.ref A_is_integer) = true)
    (m_is_integer_a : PySem.W.nsIn K mainGlobals "is_integer" = some (some (.ref A_is_integer)))
    (m_gcd_a : PySem.W.nsIn K mainGlobals "gcd" = some (some (.builtin "math.gcd")))
    (a_Ratio_over_a : PySem.W.findIn K (.ref A_Ratio) "over" = some none)
    (a_Ratio_under_a : PySem.W.findIn K (.ref A_Ratio) "under" = some none)
    (F_Ratio_of_c : PySem.W.codeIn K cd_Ratio_of "Ratio.of" = true)
    (F_Ratio_of_k : PySem.W.keepIn K (.ref A_Ratio_of) = true)
    (m_Ratio_a : PySem.W.nsIn K mainGlobals "Ratio" = some (some (.ref A_Ratio)))
    (mk_Ratio_m : PySem.W.makesIn K A_Ratio = true)
    (mk_Ratio_i : PySem.W.findIn K (.ref A_Ratio) "__init__" = some (some (.ref A_Ratio___init__)))
    (mk_Ratio_f : PySem.W.isFn K (.ref A_Ratio___init__) = true)
    (mk_Ratio_k : PySem.W.keepIn K (.ref A_Ratio) = true)
    (i_int_is_Ratio_c : PySem.W.isClsIn K A_Ratio = true)
    (i_int_is_Ratio_t : PySem.W.typeIn K (.ref A_Ratio) = some (.type "type"))
    (i_int_is_Ratio_a : PySem.W.subIn K (.type "int") (.ref A_Ratio) = some false)
    (F_Ratio___add___c : PySem.W.codeIn K cd_Ratio___add__ "Ratio.__add__" = true)
    (F_Ratio___add___k : PySem.W.keepIn K (.ref A_Ratio___add__) = true)
    (s_Ratio_of_g : PySem.W.specialIn K (.ref A_Ratio) "__getattribute__" = some (some (.builtin "type.__getattribute__")))
    (s_Ratio_of_k : PySem.W.keepIn K (.ref A_Ratio_of) = true)
    (F_Ratio___sub___c : PySem.W.codeIn K cd_Ratio___sub__ "Ratio.__sub__" = true)
    (F_Ratio___sub___k : PySem.W.keepIn K (.ref A_Ratio___sub__) = true)
    (F_Ratio___mul___c : PySem.W.codeIn K cd_Ratio___mul__ "Ratio.__mul__" = true)
    (F_Ratio___mul___k : PySem.W.keepIn K (.ref A_Ratio___mul__) = true)
    (F_Ratio___lt___c : PySem.W.codeIn K cd_Ratio___lt__ "Ratio.__lt__" = true)
    (F_Ratio___lt___k : PySem.W.keepIn K (.ref A_Ratio___lt__) = true)
    (F_Ratio___le___c : PySem.W.codeIn K cd_Ratio___le__ "Ratio.__le__" = true)
    (F_Ratio___le___k : PySem.W.keepIn K (.ref A_Ratio___le__) = true)
    (F_Ratio___gt___c : PySem.W.codeIn K cd_Ratio___gt__ "Ratio.__gt__" = true)
    (F_Ratio___gt___k : PySem.W.keepIn K (.ref A_Ratio___gt__) = true)
    (F_Ratio___ge___c : PySem.W.codeIn K cd_Ratio___ge__ "Ratio.__ge__" = true)
    (F_Ratio___ge___k : PySem.W.keepIn K (.ref A_Ratio___ge__) = true)
    (F_Ratio___eq___c : PySem.W.codeIn K cd_Ratio___eq__ "Ratio.__eq__" = true)
    (F_Ratio___eq___k : PySem.W.keepIn K (.ref A_Ratio___eq__) = true)
    (F_Ratio_floor_c : PySem.W.codeIn K cd_Ratio_floor "Ratio.floor" = true)
    (F_Ratio_floor_k : PySem.W.keepIn K (.ref A_Ratio_floor) = true)
    (F_Ratio___str___c : PySem.W.codeIn K cd_Ratio___str__ "Ratio.__str__" = true)
    (F_Ratio___str___k : PySem.W.keepIn K (.ref A_Ratio___str__) = true)
    (n_str_a : PySem.W.nsIn K mainGlobals "str" = some none)
    (F_Ratio___bool___c : PySem.W.codeIn K cd_Ratio___bool__ "Ratio.__bool__" = true)
    (F_Ratio___bool___k : PySem.W.keepIn K (.ref A_Ratio___bool__) = true)
    (F_BadRatio___init___c : PySem.W.codeIn K cd_BadRatio___init__ "BadRatio.__init__" = true)
    (F_BadRatio___init___k : PySem.W.keepIn K (.ref A_BadRatio___init__) = true)
    (vi_SnapError_r : PySem.W.readsIn K A_SnapError (.type "type") = true)
    (vi_SnapError_g : PySem.W.specialIn K (.ref A_SnapError) "__getattribute__" = some (some (.builtin "type.__getattribute__")))
    (vi_SnapError_v : PySem.W.findCls K (.ref A_SnapError) (.type "type") "__init__" = some (.val (.builtin "ValueError.__init__")))
    (m_SnapError_a : PySem.W.nsIn K mainGlobals "SnapError" = some (some (.ref A_SnapError)))
    (ex_BadRatio_l : K.lookup A_BadRatio = some (excClassObj "BadRatio" eq_BadRatio A_BadRatio eN_BadRatio eb_BadRatio (.ref A_SnapError :: PySem.HandSPX.veTail) true en_BadRatio eu_BadRatio ea_BadRatio ec_BadRatio ed_BadRatio e0_BadRatio e1_BadRatio e2_BadRatio e3_BadRatio e5_BadRatio "ValueError.__new__"))
    (ex_BadRatio_s : PySem.W.findIn K (.ref A_BadRatio) "__setattr__" = some (some (.builtin "object.__setattr__")))
    (ex_BadRatio_g : PySem.W.findIn K (.ref A_BadRatio) "__getattribute__" = some (some (.builtin "BaseException.__getattribute__")))
    (ex_BadRatio_h : PySem.W.findIn K (.ref A_BadRatio) "__getattr__" = some none)
    (ex_BadRatio_c : PySem.W.findIn K (.ref A_BadRatio) "__class__" = some (some (.builtin "object.__class__")))
    (ex_BadRatio_i : PySem.W.findIn K (.ref A_BadRatio) "__init__" = some (some (.ref A_BadRatio___init__)))
    (ex_BadRatio_f : PySem.W.typeIn K (.ref A_BadRatio___init__) = some (.type "function"))
    (ex_BadRatio_k : PySem.W.keepIn K (.ref A_BadRatio) = true)
    (a_BadRatio_value_a : PySem.W.findIn K (.ref A_BadRatio) "value" = some none)
    (m_BadRatio_a : PySem.W.nsIn K mainGlobals "BadRatio" = some (some (.ref A_BadRatio)))
    (F_all_numbers_c : PySem.W.codeIn K cd_all_numbers "all_numbers" = true)
    (F_all_numbers_k : PySem.W.keepIn K (.ref A_all_numbers) = true)
    (n_tuple_a : PySem.W.nsIn K mainGlobals "tuple" = some none)
    (F_bound_of_c : PySem.W.codeIn K cd_bound_of "bound_of" = true)
    (F_bound_of_k : PySem.W.keepIn K (.ref A_bound_of) = true)
    (k_all_numbers_a : PySem.W.keepIn K (.ref A_all_numbers) = true)
    (m_all_numbers_a : PySem.W.nsIn K mainGlobals "all_numbers" = some (some (.ref A_all_numbers)))
    (q_Ratio_gt_s : PySem.W.findIn K (.ref A_Ratio) "__gt__" = some (some (.ref A_Ratio___gt__)))
    (q_Ratio_gt_f : PySem.W.isFn K (.ref A_Ratio___gt__) = true)
    (q_Ratio_gt_n : PySem.W.notFirst K A_Ratio (.type "int") = true)
    (q_Ratio_lt_s : PySem.W.findIn K (.ref A_Ratio) "__lt__" = some (some (.ref A_Ratio___lt__)))
    (q_Ratio_lt_f : PySem.W.isFn K (.ref A_Ratio___lt__) = true)
    (q_Ratio_lt_n : PySem.W.notFirst K A_Ratio (.type "int") = true)
    (F_Ratio_highest_c : PySem.W.codeIn K cd_Ratio_highest "Ratio.highest" = true)
    (F_Ratio_highest_k : PySem.W.keepIn K (.ref A_Ratio_highest) = true)
    (k_bound_of_a : PySem.W.keepIn K (.ref A_bound_of) = true)
    (m_bound_of_a : PySem.W.nsIn K mainGlobals "bound_of" = some (some (.ref A_bound_of)))
    (F_Ratio_lowest_c : PySem.W.codeIn K cd_Ratio_lowest "Ratio.lowest" = true)
    (F_Ratio_lowest_k : PySem.W.keepIn K (.ref A_Ratio_lowest) = true)
    (F_Ratio_common_c : PySem.W.codeIn K cd_Ratio_common "Ratio.common" = true)
    (F_Ratio_common_k : PySem.W.keepIn K (.ref A_Ratio_common) = true)
    (F__law_int_c : PySem.W.codeIn K cd__law_int "_law_int" = true)
    (F__law_int_k : PySem.W.keepIn K (.ref A__law_int) = true)
    (k__law_pick_a : PySem.W.keepIn K (.ref A__law_pick) = true)
    (m__law_pick_a : PySem.W.nsIn K mainGlobals "_law_pick" = some (some (.ref A__law_pick)))
    (F__law_pair_c : PySem.W.codeIn K cd__law_pair "_law_pair" = true)
    (F__law_pair_k : PySem.W.keepIn K (.ref A__law_pair) = true)
    (k__law_int_a : PySem.W.keepIn K (.ref A__law_int) = true)
    (m__law_int_a : PySem.W.nsIn K mainGlobals "_law_int" = some (some (.ref A__law_int)))
    (F__law_drawn_c : PySem.W.codeIn K cd__law_drawn "_law_drawn" = true)
    (F__law_drawn_k : PySem.W.keepIn K (.ref A__law_drawn) = true)
    (n_range_a : PySem.W.nsIn K mainGlobals "range" = some none)
    (k__law_pair_a : PySem.W.keepIn K (.ref A__law_pair) = true)
    (m__law_pair_a : PySem.W.nsIn K mainGlobals "_law_pair" = some (some (.ref A__law_pair)))
    (F__law_divisor_c : PySem.W.codeIn K cd__law_divisor "_law_divisor" = true)
    (F__law_divisor_k : PySem.W.keepIn K (.ref A__law_divisor) = true)
    (F__law_ends_right_c : PySem.W.codeIn K cd__law_ends_right "_law_ends_right" = true)
    (F__law_ends_right_k : PySem.W.keepIn K (.ref A__law_ends_right) = true)
    (s_Ratio_highest_g : PySem.W.specialIn K (.ref A_Ratio) "__getattribute__" = some (some (.builtin "type.__getattribute__")))
    (s_Ratio_highest_k : PySem.W.keepIn K (.ref A_Ratio_highest) = true)
    (s_Ratio_lowest_g : PySem.W.specialIn K (.ref A_Ratio) "__getattribute__" = some (some (.builtin "type.__getattribute__")))
    (s_Ratio_lowest_k : PySem.W.keepIn K (.ref A_Ratio_lowest) = true)
    (q_Ratio_le_s : PySem.W.findIn K (.ref A_Ratio) "__le__" = some (some (.ref A_Ratio___le__)))
    (q_Ratio_le_f : PySem.W.isFn K (.ref A_Ratio___le__) = true)
    (q_Ratio_le_n : PySem.W.notFirst K A_Ratio (.type "int") = true)
    (q_Ratio_ge_s : PySem.W.findIn K (.ref A_Ratio) "__ge__" = some (some (.ref A_Ratio___ge__)))
    (q_Ratio_ge_f : PySem.W.isFn K (.ref A_Ratio___ge__) = true)
    (q_Ratio_ge_n : PySem.W.notFirst K A_Ratio (.type "int") = true)
    (q_Ratio_eq_s : PySem.W.findIn K (.ref A_Ratio) "__eq__" = some (some (.ref A_Ratio___eq__)))
    (q_Ratio_eq_f : PySem.W.isFn K (.ref A_Ratio___eq__) = true)
    (q_Ratio_eq_n : PySem.W.notFirst K A_Ratio (.type "int") = true)
    (F_Ratio_divided_c : PySem.W.codeIn K cd_Ratio_divided "Ratio.divided" = true)
    (F_Ratio_divided_k : PySem.W.keepIn K (.ref A_Ratio_divided) = true)
    (F__law_common_right_c : PySem.W.codeIn K cd__law_common_right "_law_common_right" = true)
    (F__law_common_right_k : PySem.W.keepIn K (.ref A__law_common_right) = true)
    (s_Ratio_common_g : PySem.W.specialIn K (.ref A_Ratio) "__getattribute__" = some (some (.builtin "type.__getattribute__")))
    (s_Ratio_common_k : PySem.W.keepIn K (.ref A_Ratio_common) = true)
    (z_Ratio_e : PySem.W.findIn K (.ref A_Ratio) "__ne__" = some (some (.builtin "object.__ne__")))
    (z_Ratio_s : PySem.W.findIn K (.ref A_Ratio) "__eq__" = some (some (.ref A_Ratio___eq__)))
    (z_Ratio_f : PySem.W.isFn K (.ref A_Ratio___eq__) = true)
    (z_Ratio_m : PySem.W.mroIn K A_Ratio (.type "object") = some true)
    (z_Ratio_n : PySem.W.notFirst K A_Ratio (.type "int") = true)
    (h_Ratio_divided_a : PySem.W.findIn K (.ref A_Ratio) "divided" = some (some (.ref A_Ratio_divided)))
    (h_Ratio_divided_f : PySem.W.isFn K (.ref A_Ratio_divided) = true)
    (h_Ratio_divided_k : PySem.W.keepIn K (.ref A_Ratio_divided) = true)
    (k__law_divisor_a : PySem.W.keepIn K (.ref A__law_divisor) = true)
    (m__law_divisor_a : PySem.W.nsIn K mainGlobals "_law_divisor" = some (some (.ref A__law_divisor)))
    (F__law_heard_c : PySem.W.codeIn K cd__law_heard "_law_heard" = true)
    (F__law_heard_k : PySem.W.keepIn K (.ref A__law_heard) = true)
    (n_repr_a : PySem.W.nsIn K mainGlobals "repr" = some none)
    (sx_SnapError_l : K.lookup A_SnapError = some (excClassObj "SnapError" eq_SnapError A_SnapError eN_SnapError eb_SnapError PySem.HandSPX.veTail true en_SnapError eu_SnapError ea_SnapError ec_SnapError ed_SnapError e0_SnapError e1_SnapError e2_SnapError e3_SnapError e5_SnapError "ValueError.__new__"))
    (gx_object_n : PySem.W.specialIn K (.builtin "object.__class__") "__get__" = some (some (.builtin "getset_descriptor.__get__")))
    (gx_object_t : PySem.W.takesIn K (.builtin "object.__class__") = some true)
    (i_NoneType_is_Ratio_c : PySem.W.isClsIn K A_Ratio = true)
    (i_NoneType_is_Ratio_t : PySem.W.typeIn K (.ref A_Ratio) = some (.type "type"))
    (i_NoneType_is_Ratio_a : PySem.W.subIn K (.type "NoneType") (.ref A_Ratio) = some false)
    (w_Ratio_NoneType_n : PySem.W.notFirst K A_Ratio (.type "NoneType") = true)
    (i_str_is_Ratio_c : PySem.W.isClsIn K A_Ratio = true)
    (i_str_is_Ratio_t : PySem.W.typeIn K (.ref A_Ratio) = some (.type "type"))
    (i_str_is_Ratio_a : PySem.W.subIn K (.type "str") (.ref A_Ratio) = some false)
    (w_Ratio_str_n : PySem.W.notFirst K A_Ratio (.type "str") = true)
    (i_tuple_is_Ratio_c : PySem.W.isClsIn K A_Ratio = true)
    (i_tuple_is_Ratio_t : PySem.W.typeIn K (.ref A_Ratio) = some (.type "type"))
    (i_tuple_is_Ratio_a : PySem.W.subIn K (.type "tuple") (.ref A_Ratio) = some false)
    (w_Ratio_tuple_n : PySem.W.notFirst K A_Ratio (.type "tuple") = true)
    (i_list_is_Ratio_c : PySem.W.isClsIn K A_Ratio = true)
    (i_list_is_Ratio_t : PySem.W.typeIn K (.ref A_Ratio) = some (.type "type"))
    (i_list_is_Ratio_a : PySem.W.subIn K (.type "list") (.ref A_Ratio) = some false)
    (w_Ratio_list_n : PySem.W.notFirst K A_Ratio (.type "list") = true)
    (i_dict_is_Ratio_c : PySem.W.isClsIn K A_Ratio = true)
    (i_dict_is_Ratio_t : PySem.W.typeIn K (.ref A_Ratio) = some (.type "type"))
    (i_dict_is_Ratio_a : PySem.W.subIn K (.type "dict") (.ref A_Ratio) = some false)
    (w_Ratio_dict_n : PySem.W.notFirst K A_Ratio (.type "dict") = true)
    (i_bool_is_Ratio_c : PySem.W.isClsIn K A_Ratio = true)
    (i_bool_is_Ratio_t : PySem.W.typeIn K (.ref A_Ratio) = some (.type "type"))
    (i_bool_is_Ratio_a : PySem.W.subIn K (.type "bool") (.ref A_Ratio) = some false)
    (w_Ratio_bool_n : PySem.W.notFirst K A_Ratio (.type "bool") = true)
    (tab_law_l : K.lookup A_law = some ⟨oc2_law, od2_law, .func (PySem.W.fnOf "law" "law" (defArgs s_law) (defBody s_law) (defScope s_law) .none kV2_law dc2_law pm2_law an2_law (.ref A_cc_law) ct2_law), sl2_law⟩)
    (tab_law_c : K.lookup A_cc_law = some ⟨cd2_law, td2_law, .fields (List.toArray fv_law), ts2_law⟩)
    (tab_law_v : fv_law[11]? = some (.ref A_cp_law))
    (tab_law_o : K.lookup A_cp_law = none)
    (tab_law_h : PySem.W.codeHdIn K A_cc_law A_cp_law = true)
    (m__law_heard_a : PySem.W.nsIn K mainGlobals "_law_heard" = some (some (.ref A__law_heard)))
    (F_law_c : PySem.W.codeIn K cd_law "law" = true)
    (F_law_k : PySem.W.keepIn K (.ref A_law) = true)
    (k__law_pen_a : PySem.W.keepIn K (.ref A__law_pen) = true)
    (m__law_pen_a : PySem.W.nsIn K mainGlobals "_law_pen" = some (some (.ref A__law_pen)))
    (k__law_drawn_a : PySem.W.keepIn K (.ref A__law_drawn) = true)
    (m__law_drawn_a : PySem.W.nsIn K mainGlobals "_law_drawn" = some (some (.ref A__law_drawn)))
    (k__law_common_right_a : PySem.W.keepIn K (.ref A__law_common_right) = true)
    (m__law_common_right_a : PySem.W.nsIn K mainGlobals "_law_common_right" = some (some (.ref A__law_common_right)))
    (k__law_ends_right_a : PySem.W.keepIn K (.ref A__law_ends_right) = true)
    (m__law_ends_right_a : PySem.W.nsIn K mainGlobals "_law_ends_right" = some (some (.ref A__law_ends_right)))
    (k__law_heard_a : PySem.W.keepIn K (.ref A__law_heard) = true)
    (t_Ratio_s : PySem.W.findIn K (.ref A_Ratio) "__str__" = some (some (.ref A_Ratio___str__)))
    (t_Ratio_f : PySem.W.isFn K (.ref A_Ratio___str__) = true)
    (t_Ratio_g : PySem.W.findIn K (.ref A_Ratio) "__format__" = some (some (.builtin "object.__format__")))
    (t_Ratio_m : PySem.W.mroIn K A_Ratio (.type "object") = some true)
    (m_law_a : PySem.W.nsIn K mainGlobals "law" = some (some (.ref A_law)))
    : Tx K mg ⟨A__law_pen, A__law_draw, A__law_pick, A_Ratio, A_is_integer, A_Ratio___init__, A_Ratio_of, A_Ratio___add__, A_Ratio___sub__, A_Ratio___mul__, A_Ratio___lt__, A_Ratio___le__, A_Ratio___gt__, A_Ratio___ge__, A_Ratio___eq__, A_Ratio_floor, A_Ratio___str__, A_Ratio___bool__, A_BadRatio___init__, A_SnapError, A_BadRatio, A_all_numbers, A_bound_of, A_Ratio_highest, A_Ratio_lowest, A_Ratio_common, A__law_int, A__law_pair, A__law_drawn, A__law_divisor, A__law_ends_right, A_Ratio_divided, A__law_common_right, A__law_heard, A_law, A_cc_law, A_cp_law⟩ where
    F__law_pen := ⟨_, fun_mk (st := s__law_pen) F__law_pen_l F__law_pen_c F__law_pen_k⟩
    n_list := PySem.W.mg_none_of X G n_list_a
    F__law_draw := ⟨_, fun_mk (st := s__law_draw) F__law_draw_l F__law_draw_c F__law_draw_k⟩
    n_int := PySem.W.mg_none_of X G n_int_a
    n_len := PySem.W.mg_none_of X G n_len_a
    n_abs := PySem.W.mg_none_of X G n_abs_a
    F__law_pick := ⟨_, fun_mk (st := s__law_pick) F__law_pick_l F__law_pick_c F__law_pick_k⟩
    k__law_draw := k__law_draw_a
    m__law_draw := PySem.W.mg_of X G m__law_draw_a
    i_int_is_int := L2.kit_ty (by decide +kernel)
    i_int_is_bool := L2.kit_ty (by decide +kernel)
    y_Ratio := ⟨y_Ratio_a, y_Ratio_n, y_Ratio_t, y_Ratio_m⟩
    c_Ratio := ⟨c_Ratio_p, c_Ratio_h, c_Ratio_o, c_Ratio_s⟩
    i_Ratio_is_int := kit_rt (by decide +kernel) i_Ratio_is_int_a
    i_Ratio_is_bool := kit_rt (by decide +kernel) i_Ratio_is_bool_a
    F_is_integer := ⟨_, fun_mk (st := s_is_integer) F_is_integer_l F_is_integer_c F_is_integer_k⟩
    n_isinstance := PySem.W.mg_none_of X G n_isinstance_a
    n_bool := PySem.W.mg_none_of X G n_bool_a
    D_Ratio___init__ := ⟨_, ⟨_, _, _, _, _, _, _, _, _, _, rfl, D_Ratio___init___l, D_Ratio___init___c, Or.inr ⟨by simp, _, _, _, _, rfl, D_Ratio___init___t, rfl, (Paired.cons ⟨_, rfl⟩ Paired.nil)⟩, Or.inl rfl⟩, D_Ratio___init___k⟩
    k_is_integer := k_is_integer_a
    m_is_integer := PySem.W.mg_of X G m_is_integer_a
    m_gcd := PySem.W.mg_of X G m_gcd_a
    a_Ratio_over := a_Ratio_over_a
    a_Ratio_under := a_Ratio_under_a
    F_Ratio_of := ⟨_, fun_mk (st := s_Ratio_of) F_Ratio_of_l F_Ratio_of_c F_Ratio_of_k⟩
    m_Ratio := PySem.W.mg_of X G m_Ratio_a
    mk_Ratio := ⟨mk_Ratio_m, mk_Ratio_i, mk_Ratio_f, mk_Ratio_k⟩
    i_int_is_Ratio := kit_tr i_int_is_Ratio_c i_int_is_Ratio_t i_int_is_Ratio_a
    i_Ratio_is_Ratio := kit_rr
    F_Ratio___add__ := ⟨_, fun_mk (st := s_Ratio___add__) F_Ratio___add___l F_Ratio___add___c F_Ratio___add___k⟩
    s_Ratio_of := ⟨⟨_, _, _, ⟨s_Ratio_of_r, s_Ratio_of_g⟩, s_Ratio_of_a, s_Ratio_of_q⟩, s_Ratio_of_k⟩
    F_Ratio___sub__ := ⟨_, fun_mk (st := s_Ratio___sub__) F_Ratio___sub___l F_Ratio___sub___c F_Ratio___sub___k⟩
    F_Ratio___mul__ := ⟨_, fun_mk (st := s_Ratio___mul__) F_Ratio___mul___l F_Ratio___mul___c F_Ratio___mul___k⟩
    F_Ratio___lt__ := ⟨_, fun_mk (st := s_Ratio___lt__) F_Ratio___lt___l F_Ratio___lt___c F_Ratio___lt___k⟩
    F_Ratio___le__ := ⟨_, fun_mk (st := s_Ratio___le__) F_Ratio___le___l F_Ratio___le___c F_Ratio___le___k⟩
    F_Ratio___gt__ := ⟨_, fun_mk (st := s_Ratio___gt__) F_Ratio___gt___l F_Ratio___gt___c F_Ratio___gt___k⟩
    F_Ratio___ge__ := ⟨_, fun_mk (st := s_Ratio___ge__) F_Ratio___ge___l F_Ratio___ge___c F_Ratio___ge___k⟩
    F_Ratio___eq__ := ⟨_, fun_mk (st := s_Ratio___eq__) F_Ratio___eq___l F_Ratio___eq___c F_Ratio___eq___k⟩
    F_Ratio_floor := ⟨_, fun_mk (st := s_Ratio_floor) F_Ratio_floor_l F_Ratio_floor_c F_Ratio_floor_k⟩
    F_Ratio___str__ := ⟨_, fun_mk (st := s_Ratio___str__) F_Ratio___str___l F_Ratio___str___c F_Ratio___str___k⟩
    n_str := PySem.W.mg_none_of X G n_str_a
    F_Ratio___bool__ := ⟨_, fun_mk (st := s_Ratio___bool__) F_Ratio___bool___l F_Ratio___bool___c F_Ratio___bool___k⟩
    F_BadRatio___init__ := ⟨_, fun_mk (st := s_BadRatio___init__) F_BadRatio___init___l F_BadRatio___init___c F_BadRatio___init___k⟩
    vi_SnapError := ⟨⟨_, ⟨vi_SnapError_r, vi_SnapError_g⟩, vi_SnapError_v⟩⟩
    m_SnapError := PySem.W.mg_of X G m_SnapError_a
    ex_BadRatio := ⟨⟨_, _, _, _, _, _, _, _, _, _, _, _, _, ex_BadRatio_l⟩, ex_BadRatio_s, ex_BadRatio_g, ex_BadRatio_h, ex_BadRatio_c, ex_BadRatio_i, ex_BadRatio_f, ex_BadRatio_k⟩
    a_BadRatio_value := a_BadRatio_value_a
    m_BadRatio := PySem.W.mg_of X G m_BadRatio_a
    i_list_is_list := L2.kit_ty (by decide +kernel)
    i_tuple_is_list := L2.kit_ty (by decide +kernel)
    i_tuple_is_tuple := L2.kit_ty (by decide +kernel)
    F_all_numbers := ⟨_, fun_mk (st := s_all_numbers) F_all_numbers_l F_all_numbers_c F_all_numbers_k⟩
    n_tuple := PySem.W.mg_none_of X G n_tuple_a
    F_bound_of := ⟨_, fun_mk (st := s_bound_of) F_bound_of_l F_bound_of_c F_bound_of_k⟩
    k_all_numbers := k_all_numbers_a
    m_all_numbers := PySem.W.mg_of X G m_all_numbers_a
    q_Ratio_gt := ⟨q_Ratio_gt_s, q_Ratio_gt_f, q_Ratio_gt_n⟩
    q_Ratio_lt := ⟨q_Ratio_lt_s, q_Ratio_lt_f, q_Ratio_lt_n⟩
    F_Ratio_highest := ⟨_, fun_mk (st := s_Ratio_highest) F_Ratio_highest_l F_Ratio_highest_c F_Ratio_highest_k⟩
    k_bound_of := k_bound_of_a
    m_bound_of := PySem.W.mg_of X G m_bound_of_a
    F_Ratio_lowest := ⟨_, fun_mk (st := s_Ratio_lowest) F_Ratio_lowest_l F_Ratio_lowest_c F_Ratio_lowest_k⟩
    F_Ratio_common := ⟨_, fun_mk (st := s_Ratio_common) F_Ratio_common_l F_Ratio_common_c F_Ratio_common_k⟩
    F__law_int := ⟨_, fun_mk (st := s__law_int) F__law_int_l F__law_int_c F__law_int_k⟩
    k__law_pick := k__law_pick_a
    m__law_pick := PySem.W.mg_of X G m__law_pick_a
    F__law_pair := ⟨_, fun_mk (st := s__law_pair) F__law_pair_l F__law_pair_c F__law_pair_k⟩
    k__law_int := k__law_int_a
    m__law_int := PySem.W.mg_of X G m__law_int_a
    F__law_drawn := ⟨_, fun_mk (st := s__law_drawn) F__law_drawn_l F__law_drawn_c F__law_drawn_k⟩
    n_range := PySem.W.mg_none_of X G n_range_a
    k__law_pair := k__law_pair_a
    m__law_pair := PySem.W.mg_of X G m__law_pair_a
    F__law_divisor := ⟨_, fun_mk (st := s__law_divisor) F__law_divisor_l F__law_divisor_c F__law_divisor_k⟩
    F__law_ends_right := ⟨_, fun_mk (st := s__law_ends_right) F__law_ends_right_l F__law_ends_right_c F__law_ends_right_k⟩
    s_Ratio_highest := ⟨⟨_, _, _, ⟨s_Ratio_highest_r, s_Ratio_highest_g⟩, s_Ratio_highest_a, s_Ratio_highest_q⟩, s_Ratio_highest_k⟩
    s_Ratio_lowest := ⟨⟨_, _, _, ⟨s_Ratio_lowest_r, s_Ratio_lowest_g⟩, s_Ratio_lowest_a, s_Ratio_lowest_q⟩, s_Ratio_lowest_k⟩
    q_Ratio_le := ⟨q_Ratio_le_s, q_Ratio_le_f, q_Ratio_le_n⟩
    q_Ratio_ge := ⟨q_Ratio_ge_s, q_Ratio_ge_f, q_Ratio_ge_n⟩
    q_Ratio_eq := ⟨q_Ratio_eq_s, q_Ratio_eq_f, q_Ratio_eq_n⟩
    F_Ratio_divided := ⟨_, fun_mk (st := s_Ratio_divided) F_Ratio_divided_l F_Ratio_divided_c F_Ratio_divided_k⟩
    F__law_common_right := ⟨_, fun_mk (st := s__law_common_right) F__law_common_right_l F__law_common_right_c F__law_common_right_k⟩
    s_Ratio_common := ⟨⟨_, _, _, ⟨s_Ratio_common_r, s_Ratio_common_g⟩, s_Ratio_common_a, s_Ratio_common_q⟩, s_Ratio_common_k⟩
    z_Ratio := ⟨z_Ratio_e, z_Ratio_s, z_Ratio_f, z_Ratio_m, z_Ratio_n⟩
    h_Ratio_divided := ⟨h_Ratio_divided_a, h_Ratio_divided_f, h_Ratio_divided_k⟩
    k__law_divisor := k__law_divisor_a
    m__law_divisor := PySem.W.mg_of X G m__law_divisor_a
    F__law_heard := ⟨_, fun_mk (st := s__law_heard) F__law_heard_l F__law_heard_c F__law_heard_k⟩
    n_repr := PySem.W.mg_none_of X G n_repr_a
    sx_SnapError := ⟨⟨_, _, _, _, _, _, _, _, _, _, _, _, _, sx_SnapError_l⟩⟩
    gx_object := ⟨gx_object_n, gx_object_t⟩
    i_NoneType_is_Ratio := kit_tr i_NoneType_is_Ratio_c i_NoneType_is_Ratio_t i_NoneType_is_Ratio_a
    w_Ratio_NoneType := w_Ratio_NoneType_n
    i_NoneType_is_int := L2.kit_ty (by decide +kernel)
    i_NoneType_is_bool := L2.kit_ty (by decide +kernel)
    i_str_is_Ratio := kit_tr i_str_is_Ratio_c i_str_is_Ratio_t i_str_is_Ratio_a
    w_Ratio_str := w_Ratio_str_n
    i_str_is_int := L2.kit_ty (by decide +kernel)
    i_str_is_bool := L2.kit_ty (by decide +kernel)
    i_tuple_is_Ratio := kit_tr i_tuple_is_Ratio_c i_tuple_is_Ratio_t i_tuple_is_Ratio_a
    w_Ratio_tuple := w_Ratio_tuple_n
    i_tuple_is_int := L2.kit_ty (by decide +kernel)
    i_tuple_is_bool := L2.kit_ty (by decide +kernel)
    i_list_is_Ratio := kit_tr i_list_is_Ratio_c i_list_is_Ratio_t i_list_is_Ratio_a
    w_Ratio_list := w_Ratio_list_n
    i_list_is_int := L2.kit_ty (by decide +kernel)
    i_list_is_bool := L2.kit_ty (by decide +kernel)
    i_dict_is_Ratio := kit_tr i_dict_is_Ratio_c i_dict_is_Ratio_t i_dict_is_Ratio_a
    w_Ratio_dict := w_Ratio_dict_n
    i_dict_is_int := L2.kit_ty (by decide +kernel)
    i_dict_is_bool := L2.kit_ty (by decide +kernel)
    i_bool_is_Ratio := kit_tr i_bool_is_Ratio_c i_bool_is_Ratio_t i_bool_is_Ratio_a
    w_Ratio_bool := w_Ratio_bool_n
    i_bool_is_int := L2.kit_ty (by decide +kernel)
    i_bool_is_bool := L2.kit_ty (by decide +kernel)
    i_NoneType_is_list := L2.kit_ty (by decide +kernel)
    i_NoneType_is_tuple := L2.kit_ty (by decide +kernel)
    i_int_is_list := L2.kit_ty (by decide +kernel)
    i_int_is_tuple := L2.kit_ty (by decide +kernel)
    i_str_is_list := L2.kit_ty (by decide +kernel)
    i_str_is_tuple := L2.kit_ty (by decide +kernel)
    i_dict_is_list := L2.kit_ty (by decide +kernel)
    i_dict_is_tuple := L2.kit_ty (by decide +kernel)
    i_bool_is_list := L2.kit_ty (by decide +kernel)
    i_bool_is_tuple := L2.kit_ty (by decide +kernel)
    tab_law := ⟨⟨_, _, tab_law_l, rfl, rfl⟩, ⟨_, _, _, _, tab_law_c, by simpa using tab_law_v⟩, tab_law_o, tab_law_h⟩
    m__law_heard := PySem.W.mg_of X G m__law_heard_a
    F_law := ⟨_, fun_mk (st := s_law) F_law_l F_law_c F_law_k⟩
    k__law_pen := k__law_pen_a
    m__law_pen := PySem.W.mg_of X G m__law_pen_a
    k__law_drawn := k__law_drawn_a
    m__law_drawn := PySem.W.mg_of X G m__law_drawn_a
    k__law_common_right := k__law_common_right_a
    m__law_common_right := PySem.W.mg_of X G m__law_common_right_a
    k__law_ends_right := k__law_ends_right_a
    m__law_ends_right := PySem.W.mg_of X G m__law_ends_right_a
    k__law_heard := k__law_heard_a
    t_Ratio := ⟨t_Ratio_s, t_Ratio_f, t_Ratio_g, t_Ratio_m⟩
    m_law := PySem.W.mg_of X G m_law_a
theorem walk {l : PySem.W.OpenLaw} {q : Program} {loose : List Str} {XP : (Str → Option Value) → Heap → Prop} {YP : World → Heap → Prop} {r : DefRec} {K : Params → PySem.W.Frag} (hn : l.most = some 63) (hdf : r.params.defaults = [])
    (hY : ∀ (w : World) (h : Heap), YP w h → (K w.params).In h)
    (F : ∀ (w : World) (mg : Str → Option Value) (fa : Addr) (h : Heap), (K w.params).In h → h.Ns mainGlobals mg → mg r.name = some (.ref fa) →
      ∃ cs : List (Addr × Addr), (∀ p ∈ cs, ∃ (x : Str) (f : Addr), ((PyProof.Rows.recsOf q).any fun e => e.name == x) = true ∧ mg x = some (.ref f) ∧ TabK (K w.params) f p.1 p.2) ∧
        (∀ base : Heap, (K w.params).In base → base.Ns mainGlobals mg → (∀ p ∈ cs, LamX.TabB base mg p.1 p.2) → FnG l.prog w (K w.params) mg base CX0 levelLaw fa (spLaw (K w.params) cs))) :
    PySem.W.WalkO q loose XP YP l.row.toRowW r [] (fun f vs => PySem.call f vs) :=
  walkT (n := 63) (k := levelLaw) (sp := spLaw) hn (by decide) hdf ⟨rfl, by decide, by decide⟩ hY F fun _ _ _ a ns hl ht hS => ⟨a, ns, rfl, hS, hl, ht, fun _ => rfl⟩
end AZ
open PySem PySem.W PyProof.Rows
set_option maxRecDepth 100000 in
set_option maxHeartbeats 0 in
theorem PySem.Challenge.cw_allzooms_k06_whole_greatest_least_and_co_holds : PySem.Challenge.rw_allzooms_k06_whole_greatest_least_and_co.Holds := by
  w_on; o_law; k_head; (case hw => w_witness2)
  k_fill
  refine AZ.walk (l := PySem.Challenge.rw_allzooms_k06_whole_greatest_least_and_co) rfl rfl (fun w h Y => PySem.W.km_in_of Y) ?F
  case F =>
    intro w mg fa h KX G hmg
    refine' AZ.law_end (P := (PySem.Challenge.rw_allzooms_k06_whole_greatest_least_and_co).prog) (h := h) (by decide +kernel) hmg (AZ.tx_mk KX G ?L__law_pen ?L__law_draw ?L__law_pick ?L_Ratio ?L_is_integer ?L_SnapError ?L_BadRatio ?L_all_numbers ?L_bound_of ?L__law_int ?L__law_pair ?L__law_drawn ?L__law_divisor ?L__law_ends_right ?L__law_common_right ?L__law_heard ?L_law ?L_Ratio___init__ ?L_Ratio___add__ ?L_Ratio___sub__ ?L_Ratio___mul__ ?L_Ratio___lt__ ?L_Ratio___le__ ?L_Ratio___gt__ ?L_Ratio___ge__ ?L_Ratio___eq__ ?L_Ratio_floor ?L_Ratio___str__ ?L_Ratio___bool__ ?L_BadRatio___init__ ?L_Ratio_divided ?s_Ratio_of_r ?s_Ratio_highest_r ?s_Ratio_lowest_r ?s_Ratio_common_r ?s_Ratio_of_a ?s_Ratio_highest_a ?s_Ratio_lowest_a ?s_Ratio_common_a ?s_Ratio_of_q ?s_Ratio_highest_q ?s_Ratio_lowest_q ?s_Ratio_common_q ?F__law_pen_l ?F__law_draw_l ?F__law_pick_l ?F_is_integer_l ?D_Ratio___init___l ?F_Ratio_of_l ?F_Ratio___add___l ?F_Ratio___sub___l ?F_Ratio___mul___l ?F_Ratio___lt___l ?F_Ratio___le___l ?F_Ratio___gt___l ?F_Ratio___ge___l ?F_Ratio___eq___l ?F_Ratio_floor_l ?F_Ratio___str___l ?F_Ratio___bool___l ?F_BadRatio___init___l ?F_all_numbers_l ?F_bound_of_l ?F_Ratio_highest_l ?F_Ratio_lowest_l ?F_Ratio_common_l ?F__law_int_l ?F__law_pair_l ?F__law_drawn_l ?F__law_divisor_l ?F__law_ends_right_l ?F_Ratio_divided_l ?F__law_common_right_l ?F__law_heard_l ?F_law_l ?F__law_pen_c ?F__law_pen_k ?n_list_a ?F__law_draw_c ?F__law_draw_k ?n_int_a ?n_len_a ?n_abs_a ?F__law_pick_c ?F__law_pick_k ?k__law_draw_a ?m__law_draw_a ?y_Ratio_a ?y_Ratio_n ?y_Ratio_t ?y_Ratio_m ?c_Ratio_p ?c_Ratio_h ?c_Ratio_o ?c_Ratio_s ?i_Ratio_is_int_a ?i_Ratio_is_bool_a ?F_is_integer_c ?F_is_integer_k ?n_isinstance_a ?n_bool_a ?D_Ratio___init___c ?D_Ratio___init___k ?D_Ratio___init___t ?k_is_integer_a ?m_is_integer_a ?m_gcd_a ?a_Ratio_over_a ?a_Ratio_under_a ?F_Ratio_of_c ?F_Ratio_of_k ?m_Ratio_a ?mk_Ratio_m ?mk_Ratio_i ?mk_Ratio_f ?mk_Ratio_k ?i_int_is_Ratio_c ?i_int_is_Ratio_t ?i_int_is_Ratio_a ?F_Ratio___add___c ?F_Ratio___add___k ?s_Ratio_of_g ?s_Ratio_of_k ?F_Ratio___sub___c ?F_Ratio___sub___k ?F_Ratio___mul___c ?F_Ratio___mul___k ?F_Ratio___lt___c ?F_Ratio___lt___k ?F_Ratio___le___c ?F_Ratio___le___k ?F_Ratio___gt___c ?F_Ratio___gt___k ?F_Ratio___ge___c ?F_Ratio___ge___k ?F_Ratio___eq___c ?F_Ratio___eq___k ?F_Ratio_floor_c ?F_Ratio_floor_k ?F_Ratio___str___c ?F_Ratio___str___k ?n_str_a ?F_Ratio___bool___c ?F_Ratio___bool___k ?F_BadRatio___init___c ?F_BadRatio___init___k ?vi_SnapError_r ?vi_SnapError_g ?vi_SnapError_v ?m_SnapError_a ?ex_BadRatio_l ?ex_BadRatio_s ?ex_BadRatio_g ?ex_BadRatio_h ?ex_BadRatio_c ?ex_BadRatio_i ?ex_BadRatio_f ?ex_BadRatio_k ?a_BadRatio_value_a ?m_BadRatio_a ?F_all_numbers_c ?F_all_numbers_k ?n_tuple_a ?F_bound_of_c ?F_bound_of_k ?k_all_numbers_a ?m_all_numbers_a ?q_Ratio_gt_s ?q_Ratio_gt_f ?q_Ratio_gt_n ?q_Ratio_lt_s ?q_Ratio_lt_f ?q_Ratio_lt_n ?F_Ratio_highest_c ?F_Ratio_highest_k ?k_bound_of_a ?m_bound_of_a ?F_Ratio_lowest_c ?F_Ratio_lowest_k ?F_Ratio_common_c ?F_Ratio_common_k ?F__law_int_c ?F__law_int_k ?k__law_pick_a ?m__law_pick_a ?F__law_pair_c ?F__law_pair_k ?k__law_int_a ?m__law_int_a ?F__law_drawn_c ?F__law_drawn_k ?n_range_a ?k__law_pair_a ?m__law_pair_a ?F__law_divisor_c ?F__law_divisor_k ?F__law_ends_right_c ?F__law_ends_right_k ?s_Ratio_highest_g ?s_Ratio_highest_k ?s_Ratio_lowest_g ?s_Ratio_lowest_k ?q_Ratio_le_s ?q_Ratio_le_f ?q_Ratio_le_n ?q_Ratio_ge_s ?q_Ratio_ge_f ?q_Ratio_ge_n ?q_Ratio_eq_s ?q_Ratio_eq_f ?q_Ratio_eq_n ?F_Ratio_divided_c ?F_Ratio_divided_k ?F__law_common_right_c ?F__law_common_right_k ?s_Ratio_common_g ?s_Ratio_common_k ?z_Ratio_e ?z_Ratio_s ?z_Ratio_f ?z_Ratio_m ?z_Ratio_n ?h_Ratio_divided_a ?h_Ratio_divided_f ?h_Ratio_divided_k ?k__law_divisor_a ?m__law_divisor_a ?F__law_heard_c ?F__law_heard_k ?n_repr_a ?sx_SnapError_l ?gx_object_n ?gx_object_t ?i_NoneType_is_Ratio_c ?i_NoneType_is_Ratio_t ?i_NoneType_is_Ratio_a ?w_Ratio_NoneType_n ?i_str_is_Ratio_c ?i_str_is_Ratio_t ?i_str_is_Ratio_a ?w_Ratio_str_n ?i_tuple_is_Ratio_c ?i_tuple_is_Ratio_t ?i_tuple_is_Ratio_a ?w_Ratio_tuple_n ?i_list_is_Ratio_c ?i_list_is_Ratio_t ?i_list_is_Ratio_a ?w_Ratio_list_n ?i_dict_is_Ratio_c ?i_dict_is_Ratio_t ?i_dict_is_Ratio_a ?w_Ratio_dict_n ?i_bool_is_Ratio_c ?i_bool_is_Ratio_t ?i_bool_is_Ratio_a ?w_Ratio_bool_n ?tab_law_l ?tab_law_c ?tab_law_v ?tab_law_o ?tab_law_h ?m__law_heard_a ?F_law_c ?F_law_k ?k__law_pen_a ?m__law_pen_a ?k__law_drawn_a ?m__law_drawn_a ?k__law_common_right_a ?m__law_common_right_a ?k__law_ends_right_a ?m__law_ends_right_a ?k__law_heard_a ?t_Ratio_s ?t_Ratio_f ?t_Ratio_g ?t_Ratio_m ?m_law_a)
    (case L__law_pen => k_is)
    (case L__law_draw => k_is)
    (case L__law_pick => k_is)
    (case L_Ratio => k_is)
    (case L_is_integer => k_is)
    (case L_SnapError => k_is)
    (case L_BadRatio => k_is)
    (case L_all_numbers => k_is)
    (case L_bound_of => k_is)
    (case L__law_int => k_is)
    (case L__law_pair => k_is)
    (case L__law_drawn => k_is)
    (case L__law_divisor => k_is)
    (case L__law_ends_right => k_is)
    (case L__law_common_right => k_is)
    (case L__law_heard => k_is)
    (case L_law => k_is)
    (case L_Ratio___init__ => k_is)
    (case L_Ratio___add__ => k_is)
    (case L_Ratio___sub__ => k_is)
    (case L_Ratio___mul__ => k_is)
    (case L_Ratio___lt__ => k_is)
    (case L_Ratio___le__ => k_is)
    (case L_Ratio___gt__ => k_is)
    (case L_Ratio___ge__ => k_is)
    (case L_Ratio___eq__ => k_is)
    (case L_Ratio_floor => k_is)
    (case L_Ratio___str__ => k_is)
    (case L_Ratio___bool__ => k_is)
    (case L_BadRatio___init__ => k_is)
    (case L_Ratio_divided => k_is)
    (case s_Ratio_of_r => k_is)
    (case s_Ratio_highest_r => k_is)
    (case s_Ratio_lowest_r => k_is)
    (case s_Ratio_common_r => k_is)
    (case s_Ratio_of_a => k_is)
    (case s_Ratio_highest_a => k_is)
    (case s_Ratio_lowest_a => k_is)
    (case s_Ratio_common_a => k_is)
    (case s_Ratio_of_q => k_is)
    (case s_Ratio_highest_q => k_is)
    (case s_Ratio_lowest_q => k_is)
    (case s_Ratio_common_q => k_is)
    (case F__law_pen_l => k_is)
    (case F__law_draw_l => k_is)
    (case F__law_pick_l => k_is)
    (case F_is_integer_l => k_is)
    (case D_Ratio___init___l => k_is)
    (case F_Ratio_of_l => k_is)
    (case F_Ratio___add___l => k_is)
    (case F_Ratio___sub___l => k_is)
    (case F_Ratio___mul___l => k_is)
    (case F_Ratio___lt___l => k_is)
    (case F_Ratio___le___l => k_is)
    (case F_Ratio___gt___l => k_is)
    (case F_Ratio___ge___l => k_is)
    (case F_Ratio___eq___l => k_is)
    (case F_Ratio_floor_l => k_is)
    (case F_Ratio___str___l => k_is)
    (case F_Ratio___bool___l => k_is)
    (case F_BadRatio___init___l => k_is)
    (case F_all_numbers_l => k_is)
    (case F_bound_of_l => k_is)
    (case F_Ratio_highest_l => k_is)
    (case F_Ratio_lowest_l => k_is)
    (case F_Ratio_common_l => k_is)
    (case F__law_int_l => k_is)
    (case F__law_pair_l => k_is)
    (case F__law_drawn_l => k_is)
    (case F__law_divisor_l => k_is)
    (case F__law_ends_right_l => k_is)
    (case F_Ratio_divided_l => k_is)
    (case F__law_common_right_l => k_is)
    (case F__law_heard_l => k_is)
    (case F_law_l => k_is)
    (case F__law_pen_c => k_is)
    (case F__law_pen_k => k_is)
    (case n_list_a => k_is)
    (case F__law_draw_c => k_is)
    (case F__law_draw_k => k_is)
    (case n_int_a => k_is)
    (case n_len_a => k_is)
    (case n_abs_a => k_is)
    (case F__law_pick_c => k_is)
    (case F__law_pick_k => k_is)
    (case k__law_draw_a => k_is)
    (case m__law_draw_a => k_is)
    (case y_Ratio_a => k_is)
    (case y_Ratio_n => k_is)
    (case y_Ratio_t => k_is)
    (case y_Ratio_m => k_is)
    (case c_Ratio_p => k_is)
    (case c_Ratio_h => k_is)
    (case c_Ratio_o => k_is)
    (case c_Ratio_s => k_is)
    (case i_Ratio_is_int_a => k_is)
    (case i_Ratio_is_bool_a => k_is)
    (case F_is_integer_c => k_is)
    (case F_is_integer_k => k_is)
    (case n_isinstance_a => k_is)
    (case n_bool_a => k_is)
    (case D_Ratio___init___c => k_is)
    (case D_Ratio___init___k => k_is)
    (case D_Ratio___init___t => k_is)
    (case k_is_integer_a => k_is)
    (case m_is_integer_a => k_is)
    (case m_gcd_a => k_is)
    (case a_Ratio_over_a => k_is)
    (case a_Ratio_under_a => k_is)
    (case F_Ratio_of_c => k_is)
    (case F_Ratio_of_k => k_is)
    (case m_Ratio_a => k_is)
    (case mk_Ratio_m => k_is)
    (case mk_Ratio_i => k_is)
    (case mk_Ratio_f => k_is)
    (case mk_Ratio_k => k_is)
    (case i_int_is_Ratio_c => k_is)
    (case i_int_is_Ratio_t => k_is)
    (case i_int_is_Ratio_a => k_is)
    (case F_Ratio___add___c => k_is)
    (case F_Ratio___add___k => k_is)
    (case s_Ratio_of_g => k_is)
    (case s_Ratio_of_k => k_is)
    (case F_Ratio___sub___c => k_is)
    (case F_Ratio___sub___k => k_is)
    (case F_Ratio___mul___c => k_is)
    (case F_Ratio___mul___k => k_is)
    (case F_Ratio___lt___c => k_is)
    (case F_Ratio___lt___k => k_is)
    (case F_Ratio___le___c => k_is)
    (case F_Ratio___le___k => k_is)
    (case F_Ratio___gt___c => k_is)
    (case F_Ratio___gt___k => k_is)
    (case F_Ratio___ge___c => k_is)
    (case F_Ratio___ge___k => k_is)
    (case F_Ratio___eq___c => k_is)
    (case F_Ratio___eq___k => k_is)
    (case F_Ratio_floor_c => k_is)
    (case F_Ratio_floor_k => k_is)
    (case F_Ratio___str___c => k_is)
    (case F_Ratio___str___k => k_is)
    (case n_str_a => k_is)
    (case F_Ratio___bool___c => k_is)
    (case F_Ratio___bool___k => k_is)
    (case F_BadRatio___init___c => k_is)
    (case F_BadRatio___init___k => k_is)
    (case vi_SnapError_r => k_is)
    (case vi_SnapError_g => k_is)
    (case vi_SnapError_v => k_is)
    (case m_SnapError_a => k_is)
    (case ex_BadRatio_l => k_is)
    (case ex_BadRatio_s => k_is)
    (case ex_BadRatio_g => k_is)
    (case ex_BadRatio_h => k_is)
    (case ex_BadRatio_c => k_is)
    (case ex_BadRatio_i => k_is)
    (case ex_BadRatio_f => k_is)
    (case ex_BadRatio_k => k_is)
    (case a_BadRatio_value_a => k_is)
    (case m_BadRatio_a => k_is)
    (case F_all_numbers_c => k_is)
    (case F_all_numbers_k => k_is)
    (case n_tuple_a => k_is)
    (case F_bound_of_c => k_is)
    (case F_bound_of_k => k_is)
    (case k_all_numbers_a => k_is)
    (case m_all_numbers_a => k_is)
    (case q_Ratio_gt_s => k_is)
    (case q_Ratio_gt_f => k_is)
    (case q_Ratio_gt_n => k_is)
    (case q_Ratio_lt_s => k_is)
    (case q_Ratio_lt_f => k_is)
    (case q_Ratio_lt_n => k_is)
    (case F_Ratio_highest_c => k_is)
    (case F_Ratio_highest_k => k_is)
    (case k_bound_of_a => k_is)
    (case m_bound_of_a => k_is)
    (case F_Ratio_lowest_c => k_is)
    (case F_Ratio_lowest_k => k_is)
    (case F_Ratio_common_c => k_is)
    (case F_Ratio_common_k => k_is)
    (case F__law_int_c => k_is)
    (case F__law_int_k => k_is)
    (case k__law_pick_a => k_is)
    (case m__law_pick_a => k_is)
    (case F__law_pair_c => k_is)
    (case F__law_pair_k => k_is)
    (case k__law_int_a => k_is)
    (case m__law_int_a => k_is)
    (case F__law_drawn_c => k_is)
    (case F__law_drawn_k => k_is)
    (case n_range_a => k_is)
    (case k__law_pair_a => k_is)
    (case m__law_pair_a => k_is)
    (case F__law_divisor_c => k_is)
    (case F__law_divisor_k => k_is)
    (case F__law_ends_right_c => k_is)
    (case F__law_ends_right_k => k_is)
    (case s_Ratio_highest_g => k_is)
    (case s_Ratio_highest_k => k_is)
    (case s_Ratio_lowest_g => k_is)
    (case s_Ratio_lowest_k => k_is)
    (case q_Ratio_le_s => k_is)
    (case q_Ratio_le_f => k_is)
    (case q_Ratio_le_n => k_is)
    (case q_Ratio_ge_s => k_is)
    (case q_Ratio_ge_f => k_is)
    (case q_Ratio_ge_n => k_is)
    (case q_Ratio_eq_s => k_is)
    (case q_Ratio_eq_f => k_is)
    (case q_Ratio_eq_n => k_is)
    (case F_Ratio_divided_c => k_is)
    (case F_Ratio_divided_k => k_is)
    (case F__law_common_right_c => k_is)
    (case F__law_common_right_k => k_is)
    (case s_Ratio_common_g => k_is)
    (case s_Ratio_common_k => k_is)
    (case z_Ratio_e => k_is)
    (case z_Ratio_s => k_is)
    (case z_Ratio_f => k_is)
    (case z_Ratio_m => k_is)
    (case z_Ratio_n => k_is)
    (case h_Ratio_divided_a => k_is)
    (case h_Ratio_divided_f => k_is)
    (case h_Ratio_divided_k => k_is)
    (case k__law_divisor_a => k_is)
    (case m__law_divisor_a => k_is)
    (case F__law_heard_c => k_is)
    (case F__law_heard_k => k_is)
    (case n_repr_a => k_is)
    (case sx_SnapError_l => k_is)
    (case gx_object_n => k_is)
    (case gx_object_t => k_is)
    (case i_NoneType_is_Ratio_c => k_is)
    (case i_NoneType_is_Ratio_t => k_is)
    (case i_NoneType_is_Ratio_a => k_is)
    (case w_Ratio_NoneType_n => k_is)
    (case i_str_is_Ratio_c => k_is)
    (case i_str_is_Ratio_t => k_is)
    (case i_str_is_Ratio_a => k_is)
    (case w_Ratio_str_n => k_is)
    (case i_tuple_is_Ratio_c => k_is)
    (case i_tuple_is_Ratio_t => k_is)
    (case i_tuple_is_Ratio_a => k_is)
    (case w_Ratio_tuple_n => k_is)
    (case i_list_is_Ratio_c => k_is)
    (case i_list_is_Ratio_t => k_is)
    (case i_list_is_Ratio_a => k_is)
    (case w_Ratio_list_n => k_is)
    (case i_dict_is_Ratio_c => k_is)
    (case i_dict_is_Ratio_t => k_is)
    (case i_dict_is_Ratio_a => k_is)
    (case w_Ratio_dict_n => k_is)
    (case i_bool_is_Ratio_c => k_is)
    (case i_bool_is_Ratio_t => k_is)
    (case i_bool_is_Ratio_a => k_is)
    (case w_Ratio_bool_n => k_is)
    (case tab_law_l => k_is)
    (case tab_law_c => k_is)
    (case tab_law_v => rfl)
    (case tab_law_o => rfl)
    (case tab_law_h => rfl)
    (case m__law_heard_a => k_is)
    (case F_law_c => k_is)
    (case F_law_k => k_is)
    (case k__law_pen_a => k_is)
    (case m__law_pen_a => k_is)
    (case k__law_drawn_a => k_is)
    (case m__law_drawn_a => k_is)
    (case k__law_common_right_a => k_is)
    (case m__law_common_right_a => k_is)
    (case k__law_ends_right_a => k_is)
    (case m__law_ends_right_a => k_is)
    (case k__law_heard_a => k_is)
    (case t_Ratio_s => k_is)
    (case t_Ratio_f => k_is)
    (case t_Ratio_g => k_is)
    (case t_Ratio_m => k_is)
    (case m_law_a => k_is)
