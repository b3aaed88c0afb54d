import PyProof.Rows.All
import Wide.All
import OpenK.AllK
import Wide.FinOn
import HandS.ForExc
import HandS.Comp
import HandS.More
import HandS.Star
import HandS.Gcd
import HandS.Defaults
import HandS.IsInst
import HandS.Wide
import HandS.ClsMeth
import HandS.Flow
import HandS.Style
import HandS.SortInts
import HandS.OwnEq
import HandS.FStr
import PyProof.Rows.ReprR
import HandS.MakeKw
import HandS.ExcInit
import HandS.ExcIs
import HandS.ExcField
import HandS.Dict
import PyProof.ReprRoads
import KE.KExcIs
import PySem.Challenge.RW_allzooms_k01_errors_and_their_fields
set_option Elab.async false
set_option maxRecDepth 100000
set_option maxHeartbeats 4000000
set_option linter.all false
namespace AZ
open PySem L2
/-! ## fractions -/
theorem num_di (a b : Int) (hb : b ≠ 0) : (Rat.divInt a b).num = a.fdiv (if b < 0 then -(Int.gcd a b : Int) else (Int.gcd a b : Int)) := by
  rw [Rat.num_divInt, Int.gcd_comm]
  obtain ⟨x, hx⟩ : (Int.gcd a b : Int) ∣ a := Int.gcd_dvd_left ..
  have hg : (Int.gcd a b : Int) ≠ 0 := by
    intro h
    have h2 : Int.gcd a b = 0 := by omega
    exact hb (Int.gcd_eq_zero_iff.mp h2).2
  generalize (Int.gcd a b : Int) = g at hx hg
  subst hx
  by_cases h : b < 0
  · rw [if_pos h, Int.sign_eq_neg_one_of_neg h, show -1 * (g * x) = g * -x by grind, Int.mul_ediv_cancel_left _ hg, show g * x = -g * -x by grind, Int.mul_fdiv_cancel_left _ (by omega)]
  · have hp : 0 < b := by omega
    rw [if_neg h, Int.sign_eq_one_of_pos hp, Int.one_mul, Int.mul_ediv_cancel_left _ hg, Int.mul_fdiv_cancel_left _ hg]
theorem den_di (a b : Int) (hb : b ≠ 0) : ((Rat.divInt a b).den : Int) = b.fdiv (if b < 0 then -(Int.gcd a b : Int) else (Int.gcd a b : Int)) := by
  rw [Rat.den_divInt, if_neg hb, Int.gcd_comm, Int.natCast_ediv]
  obtain ⟨x, hx⟩ : (Int.gcd a b : Int) ∣ b := Int.gcd_dvd_right ..
  have hg : (Int.gcd a b : Int) ≠ 0 := by
    intro h
    have h2 : Int.gcd a b = 0 := by omega
    exact hb (Int.gcd_eq_zero_iff.mp h2).2
  generalize hgd : (Int.gcd a b : Int) = g at hx hg
  by_cases h : b < 0
  · rw [if_pos h, show (b.natAbs : Int) = -b by omega, hx, show -(g * x) = g * -x by grind, Int.mul_ediv_cancel_left _ hg, show g * x = -g * -x by grind, Int.mul_fdiv_cancel_left _ (by omega)]
  · rw [if_neg h, show (b.natAbs : Int) = b by omega, hx, Int.mul_ediv_cancel_left _ hg, Int.mul_fdiv_cancel_left _ hg]
theorem dpos (q : Rat) : (0:Int) < q.den := Int.natCast_pos.mpr q.den_pos
theorem dne (q : Rat) : (q.den : Int) ≠ 0 := Int.ne_of_gt (dpos q)
theorem rdq (q : Rat) : Rat.divInt q.num q.den = q := Rat.num_divInt_den q
theorem r_add (x y : Rat) : Rat.divInt (x.num * y.den + y.num * x.den) (x.den * y.den) = x + y := by
  rw [← Rat.divInt_add_divInt _ _ (dne x) (dne y), rdq, rdq]
theorem r_sub (x y : Rat) : Rat.divInt (x.num * y.den - y.num * x.den) (x.den * y.den) = x - y := by
  rw [← Rat.divInt_sub_divInt _ _ (dne x) (dne y), rdq, rdq]
theorem r_mul (x y : Rat) : Rat.divInt (x.num * y.num) (x.den * y.den) = x * y := by
  rw [← Rat.divInt_mul_divInt, rdq, rdq]
theorem r_neg (x : Rat) : Rat.divInt (-x.num) x.den = -x := by
  rw [← Rat.neg_divInt, rdq]
theorem r_div (x y : Rat) : Rat.divInt (x.num * y.den) (x.den * y.num) = x / y := by
  rw [← Rat.divInt_mul_divInt, rdq, Rat.div_def, ← Rat.inv_divInt, rdq]
theorem r_floor (q : Rat) : q.num.fdiv q.den = q.floor := by
  rw [Rat.floor_def, Int.fdiv_eq_ediv_of_nonneg _ (Int.le_of_lt (dpos q))]
theorem r_ceil (q : Rat) : -((-q.num).fdiv q.den) = q.ceil := by
  rw [Rat.ceil_eq_neg_floor_neg, ← r_floor, Rat.neg_num, Rat.neg_den]
theorem r_int (n : Int) : Rat.divInt n 1 = (n : Rat) := by
  rw [Rat.divInt_eq_div]; show (n : Rat) / ((1 : Int) : Rat) = n; rw [Rat.intCast_one]; grind
theorem gcd_pos (a b : Int) (hb : b ≠ 0) : 0 < Int.gcd a b := Nat.pos_of_ne_zero fun h => hb (Int.gcd_eq_zero_iff.mp h).2
theorem gcd_le (a b : Int) (hb : b ≠ 0) : Int.gcd a b ≤ b.natAbs := Nat.le_of_dvd (by omega) (Nat.gcd_dvd_right _ _)
/-- sizes -/
def Sz (n : Nat) (q : Rat) : Prop := q.num.natAbs < 2 ^ n ∧ q.den < 2 ^ n
theorem sz_di {a b : Int} {n : Nat} (hb : b ≠ 0) (h1 : a.natAbs < 2 ^ n) (h2 : b.natAbs < 2 ^ n) : Sz n (Rat.divInt a b) := by
  constructor
  · rw [Rat.num_divInt]
    refine Nat.lt_of_le_of_lt (Int.natAbs_ediv_le_natAbs _ _) ?_
    rw [Int.natAbs_mul, Int.natAbs_sign_of_ne_zero hb, Nat.one_mul]
    exact h1
  · rw [Rat.den_divInt, if_neg hb]
    exact Nat.lt_of_le_of_lt (Nat.div_le_self _ _) h2
theorem Sz.mono {n m : Nat} {q : Rat} (h : Sz n q) (e : n ≤ m) : Sz m q :=
  ⟨Nat.lt_of_lt_of_le h.1 (Nat.pow_le_pow_right (by decide) e), Nat.lt_of_lt_of_le h.2 (Nat.pow_le_pow_right (by decide) e)⟩
theorem mul_lt2 {x y a b : Nat} (h1 : x < 2 ^ a) (h2 : y < 2 ^ b) : x * y < 2 ^ (a + b) := by
  rw [Nat.pow_add]; exact Nat.mul_lt_mul'' h1 h2

/-! ## operators of own classes, by promises -/
section
variable {X : Cx}
/-- what binary operators ask of the class at C: the def at f -/
structure BinM (K : PySem.W.Frag) (C : Addr) (op : Operator) (f : Addr) : Prop where
  hs : PySem.W.findIn K (.ref C) (PySem.dunder op.info.2) = some (some (.ref f))
  hf : PySem.W.isFn K (.ref f) = true
  hc : PySem.W.selfFirst K C = true
  hr : ∃ rc, PySem.W.findIn K (.ref C) (dunderR op.info.2) = some rc ∧ (rc = none ∨ ∃ g : Addr, rc = some (.ref g))
  ht : ∃ fo ro, PySem.W.findIn K (.type "int") (PySem.dunder op.info.2) = some fo ∧ PySem.W.findIn K (.type "int") (dunderR op.info.2) = some ro
  hu : PySem.W.subIn K (.type "int") (.ref C) = some false
/-- the right side: an int or another one of C -/
def RightI (C : Addr) (H : Hp) (y : V) : Prop := (∃ j, y = .int j) ∨ ∃ b dy gs, y = .ref b ∧ H b = some (.ins C dy gs)
def rOwn (X : Cx) (op : Operator) : R2 := fun x y H Q => ∃ (a C dx : Addr) (fs : List (Str × V)) (f : Addr) (CX : CXT) (k : Nat) (sp : Sp) (E : XK),
  x = .ref a ∧ H a = some (.ins C dx fs) ∧ RightI C H y ∧ BinM X.K C op f ∧ FnR X.prog X.w X.K X.mg X.base CX k f sp ∧ Room k X.A ∧ Passes CX X E ∧ sp [x, y] H Q E
theorem cmpBack_of {pins : List (Addr × Obj)} {σ : St} {Q : VK} {v : Value} {s : Shared} (h : EP X pins σ Q v s) : PySem.W.CmpBack (EP X pins σ Q) v s := by
  cases v <;> first
  | exact h
  | (obtain ⟨z, _, _, rz, _⟩ := h
     exfalso
     cases z <;> simp [RelV] at rz)
theorem op_ownB (op : Operator) : OpR X (binaryOp op) (rOwn X op) := by
  intro pins s σ H x y v u Q I rx ry h
  obtain ⟨a, C, dx, fs, f, CX, k, sp, E, rfl, ha, hR, hM, F, hr, hx, hs⟩ := h
  obtain rfl : v = Value.ref a := rx
  have hc : wpAny (model X.prog X.w) X.A (call (.ref f) [.ref a, u]) (PySem.W.CmpBack (EP X pins σ Q)) X.xe s :=
    thn (wpAny_call (run_fnR (us := [.ref a, u]) (vs := [.ref a, y]) F hr hx I (.cons rfl (.cons ry .nil)) hs)) fun _ _ z => cmpBack_of z
  obtain ⟨mA, J, _⟩ := ins_get I.hok ha
  obtain ⟨od, J, _⟩ := J.look
  obtain ⟨m, hF⟩ := I.fr
  rcases hR with ⟨j, rfl⟩ | ⟨b, dy, gs, rfl, hb⟩
  · obtain ⟨t, rfl⟩ := ry
    obtain ⟨rc, hrc, hp⟩ := hM.hr
    obtain ⟨fo, ro, h1, h2⟩ := hM.ht
    exact PySem.W.ksp_binT hF I.ok.mod.kin J rfl hM.hc hM.hs hM.hf hrc hp h1 h2 hM.hu hc
  · obtain rfl : u = Value.ref b := ry
    obtain ⟨mB, J2, _⟩ := ins_get I.hok hb
    obtain ⟨od2, J2, _⟩ := J2.look
    exact PySem.W.binop_K hF I.ok.mod.kin J J2.type hM.hc hM.hs hM.hf hc
/-- comparisons -/
structure CmpM (K : PySem.W.Frag) (C : Addr) (op : CmpOp) (f : Addr) : Prop where
  hs : PySem.W.findIn K (.ref C) (cmpInfo op).2.1 = some (some (.ref f))
  hf : PySem.W.isFn K (.ref f) = true
  hn : PySem.W.notFirst K C (.type "int") = true
def rOwnC (X : Cx) (op : CmpOp) : R2 := fun x y H Q => ∃ (a C dx : Addr) (fs : List (Str × V)) (f : Addr) (CX : CXT) (k : Nat) (sp : Sp) (E : XK),
  x = .ref a ∧ H a = some (.ins C dx fs) ∧ RightI C H y ∧ CmpM X.K C op f ∧ FnR X.prog X.w X.K X.mg X.base CX k f sp ∧ Room k X.A ∧ Passes CX X E ∧ sp [x, y] H Q E
theorem op_ownC (op : CmpOp) (hop : ∀ a b, compareOp op a b = richCompare op a b := by intro _ _; rfl) : OpR X (compareOp op) (rOwnC X op) := by
  intro pins s σ H x y v u Q I rx ry h
  obtain ⟨a, C, dx, fs, f, CX, k, sp, E, rfl, ha, hR, hM, F, hr, hx, hs⟩ := h
  obtain rfl : v = Value.ref a := rx
  have hc : wpAny (model X.prog X.w) X.A (call (.ref f) [.ref a, u]) (PySem.W.CmpBack (EP X pins σ Q)) X.xe s :=
    thn (wpAny_call (run_fnR (us := [.ref a, u]) (vs := [.ref a, y]) F hr hx I (.cons rfl (.cons ry .nil)) hs)) fun _ _ z => cmpBack_of z
  obtain ⟨mA, J, _⟩ := ins_get I.hok ha
  obtain ⟨od, J, _⟩ := J.look
  obtain ⟨m, hF⟩ := I.fr
  rw [hop]
  rcases hR with ⟨j, rfl⟩ | ⟨b, dy, gs, rfl, hb⟩
  · obtain ⟨t, rfl⟩ := ry
    exact PySem.W.cmp_K (tb := .type "int") hr.units0 hF I.ok.mod.kin J (PySem.W.Looks.of_pure rfl) hM.hn hM.hs hM.hf hc
  · obtain rfl : u = Value.ref b := ry
    obtain ⟨mB, J2, _⟩ := ins_get I.hok hb
    obtain ⟨od2, J2, _⟩ := J2.look
    exact PySem.W.cmp_K (tb := .ref C) hr.units0 hF I.ok.mod.kin J J2.type (by simp [PySem.W.notFirst]) hM.hs hM.hf hc
/-- one-place operators -/
structure UnM (K : PySem.W.Frag) (C : Addr) (nm : Str) (f : Addr) : Prop where
  hs : PySem.W.findIn K (.ref C) nm = some (some (.ref f))
  hf : PySem.W.isFn K (.ref f) = true
def rOwnU (X : Cx) (nm : Str) : V → Hp → VK → Prop := fun x H Q => ∃ (a C dx : Addr) (fs : List (Str × V)) (f : Addr) (CX : CXT) (k : Nat) (sp : Sp) (E : XK),
  x = .ref a ∧ H a = some (.ins C dx fs) ∧ UnM X.K C nm f ∧ FnR X.prog X.w X.K X.mg X.base CX k f sp ∧ Room k X.A ∧ Passes CX X E ∧ sp [x] H Q E
theorem un_ownNeg : UnR X (unaryOp .USub) (rOwnU X "__neg__") := by
  intro pins s σ H x v Q I rx h
  obtain ⟨a, C, dx, fs, f, CX, k, sp, E, rfl, ha, hM, F, hr, hx, hs⟩ := h
  obtain rfl : v = Value.ref a := rx
  obtain ⟨mA, J, _⟩ := ins_get I.hok ha
  obtain ⟨od, J, _⟩ := J.look
  obtain ⟨m, hF⟩ := I.fr
  exact PySem.W.ksp_neg hF I.ok.mod.kin J hM.hs hM.hf (wpAny_call (run_fnR (us := [.ref a]) (vs := [.ref a]) F hr hx I (.cons rfl .nil) hs))
theorem un_ownInv : UnR X (unaryOp .Invert) (rOwnU X "__invert__") := by
  intro pins s σ H x v Q I rx h
  obtain ⟨a, C, dx, fs, f, CX, k, sp, E, rfl, ha, hM, F, hr, hx, hs⟩ := h
  obtain rfl : v = Value.ref a := rx
  obtain ⟨mA, J, _⟩ := ins_get I.hok ha
  obtain ⟨od, J, _⟩ := J.look
  obtain ⟨m, hF⟩ := I.fr
  exact PySem.W.ksp_inv hF I.ok.mod.kin J hM.hs hM.hf (wpAny_call (run_fnR (us := [.ref a]) (vs := [.ref a]) F hr hx I (.cons rfl .nil) hs))
/-! ## static methods, methods, defs by positional promises -/
structure SMet (K : PySem.W.Frag) (C : Addr) (m : Str) (g : Addr) : Prop where
  ex : ∃ (mc : Value) (p : Addr) (rest : List Value), ClX.CRead K C mc ∧ PySem.W.findCls K (.ref C) mc m = some (.get (.builtin "staticmethod.__get__") (.ref p) .none (.ref C)) ∧ PySem.W.recIn K p "staticmethod" = some (.ref g :: rest)
  kp : PySem.W.keepIn K (.ref g) = true
variable {CX : CXT} {k : Nat} {C g : Addr} {sp : Sp} {E : XK} {o e : Expr} {es : List Expr} {m x : Str} {p pos apos : Pos} {ta : TE} {t : TA}
def tSM (C : Addr) (sp : Sp) (E : XK) (ta : TE) (t : TA) : TE := fun σ H Q => ta σ H fun x H1 => x = .ref C ∧ t σ H1 fun vs H2 => sp vs H2 Q E
theorem pe_smeth {pl : Sem Bool} (he : PE X o ta) (c : SMet X.K C m g) (F : FnR X.prog X.w X.K X.mg X.base CX k g sp) (hr : Room k X.A) (hx : Passes CX X E) (ha : PA X (e :: es) t)
    (hst : starEach (e :: es) X.env = (false, eval e X.env) :: starEach es X.env := by rfl) (hpl : (backTo pos (starEach es X.env)).any (·.1) = false := by rfl)
    (ht : eval (.Call (.Attribute o m apos) (e :: es) [] pos) X.env = (eval o X.env >>= fun ov => standAt apos.atName >>= fun _ => holding [ov] (getMethod ov m pl) >>= fun r =>
      callWith pos r.1 r.2 (backTo pos (starEach (e :: es) X.env)) (backToKw pos (keywordEach [] X.env))) := by rfl) :
    PE X (.Call (.Attribute o m apos) (e :: es) [] pos) (tSM C sp E ta t) := by
  refine ⟨fun pins s σ H Q I h => ?_⟩
  refine PySem.W.methodCall_KW (pl := pl) (thn (he.run pins s σ H _ I h) fun u s1 ⟨x, H1, I1, rx, ex, q⟩ => ?_) ht
  subst ex
  obtain rfl : u = Value.ref C := rx
  obtain ⟨mc, p, rest, r, at_, rc⟩ := c.ex
  refine PySem.W.method_cls I1.kIn r.ga ?_
  refine PySem.W.cls_bind I1.kIn r.rd at_ (wpAny_call (PySem.W.sm_get (s := { s1 with toks := s1.toks + 1 }) I1.kIn rc (PySem.W.handed_on rfl ?_)))
  refine PySem.W.callWith_K (first := []) (h₀ := X.base) I1.ok.mod.kin c.kp (thn (ha.run pos pins _ σ H1 _ (I1.tok _) q) fun us s2 ⟨vs, H2, I2, r2, q2⟩ => ⟨I2.kIn, ?_⟩) hst hpl
  exact wpAny_call (run_fnR F hr hx I2 r2 q2)
/-- x(e, ..), x a def of the module -/
theorem pe_fnR (F : FnR X.prog X.w X.K X.mg X.base CX k g sp) (hr : Room k X.A) (hk : PySem.W.keepIn X.K (.ref g) = true) (hm : X.mg x = some (.ref g)) (hx : Passes CX X E) (ha : PA X (e :: es) t) (hg : Gl X x := by rfl) (hd : (x == ("__debug__" : Str)) = false := by decide)
    (he : starEach (e :: es) X.env = (false, eval e X.env) :: starEach es X.env := by rfl) (hst : (backTo pos (starEach es X.env)).any (·.1) = false := by rfl) :
    PE X (.Call (.Name x p) (e :: es) [] pos) (fun σ H Q => t σ H fun vs H1 => sp vs H1 Q E) := by
  refine ⟨fun pins s σ H Q I h => ?_⟩
  refine wpAny_Call_Name_kw (ld_glob I hg hm ?_ hd)
  refine PySem.W.callWith_K (h₀ := X.base) I.ok.mod.kin hk (thn (ha.run pos pins s σ H _ I h) fun us s1 ⟨vs, H1, I1, r, q⟩ => ⟨I1.kIn, ?_⟩) he hst
  exact wpAny_call (run_fnR F hr hx I1 r q)
/-- o.m(e, ..) -/
def tMR (C : Addr) (m : Str) (sp : Sp) (E : XK) (ta : TE) (t : TA) : TE := fun σ H Q => ta σ H fun x H1 => ∃ a dx fs, x = .ref a ∧ H1 a = some (.ins C dx fs) ∧ fs.lookup m = none ∧ t σ H1 fun vs H2 => sp (x :: vs) H2 Q E
theorem pe_mR {pl : Sem Bool} (he : PE X o ta) (c : Cls X.K C) (hm : Meth X.K C m g) (F : FnR X.prog X.w X.K X.mg X.base CX k g sp) (hr : Room k X.A) (hx : Passes CX X E) (ha : PA X (e :: es) t)
    (hst : starEach (e :: es) X.env = (false, eval e X.env) :: starEach es X.env := by rfl) (hpl : (backTo pos (starEach es X.env)).any (·.1) = false := by rfl)
    (ht : eval (.Call (.Attribute o m apos) (e :: es) [] pos) X.env = (eval o X.env >>= fun ov => standAt apos.atName >>= fun _ => holding [ov] (getMethod ov m pl) >>= fun r =>
      callWith pos r.1 r.2 (backTo pos (starEach (e :: es) X.env)) (backToKw pos (keywordEach [] X.env))) := by rfl) :
    PE X (.Call (.Attribute o m apos) (e :: es) [] pos) (tMR C m sp E ta t) := by
  refine ⟨fun pins s σ H Q I h => ?_⟩
  refine PySem.W.methodCall_KW (pl := pl) (thn (he.run pins s σ H _ I h) fun u s1 ⟨x, H1, I1, rx, a, dx, fs, ex, ea, l, q⟩ => ?_) ht
  subst ex
  obtain rfl : u = Value.ref a := rx
  refine getmeth_ok I1 ea c hm l ?_
  refine PySem.W.callWith_K (first := [.ref a]) (h₀ := X.base) I.ok.mod.kin hm.kp (thn (ha.run pos pins s1 σ H1 _ I1 q) fun us s2 ⟨vs, H2, I2, r, q2⟩ => ⟨I2.kIn, ?_⟩) hst hpl
  exact wpAny_call (run_fnR (us := .ref a :: us) (vs := .ref a :: vs) F hr hx I2 (.cons rfl r) q2)
/-- o.m() -/
theorem pe_mR0 {pl : Sem Bool} (he : PE X o ta) (c : Cls X.K C) (hm : Meth X.K C m g) (F : FnR X.prog X.w X.K X.mg X.base CX k g sp) (hr : Room k X.A) (hx : Passes CX X E)
    (ht : eval (.Call (.Attribute o m apos) [] [] pos) X.env = (eval o X.env >>= fun ov => standAt apos.atName >>= fun _ => holding [ov] (getMethod ov m pl) >>= fun r =>
      callWith pos r.1 r.2 (backTo pos (starEach [] X.env)) (backToKw pos (keywordEach [] X.env))) := by rfl) :
    PE X (.Call (.Attribute o m apos) [] [] pos) (tMR C m sp E ta tNil) := by
  refine ⟨fun pins s σ H Q I h => ?_⟩
  refine PySem.W.methodCall_KW (pl := pl) (thn (he.run pins s σ H _ I h) fun u s1 ⟨x, H1, I1, rx, a, dx, fs, ex, ea, l, q⟩ => ?_) ht
  subst ex
  obtain rfl : u = Value.ref a := rx
  refine getmeth_ok I1 ea c hm l ?_
  exact PySem.W.callWith_K0 (first := [.ref a]) I1.kIn hm.kp (wpAny_call (run_fnR (us := [.ref a]) (vs := [.ref a]) F hr hx I1 (.cons rfl .nil) q))
/-- // by a divisor of any sign below 2 ^ 9000 -/
def CDivZ (_ j : Int) : Prop := j ≠ 0 ∧ j.natAbs.log2 < 9000
theorem op_fdivZ : OpR X (binaryOp .FloorDiv) (rI CDivZ fun i j => .int (i.fdiv j)) := opI fun _ _ _ _ _ _ _ hc q => PyProof.Rows.floordiv_int hc.1 q (.inl (PyProof.noPylong_of_log2 hc.2))
theorem divZ {i j : Int} {b : Nat} (h : j ≠ 0) (hb : j.natAbs < 2 ^ b) (h0 : 0 < b) (h9 : b ≤ 9000) : CDivZ i j := ⟨h, Nat.lt_of_lt_of_le (PySem.Flt.log2_lt_of h0 hb) h9⟩
/-- what isinstance asks of an own class -/
structure TyC (K : PySem.W.Frag) (C : Addr) : Prop where
  ha : PySem.W.findIn K (.ref C) "__class__" = some (some (.builtin "object.__class__"))
  hn : PySem.W.specialIn K (.builtin "object.__class__") "__get__" = some (some (.builtin "getset_descriptor.__get__"))
  htk : PySem.W.takesIn K (.builtin "object.__class__") = some true
  hm : PySem.W.mroIn K C (.type "object") = some true
theorem TyC.ty {K : PySem.W.Frag} {C a dx : Addr} {H : Hp} {fs : List (Str × V)} (y : TyC K C) (c : Cls K C) (e : H a = some (.ins C dx fs)) : TyX K H (.ref a) (.ref C) := .base (.ins e c y.ha y.hn y.htk y.hm)
theorem kit_rt {K : PySem.W.Frag} {C : Addr} {S : String} {b : Bool} (m : PySem.W.kitMeta S = true) (h : PySem.W.subIn K (.ref C) (.type S) = some b) : PySem.W.kitOne K (.ref C) (.type S) = some b := by
  unfold PySem.W.kitOne PySem.W.kitCls
  rw [if_neg (by intro e; cases (beq_iff_eq.mp e))]
  dsimp only
  rw [if_pos m]
  exact h
theorem kit_tr {K : PySem.W.Frag} {C : Addr} {S : String} {b : Bool} (c : PySem.W.isClsIn K C = true) (t : PySem.W.typeIn K (.ref C) = some (.type "type")) (h : PySem.W.subIn K (.type S) (.ref C) = some b) : PySem.W.kitOne K (.type S) (.ref C) = some b := by
  unfold PySem.W.kitOne PySem.W.kitCls
  rw [if_neg (by intro e; cases (beq_iff_eq.mp e))]
  dsimp only
  rw [if_pos (by rw [show (PySem.W.clsIn K C).isSome = true from c, t]; rfl)]
  exact h
theorem kit_rr {K : PySem.W.Frag} {C : Addr} : PySem.W.kitOne K (.ref C) (.ref C) = some true := by simp [PySem.W.kitOne]
theorem ifF {c : Bool} {A B : Prop} (hc : c = false) (h : B) : if c = true then A else B := by subst hc; exact iteF h
theorem ifT {c : Bool} {A B : Prop} (hc : c = true) (h : A) : if c = true then A else B := by subst hc; exact iteT h
theorem if2 {c : Bool} {A B : Prop} (h1 : c = true → A) (h2 : c = false → B) : if c = true then A else B := by
  cases c with
  | true => exact iteT (h1 rfl)
  | false => exact iteF (h2 rfl)
/-! ## what stays beside a pen -/
def isL : HO → Bool
  | .lst _ => true
  | _ => false
/-- all but the list at p stays -/
def Up (p : Addr) (H H' : Hp) : Prop := ∀ b o, H b = some o → (b = p → isL o = false) → H' b = some o
theorem Up.refl (p : Addr) (H : Hp) : Up p H H := fun _ _ h _ => h
theorem Up.trans {p : Addr} {H H1 H2 : Hp} (a : Up p H H1) (b : Up p H1 H2) : Up p H H2 := fun c o h n => b c o (a c o h n) n
theorem Up.same {p : Addr} {H H' : Hp} (e : Same H H') : Up p H H' := fun b o h _ => e b o h
theorem Up.new {p q : Addr} {H : Hp} {o : HO} (h : H q = none) : Up p H (upd H q o) := fun b u e _ => by rw [upd_ne (ne_of_none e h)]; exact e
theorem Up.new' {p q : Addr} {H H1 : Hp} {o : HO} (e : Up p H H1) (h : H1 q = none) : Up p H (upd H1 q o) := e.trans (Up.new h)
theorem Up.put {p : Addr} {H : Hp} {xs : List V} {o : HO} (h : H p = some (.lst xs)) : Up p H (upd H p o) := fun b u e n => by
  by_cases hb : b = p
  · subst hb
    rw [h] at e
    cases e
    exact absurd (n rfl) (by simp [isL])
  · rw [upd_ne hb]; exact e
theorem Up.tup {p a : Addr} {H H' : Hp} {xs : List V} (e : Up p H H') (h : H a = some (.tup xs)) : H' a = some (.tup xs) := e _ _ h fun _ => rfl
theorem Up.ins {p a C dx : Addr} {H H' : Hp} {fs : List (Str × V)} (e : Up p H H') (h : H a = some (.ins C dx fs)) : H' a = some (.ins C dx fs) := e _ _ h fun _ => rfl
theorem Up.lst {p a : Addr} {H H' : Hp} {xs : List V} (e : Up p H H') (h : H a = some (.lst xs)) (n : a ≠ p) : H' a = some (.lst xs) := e _ _ h fun z => absurd z n
/-! ## rules by alternatives -/
theorem CallR.or' {f : Value} {r r' : List V → Hp → VK → Prop} (h : CallR X f r) (h' : CallR X f r') : CallR X f (fun xs H Q => r xs H Q ∨ r' xs H Q) := by
  intro pins s σ H xs us Q I rv q
  rcases q with q | q
  · exact h pins s σ H xs us Q I rv q
  · exact h' pins s σ H xs us Q I rv q
theorem UnR.or' {f : Value → Sem Value} {r r' : V → Hp → VK → Prop} (h : UnR X f r) (h' : UnR X f r') : UnR X f (fun x H Q => r x H Q ∨ r' x H Q) := by
  intro pins s σ H x v Q I rv q
  rcases q with q | q
  · exact h pins s σ H x v Q I rv q
  · exact h' pins s σ H x v Q I rv q
def orR (r r' : R2) : R2 := fun x y H Q => r x y H Q ∨ r' x y H Q
theorem op_or2 {f : Value → Value → Sem Value} {r r' : R2} (h : OpR X f r) (h' : OpR X f r') : OpR X f (orR r r') := OpR.or h h'
theorem uAdd : OpR X (binaryOp .Add) (orR (rI0 fun i j => .int (i + j)) (orR (rOwn X .Add) (orR rCat (rCatT X.K)))) := op_or2 op_add (op_or2 (op_ownB _) (op_or2 op_cat op_catT))
theorem uSub : OpR X (binaryOp .Sub) (orR (rI0 fun i j => .int (i - j)) (rOwn X .Sub)) := op_or2 op_sub (op_ownB _)
/-- * of two factors, one small or both together below a million bits -/
def CMulU (i j : Int) : Prop := CMul i j ∨ CMulW i j
theorem op_mulU : OpR X (binaryOp .Mult) (rI CMulU fun i j => .int (i * j)) := opI fun _ _ _ _ _ _ _ hc q => PyProof.Rows.mul_int q (hc.elim (fun h => h.ok) fun h => h.ok)
theorem mulL {i j : Int} (h : -(2 ^ 64) < i ∧ i < 2 ^ 64) : CMulU i j := .inl (.inl h)
theorem mulR {i j : Int} (h : -(2 ^ 64) < j ∧ j < 2 ^ 64) : CMulU i j := .inl (.inr h)
theorem uMul : OpR X (binaryOp .Mult) (orR (rI CMulU fun i j => .int (i * j)) (rOwn X .Mult)) := op_or2 op_mulU (op_ownB _)
/-! ## numbers that stir a pen -/
theorem fm0 {a b : Int} (h : 0 < b) : 0 ≤ a.fmod b ∧ a.fmod b < b := by
  rw [Int.fmod_eq_emod_of_nonneg _ (by omega)]
  exact ⟨Int.emod_nonneg _ (by omega), Int.emod_lt_of_pos _ h⟩
theorem stir1 {x m a b s : Int} (hm : 0 < m) (hm1 : m ≤ 2147483648) (ha : 0 ≤ a) (ha1 : a ≤ 1000000) (hb : 0 ≤ b) (hb1 : b ≤ 10000000) (h0 : 0 ≤ s) (h1 : s ≤ 100000) : (x.fmod m + a * s + b).natAbs < 2 ^ 64 := by
  obtain ⟨h2, h3⟩ := fm0 (a := x) hm
  have h4 : 0 ≤ a * s := Int.mul_nonneg ha h0
  have h5 : a * s ≤ 1000000 * 100000 := Int.mul_le_mul ha1 h1 h0 (by decide)
  omega
theorem stir2 {x m u a b s : Int} (hm : 0 < m) (hm1 : m ≤ 2147483648) (hu : 0 ≤ u) (hu1 : u ≤ 100000) (ha : 0 ≤ a) (ha1 : a ≤ 1000000) (hb : 0 ≤ b) (hb1 : b ≤ 10000000) (h0 : 0 ≤ s) (h1 : s ≤ 100000) : (x.fmod m * (2 * s + u) + a * s * s + b).natAbs < 2 ^ 64 := by
  obtain ⟨h2, h3⟩ := fm0 (a := x) hm
  have h4 : 0 ≤ a * s := Int.mul_nonneg ha h0
  have h5 : a * s ≤ 1000000 * 100000 := Int.mul_le_mul ha1 h1 h0 (by decide)
  have h6 : 0 ≤ a * s * s := Int.mul_nonneg h4 h0
  have h7 : a * s * s ≤ 1000000 * 100000 * 100000 := Int.mul_le_mul h5 h1 h0 (by decide)
  have h8 : 0 ≤ x.fmod m * (2 * s + u) := Int.mul_nonneg h2 (by omega)
  have h9 : x.fmod m * (2 * s + u) ≤ 2147483648 * 300000 := Int.mul_le_mul (by omega) (by omega) (by omega) (by decide)
  omega
theorem stir3 {x m : Int} (hm : 0 < m) (hm1 : m ≤ 2147483648) : ∀ y, CMulU (x.fmod m) y := fun y => by
  obtain ⟨h2, h3⟩ := fm0 (a := x) hm
  exact mulL (by omega)
theorem stir4 {a s : Int} (ha : 0 ≤ a) (ha1 : a ≤ 1000000) (h0 : 0 ≤ s) (h1 : s ≤ 100000) : ∀ y, CMulU (a * s) y := fun y => by
  have h4 : 0 ≤ a * s := Int.mul_nonneg ha h0
  have h5 : a * s ≤ 1000000 * 100000 := Int.mul_le_mul ha1 h1 h0 (by decide)
  exact mulL (by omega)
theorem nz {j : Int} (h : j ≠ 0) : j ≠ 0 := h
theorem small_div {i j : Int} (h0 : 0 < j) (h1 : j ≤ 100000000000) : CDivZ i j := divZ (b := 40) (by omega) (by omega) (by decide) (by decide)
theorem szN {n : Nat} {q : Rat} (h : Sz n q) : q.num.natAbs < 2 ^ n := h.1
theorem szD {n : Nat} {q : Rat} (h : Sz n q) : (q.den : Int).natAbs < 2 ^ n := h.2
theorem mul2 {i j : Int} (h1 : i.natAbs < 2 ^ 2000) (h2 : j.natAbs < 2 ^ 2000) : CMulU i j := .inr (wide_mul h1 h2 (by decide) (by decide) (by decide))
theorem den2 {x y : Rat} (h1 : Sz 2000 x) (h2 : Sz 2000 y) : ((x.den : Int) * (y.den : Int)).natAbs < 2 ^ 8000 := by
  rw [Int.natAbs_mul]
  exact Nat.lt_of_lt_of_le (mul_lt2 (szD h1) (szD h2)) (Nat.pow_le_pow_right (by decide) (by decide))
theorem den0 (x y : Rat) : (x.den : Int) * (y.den : Int) ≠ 0 := Int.mul_ne_zero (dne x) (dne y)
/-! ## menus: displays of tuples of constants -/
def tcs (c : List V) : TA := c.foldr (fun v t => tCons (tC v) t) tNil
theorem tcs_ok {σ : St} : ∀ {c : List V} {H : Hp} {Q : List V → Hp → Prop}, Q c H → tcs c σ H Q
  | [], _, _, q => q
  | v :: c, H, Q, q => tcs_ok (c := c) (H := H) (Q := fun xs H2 => Q (v :: xs) H2) q
def tMenu (cs : List (List V)) : TA := cs.foldr (fun c t => tCons (tTup (tcs c)) t) tNil
theorem tMenu_ok {σ : St} : ∀ {cs : List (List V)} {H : Hp} {Q : List V → Hp → Prop}, (∀ c ∈ cs, c.length ≤ 1000) →
    (∀ ps H', Same H H' → Paired (fun p c => H' p = some (.tup c)) ps cs → Q (ps.map V.ref) H') → tMenu cs σ H Q
  | [], H, Q, _, q => q [] H (Same.refl H) .nil
  | c :: cs, H, Q, hc, q => by
    show tTup (tcs c) σ H (fun x H1 => tMenu cs σ H1 fun xs H2 => Q (x :: xs) H2)
    refine tcs_ok (c := c) ⟨Nat.le_of_lt (small1000 (hc c (List.mem_cons_self ..))), fun p hp => ?_⟩
    refine tMenu_ok (fun c' h => hc c' (List.mem_cons_of_mem _ h)) fun ps H' e pr => ?_
    refine q (p :: ps) H' (fun b o h => e _ _ (by rw [upd_ne (ne_of_none h hp)]; exact h)) (.cons (e _ _ upd_same) pr)
theorem sameNew {H : Hp} {a : Addr} {o : HO} (h : H a = none) : Same H (upd H a o) := fun b u e => by rw [upd_ne (ne_of_none e h)]; exact e
theorem go_sa {te : TE} {g : TG} {u : TS} {D : Ends} {σ : St} {H : Hp} (h : te σ H fun x H1 => g x σ H1 (u D)) : tSeq (tAsg te g) u D σ H := h
theorem qb {Q : Bool → Hp → Prop} {b c : Bool} {H : Hp} (e : b = c) (h : Q c H) : Q b H := e ▸ h
theorem vb {Q : VK} {b c : Bool} {H : Hp} (e : b = c) (h : Q (.bl c) H) : Q (.bl b) H := e ▸ h
/-- an if whose test is false, whatever is wanted of it -/
theorem sif {tc : TT} {t w : TS} {D : Ends} {σ : St} {H : Hp} (h : ∀ Q : Bool → Hp → Prop, (∀ H2, Same H H2 → Q false H2) → tc σ H Q) (k : ∀ H2, Same H H2 → w D σ H2) : tSeq (tIfS tc t tNext) w D σ H :=
  h _ fun H2 e => iteF (k H2 e)
theorem lMenu_ok {σ : St} {cs : List (List V)} {H : Hp} {Q : VK} (hc : ∀ c ∈ cs, c.length ≤ 1000) (hl : cs.length ≤ 1000)
    (q : ∀ ps H1 a, Same H H1 → Paired (fun p c => H1 p = some (.tup c)) ps cs → H1 a = none → Q (.ref a) (upd H1 a (.lst (ps.map V.ref)))) : tLst (tMenu cs) σ H Q :=
  tMenu_ok hc fun ps H1 e pr => ⟨by rw [List.length_map, pr.length]; exact Nat.le_of_lt (small1000 hl), fun a ha => q ps H1 a e pr ha⟩
theorem paired_mem {α β : Type} {F : α → β → Prop} : ∀ {l : List α} {m : List β} {x : α}, Paired F l m → x ∈ l → ∃ y ∈ m, F x y
  | _, _, _, .nil, h => by cases h
  | _, _, x, .cons r t, h => by
    rcases List.mem_cons.mp h with e | h
    · subst e; exact ⟨_, List.mem_cons_self .., r⟩
    · obtain ⟨y, hy, f⟩ := paired_mem t h
      exact ⟨y, List.mem_cons_of_mem _ hy, f⟩
/-! ## lists of ints as data -/
theorem dp_ints {K : PySem.W.Frag} {H : Hp} : ∀ ns : List Int, DpAll K H (ns.map V.int) (ns.map PyData.int)
  | [] => .nil
  | n :: ns => .cons (.int n) (dp_ints ns)
theorem canAll_ints : ∀ ns : List Int, PyData.canLayAll0 (ns.map PyData.int) = true
  | [] => by simp [PyData.canLayAll0]
  | n :: ns => by simp [PyData.canLayAll0, PyData.canLay0, canAll_ints ns]
theorem depthAll_ints : ∀ ns : List Int, PyData.depthAll (ns.map PyData.int) ≤ 1
  | [] => by simp [PyData.depthAll]
  | n :: ns => by
    have h := depthAll_ints ns
    simp [PyData.depthAll, PyData.depth] at *
    omega
theorem shaped_ints (ns : List Int) : SeqAt.shaped (.list (ns.map PyData.int)) = true := by
  have h := depthAll_ints ns
  simp [SeqAt.shaped, PyData.canLay0, PyData.depth, canAll_ints]
  omega
theorem eqv_same : ∀ ns : List Int, PyData.eqv (.list (ns.map PyData.int)) (.list (ns.map PyData.int)) = true
  | [] => by simp [PyData.eqv, PyData.eqvAll]
  | n :: ns => by
    have h := eqv_same ns
    simp [PyData.eqv, PyData.eqvAll] at *
    exact h
theorem eqv_nil (ns : List Int) : PyData.eqv (.list (ns.map PyData.int)) (.list []) = ns.isEmpty := by
  cases ns <;> simp [PyData.eqv, PyData.eqvAll]
theorem uDiv : OpR X (binaryOp .FloorDiv) (orR (rI CDivZ fun i j => .int (i.fdiv j)) (rOwn X .FloorDiv)) := op_or2 op_fdivZ (op_ownB _)
theorem uMod : OpR X (binaryOp .Mod) (orR (rI (fun _ j => j ≠ 0) fun i j => .int (i.fmod j)) (rOwn X .Mod)) := op_or2 op_modN (op_ownB _)
theorem uLt : OpR X (compareOp .Lt) (orR (rI0 fun i j => .bl (decide (i < j))) (rOwnC X .Lt)) := op_or2 op_lt (op_ownC _)
theorem uLe : OpR X (compareOp .LtE) (orR (rI0 fun i j => .bl (decide (i ≤ j))) (rOwnC X .LtE)) := op_or2 op_le (op_ownC _)
theorem uGt : OpR X (compareOp .Gt) (orR (rI0 fun i j => .bl (decide (j < i))) (rOwnC X .Gt)) := op_or2 op_gt (op_ownC _)
theorem uGe : OpR X (compareOp .GtE) (orR (rI0 fun i j => .bl (decide (j ≤ i))) (rOwnC X .GtE)) := op_or2 op_ge (op_ownC _)
theorem uEq (hu : X.A.units + 64 < cLine) : OpR X (compareOp .Eq) (orR rEq (orR (rOwnC X .Eq) (rEqD X.K))) := op_or2 op_eq (op_or2 (op_ownC _) (op_eqD hu))
theorem uNe (hu : X.A.units + 64 < cLine) : OpR X (compareOp .NotEq) (orR rNe (rNeD X.K)) := op_or2 op_ne (op_neD hu)
theorem uNeg : UnR X (unaryOp .USub) (fun x H Q => rU (fun i => .int (-i)) x H Q ∨ rOwnU X "__neg__" x H Q) := UnR.or' un_neg un_ownNeg
/-- two promises of one def -/
theorem FnR.or {P : Program} {w : World} {K : PySem.W.Frag} {mg : Str → Option Value} {base : Heap} {CX : CXT} {k : Nat} {f : Addr} {sp sp' : Sp} (h : FnR P w K mg base CX k f sp) (h' : FnR P w K mg base CX k f sp') :
    FnR P w K mg base CX k f (fun vs H Q E => sp vs H Q E ∨ sp' vs H Q E) := fun A outer s H us vs Q E hr e0 r hs =>
  hs.elim (fun q => h A outer s H us vs Q E hr e0 r q) fun q => h' A outer s H us vs Q E hr e0 r q
theorem uIsi : CallR X (.builtin "isinstance") (fun xs H Q => rIsi X.K xs H Q ∨ rIsiT X.K xs H Q) := CallR.or' call_isi call_isiT
end
end AZ

set_option Elab.async false
set_option maxRecDepth 100000
set_option maxHeartbeats 4000000
set_option linter.all false
namespace AZ
open PySem PySem.Spec PySem.W PySem.Calls PyProof.Rows
section
variable {prog : Program} {w : World} {A : Around} {E : Value → Shared → Prop} {s : Shared} {K : Frag} {x C L f : Addr} {h₀ : Heap} {m : Str → Option Value} {ox : Obj} {od : Option Obj} {name : Str} {b tb : Value}
theorem ifBound_B {M : Model} {id : String} {args : List Value} {Q : Option Value → Shared → Prop} (X : K.In s.heap) (I : InstAt s.heap x ox C od) (hs : findIn K (.ref C) name = some (some (.builtin id)))
    (hb : ∀ self, bindSpecial (.builtin id) self = pure (.builtin id, [self])) (h : wpAny M A (call (.builtin id) (.ref x :: args)) (fun v => Q (some v)) E s) : wpAny M A (callSpecialIfBound? (.ref x) name args) Q E s := by
  simp only [callSpecialIfBound?, bindSpecialIfBound?]
  refine wpAny_holding (wpAny_bind (wpAny_bind (wpAny_bind (I.type.here ((looks_findIn X hs).here ?_)))))
  refine wpAny_bind (wpAny_askSetting (wpAny_ite ?_))
  have fin : wpAny M A (call (.builtin id) ([.ref x] ++ args) >>= fun v => pure (some v)) Q E s := wpAny_bind (wpAny_mono h (fun v s' h' => wpAny_pure h') fun _ _ h' => h')
  split
  · exact wpAny_bind ((Looks.of_pure (hb _)).here (wpAny_pure (by exact fin)))
  · exact wpAny_tryCatch (wpAny_bind ((Looks.of_pure (hb _)).here (wpAny_pure (by exact fin))))
theorem one_ne {Q : Value → Shared → Prop} (hu : A.units + 1 < cLine) (X : K.In s.heap) (I : InstAt s.heap x ox C od)
    (hne : findIn K (.ref C) "__ne__" = some (some (.builtin "object.__ne__"))) (hs : findIn K (.ref C) "__eq__" = some (some (.ref f))) (hf : isFn K (.ref f) = true) (hm : mroIn K C (.type "object") = some true)
    (h : wpAny (model prog w) A.in1 (call (.ref f) [.ref x, b]) (fun v s' => ∃ r, v = .bool r ∧ Q (.bool (!r)) s') E s) :
    wpAny (model prog w) A (tryCompare (.ref x) "__ne__" b) (fun r s' => ∃ v, r = some v ∧ Q v s') E s := by
  have hu' : A.in1.units < cLine := by
    show A.units + 1 < cLine
    exact hu
  unfold tryCompare
  refine wpAny_bind (ifBound_B X I hne PySem.F.cmp_object.ne.bind (wpAny_call (codeAny_call_builtin PySem.F.cmp_object.ne.plain PySem.F.cmpEntry_ne (check_slot PySem.F.cmpKind_ne PySem.F.cmpSplit_ne (I.type.andThen (looks_mroIn X hm)) (PySem.F.cmpArgs_ne _ _) ?_))))
  unfold Builtin.«object.__ne__»
  refine wpAny_bind (m := slotArgs "__ne__" 1 _) (wpAny_pure ?_)
  refine wpAny_bind (m := cRoomFor _ _) (wpAny_cRoomFor hu' ?_)
  refine wpAny_bind (m := callSpecialIfBound? (.ref x) (Str.ofString "__eq__") _) (ifBound_K X I hs hf (wpAny_mono h (fun r s' hr => ?_) fun _ _ y => y))
  obtain ⟨q, rfl, hq⟩ := hr
  refine wpAny_bind (wpAny_truthy_bool (wpAny_pure ?_))
  exact wpAny_pure ⟨_, rfl, hq⟩
theorem ne_K {Q : Value → Shared → Prop} (hu : A.units + 1 < cLine) (F : Fr h₀ L s.heap m) (X₀ : K.In h₀) (I : InstAt s.heap x ox C od) (hb : Looks (model prog w) s.heap (typeOf b) tb) (hn : notFirst K C tb = true)
    (hne : findIn K (.ref C) "__ne__" = some (some (.builtin "object.__ne__"))) (hs : findIn K (.ref C) "__eq__" = some (some (.ref f))) (hf : isFn K (.ref f) = true) (hm : mroIn K C (.type "object") = some true)
    (h : wpAny (model prog w) A.in1 (call (.ref f) [.ref x, b]) (fun v s' => ∃ r, v = .bool r ∧ Q (.bool (!r)) s') E s) : wpAny (model prog w) A (richCompare .NotEq (.ref x) b) Q E s := by
  have X := X₀.keeps F.keep
  have one := one_ne hu X I hne hs hf hm h
  unfold richCompare
  simp only [oneThing_ref]
  refine wpAny_holding (wpAny_bind (wpAny_cRoomFor (by omega) ?_))
  refine wpAny_bind (I.type.here (wpAny_bind (hb.here ?_)))
  split
  · rename_i q
    have e : subIn K tb (.ref C) = some false := by
      rcases Bool.or_eq_true_iff.mp hn with e | e
      · rw [beq_iff_eq.mp e] at q; simp at q
      · exact beq_iff_eq.mp e
    refine wpAny_bind ((looks_subIn X e).here ?_)
    simp only [Bool.false_eq_true, if_false]
    refine wpAny_bind (wpAny_mono one (fun r s' z => ?_) fun _ _ e => e)
    obtain ⟨v, rfl, hq⟩ := z
    exact wpAny_pure hq
  · refine wpAny_bind (wpAny_pure ?_)
    simp only [Bool.false_eq_true, if_false]
    refine wpAny_bind (wpAny_mono one (fun r s' z => ?_) fun _ _ e => e)
    obtain ⟨v, rfl, hq⟩ := z
    exact wpAny_pure hq
end
end AZ
namespace GQ
open PySem PySem.SeqAt
open AutoSeq1 (wpAny_loadPart')
open MeetsSeq MeetsSeq2 MeetsSeq3 SeqRoads2
section
variable {prog : Program} {w : World} {A : Around} {R : Result → Shared → Prop}
/-- where the walk over two tuples stands -/
def PairsAt (as bs : Array Value) (J : Nat → Shared → Prop) (left : List (Value × Value)) (z : Shared) : Prop := ∃ k, left = (as.toList.zip bs.toList).drop k ∧ k ≤ as.size ∧ J k z
theorem pairs_next {as bs : Array Value} {J : Nat → Shared → Prop} (e : as.size = bs.size) {p q : Value} {left : List (Value × Value)} {z : Shared} (h : PairsAt as bs J ((p, q) :: left) z) :
    ∃ k, ∃ (k1 : k < as.size) (k2 : k < bs.size), p = as[k] ∧ q = bs[k] ∧ left = (as.toList.zip bs.toList).drop (k + 1) ∧ J k z := by
  obtain ⟨k, el, _, hJ⟩ := h
  have len : (as.toList.zip bs.toList).length = as.size := by simp [e]
  by_cases hk : k < (as.toList.zip bs.toList).length
  · have k1 : k < as.size := len ▸ hk
    rw [List.drop_eq_getElem_cons hk] at el
    obtain ⟨e1, e2⟩ := List.cons.inj el
    have e3 := Prod.mk.inj (e1.trans (show _ = (as[k], bs[k]'(e ▸ k1)) by simp))
    exact ⟨k, k1, e ▸ k1, e3.1, e3.2, e2, hJ⟩
  · rw [List.drop_of_length_le (Nat.le_of_not_lt hk)] at el
    cases el
theorem pairs_done {as bs : Array Value} {J : Nat → Shared → Prop} (e : as.size = bs.size) {z : Shared} (h : PairsAt as bs J [] z) : J as.size z := by
  obtain ⟨k, el, hk, hJ⟩ := h
  have len : (as.toList.zip bs.toList).length = as.size := by simp [e]
  have : (as.toList.zip bs.toList).length ≤ k := by simpa using el.symm
  have hke : k = as.size := by omega
  exact hke ▸ hJ
theorem tup_ne {u v : Addr} {as bs : Array Value} {n1 n2 : Nat} {d1 d2 : Option Addr} {s1 s2 : Array (Option Value)} (e : as.size = bs.size) (J : Nat → Shared → Prop)
    (step : ∀ k (k1 : k < as.size) (k2 : k < bs.size) z, J k z → wpAny (model prog w) A.in1 (eqBool as[k] bs[k]) (fun r z' => r = true ∧ J (k + 1) z') (fun x z' => R (.error x) z') z)
    (last : ∀ z, J as.size z → R (.ok (.ret (.bool false))) z) {z : Shared} (hu : z.heap.get? u = some { cls := .type "tuple", dict := d1, data := .seq as n1, slots := s1 }) (hv : z.heap.get? v = some { cls := .type "tuple", dict := d2, data := .seq bs n2, slots := s2 }) (h : J 0 z) :
    wpAny (model prog w) A.in1 (Builtin.«tuple.__ne__» ⟨[.ref u, .ref v], []⟩) (FinOf prog w A R) (fun x z' => R (.error x) z') z := by
  have isTup := AutoSeq1.sub_tuple_tuple
  have start : PairsAt as bs J (as.toList.zip bs.toList) z := ⟨0, rfl, Nat.zero_le _, h⟩
  obtain ⟨hp, gs, dr, tk, os⟩ := z
  wp_walk using wpAny_loadPart' hu, wpAny_loadPart' hv, wpAny_forIn_list _ (fun left b z' => b.1 = none ∧ PairsAt as bs J left z') _
  case turn =>
    rintro ⟨p, q⟩ left b z' ⟨_, at_⟩
    obtain ⟨k, k1, k2, rfl, rfl, el, hJ⟩ := pairs_next e at_
    refine wpAny_bind (wpAny_mono (step k k1 k2 z' hJ) (fun r z2 hz => ?_) fun _ _ x => x)
    obtain ⟨rfl, hJ2⟩ := hz
    wp_walk
    exact ⟨rfl, k + 1, el, k1, hJ2⟩
  case fin =>
    rintro ⟨b1, b2⟩ z' ⟨hb, at_⟩
    obtain rfl : b1 = none := hb
    have hl := last z' (pairs_done e at_)
    wp_walk
    simpa [Builtin.Tuple.tupleCompareSizes, e] using hl
  case h => exact ⟨rfl, start⟩
end
section
variable {prog : Program} {w : World} {A : Around} {X : Value → Shared → Prop} {z : Shared}
theorem ne_tups {u v : Addr} {as bs : Array Value} {Q : Value → Shared → Prop} (e : as.size = bs.size) (room : A.units < cLine) (J : Nat → Shared → Prop) (hu : z.heap.IsTuple u as) (hv : z.heap.IsTuple v bs)
    (step : ∀ k (k1 : k < as.size) (k2 : k < bs.size) z, J k z → wpAny (model prog w) A.in1 (eqBool as[k] bs[k]) (fun r z' => r = true ∧ J (k + 1) z') X z)
    (last : ∀ z, J as.size z → Q (.bool false) z) (h : J 0 z) : wpAny (model prog w) A (richCompare .NotEq (.ref u) (.ref v)) Q X z := by
  obtain ⟨⟨c1, d1, a1, s1⟩, g1, rfl, n1, rfl⟩ := id hu
  obtain ⟨⟨c2, d2, a2, s2⟩, g2, rfl, n2, rfl⟩ := id hv
  exact wpAny_richCompare_same_room (op := .NotEq) ⟨_, g1, rfl⟩ ⟨_, g2, rfl⟩ F.slot_tuple_ne (call_here F.slot_tuple_ne ⟨_, g1, rfl⟩ F.entry_tuple_ne (F.args_tuple_ne_2 _ _)
    (tup_ne (R := wants (fun v s' => v ≠ .notImplemented ∧ Q v s') X) e J step (fun z' q => ⟨(fun x => nomatch x), last z' q⟩) g1 g2 h)) room
end
end GQ
namespace AZ
open PySem L2
section
variable {X : Cx} {n m : Nat} {D D' : Eqv}
/-- the callee of X, somewhere below X's running body -/
theorem run_fnS {CX : CXT} {f : Addr} {sp : Sp} {E : XK} {Q : VK} {us : List Value} {vs : List V} {A : Around} {pins : List (Addr × Obj)} {σ : St} {H : Hp} {s : Shared} (sb : Sub X n A) (F : FnR X.prog X.w X.K X.mg X.base CX n f sp) (hx : Passes CX X E) (I : Inv X pins σ H s) (r : Vals vs us) (h : sp vs H Q E) :
    codeAny (model X.prog X.w) A (.call (.ref f) ⟨us, []⟩) (fun r s' => match r with | .ok (.ret v) => EP X pins σ Q v s' | .ok _ => False | .error e => X.xe e s') s := by
  have e0 : Env0 X.prog X.w X.K X.mg X.base A X.stack s H := by
    have e := I.env0
    exact ⟨by rw [sb.fr]; exact e.frames, e.mod, e.bs, e.bsz, e.funs, e.frf, e.hok, e.bare⟩
  refine codeAny_mono (F A X.stack s H us vs Q E sb.room e0 r h) fun r s' hq => ?_
  cases r with
  | error e => exact hx pins σ H s e s' I hq
  | ok fl =>
    cases fl with
    | ret u => exact I.after hq
    | next => exact False.elim hq
    | brk => exact False.elim hq
    | cont => exact False.elim hq
/-- != of own classes that have == alone -/
structure NeM (K : PySem.W.Frag) (C f : Addr) : Prop where
  hne : PySem.W.findIn K (.ref C) "__ne__" = some (some (.builtin "object.__ne__"))
  hs : PySem.W.findIn K (.ref C) "__eq__" = some (some (.ref f))
  hf : PySem.W.isFn K (.ref f) = true
  hm : PySem.W.mroIn K C (.type "object") = some true
  hn : PySem.W.notFirst K C (.type "int") = true
def rOwnN (X : Cx) : R2 := fun x y H Q => ∃ (a C dx : Addr) (fs : List (Str × V)) (f : Addr) (CX : CXT) (k : Nat) (sp : Sp) (E : XK),
  x = .ref a ∧ H a = some (.ins C dx fs) ∧ RightI C H y ∧ NeM X.K C f ∧ FnR X.prog X.w X.K X.mg X.base CX k f sp ∧ Room (k + 1) X.A ∧ Passes CX X E ∧ sp [x, y] H (fun v H1 => ∃ r, v = .bl r ∧ Q (.bl (!r)) H1) E
theorem op_ownN : OpR X (compareOp .NotEq) (rOwnN X) := by
  intro pins s σ H x y v u Q I rx ry h
  obtain ⟨a, C, dx, fs, f, CX, k, sp, E, rfl, ha, hR, hM, F, hr, hx, hs⟩ := h
  obtain rfl : v = Value.ref a := rx
  have hc : wpAny (model X.prog X.w) X.A.in1 (call (.ref f) [.ref a, u]) (fun v s' => ∃ r, v = .bool r ∧ EP X pins σ Q (.bool (!r)) s') X.xe s :=
    thn (wpAny_call (run_fnS (us := [.ref a, u]) (vs := [.ref a, y]) ⟨hr.in1, rfl⟩ F hx I (.cons rfl (.cons ry .nil)) hs)) fun v s1 z => by
      obtain ⟨z, H1, I1, rz, r, rfl, q⟩ := z
      obtain rfl : v = Value.bool r := rz
      exact ⟨r, rfl, .bl (!r), H1, I1, rfl, q⟩
  obtain ⟨mA, J, _⟩ := ins_get I.hok ha
  obtain ⟨od, J, _⟩ := J.look
  obtain ⟨m, hF⟩ := I.fr
  have hu : X.A.units + 1 < cLine := by have := hr.units; omega
  show wpAny (model X.prog X.w) X.A (richCompare .NotEq (.ref a) u) (EP X pins σ Q) X.xe s
  rcases hR with ⟨j, rfl⟩ | ⟨b, dy, gs, rfl, hb⟩
  · obtain ⟨t, rfl⟩ := ry
    exact ne_K (tb := .type "int") hu hF I.ok.mod.kin J (PySem.W.Looks.of_pure rfl) hM.hn hM.hne hM.hs hM.hf hM.hm hc
  · obtain rfl : u = Value.ref b := ry
    obtain ⟨mB, J2, _⟩ := ins_get I.hok hb
    obtain ⟨od2, J2, _⟩ := J2.look
    exact ne_K (tb := .ref C) hu hF I.ok.mod.kin J J2.type (by simp [PySem.W.notFirst]) hM.hne hM.hs hM.hf hM.hm hc
/-- != of two tuples that are equal, item by item -/
def NcG (X : Cx) (n : Nat) (D : Eqv) : Prop :=
  ∀ (A : Around) (pins : List (Addr × Obj)) (s : Shared) (σ : St) (H : Hp) (x y : V) (u v : Value), Sub X n A → Inv X pins σ H s → RelV x u → RelV y v → D x y H →
    wpAny (model X.prog X.w) A (richCompare .NotEq u v) (fun r s' => r = .bool false ∧ ∃ H', Inv X pins σ H' s' ∧ Ext H H') X.xe s
theorem ncG_tup (hD : Mon D) (h : EqG X n D) : NcG X (n + 1) (DTup X.K D) := by
  intro A pins s σ H x y u v sb I rx ry d
  obtain ⟨a, b, xs, ys, rfl, rfl, ha, hb, p⟩ := d
  cases rx
  cases ry
  obtain ⟨its, r, e, z⟩ := I.tuple ha
  obtain ⟨its2, r2, e2, z2⟩ := I.tuple hb
  have hsz : its.toArray.size = its2.toArray.size := by rw [List.size_toArray, List.size_toArray, ← r.length, ← r2.length]; exact p.1
  exact GQ.ne_tups hsz sb.room.units0 (fun _ s' => LoopI X pins σ H s') e e2 (fun k k1 k2 z q => turnG hD h sb p r r2 k k1 k2 z q) (fun z q => ⟨rfl, q⟩) ⟨H, I, Ext.rfl'⟩
def rNeG (D : Eqv) : R2 := fun x y H Q => D x y H ∧ ∀ H', Ext H H' → Q (.bl false) H'
theorem op_neG (h : NcG X n D) (hr : Room n X.A) : OpR X (compareOp .NotEq) (rNeG D) := by
  intro pins s σ H x y v u Q I rx ry hq
  obtain ⟨d, q⟩ := hq
  show wpAny (model X.prog X.w) X.A (richCompare .NotEq v u) (EP X pins σ Q) X.xe s
  refine wpAny_mono (h X.A pins s σ H x y v u ⟨hr, rfl⟩ I rx ry d) (fun r s' z => ?_) fun _ _ x => x
  obtain ⟨hr', H', I', e⟩ := z
  subst hr'
  exact ⟨.bl false, H', I', rfl, q H' e⟩
/-- an own == promised by a comparison, as a way two values are equal -/
def DOwn (C : Addr) (R : Addr → V → Hp → Prop) : Eqv := fun x y H => ∃ a dx fs, x = .ref a ∧ H a = some (.ins C dx fs) ∧ RightI C H y ∧ R a y H
def spEqV (R : Addr → V → Hp → Prop) : Sp := fun vs H Q _ => ∃ a y, vs = [.ref a, y] ∧ R a y H ∧ ∀ H', Ext H H' → Q (.bl true) H'
theorem mon_own {C : Addr} {R : Addr → V → Hp → Prop} (hR : ∀ a b H H', Ext H H' → R a b H → R a b H') : Mon (DOwn C R) := fun x y H H' e d => by
  obtain ⟨a, dx, fs, hx, h1, h2, r⟩ := d
  exact ⟨a, dx, fs, hx, e _ _ h1, h2.elim .inl fun ⟨b, dy, gs, hy, h⟩ => .inr ⟨b, dy, gs, hy, e _ _ h⟩, hR a y H H' e r⟩
theorem eqBool_refV {prog : Program} {w : World} {A : Around} {E : Value → Shared → Prop} {s : Shared} {l : Addr} {y : Value} {Q : Bool → Shared → Prop} (hne : Value.ref l ≠ y) (h : wpAny (model prog w) A (richCompare .Eq (.ref l) y) (fun v s' => ∃ r, v = .bool r ∧ Q r s') E s) : wpAny (model prog w) A (eqBool (.ref l) y) Q E s := by
  unfold eqBool
  refine wpAny_holding ?_
  refine wpAny_ite_split (fun hab => absurd (eq_of_beq hab) hne) (fun _ => ?_)
  refine wpAny_bind (wpAny_mono h (fun v s' hv => ?_) fun _ _ x => x)
  obtain ⟨r, rfl, q⟩ := hv
  exact wpAny_truthy_bool q
theorem eqG_own {CX : CXT} {C f : Addr} {R : Addr → V → Hp → Prop} {E : XK} (F : FnR X.prog X.w X.K X.mg X.base CX n f (spEqV R)) (M : CmpM X.K C .Eq f) (hx : Passes CX X E) : EqG X n (DOwn C R) := by
  intro A pins s σ H x y u v sb I rx ry d
  obtain ⟨a, dx, fs, rfl, ha, hR, r⟩ := d
  obtain rfl : u = Value.ref a := rx
  have hsp : spEqV R [.ref a, y] H (fun v H' => v = .bl true ∧ Ext H H') E := ⟨a, y, rfl, r, fun H' e => ⟨rfl, e⟩⟩
  have hc : wpAny (model X.prog X.w) A (call (.ref f) [.ref a, v]) (PySem.W.CmpBack (fun v s' => ∃ r, v = .bool r ∧ (fun r s' => r = true ∧ ∃ H', Inv X pins σ H' s' ∧ Ext H H') r s')) X.xe s :=
    thn (wpAny_call (run_fnS (us := [.ref a, v]) (vs := [.ref a, y]) sb F hx I (.cons rfl (.cons ry .nil)) hsp)) fun v s1 z => by
      obtain ⟨z, H1, I1, rz, rfl, e⟩ := z
      obtain rfl : v = Value.bool true := rz
      exact ⟨true, rfl, rfl, H1, I1, e⟩
  by_cases hab : Value.ref a = v
  · subst hab
    exact SeqAt.EqAt.same (A := A) (s := s) (.ref a) X.prog X.w X.xe _ ⟨rfl, H, I, Ext.rfl'⟩
  refine eqBool_refV hab ?_
  obtain ⟨mA, J, _⟩ := ins_get I.hok ha
  obtain ⟨od, J, _⟩ := J.look
  obtain ⟨m, hF⟩ := I.fr
  rcases hR with ⟨j, rfl⟩ | ⟨b, dy, gs, rfl, hb⟩
  · obtain ⟨t, rfl⟩ := ry
    exact PySem.W.cmp_K (op := .Eq) (tb := .type "int") sb.room.units0 hF I.ok.mod.kin J (PySem.W.Looks.of_pure rfl) M.hn M.hs M.hf hc
  · obtain rfl : v = Value.ref b := ry
    obtain ⟨mB, J2, _⟩ := ins_get I.hok hb
    obtain ⟨od2, J2, _⟩ := J2.look
    exact PySem.W.cmp_K (op := .Eq) (tb := .ref C) sb.room.units0 hF I.ok.mod.kin J J2.type (by simp [PySem.W.notFirst]) M.hs M.hf hc
end
end AZ

set_option Elab.async false
set_option maxRecDepth 100000
set_option maxHeartbeats 4000000
set_option linter.all false
namespace AZ
open PySem PySem.Spec PySem.W PySem.Calls PyProof.Rows
section
variable {prog : Program} {w : World} {A : Around} {E : Value → Shared → Prop} {s : Shared} {K : Frag} {x C L f g dx : Addr} {h₀ : Heap} {m : Str → Option Value} {ox : Obj} {od : Option Obj} {name : Str} {b tb : Value} {i : Int} {t : Tok}
theorem intBin_dec {M : Model} {name : String} {fn : Int → Int → Sem Fin} {Q : Fin → Shared → Prop} (hx : s.heap.get? x = some (instObj C dx)) (q : Q (.done (.ret .notImplemented)) s) :
    wpAny M A (Builtin.Int.intBinary name fn false ⟨[.int i t, .ref x], []⟩) Q E s := by
  unfold Builtin.Int.intBinary
  refine wpAny_bind (m := slotArgs name 1 _) (wpAny_pure ?_)
  refine wpAny_bind (m := Builtin.Int.intOfSelf _) (wpAny_pure ?_)
  obtain ⟨hp, gs, d, tk, os⟩ := s
  have hx' : hp.get? x = some (instObj C dx) := hx
  unfold instObj at hx'
  wp_walk using AutoSeq1.wpAny_loadPart' hx'
  exact q
/-- what an int does beside an instance: it declines -/
structure IntDec (nm : String) : Prop where
  fills : fillsNumberSlot (.type "int") nm = pure true
  dec : ∀ {prog : Program} {w : World} {A : Around} {E : Value → Shared → Prop} {s : Shared} {x C dx : Addr} {i : Int} {t : Tok} {Q : Option Value → Shared → Prop}, s.heap.get? x = some (instObj C dx) → Q none s →
    wpAny (model prog w) A (tryMethod (.int i t) (PySem.dunder nm) (.ref x)) Q E s
theorem int_dec_sub : IntDec "sub" := by
  refine ⟨PyProof.Rows.fills_int_sub, fun {prog w A E s x C dx i t Q} hx q => ?_⟩
  refine wpAny_tryMethod_declines (T := "int") (id := "int.__sub__") (name := PySem.dunder "sub") (typeIs_int s i t) ?_ ?_
  · exact PyProof.Rows.slot_int_sub
  · refine wpAny_call_entry PyProof.Rows.slot_int_sub (typeIs_int s i t) PyProof.Rows.entry_int_sub ?_ (PyProof.Rows.args_int_sub _ _)
    unfold Builtin.«int.__sub__»
    exact intBin_dec hx ⟨_, rfl, rfl, q⟩
theorem int_dec_add : IntDec "add" := by
  refine ⟨PySem.F.fills_int_add, fun {prog w A E s x C dx i t Q} hx q => ?_⟩
  refine wpAny_tryMethod_declines (T := "int") (id := "int.__add__") (name := PySem.dunder "add") (typeIs_int s i t) ?_ ?_
  · exact PySem.F.slot_int_add
  · refine wpAny_call_entry PySem.F.slot_int_add (typeIs_int s i t) PySem.F.entry_int_add ?_ (PySem.F.args_int_add_2 _ _)
    unfold Builtin.«int.__add__»
    exact intBin_dec hx ⟨_, rfl, rfl, q⟩
theorem int_dec_mul : IntDec "mul" := by
  refine ⟨PySem.F.fills_int_mul, fun {prog w A E s x C dx i t Q} hx q => ?_⟩
  refine wpAny_tryMethod_declines (T := "int") (id := "int.__mul__") (name := PySem.dunder "mul") (typeIs_int s i t) ?_ ?_
  · exact PySem.F.slot_int_mul
  · refine wpAny_call_entry PySem.F.slot_int_mul (typeIs_int s i t) PySem.F.entry_int_mul ?_ (PySem.F.args_int_mul_2 _ _)
    unfold Builtin.«int.__mul__»
    exact intBin_dec hx ⟨_, rfl, rfl, q⟩
theorem refl1 {nm : String} {Q : Value → Shared → Prop} (D : IntDec nm) (X : K.In s.heap) (I : InstAt s.heap x ox C od) (hx : s.heap.get? x = some (instObj C dx)) (hc : selfFirst K C = true)
    (hs : findIn K (.ref C) (PySem.dunder nm) = some (some (.ref g))) (hr : findIn K (.ref C) (dunderR nm) = some (some (.ref f))) (hf : isFn K (.ref f) = true) (hu : subIn K (.ref C) (.type "int") = some false)
    (h : wpAny (model prog w) A (call (.ref f) [.ref x, .int i t]) (PySem.W.CmpBack Q) E s) : wpAny (model prog w) A (binaryOp1 nm (.int i t) (.ref x)) (fun r s' => ∃ v, r = some v ∧ Q v s') E s := by
  obtain ⟨cd, rest, hcd, hm⟩ := ksp_first hc
  have back := ksp_try X I hr hf h
  have dec : ∀ {Q : Option Value → Shared → Prop}, Q none s → wpAny (model prog w) A (tryMethod (.int i t) (PySem.dunder nm) (.ref x)) Q E s := fun q => D.dec hx q
  have L1 : Looks (model prog w) s.heap (typeOf (.int i t)) (.type "int") := Looks.of_pure rfl
  have L2 : Looks (model prog w) s.heap (typeOf (.ref x)) (.ref C) := I.type
  have L3 : Looks (model prog w) s.heap (fillsNumberSlot (.type "int") nm) true := Looks.of_pure D.fills
  have L4 : Looks (model prog w) s.heap (fillsNumberSlot (.ref C) nm) true := fills_K X hcd hm hs
  have L5 : Looks (model prog w) s.heap (isSubtype (.ref C) (.type "int")) false := looks_subIn X hu
  have L6 : Looks (model prog w) s.heap (numberSlotInPython (.type "int") nm) false := Looks.of_pure rfl
  generalize hR : (fun (r : Option Value) s' => ∃ v, r = some v ∧ Q v s') = R at back ⊢
  have hne : (Value.type "int" == Value.ref C) = false := Bool.eq_false_iff.mpr fun q => by cases beq_iff_eq.mp q
  generalize (fun (r : Option Value) s' => ∃ v, r = some v ∧ Q v s') = R at back ⊢
  unfold binaryOp1
  refine wpAny_bind (L1.here (wpAny_bind (L2.here (wpAny_bind (L3.here ?_)))))
  simp only [hne, Bool.false_eq_true, if_false]
  refine wpAny_bind (L4.here ?_)
  refine wpAny_bind (m := isSubtype (.ref C) (.type "int")) (L5.here ?_)
  refine wpAny_bind (m := numberSlotInPython (.type "int") nm) (L6.here ?_)
  refine wpAny_bind (m := tryMethod (.int i t) (PySem.dunder nm) (.ref x)) (dec ?_)
  refine wpAny_bind (m := tryMethod (.ref x) (dunderR nm) (.int i t)) (wpAny_mono back (fun r s' hr' => ?_) fun _ _ e => e)
  have hr2 := hr'
  rw [← hR] at hr2
  obtain ⟨v, rfl, hq⟩ := hr2
  exact wpAny_bind (m := rule "binop.reflected") (wpAny_rule (wpAny_pure hr'))
theorem refl_K {op : Operator} {sym : String} {nm : String} {Q : Value → Shared → Prop} (hi : op.info = (sym, nm)) (D : IntDec nm) (F : Fr h₀ L s.heap m) (X₀ : K.In h₀) (I : InstAt s.heap x ox C od) (hx : s.heap.get? x = some (instObj C dx)) (hc : selfFirst K C = true)
    (hs : findIn K (.ref C) (PySem.dunder nm) = some (some (.ref g))) (hr : findIn K (.ref C) (dunderR nm) = some (some (.ref f))) (hf : isFn K (.ref f) = true) (hu : subIn K (.ref C) (.type "int") = some false)
    (h : wpAny (model prog w) A (call (.ref f) [.ref x, .int i t]) (PySem.W.CmpBack Q) E s) : wpAny (model prog w) A (binaryOp op (.int i t) (.ref x)) Q E s := by
  have b1 := refl1 D (X₀.keeps F.keep) I hx hc hs hr hf hu h
  generalize hR : (fun (r : Option Value) s' => ∃ v, r = some v ∧ Q v s') = R at b1
  unfold binaryOp
  refine wpAny_holding ?_
  rw [hi]
  refine wpAny_bind (m := binaryOp1 nm (.int i t) (.ref x)) (wpAny_mono b1 (fun r s' hr' => ?_) fun _ _ e => e)
  rw [← hR] at hr'
  obtain ⟨v, rfl, hq⟩ := hr'
  exact wpAny_pure hq
end
end AZ
namespace AZ
open PySem L2
section
variable {X : Cx}
/-- an int, then the operator, then an instance: its own reflected one -/
structure ReflM (K : PySem.W.Frag) (C : Addr) (nm : Str) (rn : Str) (g f : Addr) : Prop where
  hs : PySem.W.findIn K (.ref C) nm = some (some (.ref g))
  hr : PySem.W.findIn K (.ref C) rn = some (some (.ref f))
  hf : PySem.W.isFn K (.ref f) = true
  hc : PySem.W.selfFirst K C = true
  hu : PySem.W.subIn K (.ref C) (.type "int") = some false
def rRefl (X : Cx) (nm : String) : R2 := fun x y H Q => ∃ (j : Int) (a C dx : Addr) (fs : List (Str × V)) (g f : Addr) (CX : CXT) (k : Nat) (sp : Sp) (E : XK),
  x = .int j ∧ y = .ref a ∧ H a = some (.ins C dx fs) ∧ ReflM X.K C (PySem.dunder nm) (dunderR nm) g f ∧ FnR X.prog X.w X.K X.mg X.base CX k f sp ∧ Room k X.A ∧ Passes CX X E ∧ sp [y, x] H Q E
theorem op_refl {op : Operator} {sym nm : String} (hi : op.info = (sym, nm)) (D : IntDec nm) : OpR X (binaryOp op) (rRefl X nm) := by
  intro pins s σ H x y v u Q I rx ry h
  obtain ⟨j, a, C, dx, fs, g, f, CX, k, sp, E, rfl, rfl, ha, hM, F, hr, hx, hs⟩ := h
  obtain ⟨t, rfl⟩ := id rx
  obtain rfl : u = Value.ref a := ry
  have hc : wpAny (model X.prog X.w) X.A (call (.ref f) [.ref a, .int j t]) (PySem.W.CmpBack (EP X pins σ Q)) X.xe s :=
    thn (wpAny_call (run_fnR (us := [.ref a, .int j t]) (vs := [.ref a, .int j]) F hr hx I (.cons rfl (.cons rx .nil)) hs)) fun _ _ z => cmpBack_of z
  obtain ⟨mA, J, _⟩ := ins_get I.hok ha
  have hobj := J.obj
  obtain ⟨od, J, _⟩ := J.look
  obtain ⟨m, hF⟩ := I.fr
  exact refl_K hi D hF I.ok.mod.kin J hobj hM.hc hM.hs hM.hr hM.hf hM.hu hc
end
end AZ

set_option Elab.async false
set_option maxRecDepth 100000
set_option maxHeartbeats 4000000
set_option linter.all false
namespace AZ
open PySem L2
section
variable {X : Cx}
/-- what str(x) and f'{x}' ask of the class at C: its own __str__ at f -/
structure StrM (K : PySem.W.Frag) (C f : Addr) : Prop where
  hs : PySem.W.findIn K (.ref C) "__str__" = some (some (.ref f))
  hf : PySem.W.isFn K (.ref f) = true
  hfm : PySem.W.findIn K (.ref C) "__format__" = some (some (.builtin "object.__format__"))
  hm : PySem.W.mroIn K C (.type "object") = some true
def rStrO (X : Cx) (d : Nat) (x : V) (H : Hp) (Q : VK) : Prop := ∃ (a C dx : Addr) (fs : List (Str × V)) (f : Addr) (CX : CXT) (k : Nat) (sp : Sp) (E : XK),
  x = .ref a ∧ H a = some (.ins C dx fs) ∧ StrM X.K C f ∧ FnR X.prog X.w X.K X.mg X.base CX k f sp ∧ Room (k + d) X.A ∧ Passes CX X E ∧ sp [x] H (fun v H1 => ∃ z, v = .str z ∧ Q (.str z) H1) E
theorem strBack_of {pins : List (Addr × Obj)} {σ : St} {Q : VK} {v : Value} {s : Shared} (h : EP X pins σ (fun v H1 => ∃ z, v = .str z ∧ Q (.str z) H1) v s) : PySem.W.StrBack (EP X pins σ Q) v s := by
  obtain ⟨z, H1, I1, rz, y, rfl, q⟩ := h
  obtain ⟨t, rfl⟩ := id rz
  exact ⟨.str y, H1, I1, rz, q⟩
theorem call_strO : CallR X (.type "str") (fun xs H Q => ∃ x, xs = [x] ∧ rStrO X 2 x H Q) := by
  intro pins s σ H xs us Q I rv q
  obtain ⟨x, rfl, a, C, dx, fs, f, CX, k, sp, E, rfl, ha, hM, F, hr, hx, hs⟩ := q
  cases rv with
  | cons r1 r2 =>
    cases r2
    cases r1
    have hc : wpAny (model X.prog X.w) X.A.in1.in1 (call (.ref f) [.ref a]) (PySem.W.StrBack (EP X pins σ Q)) X.xe s :=
      thn (wpAny_call (run_fnS (us := [.ref a]) (vs := [.ref a]) ⟨hr.in1.in1, rfl⟩ F hx I (.cons rfl .nil) hs)) fun v s3 z => strBack_of z
    obtain ⟨mA, J, _⟩ := ins_get I.hok ha
    obtain ⟨od, J, _⟩ := J.look
    exact PySem.W.kso_call hr.in1.in1.units0 I.kIn J hM.hs hM.hf hc
theorem uStr : CallR X (.type "str") (fun xs H Q => (∃ i, xs = [.int i] ∧ i.natAbs.log2 < 1920 ∧ Q (.str (toString i)) H) ∨ ∃ x, xs = [x] ∧ rStrO X 2 x H Q) := CallR.or' call_str_int call_strO
/-- {x}: a text, an int, an own one -/
def tFmtU (X : Cx) (te : TE) : TE := fun σ H Q => te σ H fun x H1 => ((∃ y : Str, x = .str y ∧ y.length ≤ sizeLine ∧ Q (.str y) H1) ∨ ∃ i : Int, x = .int i ∧ i.natAbs.log2 < 1920 ∧ Q (.str (toString i)) H1) ∨ rStrO X 1 x H1 Q
theorem pe_fmtU {e : Expr} {te : TE} {pos : Pos} (he : PE X e te) : PE X (.FormattedValue e (-1) none pos) (tFmtU X te) := by
  refine ⟨fun pins s σ H Q I h => ?_⟩
  refine wpAny_FormattedValue_plain (thn (he.run pins s σ H _ I h) fun v s1 hv => ?_)
  obtain ⟨x, H1, I1, r1, q⟩ := hv
  rcases q with (⟨y, rfl, hz, q⟩ | ⟨i, rfl, hz, q⟩) | ⟨a, C, dx, fs, f, CX, k, sp, E, rfl, ha, hM, F, hr, hx, hs⟩
  · obtain ⟨t, rfl⟩ := r1
    exact wpAny_formatField_str ⟨.str y, H1, I1, ⟨t, rfl⟩, q⟩ ⟨.str y, H1, I1.tok _, ⟨_, rfl⟩, q⟩ hz
  · obtain ⟨t, rfl⟩ := r1
    exact wpAny_formatField_int hz ⟨.str (toString i), H1, I1.tok _, ⟨_, rfl⟩, q⟩
  · obtain rfl : v = Value.ref a := r1
    have I2 := I1.tok (s1.toks + 1)
    have hc : wpAny (model X.prog X.w) X.A.in1 (call (.ref f) [.ref a]) (PySem.W.StrBack (EP X pins σ Q)) X.xe { s1 with toks := s1.toks + 1 } :=
      thn (wpAny_call (run_fnS (us := [.ref a]) (vs := [.ref a]) ⟨hr.in1, rfl⟩ F hx I2 (.cons rfl .nil) hs)) fun v s3 z => strBack_of z
    obtain ⟨mA, J, _⟩ := ins_get I1.hok ha
    obtain ⟨od, J, _⟩ := J.look
    exact PySem.W.kfo_fieldS hr.in1.units0 I1.kIn J hM.hfm hM.hm hM.hs hM.hf hc
end
end AZ

set_option Elab.async false
set_option maxRecDepth 100000
set_option maxHeartbeats 4000000
set_option linter.all false
namespace AZ
open PySem L2
/-- a def's promise where the last arguments are told by their names -/
def FnRk (P : Program) (w : World) (K : PySem.W.Frag) (mg : Str → Option Value) (base : Heap) (CX : CXT) (k : Nat) (f : Addr) (ks : List Str) (gV : List V → List V → List V) (sp : Sp) : Prop :=
  ∀ (A : Around) (outer : List Env) (s : Shared) (H : Hp) (us ws : List Value) (vs zs : List V) (Q : VK) (E : XK), Room k A → Env0 P w K mg base A outer s H → Vals vs us → Vals zs ws → sp (gV vs zs) H Q E →
    codeAny (model P w) A (.call (.ref f) ⟨us, ks.zip ws⟩) (CR CX outer P w H s Q E) s
theorem FnOk.rawk {P : Program} {w : World} {K : PySem.W.Frag} {mg : Str → Option Value} {base : Heap} {CX : CXT} {k : Nat} {f : Addr} {fd : FuncData} {ps ks : List Str} {sp : Sp} {g : List Value → List Value → List Value} {gV : List V → List V → List V}
    (F : FnOk P w K mg base CX k f fd ps sp) (hb : KBinds K fd ps ks g gV) (hK : ∀ {A : Around} {outer : List Env} {s : Shared} {H : Hp}, Env0 P w K mg base A outer s H → K.In s.heap) : FnRk P w K mg base CX k f ks gV sp := by
  intro A outer s H us ws vs zs Q E hr e0 r rz h
  have r2 := hb.rel r rz
  have hl : (g us ws).length = ps.length := by rw [← r2.length]; exact F.len _ _ _ _ h
  exact F.run A outer s H ⟨us, ks.zip ws⟩ (g us ws) (gV vs zs) Q E hr e0 (hb.to s us ws (hK e0) hl) r2 h
section
variable {X : Cx} {CX : CXT} {k : Nat} {C g : Addr} {sp : Sp} {E : XK} {o : Expr} {kws : List Keyword} {m : Str} {ks : List Str} {pos apos : Pos} {ta : TE} {t : TA} {gV : List V → List V → List V}
/-- o.m(k = e, ..) -/
def tMRk (C : Addr) (m : Str) (gV : List V → List V → List V) (sp : Sp) (E : XK) (ta : TE) (t : TA) : TE := fun σ H Q => ta σ H fun x H1 => ∃ a dx fs, x = .ref a ∧ H1 a = some (.ins C dx fs) ∧ fs.lookup m = none ∧ t σ H1 fun zs H2 => sp (gV [x] zs) H2 Q E
theorem pe_mRk {pl : Sem Bool} (he : PE X o ta) (c : Cls X.K C) (hm : Meth X.K C m g) (F : FnRk X.prog X.w X.K X.mg X.base CX k g ks gV sp) (hr : Room k X.A) (hx : Passes CX X E) (hkw : PK X kws t)
    (hall : (backToKw pos (keywordEach kws X.env)).all (·.1.isSome) = true := by rfl) (hks : (backToKw pos (keywordEach kws X.env)).filterMap (·.1) = ks := by rfl)
    (hpl : ((backTo pos (starEach [] X.env)).any (·.1) || (backToKw pos (keywordEach kws X.env)).any (·.1.isNone)) = false := by rfl)
    (ht : eval (.Call (.Attribute o m apos) [] kws pos) X.env = (eval o X.env >>= fun ov => standAt apos.atName >>= fun _ => holding [ov] (getMethod ov m pl) >>= fun r =>
      callWith pos r.1 r.2 (backTo pos (starEach [] X.env)) (backToKw pos (keywordEach kws X.env))) := by rfl) :
    PE X (.Call (.Attribute o m apos) [] kws pos) (tMRk C m gV sp E ta t) := by
  refine ⟨fun pins s σ H Q I h => ?_⟩
  refine PySem.W.methodCall_KW (pl := pl) (thn (he.run pins s σ H _ I h) fun u s1 ⟨x, H1, I1, rx, a, dx, fs, ex, ea, l, q⟩ => ?_) ht
  subst ex
  obtain rfl : u = Value.ref a := rx
  refine getmeth_ok I1 ea c hm l ?_
  refine PySem.W.callWith_KW0 (first := [.ref a]) (h₀ := X.base) I.ok.mod.kin hm.kp hall (thn (hkw.run pos pins s1 σ H1 _ I1 q) fun ws s2 ⟨zs, H2, I2, rz, q2⟩ => ⟨I2.kIn, ?_⟩) hpl
  rw [hks]
  refine wpAny_call (codeAny_mono (F X.A X.stack s2 H2 [.ref a] ws [.ref a] zs Q E hr I2.env0 (.cons rfl .nil) rz q2) fun r s' hq => ?_)
  cases r with
  | error e => exact hx pins σ H2 s2 e s' I2 hq
  | ok fl =>
    cases fl with
    | ret u => exact I2.after hq
    | next => exact False.elim hq
    | brk => exact False.elim hq
    | cont => exact False.elim hq
theorem uSubR : OpR X (binaryOp .Sub) (orR (rI0 fun i j => .int (i - j)) (orR (rOwn X .Sub) (rRefl X "sub"))) := op_or2 op_sub (op_or2 (op_ownB _) (op_refl rfl int_dec_sub))
theorem uNeR (hu : X.A.units + 64 < cLine) : OpR X (compareOp .NotEq) (orR rNe (orR (rOwnN X) (rNeD X.K))) := op_or2 op_ne (op_or2 op_ownN (op_neD hu))
theorem un_inv : UnR X (unaryOp .Invert) (rOwnU X "__invert__") := un_ownInv
end
end AZ

set_option Elab.async false
set_option maxRecDepth 100000
set_option maxHeartbeats 4000000
set_option linter.all false
/-! Own work: promises that know that no repr is under way (needed by repr of lists). -/
namespace AZ
open PySem L2 PyProof.Rows
abbrev NoG (A : Around) : Prop := A.guards = some []
theorem NoG.deeper {A : Around} (h : NoG A) (env : Env) : NoG (A.deeper env) := by
  obtain ⟨hd, d, fr, gs, u⟩ := A
  exact h
/-- a def's promise where no repr is under way -/
def FnG (P : Program) (w : World) (K : PySem.W.Frag) (mg : Str → Option Value) (base : Heap) (CX : CXT) (k : Nat) (f : Addr) (sp : Sp) : Prop :=
  ∀ (A : Around) (out : List Env) (z : Shared) (Hp0 : Hp) (us : List Value) (vs : List V) (Q : VK) (E : XK), NoG A → Room k A → Env0 P w K mg base A out z Hp0 → Vals vs us → sp vs Hp0 Q E →
    codeAny (model P w) A (.call (.ref f) ⟨us, []⟩) (CR CX out P w Hp0 z Q E) z
section
variable {P : Program} {w : World} {K : PySem.W.Frag} {mg : Str → Option Value} {base : Heap} {CX : CXT} {k : Nat} {f : Addr} {sp sp' : Sp}
theorem FnG.imp (F : FnG P w K mg base CX k f sp) (h : ∀ vs H Q E, sp' vs H Q E → sp vs H Q E) : FnG P w K mg base CX k f sp' :=
  fun A out z G us vs Q E ng room env vals prom => F A out z G us vs Q E ng room env vals (h _ _ _ _ prom)
theorem FnG.of (F : FnR P w K mg base CX k f sp) : FnG P w K mg base CX k f sp := fun A out z G us vs Q E _ => F A out z G us vs Q E
def valOf : Flow → Value
  | .ret v => v
  | _ => .none
/-- its end, from the end of its body -/
theorem ends_CR {N : List Str} {qual : Str} {scope : Scope} {cdv : Value} {A : Around} {out : List Env} {z : Shared} {G : Hp} {Q : VK} {E : XK} {fl : Flow} {z' : Shared}
    (q : SP (cxOf CX P w K mg base N qual scope f cdv A out z G E) [] { nx := fun _ H' => Q .non H', rt := Q } fl z') :
    CR CX out P w G z Q E (.ok (.ret (valOf fl))) z' := by
  cases fl with
  | ret v => obtain ⟨x, σ, G2, J, rel, q⟩ := q; exact ⟨x, G2, J.os, J.bare, J.base, J.hok, rel, q⟩
  | next => obtain ⟨σ, G2, J, q⟩ := q; exact ⟨.non, G2, J.os, J.bare, J.base, J.hok, rfl, q⟩
  | brk => obtain ⟨σ, G2, J, q⟩ := q; exact q.elim
  | cont => obtain ⟨σ, G2, J, q⟩ := q; exact q.elim
end
section
variable {P : Program} {w : World} {K : PySem.W.Frag} {mg : Str → Option Value} {base : Heap} {k : Nat} {f : Addr} {sp : Sp} {x qual : Str} {st : Stmt} {fd : FuncData} {N ps : List Str}
/-- a def by its body, known to run where no repr is under way -/
theorem fnG_of (F : Fun K x qual st f fd) (S : FnScope N ps (defScope st)) (len : ∀ vs H Q E, sp vs H Q E → vs.length = ps.length)
    (bd : ∀ (cdv : Value) (A : Around) (out : List Env) (z : Shared) (G : Hp) (vs : List V) (Q : VK) (E : XK), NoG (A.deeper (envOfC qual (defScope st) z.heap.objs.size f cdv)) →
      Room k (A.deeper (envOfC qual (defScope st) z.heap.objs.size f cdv)) → sp vs G Q E →
      ∃ t, PSs (cxOf CX0 P w K mg base N qual (defScope st) f cdv A out z G E).nox (defBody st) t ∧ t { nx := fun _ H' => Q .non H', rt := Q } (start N vs) G)
    (hb : Binds K fd ps []) : FnG P w K mg base CX0 (k + 1) f sp := by
  obtain ⟨oc, od, kV, doc, pm, an, cdv, ct, osl, rfl, look, rec⟩ := F.ex
  intro A out z G us vs Q E ng room env vals prom
  have keep : ∀ b o, base.get? b = some o → z.heap.get? b = some o := fun b o e => (env.bs b o e).1
  have kin := env.mod.kin.keeps keep
  have many : us.length = ps.length := vals.length.symm.trans (len _ _ _ _ prom)
  have bnd := hb z us kin (by rw [List.append_nil]; exact many)
  rw [List.append_nil] at bnd
  have kinds : ∀ y ∈ ps.zip us, (defScope st).names.lookup y.1 = some .local ∨
      ((defScope st).names.lookup y.1 = some .cell ∧ ((cellsFrom (z.heap.objs.size + 1) (defScope st).names []).lookup y.1).isSome = true) := by
    rintro ⟨n, v⟩ there
    exact (S.par n (List.of_mem_zip there).1).imp id fun c => ⟨c, PySem.W.cellsFrom_some _ _ _ (.inl c)⟩
  refine codeAny_call_function room.depth (kin _ _ look) rfl S.co S.gen rfl (PySem.W.codeRec_of kin rec) (bnd _ _ _ _ (wpAny_newFunctionEnv_cells S.kind kinds ?_))
  rintro env2 rfl z1 made
  refine ⟨(env.mod.nolimit.keeps keep).keeps made.toInCall.keep, codeAny_func ?_⟩
  obtain ⟨t, body, run⟩ := bd cdv A out z G vs Q E (ng.deeper _) (room.deeper _) prom
  exact wpAny_mono (body.nox.run [] z1 (start N vs) G _ (inv_start S room.hd env (len _ _ _ _ prom) vals made) run) (fun fl z2 q => ends_CR q) fun e z2 q => q
end
section
variable {X : Cx} {CX : CXT} {k : Nat} {g : Addr} {sp : Sp} {E : XK} {e : Expr} {es : List Expr} {x : Str} {p pos : Pos} {t : TA}
theorem run_fnG {pins : List (Addr × Obj)} {σ : L2.St} {H : Hp} {s : Shared} {Q : VK} {us : List Value} {vs : List V} (F : FnG X.prog X.w X.K X.mg X.base CX k g sp) (ng : NoG X.A) (hr : Room k X.A) (hx : Passes CX X E) (I : Inv X pins σ H s) (r : Vals vs us) (h : sp vs H Q E) :
    codeAny (model X.prog X.w) X.A (.call (.ref g) ⟨us, []⟩) (fun r s' => match r with | .ok (.ret v) => EP X pins σ Q v s' | .ok _ => False | .error e => X.xe e s') s :=
  codeAny_mono (F X.A X.stack s H us vs Q E ng hr I.env0 r h) fun r s' hq => match r, hq with
    | .error e, hq => hx pins σ H s e s' I hq
    | .ok (.ret _), hq => I.after hq
    | .ok .next, hq => hq.elim
    | .ok .brk, hq => hq.elim
    | .ok .cont, hq => hq.elim
/-- x(e, ..), x a def of the module that wants no repr under way -/
theorem pe_fnG (F : FnG X.prog X.w X.K X.mg X.base CX k g sp) (ng : NoG X.A) (hr : Room k X.A) (hk : PySem.W.keepIn X.K (.ref g) = true) (hm : X.mg x = some (.ref g)) (hx : Passes CX X E) (ha : PA X (e :: es) t) (hg : Gl X x := by rfl) (hd : (x == ("__debug__" : Str)) = false := by decide)
    (he : starEach (e :: es) X.env = (false, eval e X.env) :: starEach es X.env := by rfl) (hst : (backTo pos (starEach es X.env)).any (·.1) = false := by rfl) :
    PE X (.Call (.Name x p) (e :: es) [] pos) (fun σ H Q => t σ H fun vs H1 => sp vs H1 Q E) :=
  ⟨fun pins s σ H Q I h => wpAny_Call_Name_kw (ld_glob I hg hm (PySem.W.callWith_K (h₀ := X.base) I.ok.mod.kin hk
    (thn (ha.run pos pins s σ H _ I h) fun us s1 ⟨vs, H1, I1, r, q⟩ => ⟨I1.kIn, wpAny_call (run_fnG F ng hr hx I1 r q)⟩) he hst) hd)⟩
end
/-! ## the head: the law's promise at the heap behind the top -/
theorem guards_caller : NoG callerA := rfl
section
variable {P : Program} {w : World} {K : PySem.W.Frag} {mg mb : Str → Option Value} {k : Nat} {fa a : Addr} {sp : Sp} {z : Shared} {vs : List Value} {ns : List Int}
/-- what the law's end leaves -/
def EndsTrue (z : Shared) (r : Result) (z' : Shared) : Prop := r = .ok (.ret (.bool true)) ∧ OldK z.heap z'.heap ∧ z'.os = z.os ∧ AllBare z'.gens
/-- from one abstract heap that tracks at most the script -/
theorem headG (kin : K.In z.heap) (hns : z.heap.Ns mainGlobals mg) (hmb : z.heap.Ns builtinsNs mb) (boot : ∀ x : Str, x ≠ "__name__" → mb x = bootBuiltins x) (lim : z.heap.NoLimit) (nogen : z.gens = #[])
    (room : Room k callerA) (F : ∀ base : Heap, K.In base → base.Ns mainGlobals mg → FnG P w K mg base CX0 k fa sp) (prom : ∀ H : Hp, Only H → SqL K H a (ns.map V.int) → sp [.ref a] H (fun v _ => v = .bl true) E0)
    (H : Hp) (only : Only H) (seq : SqL K H a (ns.map V.int)) (hok : HOk P w H z.heap) (just : ∀ b, H b ≠ none → b = a ∧ K.lookup a = none) (obj : z.heap.get? a = some { cls := .type "list", data := .seq vs.toArray }) :
    codeAny (model P w) callerA (.call (.ref fa) ⟨[.ref a], []⟩) (EndsTrue z) z := by
  have free : ∀ b o, z.heap.get? b = some o → (b = a → K.lookup a ≠ none ∨ (∃ es ep, o.data = .dict es ep)) → (hidT z.heap H).get? b = some o := fun b o e n => hidT_get e (by
    cases q : H b with
    | none => rfl
    | some u =>
      obtain ⟨rfl, nk⟩ := just b (by rw [q]; exact fun t => nomatch t)
      rcases n rfl with n | ⟨es, ep, d⟩
      · exact absurd nk n
      · rw [obj] at e; cases e; cases d)
  have names : ∀ b m, z.heap.Ns b m → (hidT z.heap H).Ns b m := fun b m ⟨o, es, ep, e, d, r⟩ => ⟨o, es, ep, free b o e fun _ => .inr ⟨es, ep, d⟩, d, r⟩
  have kinB : K.In (hidT z.heap H) := fun b o e => free b o (kin b o e) fun eq => .inl (by rw [← eq, e]; exact fun t => nomatch t)
  obtain ⟨m2, l1, l2⟩ := lim
  have env : Env0 P w K mg (hidT z.heap H) callerA [] z H := {
    frames := rfl
    mod := ⟨kinB, names _ _ hns, ⟨mb, names _ _ hmb, boot⟩, ⟨m2, names _ _ l1, l2⟩⟩
    bs := fun _ _ e => of_hidT e
    bsz := Nat.le_of_eq (hidT_size ..)
    funs := trivial
    frf := fun _ t => nomatch t
    hok := hok
    bare := .of_eq nogen }
  refine codeAny_mono (F _ kinB (names _ _ hns) callerA [] z H [.ref a] [.ref a] _ _ guards_caller room env (.cons rfl .nil) (prom H only seq)) fun r z' q => ?_
  match r, q with
  | .error _, q => exact q.elim
  | .ok .next, q => exact q.elim
  | .ok .brk, q => exact q.elim
  | .ok .cont, q => exact q.elim
  | .ok (.ret u), ⟨v, H2, os, bare, un, hok2, rel, tr⟩ =>
    subst tr
    obtain rfl : u = Value.bool true := rel
    refine ⟨rfl, OldK.of_keep fun b o e => ?_, os, bare⟩
    rcases only b with n | ⟨ob, xs, n⟩
    · exact un.keep b o e n (fun t => nomatch t) (fun t => nomatch t)
    · have g1 := (hok b _ n).1
      rw [e] at g1
      cases g1
      exact (hok2 b _ (un.frzs b _ _ n)).1
theorem lawG (kin : K.In z.heap) (hns : z.heap.Ns mainGlobals mg) (hmb : z.heap.Ns builtinsNs mb) (boot : ∀ x : Str, x ≠ "__name__" → mb x = bootBuiltins x) (lim : z.heap.NoLimit) (nogen : z.gens = #[])
    (obj : z.heap.get? a = some { cls := .type "list", data := .seq vs.toArray }) (isI : IntsAre vs ns) (few : ns.length ≤ sizeLine)
    (room : Room k callerA) (F : ∀ base : Heap, K.In base → base.Ns mainGlobals mg → FnG P w K mg base CX0 k fa sp) (prom : ∀ H : Hp, Only H → SqL K H a (ns.map V.int) → sp [.ref a] H (fun v _ => v = .bl true) E0) :
    codeAny (model P w) callerA (.call (.ref fa) ⟨[.ref a], []⟩) (EndsTrue z) z := by
  cases own : K.lookup a with
  | some o =>
    have same := kin a o own
    rw [obj] at same
    cases same
    refine headG kin hns hmb boot lim nogen room F prom (fun _ => none) (fun _ => .inl rfl) (.inr ⟨_, vs.toArray, _, own, rfl, rfl, rfl, ?_, vals_ints isI⟩) (fun _ _ t => nomatch t) (fun _ t => absurd rfl t) obj
    rw [List.size_toArray, isI.length]; exact few
  | none =>
    have at_ : ∀ b u, (if b = a then some (HO.frz { cls := .type "list", data := .seq vs.toArray } (.lst (ns.map V.int))) else none) = some u → b = a ∧ u = .frz { cls := .type "list", data := .seq vs.toArray } (.lst (ns.map V.int)) := fun b u t => by
      split at t
      · rename_i h; exact ⟨h, (Option.some.inj t).symm⟩
      · cases t
    refine headG kin hns hmb boot lim nogen room F prom (fun b => if b = a then some (.frz { cls := .type "list", data := .seq vs.toArray } (.lst (ns.map V.int))) else none) (fun b => ?_) (.inl (.inr ⟨_, if_pos rfl⟩)) (fun b u t => ?_) (fun b t => ?_) obj
    · by_cases h : b = a
      · exact .inr ⟨_, _, if_pos h⟩
      · exact .inl (if_neg h)
    · obtain ⟨rfl, rfl⟩ := at_ b u t
      exact ⟨obj, by rw [List.length_map]; exact few, vs, _, vals_ints isI, obj⟩
    · by_cases h : b = a
      · exact ⟨h, own⟩
      · exact absurd (if_neg h) t
end
/-- the goal of the head, from the law's promise -/
theorem walkG {l : PySem.W.OpenLaw} {n k : Nat} {q : Program} {loose : List Str} {XP : (Str → Option Value) → Heap → Prop} {YP : World → Heap → Prop} {d : DefRec} {K : Params → PySem.W.Frag} {sp : PySem.W.Frag → Sp}
    (hn : l.most = some n) (hn2 : n ≤ sizeLine) (hdf : d.params.defaults = []) (room : Room k callerA) (hY : ∀ (w : World) (h : Heap), YP w h → (K w.params).In h)
    (F : ∀ (w : World) (mg : Str → Option Value) (fa : Addr) (h : Heap), (K w.params).In h → h.Ns mainGlobals mg → mg d.name = some (.ref fa) →
      ∀ base : Heap, (K w.params).In base → base.Ns mainGlobals mg → FnG l.prog w (K w.params) mg base CX0 k fa (sp (K w.params)))
    (prom : ∀ (K : PySem.W.Frag) (H : Hp) (a : Addr) (ns : List Int), ns.length ≤ n → Only H → SqL K H a (ns.map V.int) → sp K [.ref a] H (fun v _ => v = .bl true) E0) :
    PySem.W.WalkO q loose XP YP l.row.toRowW d [] (fun f vs => PySem.call f vs) :=
  Att.attach_call hn hdf fun w _ z mg mb fa o pm cd doc a vs ns G Y _ _ _ hmg obj isI few nogen =>
    lawG (hY w _ Y) G.T.g G.T.b G.T.builtins G.T.nolimit nogen obj isI (Nat.le_trans few hn2) room (fun base => F w mg fa _ (hY w _ Y) G.T.g hmg base) fun H o s => prom _ H a ns few o s
/-! ## static methods without arguments -/
section
variable {X : Cx} {CX : CXT} {k : Nat} {C g : Addr} {sp : Sp} {E : XK} {o : Expr} {m : Str} {pos apos : Pos} {ta : TE}
theorem pe_smeth0 {pl : Sem Bool} (he : PE X o ta) (c : SMet X.K C m g) (F : FnR X.prog X.w X.K X.mg X.base CX k g sp) (hr : Room k X.A) (hx : Passes CX X E)
    (ht : eval (.Call (.Attribute o m apos) [] [] pos) X.env = (eval o X.env >>= fun ov => standAt apos.atName >>= fun _ => holding [ov] (getMethod ov m pl) >>= fun r =>
      callWith pos r.1 r.2 (backTo pos (starEach [] X.env)) (backToKw pos (keywordEach [] X.env))) := by rfl) :
    PE X (.Call (.Attribute o m apos) [] [] pos) (fun σ H Q => ta σ H fun x H1 => x = .ref C ∧ sp [] H1 Q E) := by
  refine ⟨fun pins s σ H Q I h => ?_⟩
  refine PySem.W.methodCall_KW (pl := pl) (thn (he.run pins s σ H _ I h) fun u s1 ⟨x, H1, I1, rx, ex, q⟩ => ?_) ht
  subst ex
  obtain rfl : u = Value.ref C := rx
  obtain ⟨mc, p, rest, r, at_, rc⟩ := c.ex
  refine PySem.W.method_cls I1.kIn r.ga (PySem.W.cls_bind I1.kIn r.rd at_ (wpAny_call (PySem.W.sm_get (s := { s1 with toks := s1.toks + 1 }) I1.kIn rc (PySem.W.handed_on rfl ?_))))
  exact PySem.W.callWith_K0 (first := []) (I1.tok _).kIn c.kp (wpAny_call (run_fnR (us := []) (vs := []) F hr hx (I1.tok _) .nil q))
end
/-! ## repr -/
section
variable {X : Cx}
def rReprD (K : PySem.W.Frag) : List V → Hp → VK → Prop := fun xs H Q => ∃ (a : Addr) (d : PyData), xs = [.ref a] ∧ Dp K H (.ref a) d ∧ d.showable = true ∧ d.hasDict = false ∧ d.depth ≤ 60 ∧ d.shown.length ≤ sizeLine ∧ Q (.str d.shown) H
/-- repr of a list or tuple of data, none under way -/
theorem call_reprD (ng : NoG X.A) (hu : X.A.units + 64 < cLine) : CallR X (.builtin "repr") (rReprD X.K) := by
  intro pins s σ H xs us Q I rv q
  obtain ⟨a, d, rfl, hd, sh, nd, dp, sz, q⟩ := q
  obtain ⟨u, rfl, ru⟩ := vals1 rv
  obtain rfl : u = Value.ref a := ru
  obtain ⟨as, r⟩ := Dp.reads I d (.ref a) (.ref a) hd rfl
  exact repr_of_reads' r sh (PyData.noDict_hsm nd) ng (by omega) (fun _ _ e => e) (fun h' u tk hk => ⟨.str d.shown, H, I.kept hk, ⟨_, rfl⟩, q⟩) sz
theorem call_reprB : CallR X (.builtin "repr") (fun xs H Q => ∃ b, xs = [.bl b] ∧ Q (.str (if b then "True" else "False")) H) := by
  intro pins s σ H xs us Q I rv q
  obtain ⟨b, rfl, q⟩ := q
  obtain ⟨u, rfl, ru⟩ := vals1 rv
  obtain rfl : u = Value.bool b := ru
  exact PySem.P.repr_of_bool ⟨.str (if b then "True" else "False"), H, I.tok _, ⟨_, rfl⟩, q⟩
theorem call_reprI : CallR X (.builtin "repr") (fun xs H Q => ∃ i, xs = [.int i] ∧ i.natAbs.log2 < 1920 ∧ Q (.str (toString i)) H) := by
  intro pins s σ H xs us Q I rv q
  obtain ⟨i, rfl, hz, q⟩ := q
  obtain ⟨u, rfl, t, rfl⟩ := vals1 rv
  exact PySem.P.repr_of_int hz ⟨.str (toString i), H, I.tok _, ⟨_, rfl⟩, q⟩
theorem uRepr (ng : NoG X.A) (hu : X.A.units + 64 < cLine) : CallR X (.builtin "repr") (fun xs H Q => (∃ b, xs = [.bl b] ∧ Q (.str (if b then "True" else "False")) H) ∨ (∃ i, xs = [.int i] ∧ i.natAbs.log2 < 1920 ∧ Q (.str (toString i)) H) ∨ rReprD X.K xs H Q) :=
  CallR.or' call_reprB (CallR.or' call_reprI (call_reprD ng hu))
theorem uIsiK {K : PySem.W.Frag} (h : X.K = K) : CallR X (.builtin "isinstance") (fun xs H Q => rIsi K xs H Q ∨ rIsiT K xs H Q) := by
  subst h
  exact uIsi
/-- != of ints and the like, of own ones, of tuples with own ones, of data -/
theorem uNeX {n : Nat} {D : Eqv} (hD : Mon D) (h : EqG X n D) (hr : Room (n + 1) X.A) (hu : X.A.units + 64 < cLine) : OpR X (compareOp .NotEq) (orR rNe (orR (rOwnN X) (orR (rNeG (DTup X.K D)) (rNeD X.K)))) :=
  op_or2 op_ne (op_or2 op_ownN (op_or2 (op_neG (ncG_tup hD h) hr) (op_neD hu)))
end
/-- how one positional value and one by its name are bound -/
def g11 {α : Type} : List α → List α → List α
  | [a], [b] => [a, b]
  | _, _ => []
theorem kbinds11 {K : PySem.W.Frag} {fd : FuncData} {p q : Str} (h : ∀ a b : Value, bindArgs fd ⟨[a], [(q, b)]⟩ = pure [(p, a), (q, b)]) : KBinds K fd [p, q] [q] g11 g11 where
  to := fun s us ws _ hl => match us, ws, hl with
    | [a], [b], _ => .of_eq (h a b)
    | [], _, hl => by cases hl
    | [_], [], hl => by cases hl
    | [_], _ :: _ :: _, hl => by cases hl
    | _ :: _ :: _, _, hl => by cases hl
  rel := fun {vs us zs ws} r rz => match vs, us, zs, ws, r, rz with
    | [_], [_], [_], [_], .cons a .nil, .cons b .nil => .cons a (.cons b .nil)
    | [], [], _, _, .nil, _ => .nil
    | [_], [_], [], [], .cons _ .nil, .nil => .nil
    | [_], [_], _ :: _ :: _, _ :: _ :: _, .cons _ .nil, .cons _ (.cons _ _) => .nil
    | _ :: _ :: _, _ :: _ :: _, _, _, .cons _ (.cons _ _), _ => .nil
end AZ

set_option Elab.async false
set_option maxRecDepth 100000
set_option maxHeartbeats 4000000
set_option linter.all false
/-! Own work: != of lists with own items; own == beside other types; objects and classes called with keywords. -/
namespace GQ
open PySem PySem.SeqAt
open AutoSeq1 (wpAny_loadPart')
open MeetsSeq MeetsSeq2 MeetsSeq3 SeqRoads2
section
variable {prog : Program} {w : World} {A : Around} {R : Result → Shared → Prop}
theorem list_ne_from (l b : Addr) (N : Nat) (J : Nat → Shared → Prop) (walk : ListI prog w A (fun x z => R (.error x) z) l b N J) (last : ∀ z, J N z → R (.ok (.ret (.bool false))) z) :
    ∀ (m i : Nat), i + m = N → ∀ z, J i z → wpAny (model prog w) A.in1 (Builtin.«list.__eq__.loop» ⟨[.ref l, .ref b, rawInt i, rawInt 3], []⟩) (FinOf prog w A R) (fun x z' => R (.error x) z') z
  | 0, i, e, z, h => by
    obtain ⟨xs, ys, n1, n2, g1, g2, e1, e2, _⟩ := walk _ _ h
    obtain rfl : i = N := by omega
    have done := last z h
    obtain ⟨hp, gs, dr, tk, os⟩ := z
    have none1 : xs[((i : Nat) : Int).toNat]? = none := by simp; omega
    have none2 : ys[((i : Nat) : Int).toNat]? = none := by simp; omega
    wp_walk using wpAny_loadPart' g1, wpAny_loadPart' g2
    rw [none1, none2]
    wp_walk using wpAny_loadPart' g1, wpAny_loadPart' g2
    show R (.ok (.ret (.bool (xs.size != ys.size)))) _
    rw [e1, e2]
    simpa using done
  | m + 1, i, e, z, h => by
    obtain ⟨xs, ys, n1, n2, g1, g2, e1, e2, turn⟩ := walk _ _ h
    have k1 : i < xs.size := by omega
    have k2 : i < ys.size := by omega
    have step := turn k1 k2
    have next := list_ne_from l b N J walk last m (i + 1) (by omega)
    obtain ⟨hp, gs, dr, tk, os⟩ := z
    have some1 : xs[((i : Nat) : Int).toNat]? = some xs[i] := by simp [k1]
    have some2 : ys[((i : Nat) : Int).toNat]? = some ys[i] := by simp [k2]
    have more : ((i : Int) + 1) = ((i + 1 : Nat) : Int) := by omega
    wp_walk using wpAny_loadPart' g1, wpAny_loadPart' g2
    rw [some1, some2]
    refine wpAny_bind (wpAny_mono step (fun r z2 q => ?_) fun _ _ x => x)
    obtain ⟨rfl, q⟩ := q
    have nx := next z2 q
    obtain ⟨hp2, gs2, dr2, tk2, os2⟩ := z2
    wp_walk
    rw [more]
    exact ⟨plainId_quiet plain_eq_loop _, codeAny_builtin entry_eq_loop ((Around.under_plainId plain_eq_loop _).symm ▸ nx)⟩
theorem list_ne_all (l b : Addr) (N : Nat) (J : Nat → Shared → Prop) (walk : ListI prog w A (fun x z => R (.error x) z) l b N J) (last : ∀ z, J N z → R (.ok (.ret (.bool false))) z) {z : Shared} (h : J 0 z) :
    wpAny (model prog w) A.in1 (Builtin.«list.__ne__» ⟨[.ref l, .ref b], []⟩) (FinOf prog w A R) (fun x z' => R (.error x) z') z := by
  obtain ⟨xs, ys, n1, n2, g1, g2, e1, e2, _⟩ := walk _ _ h
  have nx := list_ne_from (A := A) (R := R) l b N J walk last N 0 (Nat.zero_add N) z h
  obtain ⟨hp, gs, dr, tk, os⟩ := z
  have isList := AutoSeq1.sub_list_list
  have same : ¬ (xs.size != ys.size) = true := by simp [e1, e2]
  wp_walk using wpAny_loadPart' g1, wpAny_loadPart' g2
  exact ⟨plainId_quiet plain_eq_loop _, codeAny_builtin entry_eq_loop ((Around.under_plainId plain_eq_loop _).symm ▸ nx)⟩
end
section
variable {prog : Program} {w : World} {A : Around} {X : Value → Shared → Prop} {z : Shared}
theorem ne_lists {l b : Addr} {N : Nat} {Q : Value → Shared → Prop} (room : A.units < cLine) (J : Nat → Shared → Prop) (walk : ListI prog w A X l b N J) (last : ∀ z, J N z → Q (.bool false) z) (h : J 0 z) :
    wpAny (model prog w) A (richCompare .NotEq (.ref l) (.ref b)) Q X z := by
  obtain ⟨xs, ys, n1, n2, g1, g2, _, _, _⟩ := walk _ _ h
  exact wpAny_richCompare_same_room (op := .NotEq) ⟨_, g1, rfl⟩ ⟨_, g2, rfl⟩ F.slot_list_ne (call_here F.slot_list_ne ⟨_, g1, rfl⟩ F.entry_list_ne (F.args_list_ne_2 _ _)
    (list_ne_all (R := wants (fun v s' => v ≠ .notImplemented ∧ Q v s') X) l b N J walk (fun z' q => ⟨(fun x => nomatch x), last z' q⟩) h)) room
end
end GQ
namespace AZ
open PySem L2
section
variable {X : Cx} {n : Nat} {D : Eqv}
theorem ncG_list (hD : Mon D) (h : EqG X n D) : NcG X (n + 1) (DList D) := by
  intro A pins s σ H x y u v sb I rx ry d
  obtain ⟨a, b, xs, ys, rfl, rfl, ha, hb, p⟩ := d
  cases rx
  cases ry
  refine GQ.ne_lists (N := xs.length) sb.room.units0 (fun _ s' => LoopI X pins σ H s') (fun i s' q => ?_) (fun s' q => ⟨rfl, q⟩) ⟨H, I, Ext.rfl'⟩
  obtain ⟨H1, I1, e1⟩ := id q
  obtain ⟨z, its, k, r, e⟩ := I1.hok a _ (e1 _ _ ha)
  obtain ⟨z2, its2, k2, r2, e2⟩ := I1.hok b _ (e1 _ _ hb)
  exact ⟨its.toArray, its2.toArray, k, k2, e, e2, by rw [List.size_toArray, ← r.length], by rw [List.size_toArray, ← r2.length, ← p.1], fun h1 h2 => turnG hD h sb p r r2 i h1 h2 s' q⟩
/-- own == where the right side is of a built-in type -/
def RightT (H : Hp) (y : V) (T : String) : Prop := (T = "str" ∧ ∃ z, y = .str z) ∨ (T = "tuple" ∧ ∃ b xs, y = .ref b ∧ H b = some (.tup xs))
def rOwnT (X : Cx) (op : CmpOp) : R2 := fun x y H Q => ∃ (T : String) (a C dx : Addr) (fs : List (Str × V)) (f : Addr) (CX : CXT) (k : Nat) (sp : Sp) (E : XK),
  x = .ref a ∧ H a = some (.ins C dx fs) ∧ RightT H y T ∧ PySem.W.notFirst X.K C (.type T) = true ∧ CmpM X.K C op f ∧ FnR X.prog X.w X.K X.mg X.base CX k f sp ∧ Room k X.A ∧ Passes CX X E ∧ sp [x, y] H Q E
theorem op_ownT (op : CmpOp) (hop : ∀ a b, compareOp op a b = richCompare op a b := by intro _ _; rfl) : OpR X (compareOp op) (rOwnT X op) := by
  intro pins s σ H x y v u Q I rx ry h
  obtain ⟨T, a, C, dx, fs, f, CX, k, sp, E, rfl, ha, hR, hT, hM, F, hr, hx, hs⟩ := h
  obtain rfl : v = Value.ref a := rx
  have hc : wpAny (model X.prog X.w) X.A (call (.ref f) [.ref a, u]) (PySem.W.CmpBack (EP X pins σ Q)) X.xe s :=
    thn (wpAny_call (run_fnR (us := [.ref a, u]) (vs := [.ref a, y]) F hr hx I (.cons rfl (.cons ry .nil)) hs)) fun _ _ z => cmpBack_of z
  obtain ⟨mA, J, _⟩ := ins_get I.hok ha
  obtain ⟨od, J, _⟩ := J.look
  obtain ⟨m, hF⟩ := I.fr
  rw [hop]
  rcases hR with ⟨rfl, z, rfl⟩ | ⟨rfl, b, xs, rfl, hb⟩
  · obtain ⟨t, rfl⟩ := ry
    exact PySem.W.cmp_K (tb := .type "str") hr.units0 hF I.ok.mod.kin J (PySem.W.Looks.of_pure rfl) hT hM.hs hM.hf hc
  · obtain rfl : u = Value.ref b := ry
    obtain ⟨its, r, e, _⟩ := I.tuple (SqT.of hb)
    obtain ⟨o, g, c, _⟩ := id e
    have look : PySem.W.Looks (model X.prog X.w) s.heap (typeOf (.ref b)) (.type "tuple") := fun A Q E z k q => wpAny_typeOf_ref (k _ _ g) (by rw [c]; exact q)
    exact PySem.W.cmp_K (tb := .type "tuple") hr.units0 hF I.ok.mod.kin J look hT hM.hs hM.hf hc
end
end AZ
namespace AZ
open PySem L2 PyProof.Rows
/-- an object called with keywords -/
theorem callOk_of {M : Model} {A : Around} {E : Value → Shared → Prop} {s : Shared} {a : Addr} {pos : Pos} {Q : Value → Shared → Prop} {args : List (Bool × Sem Value)} {kws : List (Option Str × Sem Value)} (plain : (args.any (·.1) || kws.any (·.1.isNone)) = false)
    (h : wpAny M A (evalArgs (.ref a) true args kws) (fun z s1 => (∃ C ox od, PySem.W.InstAt s1.heap a ox C od ∧ ox.data = .plain) ∧ wpAny M A (call (.ref a) z.pos z.kw) Q E s1) E s) : wpAny M A (callWith pos (.ref a) [] args kws) Q E s := by
  unfold callWith
  refine wpAny_bind (wpAny_holding (wpAny_mono h (fun z s1 q => wpAny_bind (wpAny_standAt ?_)) fun _ _ q => q))
  obtain ⟨⟨C, ox, od, at_, dat⟩, q⟩ := q
  simp only [plain]
  refine wpAny_bind ((PySem.W.kco_keeper (M := M) at_ dat).here (wpAny_bind (wpAny_mono (wpAny_operateT q) (fun r s2 q2 => ?_) fun _ _ q => q)))
  exact wpAny_bind (wpAny_holding (wpAny_point (wpAny_pure q2)))
section
variable {X : Cx} {CX : CXT} {k : Nat} {C g : Addr} {sp : Sp} {E : XK} {fe : Expr} {kws : List Keyword} {ks : List Str} {x : Str} {p pos : Pos} {tf : TE} {t : TA} {gV : List V → List V → List V}
/-- f(k = e, ..), f an expression that gives an instance of C -/
def tCallOk (X : Cx) (C : Addr) (gV : List V → List V → List V) (sp : Sp) (E : XK) (tf : TE) (t : TA) : TE := fun σ H Q => tf σ H fun y H1 => ∃ a, y = V.ref a ∧ t σ H1 fun zs H2 => StX.InsC X H2 a C ∧ sp (gV [V.ref a] zs) H2 Q E
theorem pe_callOk (hf : PE X fe tf) (c : StX.CallO X.K C g) (F : FnRk X.prog X.w X.K X.mg X.base CX k g ks gV sp) (hr : Room k X.A) (hx : Passes CX X E) (hkw : PK X kws t)
    (hall : (backToKw pos (keywordEach kws X.env)).all (·.1.isSome) = true := by rfl) (hks : (backToKw pos (keywordEach kws X.env)).filterMap (·.1) = ks := by rfl)
    (ht : eval (.Call fe [] kws pos) X.env = (do callWith pos (← eval fe X.env) [] (backTo pos (starEach [] X.env)) (backToKw pos (keywordEach kws X.env))) := by rfl)
    (hpl : ((backTo pos (starEach [] X.env)).any (·.1) || (backToKw pos (keywordEach kws X.env)).any (·.1.isNone)) = false := by rfl) : PE X (.Call fe [] kws pos) (tCallOk X C gV sp E tf t) := by
  refine ⟨fun pins s σ H Q I h => ?_⟩
  rw [ht]
  refine wpAny_bind (thn (hf.run pins s σ H _ I h) fun u s1 ⟨y, H1, I1, ry, a, ey, q⟩ => ?_)
  subst ey
  obtain rfl : u = Value.ref a := ry
  refine callOk_of hpl (evalArgs_kw2_nil hall (thn (hkw.run pos pins s1 σ H1 _ I1 q) fun ws s2 ⟨zs, H2, I2, rz, hi, q2⟩ => ?_))
  obtain ⟨ox, od, J, hd⟩ := StX.insC_at I2 hi
  refine ⟨⟨C, ox, od, J, hd⟩, ?_⟩
  rw [hks]
  refine wpAny_call (PySem.W.kco_code I2.kIn J hd c.at_ c.fn c.fi (codeAny_mono (F X.A X.stack s2 H2 [.ref a] ws [.ref a] zs Q E hr I2.env0 (.cons rfl .nil) rz q2) fun r s' hq => ?_))
  match r, hq with
  | .error e, hq => exact hx pins σ H2 s2 e s' I2 hq
  | .ok (.ret _), hq => exact I2.after hq
  | .ok .next, hq => exact hq.elim
  | .ok .brk, hq => exact hq.elim
  | .ok .cont, hq => exact hq.elim
/-- C(k = e, ..): a new instance and its dict, then __init__ -/
def tMakeRk (C : Addr) (gV : List V → List V → List V) (sp : Sp) (E : XK) (t : TA) : TE := fun σ H Q => t σ H fun zs H1 => ∀ x dx, H1 x = none → H1 dx = none → dx ≠ x →
  sp (gV [.ref x] zs) (upd (upd H1 dx (.own x)) x (.ins C dx [])) (fun v H2 => v = .non ∧ Q (.ref x) H2) E
theorem pe_makeRk (M : Mk X.K C g) (F : FnRk X.prog X.w X.K X.mg X.base CX k g ks gV sp) (hr : Room (k + 1) X.A) (hg : Gl X x) (hm : X.mg x = some (.ref C)) (hx : Passes CX X E) (hkw : PK X kws t)
    (hall : (backToKw pos (keywordEach kws X.env)).all (·.1.isSome) = true := by rfl) (hks : (backToKw pos (keywordEach kws X.env)).filterMap (·.1) = ks := by rfl) (hdb : (x == ("__debug__" : Str)) = false := by decide)
    (hpl : ((backTo pos (starEach [] X.env)).any (·.1) || (backToKw pos (keywordEach kws X.env)).any (·.1.isNone)) = false := by rfl) : PE X (.Call (.Name x p) [] kws pos) (tMakeRk C gV sp E t) := by
  refine ⟨fun pins s σ H Q I h => wpAny_Call_Name_kw (ld_glob I hg hm ?_ hdb)⟩
  refine PySem.W.callWith_KW0 (h₀ := X.base) I.ok.mod.kin M.kp hall (thn (hkw.run pos pins s σ H _ I h) fun ws s2 ⟨zs, H2, I2, rz, q⟩ => ⟨I2.kIn, ?_⟩) hpl
  rw [hks]
  have q2 := q (s2.heap.objs.size + 1) s2.heap.objs.size (I2.hok.fresh (Nat.le_succ _)) (I2.hok.fresh (Nat.le_refl _)) (Nat.ne_of_lt (Nat.lt_succ_self _))
  have J := Inv.made (C := C) I2
  refine wpAny_call (make_map (f := g) I2.kIn M.makes M.init (beq_iff_eq.mp M.fn) (codeAny_mono (F _ X.stack _ _ [.ref (s2.heap.objs.size + 1)] ws [.ref (s2.heap.objs.size + 1)] zs _ E (hr.make C [] (ks.zip ws)) (J.env0.make C [] (ks.zip ws)) (.cons rfl .nil) rz q2) fun r s' hq => ?_))
  match r, hq with
  | .error e, hq => exact hx pins σ _ _ e s' J hq
  | .ok (.ret _), hq =>
    obtain ⟨v, H3, J3, rv, ev, q3⟩ := J.after hq
    subst ev
    exact ⟨rv, ⟨V.ref (s2.heap.objs.size + 1), H3, J3, rfl, q3⟩⟩
  | .ok .next, hq => exact hq.elim
  | .ok .brk, hq => exact hq.elim
  | .ok .cont, hq => exact hq.elim
end
/-- how one positional value and two by their names, told the other way round, are bound -/
def g12 {α : Type} : List α → List α → List α
  | [a], [b, c] => [a, c, b]
  | _, _ => []
theorem vals_g12 : ∀ {vs zs : List V} {us ws : List Value}, Vals vs us → Vals zs ws → Vals (g12 vs zs) (g12 us ws)
  | _, _, _, _, .cons a .nil, .cons b (.cons c .nil) => .cons a (.cons c (.cons b .nil))
  | _, _, _, _, .nil, _ => .nil
  | _, _, _, _, .cons _ (.cons _ _), _ => .nil
  | _, _, _, _, .cons _ .nil, .nil => .nil
  | _, _, _, _, .cons _ .nil, .cons _ .nil => .nil
  | _, _, _, _, .cons _ .nil, .cons _ (.cons _ (.cons _ _)) => .nil
theorem FnOk.rawkn {P : Program} {w : World} {K : PySem.W.Frag} {mg : Str → Option Value} {base : Heap} {CX : CXT} {k n : Nat} {f : Addr} {fd : FuncData} {ps ks : List Str} {sp : Sp} {g : List Value → List Value → List Value} {gV : List V → List V → List V}
    (F : FnOk P w K mg base CX k f fd ps sp) (hb : KBn K fd ps n ks g gV) (hl : ∀ vs zs : List V, (gV vs zs).length = ps.length → vs.length = n ∧ zs.length = ks.length) : FnRk P w K mg base CX k f ks gV sp := by
  intro A outer s H us ws vs zs Q E hr e0 r rz h
  obtain ⟨l1, l2⟩ := hl vs zs (F.len _ _ _ _ h)
  exact F.run A outer s H ⟨us, ks.zip ws⟩ (g us ws) (gV vs zs) Q E hr e0 (hb.to s us ws (e0.mod.kin.keeps fun b o e => (e0.bs b o e).1) (r.length.symm.trans l1) (rz.length.symm.trans l2)) (hb.rel r rz) h
section
variable {X : Cx}
theorem uEqT (hu : X.A.units + 64 < cLine) : OpR X (compareOp .Eq) (orR rEq (orR (rOwnC X .Eq) (orR (rOwnT X .Eq) (rEqD X.K)))) := op_or2 op_eq (op_or2 (op_ownC _) (op_or2 (op_ownT _) (op_eqD hu)))
theorem uNeL {n : Nat} {D : Eqv} (hD : Mon D) (h : EqG X n D) (hr : Room (n + 1) X.A) (hu : X.A.units + 64 < cLine) : OpR X (compareOp .NotEq) (orR rNe (orR (rOwnN X) (orR (rNeG (DList D)) (rNeD X.K)))) :=
  op_or2 op_ne (op_or2 op_ownN (op_or2 (op_neG (ncG_list hD h) hr) (op_neD hu)))
end
section
variable {X : Cx} {k : Nat} {C g : Addr} {CX : CXT} {sp : Sp} {E : XK} {fe e : Expr} {es : List Expr} {pos : Pos} {tf : TE} {t : TA}
/-- calling an object, told without the context (for blocks) -/
def tCallOF (C : Addr) (sp : Sp) (E : XK) (tf : TE) (t : TA) : TE := fun σ H Q => tf σ H fun y H1 => ∃ a, y = V.ref a ∧ t σ H1 fun vs H2 => ((∃ dx vs, SlX.Slt H2 a C dx vs) ∨ ∃ dx fs, H2 a = some (.ins C dx fs)) ∧ sp (V.ref a :: vs) H2 Q E
theorem pe_callOF (hf : PE X fe tf) (c : StX.CallO X.K C g) (F : FnR X.prog X.w X.K X.mg X.base CX k g sp) (hr : Room k X.A) (hx : Passes CX X E) (ha : PA X (e :: es) t)
    (ht : eval (.Call fe (e :: es) [] pos) X.env = (do callWith pos (← eval fe X.env) [] (backTo pos (starEach (e :: es) X.env)) (backToKw pos (keywordEach [] X.env))) := by rfl)
    (he : starEach (e :: es) X.env = (false, eval e X.env) :: starEach es X.env := by rfl) (hpl : (backTo pos (starEach es X.env)).any (·.1) = false := by rfl) : PE X (.Call fe (e :: es) [] pos) (tCallOF C sp E tf t) :=
  StX.pe_callO hf c F hr hx ha ht he hpl
end
section
variable {X : Cx} {tg l : Expr} {tl : TE}
theorem pi_listK {K : PySem.W.Frag} (h : X.K = K) (hl : PE X l tl) : PI X tg l (iList K tl) := by
  subst h
  exact pi_list hl
end
end AZ

set_option Elab.async false
set_option maxRecDepth 100000
set_option maxHeartbeats 4000000
set_option linter.all false
/-! Own work: errors of own classes as values: made, read, asked for their class; repr of any showable datum. -/
namespace AZ
open PySem L2 PyProof.Rows
/-! ## showable data, dicts of texts or ints to ints too -/
def keyD : Key → PyData
  | .inl i => .int i
  | .inr x => .str x
def kvD (l : List (Key × Int)) : PyData := .dict (l.map fun p => (keyD p.1, .int p.2))
abbrev kvV (l : List (Key × Int)) : List (Key × V) := l.map fun p => (p.1, V.int p.2)
inductive Sh (K : PySem.W.Frag) (H : Hp) : V → PyData → Prop
  | dp {v : V} {d : PyData} : Dp K H v d → d.hasDict = false → Sh K H v d
  | dict {a : Addr} {l : List (Key × Int)} : H a = some (.dK (kvV l)) → Sh K H (.ref a) (kvD l)
theorem reads_keys {P : Program} {w : World} {h : Heap} : ∀ (l : List (Key × Int)) (es : List DictEntry) (vs : List (Key × Value)), KV (kvV l) vs → PySem.Pairs (mixKind P w) es vs →
    ReadsAll h (es.map (·.key)) (l.map fun p => keyD p.1) [] ∧ ReadsAll h (es.map (·.val)) (l.map fun p => PyData.int p.2) []
  | [], es, vs, r, p => by
    cases r
    cases p
    exact ⟨.nil, .nil⟩
  | q :: l, es, vs, r, p => by
    cases r with
    | @cons a b as bs r1 r2 =>
      cases p with
      | @cons e1 kv1 es1 kvs1 p1 p2 p3 =>
        obtain ⟨a1, a2⟩ := reads_keys l _ _ r2 p3
        obtain ⟨e0, t, e2⟩ := r1
        have p1' : keyIs b.1 e1.key = true := p1
        have hv : Reads h e1.val (.int q.2) [] := by
          rw [p2, e2]
          exact Reads.int _ _
        have hk : Reads h e1.key (keyD q.1) [] := by
          have e0' : q.1 = b.1 := e0
          rw [e0']
          rcases keyIs_shape p1' with ⟨i, t, e3, e4⟩ | ⟨x, t, e3, e4⟩
          · rw [e3, e4]; exact Reads.int _ _
          · rw [e3, e4]; exact Reads.str _ _
        exact ⟨.cons (as := []) hk a1, .cons (as := []) hv a2⟩
section
variable {X : Cx} {pins : List (Addr × Obj)} {σ : L2.St} {H : Hp} {s : Shared}
theorem Sh.reads {v : V} {d : PyData} {u : Value} (S : Sh X.K H v d) (I : Inv X pins σ H s) (r : RelV v u) : ∃ as, Reads s.heap u d as ∧ (d.hasDict = true → sysModules ∉ as) := by
  cases S with
  | dp h n =>
    obtain ⟨as, q⟩ := Dp.reads I d v u h r
    exact ⟨as, q, fun z => by rw [n] at z; cases z⟩
  | @dict a l e =>
    obtain rfl : u = Value.ref a := r
    obtain ⟨_, hd, vs, rel, ob, es, ep, g, ex, dd, _, pr, _⟩ := dk_of I.hok e
    obtain ⟨a1, a2⟩ := reads_keys l _ _ rel pr
    have b1 : ReadsAll s.heap (es.toList.map (·.key)) ((l.map fun p : Key × Int => (keyD p.1, PyData.int p.2)).map (·.1)) [] := by rw [List.map_map]; exact a1
    have b2 : ReadsAll s.heap (es.toList.map (·.val)) ((l.map fun p : Key × Int => (keyD p.1, PyData.int p.2)).map (·.2)) [] := by rw [List.map_map]; exact a2
    refine ⟨a :: [] ++ [], Reads.dict g ex.1 dd b1 b2, fun _ hm => ?_⟩
    simp at hm
    rw [← hm] at hd
    simp at hd
/-- what repr of a datum asks -/
structure Shn (d : PyData) : Prop where
  sh : d.showable = true
  dp : d.depth ≤ 60
  sz : d.shown.length ≤ 2000
theorem repr_any {v : V} {d : PyData} {u : Value} {A : Around} {E : Value → Shared → Prop} {Q : Value → Shared → Prop} (S : Sh X.K H v d) (n : Shn d) (I : Inv X pins σ H s) (r : RelV v u) (ng : NoG A) (hu : A.units + 64 < cLine)
    (k : ∀ s' t, Inv X pins σ H s' → Q (.str d.shown t) s') : wpAny (model X.prog X.w) A (pyReprObj u) Q E s := by
  have sz : d.shown.length ≤ sizeLine := Nat.le_trans n.sz (by decide)
  have refl : ∀ {a : Addr}, u = .ref a → wpAny (model X.prog X.w) A (pyReprObj u) Q E s := fun {a} e => by
    obtain ⟨as, q, hs⟩ := S.reads I r
    have hdp := n.dp
    subst e
    exact pyReprObj_of_reads q n.sh hs ng (by omega) (fun _ _ e => e) (fun h' u tk hk => k _ _ (I.kept hk)) sz
  cases S with
  | dict e => exact refl r
  | dp h nd =>
    cases h with
    | non => obtain rfl : u = Value.none := r; exact pyReprObj_none (k _ _ (I.tok _))
    | bl b => obtain rfl : u = Value.bool b := r; exact pyReprObj_bool (k _ _ (I.tok _))
    | int i =>
      obtain ⟨t, rfl⟩ := r
      exact pyReprObj_int (of_decide_eq_true n.sh) (k _ _ (I.tok _))
    | str x => obtain ⟨t, rfl⟩ := r; exact pyReprObj_str (k _ _ (I.tok _)) sz
    | lst _ _ => exact refl r
    | tup _ _ => exact refl r
/-- {x!r} -/
def tFmtA (K : PySem.W.Frag) (te : TE) : TE := fun σ H Q => te σ H fun x H1 => ∃ d, Sh K H1 x d ∧ Shn d ∧ Q (.str d.shown) H1
theorem pe_fmtA {e : Expr} {te : TE} {pos : Pos} (ng : NoG X.A) (hu : X.A.units + 64 < cLine) (he : PE X e te) : PE X (.FormattedValue e 114 none pos) (tFmtA X.K te) := by
  refine ⟨fun pins s σ H Q I h => ?_⟩
  refine wpAny_FormattedValue_repr (thn (he.run pins s σ H _ I h) fun v s1 hv => ?_)
  obtain ⟨x, H1, I1, r1, d, S, n, q⟩ := hv
  refine repr_any S n I1 r1 ng hu fun s2 t I2 => ?_
  exact wpAny_formatField_str ⟨.str d.shown, H1, I2, ⟨_, rfl⟩, q⟩ ⟨.str d.shown, H1, I2.tok _, ⟨_, rfl⟩, q⟩ (Nat.le_trans n.sz (by decide))
theorem call_reprS (ng : NoG X.A) (hu : X.A.units + 70 < cLine) : CallR X (.builtin "repr") (fun xs H Q => ∃ v d, xs = [v] ∧ Sh X.K H v d ∧ Shn d ∧ Q (.str d.shown) H) := by
  intro pins s σ H xs us Q I rv q
  obtain ⟨v, d, rfl, S, n, q⟩ := q
  obtain ⟨u, rfl, r⟩ := vals1 rv
  have sz : d.shown.length ≤ sizeLine := Nat.le_trans n.sz (by decide)
  have refl : ∀ {a : Addr}, u = .ref a → wpAny (model X.prog X.w) X.A (call (.builtin "repr") [u]) (EP X pins σ Q) X.xe s := fun {a} e => by
    obtain ⟨as, g, hs⟩ := S.reads I r
    have hdp := n.dp
    subst e
    exact repr_of_reads' g n.sh hs ng (by omega) (fun _ _ e => e) (fun h' u tk hk => ⟨.str d.shown, H, I.kept hk, ⟨_, rfl⟩, q⟩) sz
  have fin : ∀ tk, EP X pins σ Q (.str d.shown tk) { s with toks := s.toks + 1 } := fun tk => ⟨.str d.shown, H, I.tok _, ⟨_, rfl⟩, q⟩
  cases S with
  | dict e => exact refl r
  | dp h nd =>
    cases h with
    | non => obtain rfl : u = Value.none := r; exact PySem.P.repr_of_none (fin _)
    | bl b => obtain rfl : u = Value.bool b := r; exact PySem.P.repr_of_bool (fin _)
    | int i => obtain ⟨t, rfl⟩ := r; exact PySem.P.repr_of_int (of_decide_eq_true n.sh) (fin _)
    | str x => obtain ⟨t, rfl⟩ := r; exact PySem.P.repr_of_str (fin _) sz
    | lst _ _ => exact refl r
    | tup _ _ => exact refl r
end
/-! ## the base's __init__, through an own base without one -/
/-- what C.__init__(..) asks of the class at C: it is ValueError's -/
structure VInit (K : PySem.W.Frag) (C : Addr) : Prop where
  ex : ∃ mc : Value, ClX.CRead K C mc ∧ PySem.W.findCls K (.ref C) mc "__init__" = some (.val (.builtin "ValueError.__init__"))
section
variable {X : Cx} {e : Expr} {es : List Expr} {ta : TA} {S : Addr} {x : Str} {p1 p2 pos : Pos}
theorem pe_sinit {pl : Sem Bool} (V : VInit X.K S) (hg : Gl X x) (hm : X.mg x = some (.ref S)) (ha : PA X (e :: es) ta) (hdb : (x == ("__debug__" : Str)) = false := by decide)
    (hc : eval (.Call (.Attribute (.Name x p1) "__init__" p2) (e :: es) [] pos) X.env = (eval (.Name x p1) X.env >>= fun ov => standAt p2.atName >>= fun _ => holding [ov] (getMethod ov "__init__" pl) >>= fun r =>
      callWith pos r.1 r.2 (backTo pos (starEach (e :: es) X.env)) (backToKw pos (keywordEach [] X.env))) := by rfl)
    (he : starEach (e :: es) X.env = (false, eval e X.env) :: starEach es X.env := by rfl) (hpl : (backTo pos (starEach es X.env)).any (·.1) = false := by rfl) :
    PE X (.Call (.Attribute (.Name x p1) "__init__" p2) (e :: es) [] pos) (tVeI X.K ta) := by
  refine ⟨fun pins s σ H Q I h => ?_⟩
  obtain ⟨mc, r, at_⟩ := V.ex
  refine PySem.W.methodCall_KW (pl := pl) (ld_glob I hg hm ?_ hdb) hc
  refine PySem.W.method_cls I.kIn r.ga (PySem.W.cls_value I.kIn r.rd at_ (by decide +kernel) ?_)
  show wpAny _ _ (callWith pos (Value.builtin "ValueError.__init__") [] (backTo pos (starEach (e :: es) X.env)) []) _ _ _
  refine PyProof.Rows.callWith_method1 (thn (ha.run pos pins _ σ H _ (I.tok _) h) fun us s1 ⟨vs, H1, I1, r1, a, C, ws, ev, hl, T, ea, q⟩ => ?_) he hpl
  subst ev
  cases r1 with
  | @cons _ u0 _ ur ra rw' =>
    obtain rfl : u0 = Value.ref a := ra
    have hlen : ur.length ≤ sizeLine := Nat.le_trans (by rw [← Paired.length rw']; exact hl) (show 1000 ≤ sizeLine by decide)
    exact oinit_ok T I1 ea hlen fun s' J => ⟨.non, H1, J, rfl, q⟩
end
end AZ
/-! ## an own error class called with keywords -/
namespace PySem
namespace HKW
open Builtin Builtin.ObjectAttr HandSPX
section
variable {prog : Program} {w : World} {A : Around} {E : Value → Shared → Prop} {R : Result → Shared → Prop} {h : Heap} {g : Array GenState} {d : Drawn} {t : Nat} {os : OsState}
variable {nm q : Str} {C N : Addr} {bs bm bmB : List Value} {hdct : Bool} {sn : List Str} {sub : List Value} {ab : Bool} {col : Option Bool} {dd : Option Addr} {k0 k1 k2 k3 k5 : Option Value} {B newId initId : String}
/-- BaseException.__new__ lets by whatever is told by name -/
theorem check_kw {M : Model} (F : ExcBaseFacts B newId initId bmB) (hT : ∀ X : String, bm.contains (.type X) = bmB.contains (.type X)) {kws : List (Str × Value)} {Q : Unit → Shared → Prop}
    (hC : h.get? C = some (excClassObj nm q C N bs bm hdct sn sub ab col dd k0 k1 k2 k3 k5 newId)) (hq : Q () ⟨h, g, d, t, os⟩) : wpAny M A (checkBuiltinCall newId ⟨[.ref C], kws⟩) Q E ⟨h, g, d, t, os⟩ := by
  have isB : (Value.ref C :: bm).contains (.type B) = true := by rw [List.contains_cons, hT, F.hasB, Bool.or_true]
  have st := F.noStar
  simp only [checkBuiltinCall, F.newKind, F.newSplit, F.newRow]
  repeat (first | refine wpAny_loadPart_at hC ?_ | (refine wpAny_isSubtype_exc hC ?_; rw [isB]) | refine wpAny_staticBase_exc hC ?_ | refine wpAny_madeBy_exc hC ?_ | simp only [bne_self_eq_false, Bool.false_eq_true, if_false] | wp_step)
  exact hq
theorem new_kw (F : ExcBaseFacts B newId initId bmB) (hT : ∀ X : String, bm.contains (.type X) = bmB.contains (.type X)) {kws : List (Str × Value)}
    (hC : h.get? C = some (excClassObj nm q C N bs bm hdct sn sub ab col dd k0 k1 k2 k3 k5 newId))
    (hq : R (.ok (.ret (.ref (h.objs.size + 1)))) ⟨(h.push (W.kdv_tup [])).push (excO C h.objs.size), g, d, t, os⟩) :
    codeAny (model prog w) A (.builtin newId ⟨[.ref C], kws⟩) R ⟨h, g, d, t, os⟩ := by
  have fin := F.ends
  have isB : (Value.ref C :: bm).contains (.type B) = true := by rw [List.contains_cons, hT, F.hasB, Bool.or_true]
  have noA : (Value.ref C :: bm).contains (.type "AttributeError") = false := by rw [List.contains_cons, hT, F.noAttr]; rfl
  have noN : (Value.ref C :: bm).contains (.type "NameError") = false := by rw [List.contains_cons, hT, F.noName]; rfl
  refine codeAny_builtinAt F.entry ?_
  unfold Builtin.«BaseException.__new__»
  refine wpAt_bind ?_
  show wpAt _ _ _ (stack >>= _) _ _ _
  refine wpAt_bind (wpAt_stack fun p below => wpAt_of_wpAny ?_)
  wp_walk
  refine wpAt_of_wpAny ?_
  rw [F.owner]
  repeat (first | with_reducible refine wpAny_madeHere_exc F.canon hC ?_ | with_reducible refine wpAny_loadPart_at hC ?_ | (with_reducible refine wpAny_isSubtype_exc hC ?_; first | rw [isB] | rw [noA] | rw [noN]) | wp_step)
  show R _ _
  rw [Heap.size_push]
  exact hq
theorem tcall_kw (F : ExcBaseFacts B newId initId bmB) (hT : ∀ X : String, bm.contains (.type X) = bmB.contains (.type X)) {kws : List (Str × Value)} {fI : Addr} {Q : Fin → Shared → Prop}
    (hC : h.get? C = some (excClassObj nm q C N bs bm hdct sn sub ab col dd k0 k1 k2 k3 k5 newId))
    (hi : W.Looks (model prog w) h (typeLookup (.ref C) "__init__") (some (.ref fI))) (hb : ∀ self, W.Looks (model prog w) h (bindSpecial (.ref fI) self) (.ref fI, [self]))
    (hq : codeAny (model prog w) A (.call (.ref fI) ⟨[.ref (h.objs.size + 1)], kws⟩)
      (fun r s' => match r with | .ok (.ret v) => v = .none ∧ Q (.done (.ret (.ref (h.objs.size + 1)))) s' | .ok _ => False | .error e => E e s')
      ⟨(h.push (W.kdv_tup [])).push (excO C h.objs.size), g, d, t, os⟩) :
    wpAny (model prog w) A (Builtin.«type.__call__» ⟨[.ref C], kws⟩) Q E ⟨h, g, d, t, os⟩ := by
  repeat (first | with_reducible refine wpAny_loadPart_at hC ?_ | with_reducible refine wpAny_madeBy_exc hC ?_ | wp_step)
  refine codeAny_call_builtin_code (Code.quiet_builtin _ F.quiet) (check_kw F hT hC ?_)
  refine new_kw F hT hC ?_
  show wpAny _ _ _ _ _ _
  have kp : ∀ b o, h.get? b = some o → ((h.push (W.kdv_tup [])).push (excO C h.objs.size)).get? b = some o := fun b o e => Heap.get?_push_of_some _ (Heap.get?_push_of_some _ e)
  have hC2 := kp _ _ hC
  have gx : ((h.push (W.kdv_tup [])).push (excO C h.objs.size)).get? (h.objs.size + 1) = some (excO C h.objs.size) := by heap_get
  have own : (Value.ref C :: bm).contains (.ref C) = true := by simp
  have i2 := hi.keeps kp
  have b2 := (hb (.ref (h.objs.size + 1))).keeps kp
  unfold isInstance
  repeat (first | with_reducible refine wpAny_loadPart_at gx ?_ | (with_reducible refine wpAny_isSubtype_exc hC2 ?_; rw [own]) | wp_step)
  show wpAny _ _ (typeLookup (.ref C) _) _ _ _
  refine i2.at (wpAny_holding (wpAny_bind (b2.at (wpAny_bind (wpAny_call (codeAny_mono hq fun r s' z => ?_))))))
  rcases r with e | (v | _ | _ | _) <;> first | exact z | exact z.elim | skip
  obtain ⟨rfl, z⟩ := z
  first
    | exact wpAny_pure (wpAny_pure z)
    | (wp_walk; exact z)
theorem call_kw (F : ExcBaseFacts B newId initId bmB) (hT : ∀ X : String, bm.contains (.type X) = bmB.contains (.type X)) {kws : List (Str × Value)} {fI : Addr}
    (hC : h.get? C = some (excClassObj nm q C N bs bm hdct sn sub ab col dd k0 k1 k2 k3 k5 newId))
    (hi : W.Looks (model prog w) h (typeLookup (.ref C) "__init__") (some (.ref fI))) (hb : ∀ self, W.Looks (model prog w) h (bindSpecial (.ref fI) self) (.ref fI, [self]))
    (hq : codeAny (model prog w) (A.under (.builtin "type.__call__" ⟨[.ref C], kws⟩)) (.call (.ref fI) ⟨[.ref (h.objs.size + 1)], kws⟩) (W.InitBack (h.objs.size + 1) R)
      ⟨(h.push (W.kdv_tup [])).push (excO C h.objs.size), g, d, t, os⟩) :
    codeAny (model prog w) A (.call (.ref C) ⟨[], kws⟩) R ⟨h, g, d, t, os⟩ := by
  have f1 := tc_lookup
  have f2 := tc_bind (.ref C)
  have hTy : (⟨h, g, d, t, os⟩ : Shared).TypeIs (.ref C) "type" := ⟨_, hC, rfl⟩
  refine codeAny_of_tree ?_
  show wpAny _ _ (callAny (.ref C) _) _ _ _
  repeat (any_goals (first | assumption | with_reducible refine wpAny_loadPart_at hC ?_ | wp_step))
  refine ⟨rfl, codeAny_call_builtin_at (Code.quiet_builtin _ (by decide +kernel)) entry_typeCall (wpAny_check_type_call_sub hC (tcall_kw F hT hC hi hb ?_))⟩
  refine codeAny_mono hq fun r s' z => ?_
  rcases r with e | (v | _ | _ | _) <;> exact z
end
end HKW
end PySem
namespace AZ
open PySem L2 PyProof.Rows
/-! ## made as a value -/
/-- an error of the class C at a with these fields -/
def ErrAt (H : Hp) (a C : Addr) (fs : List (Str × V)) : Prop := ∃ dx, H a = some (exo a C (some dx)) ∧ H dx = some (exd dx fs)
def tMkE (C : Addr) (sp : Sp) (ta : TA) : TE := fun σ H Q => ta σ H fun vs H1 => vs.length ≤ 1000 ∧ ∀ a, H1 a = none → sp (.ref a :: vs) (upd H1 a (exo a C none)) (fun v H2 => v = .non ∧ Q (.ref a) H2) (fun _ _ _ => False)
section
variable {X : Cx} {CX : CXT} {k : Nat} {C fI : Addr} {sp : Sp} {pins : List (Addr × Obj)} {σ : L2.St} {H : Hp} {s : Shared} {Q : VK}
/-- C(us) -/
theorem mkE_run (T : OexC X.K C) (iC : PySem.W.findIn X.K (.ref C) "__init__" = some (some (.ref fI))) (tI : PySem.W.typeIn X.K (.ref fI) = some (.type "function")) (F : FnG X.prog X.w X.K X.mg X.base CX k fI sp) (ng : NoG X.A) (hr : Room (k + 1) X.A)
    (hx : Passes CX X (fun _ _ _ => False)) (I : Inv X pins σ H s) {vs : List V} {us : List Value} {as : Args} (r : Vals vs us) (hl : vs.length ≤ 1000)
    (q : ∀ a, H a = none → sp (.ref a :: vs) (upd H a (exo a C none)) (fun v H2 => v = .non ∧ Q (.ref a) H2) (fun _ _ _ => False)) :
    wpAny (model X.prog X.w) X.A (call (.ref C) us) (EP X pins σ Q) X.xe s := by
  obtain ⟨nm, qn, N, bs, bm, sn, sub, ab, col, dd, k0, k1, k2, k3, k5, hC, hbm⟩ := T.cls
  obtain ⟨hp, g, dr, tk, os⟩ := s
  have hsz : hp.objs.size ≤ hp.objs.size + 1 := Nat.le_succ _
  have hn : H (hp.objs.size + 1) = none := I.hok.fresh hsz
  have hq := q (hp.objs.size + 1) hn
  have kk : ∀ b o, hp.get? b = some o → ((hp.push (PySem.W.kdv_tup us)).push (PySem.HandSPX.excO C hp.objs.size)).get? b = some o := fun b o e => Heap.get?_push_of_some _ (Heap.get?_push_of_some _ e)
  have hget : ((hp.push (PySem.W.kdv_tup us)).push (PySem.HandSPX.excO C hp.objs.size)).get? (hp.objs.size + 1) = some (PySem.HandSPX.excO C hp.objs.size) := by heap_get
  have I2 : Inv X pins σ (upd H (hp.objs.size + 1) (exo (hp.objs.size + 1) C none)) ⟨(hp.push (PySem.W.kdv_tup us)).push (PySem.HandSPX.excO C hp.objs.size), g, dr, tk, os⟩ :=
    I.laid (t' := tk) (a := hp.objs.size + 1) (o := exo (hp.objs.size + 1) C none) (h' := (hp.push (PySem.W.kdv_tup us)).push (PySem.HandSPX.excO C hp.objs.size)) kk hsz (exo_ok hget)
  have hus : us.length ≤ sizeLine := Nat.le_trans (by rw [← Paired.length r]; exact hl) (show 1000 ≤ sizeLine by decide)
  refine wpAny_call (PySem.HandSPX.call_own PySem.F.excBase_ValueError (fun Y => PySem.HandSPX.refsVE_contains Y bm hbm) (I.kIn _ _ hC) (PySem.W.looks_findIn I.kIn iC) (fun self => PySem.W.bind_fn I.kIn self tI) hus ?_)
  refine codeAny_mono (F _ X.stack _ _ (.ref (hp.objs.size + 1) :: us) (.ref (hp.objs.size + 1) :: vs) _ _ ?_ (hr.make C us []) (I2.env0.make C us []) (.cons rfl r) hq) fun r s' hq' => ?_
  · exact ng
  · cases r with
    | error er => exact hx pins σ _ _ er s' I2 hq'
    | ok fl =>
      cases fl with
      | ret u =>
        obtain ⟨v, H2, J, rv, ev, q2⟩ := I2.after hq'
        subst ev
        exact ⟨rv, .ref _, H2, J, rfl, q2⟩
      | next => exact False.elim hq'
      | brk => exact False.elim hq'
      | cont => exact False.elim hq'
end
/-! ## promises of a def told by any binding, none of repr under way -/
def FnOG (P : Program) (w : World) (K : PySem.W.Frag) (mg : Str → Option Value) (base : Heap) (CX : CXT) (k : Nat) (f : Addr) (fd : FuncData) (ps : List Str) (sp : Sp) : Prop :=
  ∀ (A : Around) (out : List Env) (z : Shared) (G : Hp) (as : Args) (us : List Value) (vs : List V) (Q : VK) (E : XK), NoG A → Room k A → Env0 P w K mg base A out z G → BindsTo z fd as (ps.zip us) → us.length = ps.length → Vals vs us → sp vs G Q E →
    codeAny (model P w) A (.call (.ref f) as) (CR CX out P w G z Q E) z
/-- .. where the last ones are told by name -/
def FnGk (P : Program) (w : World) (K : PySem.W.Frag) (mg : Str → Option Value) (base : Heap) (CX : CXT) (k : Nat) (f : Addr) (ks : List Str) (gV : List V → List V → List V) (sp : Sp) : Prop :=
  ∀ (A : Around) (out : List Env) (z : Shared) (G : Hp) (us ws : List Value) (vs zs : List V) (Q : VK) (E : XK), NoG A → Room k A → Env0 P w K mg base A out z G → Vals vs us → Vals zs ws → sp (gV vs zs) G Q E →
    codeAny (model P w) A (.call (.ref f) ⟨us, ks.zip ws⟩) (CR CX out P w G z Q E) z
section
variable {P : Program} {w : World} {K : PySem.W.Frag} {mg : Str → Option Value} {base : Heap} {CX : CXT} {k : Nat} {f : Addr} {sp : Sp} {x qual : Str} {st : Stmt} {fd : FuncData} {N ps ks : List Str}
theorem kin0 {A : Around} {out : List Env} {z : Shared} {G : Hp} (env : Env0 P w K mg base A out z G) : K.In z.heap := env.mod.kin.keeps fun b o e => (env.bs b o e).1
/-- a def by its body; what it lets out goes by CX -/
theorem fnOG (F : Fun K x qual st f fd) (S : FnScope N ps (defScope st)) (len : ∀ vs H Q E, sp vs H Q E → vs.length = ps.length)
    (bd : ∀ (cdv : Value) (A : Around) (out : List Env) (z : Shared) (G : Hp) (vs : List V) (Q : VK) (E : XK), NoG (A.deeper (envOfC qual (defScope st) z.heap.objs.size f cdv)) →
      Room k (A.deeper (envOfC qual (defScope st) z.heap.objs.size f cdv)) → sp vs G Q E →
      ∃ t, PSs (cxOf CX P w K mg base N qual (defScope st) f cdv A out z G E) (defBody st) t ∧ t { nx := fun _ H' => Q .non H', rt := Q } (start N vs) G) : FnOG P w K mg base CX (k + 1) f fd ps sp := by
  obtain ⟨oc, od, kV, doc, pm, an, cdv, ct, osl, rfl, look, rec⟩ := F.ex
  intro A out z G as us vs Q E ng room env bnd many vals prom
  have keep : ∀ b o, base.get? b = some o → z.heap.get? b = some o := fun b o e => (env.bs b o e).1
  have kin := kin0 env
  have kinds : ∀ y ∈ ps.zip us, (defScope st).names.lookup y.1 = some .local ∨
      ((defScope st).names.lookup y.1 = some .cell ∧ ((cellsFrom (z.heap.objs.size + 1) (defScope st).names []).lookup y.1).isSome = true) := by
    rintro ⟨n, v⟩ there
    exact (S.par n (List.of_mem_zip there).1).imp id fun c => ⟨c, PySem.W.cellsFrom_some _ _ _ (.inl c)⟩
  refine codeAny_call_function room.depth (kin _ _ look) rfl S.co S.gen rfl (PySem.W.codeRec_of kin rec) (bnd _ _ _ _ (wpAny_newFunctionEnv_cells S.kind kinds ?_))
  rintro env2 rfl z1 made
  refine ⟨(env.mod.nolimit.keeps keep).keeps made.toInCall.keep, codeAny_func ?_⟩
  obtain ⟨t, body, run⟩ := bd cdv A out z G vs Q E (ng.deeper _) (room.deeper _) prom
  exact wpAny_mono (body.run [] z1 (start N vs) G _ (inv_start S room.hd env (len _ _ _ _ prom) vals made) run) (fun fl z2 q => by
    cases fl with
    | ret v => obtain ⟨y, σ, G2, J, rel, q⟩ := q; exact ⟨y, G2, J.os, J.bare, J.base, J.hok, rel, q⟩
    | next => obtain ⟨σ, G2, J, q⟩ := q; exact ⟨.non, G2, J.os, J.bare, J.base, J.hok, rfl, q⟩
    | brk => obtain ⟨σ, G2, J, q⟩ := q; exact q.elim
    | cont => obtain ⟨σ, G2, J, q⟩ := q; exact q.elim) fun e z2 q => q
theorem FnOG.pos (F : FnOG P w K mg base CX k f fd ps sp) (len : ∀ vs H Q E, sp vs H Q E → vs.length = ps.length) (hb : Binds K fd ps []) : FnG P w K mg base CX k f sp := by
  intro A out z G us vs Q E ng room env vals prom
  have many : us.length = ps.length := vals.length.symm.trans (len _ _ _ _ prom)
  have bnd := hb z us (kin0 env) (by rw [List.append_nil]; exact many)
  rw [List.append_nil] at bnd
  exact F A out z G ⟨us, []⟩ us vs Q E ng room env bnd many vals prom
theorem FnOG.key {n : Nat} {g : List Value → List Value → List Value} {gV : List V → List V → List V} (F : FnOG P w K mg base CX k f fd ps sp) (len : ∀ vs H Q E, sp vs H Q E → vs.length = ps.length) (hb : KBn K fd ps n ks g gV)
    (hl : ∀ vs zs : List V, (gV vs zs).length = ps.length → vs.length = n ∧ zs.length = ks.length) : FnGk P w K mg base CX k f ks gV sp := by
  intro A out z G us ws vs zs Q E ng room env r rz prom
  have ln := len _ _ _ _ prom
  obtain ⟨l1, l2⟩ := hl vs zs ln
  have rel := hb.rel r rz
  exact F A out z G ⟨us, ks.zip ws⟩ (g us ws) (gV vs zs) Q E ng room env (hb.to z us ws (kin0 env) (r.length.symm.trans l1) (rz.length.symm.trans l2)) (rel.length.symm.trans ln) rel prom
end
end AZ

set_option Elab.async false
set_option maxRecDepth 100000
set_option maxHeartbeats 4000000
set_option linter.all false
/-! Own work: errors as values: the rules for the text. -/
namespace AZ
open PySem L2 PyProof.Rows
/-- what is asked of an own error class: made as such, its __init__ at fI -/
structure ErrC (K : PySem.W.Frag) (C fI : Addr) : Prop where
  oex : OexC K C
  init : PySem.W.findIn K (.ref C) "__init__" = some (some (.ref fI))
  fn : PySem.W.typeIn K (.ref fI) = some (.type "function")
section
variable {X : Cx} {CX : CXT} {k : Nat} {C fI : Addr} {sp : Sp} {pins : List (Addr × Obj)} {σ : L2.St} {H : Hp} {s : Shared} {Q : VK} {x : Str} {e : Expr} {es : List Expr} {kws : List Keyword} {ks : List Str} {gV : List V → List V → List V} {p pos : Pos} {ta : TA}
/-- C(e, ..) as a value -/
theorem pe_mkE (T : ErrC X.K C fI) (F : FnG X.prog X.w X.K X.mg X.base CX k fI sp) (ng : NoG X.A) (hr : Room (k + 1) X.A) (hg : Gl X x) (hm : X.mg x = some (.ref C)) (hx : Passes CX X (fun _ _ _ => False)) (ha : PA X (e :: es) ta)
    (hdb : (x == ("__debug__" : Str)) = false := by decide) (he : starEach (e :: es) X.env = (false, eval e X.env) :: starEach es X.env := by rfl) (hpl : (backTo pos (starEach es X.env)).any (·.1) = false := by rfl) :
    PE X (.Call (.Name x p) (e :: es) [] pos) (tMkE C sp ta) :=
  ⟨fun pins s σ H Q I h => wpAny_Call_Name_kw (ld_glob I hg hm (PySem.W.callWith_K (h₀ := X.base) I.ok.mod.kin T.oex.kC (thn (ha.run pos pins s σ H _ I h) fun us s1 ⟨vs, H1, I1, r1, hz, q1⟩ =>
    ⟨I1.kIn, mkE_run (as := ⟨us, []⟩) T.oex T.init T.fn F ng hr hx I1 r1 hz q1⟩) he hpl) hdb)⟩
/-- C() -/
theorem pe_mkE0 (T : ErrC X.K C fI) (F : FnG X.prog X.w X.K X.mg X.base CX k fI sp) (ng : NoG X.A) (hr : Room (k + 1) X.A) (hg : Gl X x) (hm : X.mg x = some (.ref C)) (hx : Passes CX X (fun _ _ _ => False))
    (hdb : (x == ("__debug__" : Str)) = false := by decide) :
    PE X (.Call (.Name x p) [] [] pos) (tMkE C sp tNil) :=
  ⟨fun pins s σ H Q I ⟨hz, q1⟩ => wpAny_Call_Name_kw (ld_glob I hg hm (PySem.W.callWith_K0 (first := []) I.kIn T.oex.kC (mkE_run (as := ⟨[], []⟩) T.oex T.init T.fn F ng hr hx I .nil hz q1)) hdb)⟩
/-- C(k = e, ..) -/
def tMkEk (C : Addr) (gV : List V → List V → List V) (sp : Sp) (ta : TA) : TE := fun σ H Q => ta σ H fun zs H1 => ∀ a, H1 a = none → sp (gV [.ref a] zs) (upd H1 a (exo a C none)) (fun v H2 => v = .non ∧ Q (.ref a) H2) (fun _ _ _ => False)
theorem pe_mkEk (T : ErrC X.K C fI) (F : FnGk X.prog X.w X.K X.mg X.base CX k fI ks gV sp) (ng : NoG X.A) (hr : Room (k + 1) X.A) (hg : Gl X x) (hm : X.mg x = some (.ref C)) (hx : Passes CX X (fun _ _ _ => False)) (hkw : PK X kws ta)
    (hall : (backToKw pos (keywordEach kws X.env)).all (·.1.isSome) = true := by rfl) (hks : (backToKw pos (keywordEach kws X.env)).filterMap (·.1) = ks := by rfl) (hdb : (x == ("__debug__" : Str)) = false := by decide)
    (hpl : ((backTo pos (starEach [] X.env)).any (·.1) || (backToKw pos (keywordEach kws X.env)).any (·.1.isNone)) = false := by rfl) : PE X (.Call (.Name x p) [] kws pos) (tMkEk C gV sp ta) := by
  refine ⟨fun pins s σ H Q I h => wpAny_Call_Name_kw (ld_glob I hg hm ?_ hdb)⟩
  refine PySem.W.callWith_KW0 (h₀ := X.base) I.ok.mod.kin T.oex.kC hall (thn (hkw.run pos pins s σ H _ I h) fun ws s2 ⟨zs, H2, I2, rz, q⟩ => ⟨I2.kIn, ?_⟩) hpl
  rw [hks]
  obtain ⟨nm, qn, N, bs, bm, sn, sub, ab, col, dd, k0, k1, k2, k3, k5, hC, hbm⟩ := T.oex.cls
  obtain ⟨hp, g, dr, tk, os⟩ := s2
  have hn : H2 (hp.objs.size + 1) = none := I2.hok.fresh (Nat.le_succ _)
  have hq := q (hp.objs.size + 1) hn
  have kk : ∀ b o, hp.get? b = some o → ((hp.push (PySem.W.kdv_tup [])).push (PySem.HandSPX.excO C hp.objs.size)).get? b = some o := fun b o e => Heap.get?_push_of_some _ (Heap.get?_push_of_some _ e)
  have gx : ((hp.push (PySem.W.kdv_tup [])).push (PySem.HandSPX.excO C hp.objs.size)).get? (hp.objs.size + 1) = some (PySem.HandSPX.excO C hp.objs.size) := by heap_get
  have I3 : Inv X pins σ (upd H2 (hp.objs.size + 1) (exo (hp.objs.size + 1) C none)) ⟨(hp.push (PySem.W.kdv_tup [])).push (PySem.HandSPX.excO C hp.objs.size), g, dr, tk, os⟩ :=
    I2.laid (t' := tk) (a := hp.objs.size + 1) (o := exo (hp.objs.size + 1) C none) (h' := (hp.push (PySem.W.kdv_tup [])).push (PySem.HandSPX.excO C hp.objs.size)) kk (Nat.le_succ _) (exo_ok gx)
  refine wpAny_call (PySem.HKW.call_kw PySem.F.excBase_ValueError (fun Y => PySem.HandSPX.refsVE_contains Y bm hbm) (I2.kIn _ _ hC) (PySem.W.looks_findIn I2.kIn T.init) (fun self => PySem.W.bind_fn I2.kIn self T.fn) ?_)
  refine codeAny_mono (F _ X.stack _ _ [.ref (hp.objs.size + 1)] ws [.ref (hp.objs.size + 1)] zs _ _ ng (hr.make C [] (ks.zip ws)) (I3.env0.make C [] (ks.zip ws)) (.cons rfl .nil) rz hq) fun r s' hq' => ?_
  match r, hq' with
  | .error e, hq' => exact hx pins σ _ _ e s' I3 hq'
  | .ok (.ret _), hq' =>
    obtain ⟨v, H3, J3, rv, ev, q3⟩ := I3.after hq'
    subst ev
    exact ⟨rv, ⟨V.ref _, H3, J3, rfl, q3⟩⟩
  | .ok .next, hq' => exact hq'.elim
  | .ok .brk, hq' => exact hq'.elim
  | .ok .cont, hq' => exact hq'.elim
/-- e.f, of an error -/
def tXfE (C : Addr) (f : Str) (te : TE) : TE := fun σ H Q => te σ H fun y H1 => ∃ a fs v, y = .ref a ∧ ErrAt H1 a C fs ∧ fs.lookup f = some v ∧ Q v H1
theorem pe_xfE {n : Str} {te : TE} (T : XfC X.K C) (no : PySem.W.findIn X.K (.ref C) n = some none) (he : PE X e te) (hb : attributeBase e n X.env (eval e X.env) = eval e X.env := by rfl) : PE X (.Attribute e n pos) (tXfE C n te) := by
  refine ⟨fun pins s σ H Q I h => attr_of hb (thn (he.run pins s σ H _ I h) fun u s1 hh => ?_)⟩
  obtain ⟨y, H1, I1, ry, a, fs, v, ey, ⟨dx, ea, ed⟩, l, q⟩ := hh
  subst ey
  obtain rfl : u = Value.ref a := ry
  obtain ⟨t1, ho⟩ := exo_at I1.hok ea
  obtain ⟨mA, hns, hr⟩ := exd_at I1.hok ed
  obtain ⟨od, hod, hl⟩ := lookIn_ns hns
  obtain ⟨u, hu, ru⟩ := RelO.some_of (v := v) (o := mA n) (by rw [← l]; exact hr n)
  have J : PySem.W.InstAt s1.heap a _ C (some od) := ⟨ho, rfl, rfl, hod⟩
  exact HandSPX.exc_get I1.kIn J T.ga T.gg T.exC (PySem.W.findObj_own T.hdC no rfl (by rw [hl, hu])) (handed_of ru) ⟨v, H1, I1.tok _, ru, q⟩
/-- e.f, of an error of any class -/
def tXfA (K : PySem.W.Frag) (f : Str) (te : TE) : TE := fun σ H Q => te σ H fun y H1 => ∃ a C fs v, y = .ref a ∧ XfC K C ∧ PySem.W.findIn K (.ref C) f = some none ∧ ErrAt H1 a C fs ∧ fs.lookup f = some v ∧ Q v H1
theorem pe_xfA {n : Str} {te : TE} (he : PE X e te) (hb : attributeBase e n X.env (eval e X.env) = eval e X.env := by rfl) : PE X (.Attribute e n pos) (tXfA X.K n te) := by
  refine ⟨fun pins s σ H Q I h => attr_of hb (thn (he.run pins s σ H _ I h) fun u s1 hh => ?_)⟩
  obtain ⟨y, H1, I1, ry, a, C, fs, v, ey, T, no, ⟨dx, ea, ed⟩, l, q⟩ := hh
  subst ey
  obtain rfl : u = Value.ref a := ry
  obtain ⟨t1, ho⟩ := exo_at I1.hok ea
  obtain ⟨mA, hns, hr⟩ := exd_at I1.hok ed
  obtain ⟨od, hod, hl⟩ := lookIn_ns hns
  obtain ⟨u, hu, ru⟩ := RelO.some_of (v := v) (o := mA n) (by rw [← l]; exact hr n)
  have J : PySem.W.InstAt s1.heap a _ C (some od) := ⟨ho, rfl, rfl, hod⟩
  exact HandSPX.exc_get I1.kIn J T.ga T.gg T.exC (PySem.W.findObj_own T.hdC no rfl (by rw [hl, hu])) (handed_of ru) ⟨v, H1, I1.tok _, ru, q⟩
end
/-- promises of the __init__ of errors: the fields that they keep -/
def spErr0 (C : Addr) : Sp := fun vs H Q _ => ∃ a, vs = [.ref a] ∧ H a = some (exo a C none) ∧ Q .non H
def spErr1 (K : PySem.W.Frag) (C : Addr) (f : Str) : Sp := fun vs H Q _ => ∃ a v d, vs = [.ref a, v] ∧ H a = some (exo a C none) ∧ Sh K H v d ∧ Shn d ∧ ∀ H', (∀ x o, H x = some o → x ≠ a → H' x = some o) → ErrAt H' a C [(f, v)] → Q .non H'
def spErr2 (K : PySem.W.Frag) (C : Addr) (f g : Str) : Sp := fun vs H Q _ => ∃ a v u d e, vs = [.ref a, v, u] ∧ H a = some (exo a C none) ∧ Sh K H v d ∧ Shn d ∧ Sh K H u e ∧ Shn e ∧ ∀ H', (∀ x o, H x = some o → x ≠ a → H' x = some o) → ErrAt H' a C [(g, u), (f, v)] → Q .non H'
theorem shn_len {d : PyData} (n : Shn d) {x : Str} (h : x.length ≤ 4000) : (x ++ d.shown).length ≤ sizeLine := by
  have := n.sz
  have e : (x ++ d.shown).length = x.length + d.shown.length := Array.size_append ..
  rw [e]
  exact Nat.le_trans (by omega : x.length + d.shown.length ≤ 6000) (by decide)
theorem cat_len {x y : Str} {m n k : Nat} (h1 : x.length ≤ m) (h2 : y.length ≤ n) (h : m + n ≤ k) : (x ++ y).length ≤ k := by
  have e : (x ++ y).length = x.length + y.length := Array.size_append ..
  omega
end AZ

set_option Elab.async false
set_option maxRecDepth 100000
set_option maxHeartbeats 4000000
set_option linter.all false
/-! Own work: classes of errors below one base: what is asked of each, and which is which. -/
namespace AZ
open PySem L2 PyProof.Rows
open PySem.HandSPX (veTail)
/-- the base of all, at S -/
structure Sx (K : PySem.W.Frag) (S : Addr) (nm : Str) : Prop where
  lk : ∃ q N bs sn sub ab col dd k0 k1 k2 k3 k5, K.lookup S = some (excClassObj nm q S N bs veTail true sn sub ab col dd k0 k1 k2 k3 k5 "ValueError.__new__")
/-- an own error class at C directly below S, its __init__ at fI -/
structure Ex (K : PySem.W.Frag) (S C fI : Addr) (nm : Str) : Prop where
  lk : ∃ q N bs sn sub ab col dd k0 k1 k2 k3 k5, K.lookup C = some (excClassObj nm q C N bs (.ref S :: veTail) true sn sub ab col dd k0 k1 k2 k3 k5 "ValueError.__new__")
  sa : PySem.W.findIn K (.ref C) "__setattr__" = some (some (.builtin "object.__setattr__"))
  ga : PySem.W.findIn K (.ref C) "__getattribute__" = some (some (.builtin "BaseException.__getattribute__"))
  gg : PySem.W.findIn K (.ref C) "__getattr__" = some none
  ca : PySem.W.findIn K (.ref C) "__class__" = some (some (.builtin "object.__class__"))
  init : PySem.W.findIn K (.ref C) "__init__" = some (some (.ref fI))
  fn : PySem.W.typeIn K (.ref fI) = some (.type "function")
  kp : PySem.W.keepIn K (.ref C) = true
/-- what isinstance asks of object.__class__ -/
structure Gx (K : PySem.W.Frag) : Prop where
  hn : PySem.W.specialIn K (.builtin "object.__class__") "__get__" = some (some (.builtin "getset_descriptor.__get__"))
  tk : PySem.W.takesIn K (.builtin "object.__class__") = some true
section
variable {K : PySem.W.Frag} {S C D fI fJ : Addr} {nm nm' ns : Str}
theorem Ex.cls (x : Ex K S C fI nm) : ∃ cd, PySem.W.clsIn K C = some cd ∧ cd.mro = .ref C :: .ref S :: veTail ∧ cd.name = nm ∧ cd.hasDict = true := by
  obtain ⟨q, N, bs, sn, sub, ab, col, dd, k0, k1, k2, k3, k5, h⟩ := x.lk
  have e : PySem.W.clsIn K C = some { name := nm, bases := bs, mro := .ref C :: .ref S :: veTail, ns := N, qualname := q, hasDict := true, slotNames := sn, subclasses := sub, abstract := ab, collection := col, hasDel := false } := by
    unfold PySem.W.clsIn; rw [h]
  exact ⟨_, e, rfl, rfl, rfl⟩
theorem Sx.cls (x : Sx K S nm) : ∃ cd, PySem.W.clsIn K S = some cd ∧ cd.mro = .ref S :: veTail ∧ cd.name = nm := by
  obtain ⟨q, N, bs, sn, sub, ab, col, dd, k0, k1, k2, k3, k5, h⟩ := x.lk
  have e : PySem.W.clsIn K S = some { name := nm, bases := bs, mro := .ref S :: veTail, ns := N, qualname := q, hasDict := true, slotNames := sn, subclasses := sub, abstract := ab, collection := col, hasDel := false } := by
    unfold PySem.W.clsIn; rw [h]
  exact ⟨_, e, rfl, rfl⟩
theorem Ex.ty (x : Ex K S C fI nm) : PySem.W.typeIn K (.ref C) = some (.type "type") := by
  obtain ⟨q, N, bs, sn, sub, ab, col, dd, k0, k1, k2, k3, k5, h⟩ := x.lk
  show (K.lookup C).map (·.cls) = _
  rw [h]; rfl
theorem Sx.ty (x : Sx K S nm) : PySem.W.typeIn K (.ref S) = some (.type "type") := by
  obtain ⟨q, N, bs, sn, sub, ab, col, dd, k0, k1, k2, k3, k5, h⟩ := x.lk
  show (K.lookup S).map (·.cls) = _
  rw [h]; rfl
theorem Ex.mro (x : Ex K S C fI nm) (b : Value) : PySem.W.mroIn K C b = some ((.ref C :: .ref S :: veTail).contains b) := by
  obtain ⟨cd, h, m, _⟩ := x.cls
  unfold PySem.W.mroIn
  rw [h, Option.bind_some, m]; rfl
theorem Ex.ne (x : Ex K S C fI nm) (y : Ex K S D fJ nm') (h : nm ≠ nm') : C ≠ D := fun e => by
  obtain ⟨cd, h1, _, n1, _⟩ := x.cls
  obtain ⟨ce, h2, _, n2, _⟩ := y.cls
  rw [e, h2] at h1
  cases h1
  exact h (n1.symm.trans n2)
theorem Ex.neS (x : Ex K S C fI nm) (y : Sx K S ns) (h : nm ≠ ns) : C ≠ S := fun e => by
  obtain ⟨cd, h1, _, n1, _⟩ := x.cls
  obtain ⟨ce, h2, _, n2⟩ := y.cls
  rw [e, h2] at h1
  cases h1
  exact h (n1.symm.trans n2)
theorem Ex.exc (x : Ex K S C fI nm) : PySem.W.subIn K (.ref C) (.type "BaseException") = some true := (x.mro _).trans (by simp [veTail])
theorem Ex.oex (x : Ex K S C fI nm) : OexC K C where
  cls := by
    obtain ⟨q, N, bs, sn, sub, ab, col, dd, k0, k1, k2, k3, k5, h⟩ := x.lk
    exact ⟨nm, q, N, bs, .ref S :: veTail, sn, sub, ab, col, dd, k0, k1, k2, k3, k5, h, show PySem.HandSPX.refsVE veTail = true by decide +kernel⟩
  sa := x.sa
  exC := x.exc
  tyC := x.ty
  kC := x.kp
theorem Ex.err (x : Ex K S C fI nm) : ErrC K C fI := ⟨x.oex, x.init, x.fn⟩
theorem Ex.hd (x : Ex K S C fI nm) : PySem.W.hasDictIn K C = true := by
  obtain ⟨cd, h, _, _, d⟩ := x.cls
  unfold PySem.W.hasDictIn
  rw [h]
  simp [d]
theorem Ex.xf (x : Ex K S C fI nm) : XfC K C := ⟨x.ga, x.gg, x.exc, x.hd⟩
/-- isinstance among them -/
theorem Ex.kit_ne (x : Ex K S C fI nm) (y : Ex K S D fJ nm') (s : Sx K S ns) (h : nm ≠ nm') (h2 : nm' ≠ ns) : PySem.W.kitOne K (.ref C) (.ref D) = some false := by
  have e : C ≠ D := x.ne y h
  have e2 : D ≠ S := y.neS s h2
  unfold PySem.W.kitOne PySem.W.kitCls
  rw [if_neg (by intro q; exact e (Value.ref.inj (beq_iff_eq.mp q)))]
  obtain ⟨ce, hc, _⟩ := y.cls
  dsimp only
  rw [if_pos (by rw [hc, y.ty]; rfl)]
  show PySem.W.mroIn K C _ = _
  rw [x.mro]
  simp [veTail, Ne.symm e, e2]
theorem Ex.kit_s (x : Ex K S C fI nm) (s : Sx K S ns) (h2 : nm ≠ ns) : PySem.W.kitOne K (.ref C) (.ref S) = some true := by
  have e : C ≠ S := x.neS s h2
  unfold PySem.W.kitOne PySem.W.kitCls
  rw [if_neg (by intro q; exact e (Value.ref.inj (beq_iff_eq.mp q)))]
  obtain ⟨ce, hc, _⟩ := s.cls
  dsimp only
  rw [if_pos (by rw [hc, s.ty]; rfl)]
  show PySem.W.mroIn K C _ = _
  rw [x.mro]
  simp [veTail]
theorem Ex.kit_v (x : Ex K S C fI nm) : PySem.W.kitOne K (.ref C) (.type "ValueError") = some true := by
  unfold PySem.W.kitOne PySem.W.kitCls
  rw [if_neg (by intro q; cases (beq_iff_eq.mp q))]
  dsimp only
  rw [if_pos (by decide +kernel)]
  show PySem.W.mroIn K C _ = _
  rw [x.mro]
  simp [veTail]
end
/-- an error of the class C, with fields or without -/
def ErrO (H : Hp) (a C : Addr) : Prop := H a = some (exo a C none) ∨ ∃ fs, ErrAt H a C fs
theorem ErrAt.o {H : Hp} {a C : Addr} {fs : List (Str × V)} (h : ErrAt H a C fs) : ErrO H a C := Or.inr ⟨fs, h⟩
section
variable {X : Cx}
/-- isinstance(e, c), e an error -/
def rIsE1 (K : PySem.W.Frag) : List V → Hp → VK → Prop := fun xs H Q => ∃ (a S C fI : Addr) (nm : Str) (c : V) (u : Value) (b : Bool), xs = [.ref a, c] ∧ Gx K ∧ Ex K S C fI nm ∧ ErrO H a C ∧ ClsV c u ∧ PySem.W.kitOne K (.ref C) u = some b ∧ Q (.bl b) H
def rIsET (K : PySem.W.Frag) : List V → Hp → VK → Prop := fun xs H Q => ∃ (a tp S C fI : Addr) (nm : Str) (cs : List V) (us : List Value) (b : Bool), xs = [.ref a, .ref tp] ∧ H tp = some (.tup cs) ∧ Gx K ∧ Ex K S C fI nm ∧ ErrO H a C ∧ Paired ClsV cs us ∧ PySem.W.kitAny K (.ref C) us = some b ∧ Q (.bl b) H
theorem exo_inst {pins : List (Addr × Obj)} {σ : L2.St} {H : Hp} {s : Shared} {a C : Addr} (I : Inv X pins σ H s) (e : ErrO H a C) : ∃ ox od, PySem.W.InstAt s.heap a ox C od := by
  rcases e with e | ⟨fs, dx, e, ed⟩
  · obtain ⟨t1, ho⟩ := exo_at I.hok e
    exact ⟨_, none, ho, rfl, rfl, trivial⟩
  · obtain ⟨t1, ho⟩ := exo_at I.hok e
    obtain ⟨mA, hns, hr⟩ := exd_at I.hok ed
    obtain ⟨od, hod, hl⟩ := lookIn_ns hns
    exact ⟨_, some od, ho, rfl, rfl, hod⟩
theorem call_isE1 : CallR X (.builtin "isinstance") (rIsE1 X.K) := by
  intro pins s σ H xs us Q I r h
  obtain ⟨a, S, C, fI, nm, c, u, b, rfl, G, x, e, k, q, w⟩ := h
  obtain ⟨u1, u2, rfl, r1, r2⟩ := vals2 r
  obtain rfl : u1 = Value.ref a := r1
  have ec := k.eq r2
  subst ec
  obtain ⟨ox, od, J⟩ := exo_inst I e
  obtain ⟨cd, hc, _⟩ := x.cls
  exact PySem.W.kia_one (PySem.W.kitx_exc (by rw [hc]; rfl) x.ga x.gg x.exc x.ca G.hn G.tk ((x.mro _).trans (by simp [veTail]))) I.kIn J q (fun z => nomatch z) fun tk => ⟨.bl b, H, I.tok _, rfl, w⟩
theorem call_isET : CallR X (.builtin "isinstance") (rIsET X.K) := by
  intro pins s σ H xs us Q I r h
  obtain ⟨a, tp, S, C, fI, nm, cs, ws, b, rfl, hT, G, x, e, k, q, w⟩ := h
  obtain ⟨u1, u2, rfl, r1, r2⟩ := vals2 r
  obtain rfl : u1 = Value.ref a := r1
  cases (show u2 = Value.ref tp from r2)
  obtain ⟨ox, od, J⟩ := exo_inst I e
  obtain ⟨cd, hc, _⟩ := x.cls
  obtain ⟨_, its, rv, o, h1, h2, n, h3⟩ := (show ObjOk X.prog X.w H s.heap tp (.tup cs) from I.hok tp _ hT)
  have e3 := ClsV.all k rv
  subst e3
  obtain ⟨oc, od', dt, sl⟩ := o
  simp only at h2 h3
  subst h2 h3
  exact PySem.W.kia_tup (PySem.W.kitx_exc (by rw [hc]; rfl) x.ga x.gg x.exc x.ca G.hn G.tk ((x.mro _).trans (by simp [veTail]))) I.kIn J h1 q (fun z => nomatch z) fun tk => ⟨.bl b, H, I.tok _, rfl, w⟩
theorem uIsE : CallR X (.builtin "isinstance") (fun xs H Q => rIsE1 X.K xs H Q ∨ rIsET X.K xs H Q) := CallR.or' call_isE1 call_isET
end
/-! ## the bodies of their __init__ -/
abbrev tText (ts : List TE) : TE := fun σ H Q => tJs ts Str.empty σ H fun out H1 => Q (.str out) H1
section
variable {K : PySem.W.Frag} {S C fI a : Addr} {nm f g lit lit2 : Str} {H : Hp} {Q : VK} {σ : L2.St} {D : Ends} {v u : V} {e e2 : PyData}
theorem err0_body (X : Ex K S C fI nm) (ha : H a = some (exo a C none)) (h0 : σ[0]? = some (some (.ref a))) (k : D.nx σ H) : tDrop (tVeI K (tCons (tVar 0) (tCons (tC (.str lit)) tNil))) D σ H :=
  ⟨_, h0, a, C, _, rfl, by simp, X.oex, ha, k⟩
theorem err1_body (X : Ex K S C fI nm) (A : NoAttr K C f) (ha : H a = some (exo a C none)) (s : Sh K H v e) (n : Shn e) (h0 : σ[0]? = some (some (.ref a))) (h1 : σ[1]? = some (some v)) (hl : lit.length ≤ 1000)
    (k : ∀ H', (∀ x o, H x = some o → x ≠ a → H' x = some o) → ErrAt H' a C [(f, v)] → D.nx σ H') :
    tSeq (tDrop (tVeI K (tCons (tVar 0) (tCons (tText [tC (.str lit), tFmtA K (tVar 1)]) tNil)))) (tOst K f (tVar 0) (tVar 1)) D σ H := by
  refine ⟨_, h0, ⟨_, rfl, cat_len (m := 0) (n := 1000) (Nat.le_refl _) hl (by decide), _, h1, e, s, n, _, rfl, ?_, ?_⟩⟩
  · exact shn_len n (cat_len (m := 0) (n := 1000) (Nat.le_refl _) hl (by decide))
  · refine ⟨a, C, _, rfl, by simp, X.oex, ha, ?_⟩
    refine ⟨_, h1, _, h0, a, C, rfl, X.oex, A, Or.inl ⟨ha, fun dx hd ne => k _ (fun x o h nx => ?_) ⟨dx, upd_same, ?_⟩⟩⟩
    · rw [upd_ne nx, upd_ne (ne_of_none h hd)]; exact h
    · rw [upd_ne ne, upd_same]
theorem err2_body (X : Ex K S C fI nm) (A : NoAttr K C f) (B : NoAttr K C g) (ha : H a = some (exo a C none)) (s : Sh K H v e) (n : Shn e) (s2 : Sh K H u e2) (n2 : Shn e2) (h0 : σ[0]? = some (some (.ref a))) (h1 : σ[1]? = some (some v)) (h2 : σ[2]? = some (some u))
    (hl : lit.length ≤ 1000) (hl2 : lit2.length ≤ 900) (k : ∀ H', (∀ x o, H x = some o → x ≠ a → H' x = some o) → ErrAt H' a C [(g, u), (f, v)] → D.nx σ H') :
    tSeq (tDrop (tVeI K (tCons (tVar 0) (tCons (tText [tC (.str lit), tFmtA K (tVar 1), tC (.str lit2), tFmtA K (tVar 2)]) tNil)))) (tSeq (tOst K f (tVar 0) (tVar 1)) (tOst K g (tVar 0) (tVar 2))) D σ H := by
  have z1 : (Str.empty ++ lit).length ≤ 1000 := cat_len (m := 0) (n := 1000) (Nat.le_refl _) hl (by decide)
  have z2 : (Str.empty ++ lit ++ e.shown).length ≤ 3000 := cat_len z1 n.sz (by decide)
  have z3 : (Str.empty ++ lit ++ e.shown ++ lit2).length ≤ 3900 := cat_len z2 hl2 (by decide)
  refine ⟨_, h0, ⟨_, rfl, Nat.le_trans z1 (by decide), _, h1, e, s, n, _, rfl, Nat.le_trans z2 (by decide), ⟨_, rfl, Nat.le_trans z3 (by decide), _, h2, e2, s2, n2, _, rfl, shn_len n2 (Nat.le_trans z3 (by decide)), ?_⟩⟩⟩
  refine ⟨a, C, _, rfl, by simp, X.oex, ha, ?_⟩
  refine ⟨_, h1, _, h0, a, C, rfl, X.oex, A, Or.inl ⟨ha, fun dx hd ne => ?_⟩⟩
  have hne : a ≠ dx := Ne.symm ne
  refine ⟨_, h2, _, h0, a, C, rfl, X.oex, B, Or.inr ⟨dx, [(f, v)], upd_same, by rw [upd_ne ne, upd_same], by simp, ?_⟩⟩
  refine k _ (fun x o h nx => ?_) ⟨dx, by rw [upd_ne hne, upd_same], upd_same⟩
  have nd := ne_of_none h hd
  rw [upd_ne nd, upd_ne nx, upd_ne nd]; exact h
end
/-! ## bindings by name -/
section
variable {P : Program} {w : World} {K : PySem.W.Frag} {mg : Str → Option Value} {base : Heap} {CX : CXT} {k : Nat} {f : Addr} {sp : Sp} {fd : FuncData} {p q r : Str}
theorem FnOG.key11 (F : FnOG P w K mg base CX k f fd [p, q] sp) (len : ∀ vs H Q E, sp vs H Q E → vs.length = 2) (h : ∀ a b : Value, bindArgs fd ⟨[a], [(q, b)]⟩ = pure [(p, a), (q, b)]) : FnGk P w K mg base CX k f [q] g11 sp := by
  intro A out z G us ws vs zs Q E ng room env r rz prom
  have ln := len _ _ _ _ prom
  match vs, us, zs, ws, r, rz, ln, prom with
  | [_], [u], [_], [b], .cons r1 .nil, .cons r2 .nil, _, prom => exact F A out z G ⟨[u], [(q, b)]⟩ [u, b] _ Q E ng room env (.of_eq (h u b)) rfl (.cons r1 (.cons r2 .nil)) prom
  | [], [], _, _, .nil, _, ln, _ => cases ln
  | [_], [_], [], [], .cons _ .nil, .nil, ln, _ => cases ln
  | [_], [_], _ :: _ :: _, _ :: _ :: _, .cons _ .nil, .cons _ (.cons _ _), ln, _ => cases ln
  | _ :: _ :: _, _ :: _ :: _, _, _, .cons _ (.cons _ _), _, ln, _ => cases ln
theorem FnOG.key12 (F : FnOG P w K mg base CX k f fd [p, q, r] sp) (len : ∀ vs H Q E, sp vs H Q E → vs.length = 3) (h : ∀ a b c : Value, bindArgs fd ⟨[a], [(r, b), (q, c)]⟩ = pure [(p, a), (q, c), (r, b)]) : FnGk P w K mg base CX k f [r, q] g12 sp := by
  intro A out z G us ws vs zs Q E ng room env r0 rz prom
  have ln := len _ _ _ _ prom
  match vs, us, zs, ws, r0, rz, ln, prom with
  | [_], [u], [_, _], [b, c], .cons r1 .nil, .cons r2 (.cons r3 .nil), _, prom => exact F A out z G ⟨[u], [(r, b), (q, c)]⟩ [u, c, b] _ Q E ng room env (.of_eq (h u b c)) rfl (.cons r1 (.cons r3 (.cons r2 .nil))) prom
  | [], [], _, _, .nil, _, ln, _ => cases ln
  | [_], [_], [], [], .cons _ .nil, .nil, ln, _ => cases ln
  | [_], [_], [_], [_], .cons _ .nil, .cons _ .nil, ln, _ => cases ln
  | [_], [_], _ :: _ :: _ :: _, _ :: _ :: _ :: _, .cons _ .nil, .cons _ (.cons _ (.cons _ _)), ln, _ => cases ln
  | _ :: _ :: _, _ :: _ :: _, _, _, .cons _ (.cons _ _), _, ln, _ => cases ln
end
end AZ

set_option Elab.async false
set_option maxRecDepth 100000
set_option maxHeartbeats 4000000
set_option linter.all false
/-! Own work: what stays of data; rows of errors. -/
namespace AZ
open PySem L2 PyProof.Rows
section
variable {K : PySem.W.Frag} {H H' : Hp}
theorem sqL_same {a : Addr} {xs : List V} (e : Same H H') (h : SqL K H a xs) : SqL K H' a xs := h.elim (fun h => Or.inl (h.elim (fun q => Or.inl (e _ _ q)) fun ⟨o, q⟩ => Or.inr ⟨o, e _ _ q⟩)) Or.inr
theorem sqT_same {a : Addr} {xs : List V} (e : Same H H') (h : SqT K H a xs) : SqT K H' a xs := h.elim (fun h => Or.inl (h.elim (fun q => Or.inl (e _ _ q)) fun ⟨o, q⟩ => Or.inr ⟨o, e _ _ q⟩)) Or.inr
mutual
theorem dp_same (e : Same H H') : ∀ {v : V} {d : PyData}, Dp K H v d → Dp K H' v d
  | _, _, .non => .non
  | _, _, .bl b => .bl b
  | _, _, .int i => .int i
  | _, _, .str x => .str x
  | _, _, .lst h r => .lst (sqL_same e h) (dpAll_same e r)
  | _, _, .tup h r => .tup (sqT_same e h) (dpAll_same e r)
theorem dpAll_same (e : Same H H') : ∀ {vs : List V} {ds : List PyData}, DpAll K H vs ds → DpAll K H' vs ds
  | _, _, .nil => .nil
  | _, _, .cons h r => .cons (dp_same e h) (dpAll_same e r)
end
theorem Sh.same {v : V} {d : PyData} (e : Same H H') (h : Sh K H v d) : Sh K H' v d := match h with
  | .dp h n => .dp (dp_same e h) n
  | .dict h => .dict (e _ _ h)
theorem ErrAt.same {a C : Addr} {fs : List (Str × V)} (e : Same H H') (h : ErrAt H a C fs) : ErrAt H' a C fs := let ⟨dx, x, y⟩ := h; ⟨dx, e _ _ x, e _ _ y⟩
end
/-- a pair of an error of c, with these fields, and v -/
def PairAt (v : V) (H : Hp) (p : V) (c : Addr × List (Str × V)) : Prop := ∃ t e, p = .ref t ∧ H t = some (.tup [.ref e, v]) ∧ ErrAt H e c.1 c.2
theorem PairAt.same {v p : V} {H H' : Hp} {c : Addr × List (Str × V)} (e : Same H H') (h : PairAt v H p c) : PairAt v H' p c := let ⟨t, a, x, y, z⟩ := h; ⟨t, a, x, e _ _ y, z.same e⟩
/-- a list of such pairs -/
def RowsAt (v : V) (H : Hp) (l : Addr) (cs : List (Addr × List (Str × V))) : Prop := ∃ ps, H l = some (.lst ps) ∧ Paired (PairAt v H) ps cs
theorem rows_same {v : V} {H H' : Hp} (e : Same H H') : ∀ {ps : List V} {cs : List (Addr × List (Str × V))}, Paired (PairAt v H) ps cs → Paired (PairAt v H') ps cs
  | _, _, .nil => .nil
  | _, _, .cons h r => .cons (h.same e) (rows_same e r)
theorem RowsAt.same {v : V} {H H' : Hp} {l : Addr} {cs : List (Addr × List (Str × V))} (e : Same H H') (h : RowsAt v H l cs) : RowsAt v H' l cs := let ⟨ps, x, y⟩ := h; ⟨ps, e _ _ x, rows_same e y⟩
theorem paired_append {α β : Type} {R : α → β → Prop} : ∀ {xs : List α} {ys : List β} {us : List α} {ws : List β}, Paired R xs ys → Paired R us ws → Paired R (xs ++ us) (ys ++ ws)
  | _, _, _, _, .nil, h => h
  | _, _, _, _, .cons a b, h => .cons a (paired_append b h)
/-- the reading R makes such a pair -/
def PR (K : PySem.W.Frag) (σ : L2.St) (v : V) (e : V → Hp → Prop) (R : TE) (c : Addr × List (Str × V)) : Prop := ∀ H Q, e v H → (∀ p H', Same H H' → PairAt v H' p c → Q p H') → R σ H Q
section
variable {K : PySem.W.Frag} {S C fI : Addr} {nm f g : Str} {σ : L2.St} {i j : Nat} {v u : V} {e e2 : PyData} {Q : VK} {H : Hp}
theorem same_made {a : Addr} {o : HO} {H' : Hp} (n : H a = none) (k : ∀ x o', upd H a o x = some o' → x ≠ a → H' x = some o') : Same H H' := fun b u h => by
  have nb := ne_of_none h n
  exact k b u (by rw [upd_ne nb]; exact h) nb
/-- C(v) -/
theorem mk1 (h0 : σ[i]? = some (some v)) (s : Sh K H v e) (n : Shn e) (k : ∀ a H', Same H H' → ErrAt H' a C [(f, v)] → Q (.ref a) H') : tMkE C (spErr1 K C f) (tCons (tVar i) tNil) σ H Q :=
  ⟨_, h0, (by show 1 ≤ 1000; decide), fun a ha => ⟨a, v, e, rfl, upd_same, s.same (sameNew ha), n, fun H' kp er => ⟨rfl, k a H' (same_made ha kp) er⟩⟩⟩
theorem mk1k (h0 : σ[i]? = some (some v)) (s : Sh K H v e) (n : Shn e) (k : ∀ a H', Same H H' → ErrAt H' a C [(f, v)] → Q (.ref a) H') : tMkEk C g11 (spErr1 K C f) (tCons (tVar i) tNil) σ H Q :=
  ⟨_, h0, fun a ha => ⟨a, v, e, rfl, upd_same, s.same (sameNew ha), n, fun H' kp er => ⟨rfl, k a H' (same_made ha kp) er⟩⟩⟩
theorem fld1 {te : TE} {w : V} {fs : List (Str × V)} (X : Ex K S C fI nm) (A : NoAttr K C f) (l : fs.lookup f = some w) (h : te σ H fun y H1 => ∃ a, y = .ref a ∧ ErrAt H1 a C fs ∧ Q w H1) (mono : ∀ {P P' : VK}, (∀ y H1, P y H1 → P' y H1) → te σ H P → te σ H P') : tXfA K f te σ H Q :=
  mono (fun y H1 ⟨a, e, x, q⟩ => ⟨a, C, fs, w, e, X.xf, A, x, l, q⟩) h
theorem pair1 (X : Ex K S C fI nm) (A : NoAttr K C f) (h0 : σ[i]? = some (some v)) (n : Shn e) :
    PR K σ v (fun v H => Sh K H v e) (tTup (tCons (tMkE C (spErr1 K C f) (tCons (tVar i) tNil)) (tCons (tXfA K f (tMkEk C g11 (spErr1 K C f) (tCons (tVar i) tNil))) tNil))) (C, [(f, v)]) := fun H Q s k => by
  have two : ∀ a H1, Same H H1 → ErrAt H1 a C [(f, v)] → tXfA K f (tMkEk C g11 (spErr1 K C f) (tCons (tVar i) tNil)) σ H1 fun y H2 => [V.ref a, y].length ≤ sizeLine ∧ ∀ p, H2 p = none → Q (.ref p) (upd H2 p (.tup [V.ref a, y])) := fun a H1 e1 x1 => by
    show tMkEk C g11 (spErr1 K C f) (tCons (tVar i) tNil) σ H1 _
    refine mk1k h0 (s.same e1) n fun b H2 e2 x2 => ⟨b, C, _, v, rfl, X.xf, A, x2, by simp [List.lookup], ?_⟩
    exact ⟨(by show 2 ≤ sizeLine; decide), fun t ht => k _ _ ((e1.trans e2).trans (sameNew ht)) ⟨t, a, rfl, upd_same, (x1.same e2).same (sameNew ht)⟩⟩
  have r : tMkE C (spErr1 K C f) (tCons (tVar i) tNil) σ H fun x H1 => tXfA K f (tMkEk C g11 (spErr1 K C f) (tCons (tVar i) tNil)) σ H1 fun y H2 => [x, y].length ≤ sizeLine ∧ ∀ p, H2 p = none → Q (.ref p) (upd H2 p (.tup [x, y])) := mk1 h0 s n two
  exact r
/-- a list of one or two of them -/
theorem lst1 {R : TE} {c : Addr × List (Str × V)} {I : V → Hp → Prop} (h : PR K σ v I R c) (q : I v H) (k : ∀ l H', Same H H' → RowsAt v H' l [c] → Q (.ref l) H') : tLst (tCons R tNil) σ H Q :=
  h H _ q fun p H1 e1 x => ⟨(by show 1 ≤ sizeLine; decide), fun l hl => k l _ (e1.trans (sameNew hl)) ⟨[p], upd_same, .cons (x.same (sameNew hl)) .nil⟩⟩
theorem lst2 {R R' : TE} {c c' : Addr × List (Str × V)} {I : V → Hp → Prop} (im : ∀ {H H'}, Same H H' → I v H → I v H') (h : PR K σ v I R c) (h' : PR K σ v I R' c') (q : I v H) (k : ∀ l H', Same H H' → RowsAt v H' l [c, c'] → Q (.ref l) H') : tLst (tCons R (tCons R' tNil)) σ H Q :=
  h H _ q fun p H1 e1 x => h' H1 _ (im e1 q) fun p' H2 e2 x' => ⟨(by show 2 ≤ sizeLine; decide), fun l hl => k l _ ((e1.trans e2).trans (sameNew hl)) ⟨[p, p'], upd_same, .cons ((x.same e2).same (sameNew hl)) (.cons (x'.same (sameNew hl)) .nil)⟩⟩
/-- list + list -/
theorem cat_rows {r1 r2 r4 : R2} {t1 t2 : TE} {c1 c2 : List (Addr × List (Str × V))} {l : Addr} (h1 : ∀ Q', (∀ H', H' = H → Q' (.ref l) H') → t1 σ H Q') (hl : RowsAt v H l c1) (hz : c1.length + c2.length ≤ 1000)
    (h2 : ∀ Q', (∀ b H', Same H H' → RowsAt v H' b c2 → Q' (.ref b) H') → t2 σ H Q') (k : ∀ p H', Same H H' → RowsAt v H' p (c1 ++ c2) → Q (.ref p) H') : tOp (orR r1 (orR r2 (orR rCat r4))) t1 t2 σ H Q := by
  refine h1 _ fun H' eH => ?_
  subst eH
  refine h2 _ fun b H1 e1 x => Or.inr (Or.inr (Or.inl ?_))
  obtain ⟨ps, hp, pr⟩ := hl.same e1
  obtain ⟨qs, hq, qr⟩ := x
  refine ⟨l, b, ps, qs, rfl, rfl, hp, hq, ?_, fun p hpn => k p _ (e1.trans (sameNew hpn)) ⟨ps ++ qs, upd_same, rows_same (sameNew hpn) (paired_append pr qr)⟩⟩
  rw [pr.length, qr.length]
  exact Nat.le_trans hz (by decide)
theorem PR.imp {R : TE} {c : Addr × List (Str × V)} {I I' : V → Hp → Prop} (h : PR K σ v I R c) (k : ∀ H, I' v H → I v H) : PR K σ v I' R c := fun H Q q => h H Q (k H q)
/-- C(v, u) -/
theorem mk2 (h0 : σ[i]? = some (some v)) (h1 : σ[j]? = some (some u)) (s : Sh K H v e) (n : Shn e) (s2 : Sh K H u e2) (n2 : Shn e2) (k : ∀ a H', Same H H' → ErrAt H' a C [(g, u), (f, v)] → Q (.ref a) H') : tMkE C (spErr2 K C f g) (tCons (tVar i) (tCons (tVar j) tNil)) σ H Q :=
  ⟨_, h0, _, h1, (by show 2 ≤ 1000; decide), fun a ha => ⟨a, v, u, e, e2, rfl, upd_same, s.same (sameNew ha), n, s2.same (sameNew ha), n2, fun H' kp er => ⟨rfl, k a H' (same_made ha kp) er⟩⟩⟩
theorem mk2k (h0 : σ[i]? = some (some v)) (h1 : σ[j]? = some (some u)) (s : Sh K H v e) (n : Shn e) (s2 : Sh K H u e2) (n2 : Shn e2) (k : ∀ a H', Same H H' → ErrAt H' a C [(g, u), (f, v)] → Q (.ref a) H') : tMkEk C g12 (spErr2 K C f g) (tCons (tVar j) (tCons (tVar i) tNil)) σ H Q :=
  ⟨_, h1, _, h0, fun a ha => ⟨a, v, u, e, e2, rfl, upd_same, s.same (sameNew ha), n, s2.same (sameNew ha), n2, fun H' kp er => ⟨rfl, k a H' (same_made ha kp) er⟩⟩⟩
/-- its field f or g -/
theorem fld2f {te : TE} (X : Ex K S C fI nm) (A : NoAttr K C f) (hfg : (f == g) = false) (h : ∀ Q' : VK, (∀ a H', Same H H' → ErrAt H' a C [(g, u), (f, v)] → Q' (.ref a) H') → te σ H Q') (k : ∀ H', Same H H' → Q v H') : tXfA K f te σ H Q :=
  h _ fun a H' e1 x => ⟨a, C, _, v, rfl, X.xf, A, x, by simp [List.lookup, hfg], k H' e1⟩
theorem fld2g {te : TE} (X : Ex K S C fI nm) (A : NoAttr K C g) (h : ∀ Q' : VK, (∀ a H', Same H H' → ErrAt H' a C [(g, u), (f, v)] → Q' (.ref a) H') → te σ H Q') (k : ∀ H', Same H H' → Q u H') : tXfA K g te σ H Q :=
  h _ fun a H' e1 x => ⟨a, C, _, u, rfl, X.xf, A, x, by simp [List.lookup], k H' e1⟩
theorem pair2 (X : Ex K S C fI nm) (A : NoAttr K C f) (hfg : (f == g) = false) (h0 : σ[i]? = some (some v)) (h1 : σ[j]? = some (some u)) (n : Shn e) (n2 : Shn e2) :
    PR K σ v (fun v H => Sh K H v e ∧ Sh K H u e2) (tTup (tCons (tMkE C (spErr2 K C f g) (tCons (tVar i) (tCons (tVar j) tNil))) (tCons (tXfA K f (tMkEk C g12 (spErr2 K C f g) (tCons (tVar j) (tCons (tVar i) tNil)))) tNil))) (C, [(g, u), (f, v)]) := fun H Q s k => by
  have r : tMkE C (spErr2 K C f g) (tCons (tVar i) (tCons (tVar j) tNil)) σ H fun x H1 => tXfA K f (tMkEk C g12 (spErr2 K C f g) (tCons (tVar j) (tCons (tVar i) tNil))) σ H1 fun y H2 => [x, y].length ≤ sizeLine ∧ ∀ p, H2 p = none → Q (.ref p) (upd H2 p (.tup [x, y])) :=
    mk2 h0 h1 s.1 n s.2 n2 fun a H1 e1 x1 => fld2f X A hfg (fun Q' k' => mk2k h0 h1 (s.1.same e1) n (s.2.same e1) n2 k') fun H2 e2 =>
      ⟨(by show 2 ≤ sizeLine; decide), fun t ht => k _ _ ((e1.trans e2).trans (sameNew ht)) ⟨t, a, rfl, upd_same, (x1.same e2).same (sameNew ht)⟩⟩
  exact r
end
theorem _root_.L2.Room.units70 {k : Nat} {A : Around} (r : Room k A) : A.units + 70 < cLine := by have := r.un; omega
section
variable {X : Cx} {K : PySem.W.Frag}
theorem ix_seqK (h : X.K = K) : IxR X (rIx K) := by
  subst h
  exact ix_seq
theorem call_reprSK (h : X.K = K) (ng : NoG X.A) (hu : X.A.units + 70 < cLine) : CallR X (.builtin "repr") (fun xs H Q => ∃ v d, xs = [v] ∧ Sh K H v d ∧ Shn d ∧ Q (.str d.shown) H) := by
  subst h
  exact call_reprS ng hu
theorem uIsEK (h : X.K = K) : CallR X (.builtin "isinstance") (fun xs H Q => rIsE1 K xs H Q ∨ rIsET K xs H Q) := by
  subst h
  exact uIsE
end
end AZ

namespace AZ
open PySem L2
def top (i : Nat) : Stmt := PySem.Challenge.pw_allzooms_k01_errors_and_their_fields.main.body.getD i (.Pass ⟨0, 0, 0, 0⟩)
abbrev s__law_pen : Stmt := top 28
abbrev s__law_draw : Stmt := top 29
abbrev s__law_pick : Stmt := top 30
abbrev s_BadRatio___init__ : Stmt := inClass (top 2) 0
abbrev s_BadRounding___init__ : Stmt := inClass (top 3) 0
abbrev s_BadDrawn___init__ : Stmt := inClass (top 4) 0
abbrev s_BadClaim___init__ : Stmt := inClass (top 5) 0
abbrev s_BadZooms___init__ : Stmt := inClass (top 6) 0
abbrev s_BadZoom___init__ : Stmt := inClass (top 7) 0
abbrev s_BadScroll___init__ : Stmt := inClass (top 8) 0
abbrev s_BadNumber___init__ : Stmt := inClass (top 9) 0
abbrev s_BadBox___init__ : Stmt := inClass (top 10) 0
abbrev s_BadPage___init__ : Stmt := inClass (top 11) 0
abbrev s_BadWay___init__ : Stmt := inClass (top 12) 0
abbrev s_BadStyle___init__ : Stmt := inClass (top 13) 0
abbrev s_BadDrawing___init__ : Stmt := inClass (top 14) 0
abbrev s_BadSight___init__ : Stmt := inClass (top 15) 0
abbrev s_BadScreen___init__ : Stmt := inClass (top 16) 0
abbrev s_BadLine___init__ : Stmt := inClass (top 18) 0
abbrev s_NoBox___init__ : Stmt := inClass (top 19) 0
abbrev s_NoThing___init__ : Stmt := inClass (top 20) 0
abbrev s_NoZoom___init__ : Stmt := inClass (top 21) 0
abbrev s_Taken___init__ : Stmt := inClass (top 22) 0
abbrev s_Unlike___init__ : Stmt := inClass (top 23) 0
abbrev s_Refused___init__ : Stmt := inClass (top 24) 0
abbrev s_BadText___init__ : Stmt := inClass (top 17) 0
abbrev s_TooMany___init__ : Stmt := inClass (top 26) 0
abbrev s_NoChange___init__ : Stmt := inClass (top 25) 0
abbrev s__law_of_parts : Stmt := top 31
abbrev s__law_of_values : Stmt := top 32
abbrev s__law_classes : Stmt := top 33
abbrev s__law_fields : Stmt := top 34
abbrev s__law_kept : Stmt := top 35
abbrev s_law : Stmt := top 36
theorem sc__law_pen : FnScope ["_law_script"] ["_law_script"] (defScope s__law_pen) := ⟨rfl, rfl, rfl, by decide +kernel, rfl, by decide +kernel, by decide +kernel⟩
theorem sc__law_draw : FnScope ["_law_pen_here", "_law_many", "_law_digit", "_law_spot", "_law_cell", "_law_great", "_law_mixed"] ["_law_pen_here", "_law_many"] (defScope s__law_draw) := ⟨rfl, rfl, rfl, by decide +kernel, rfl, by decide +kernel, by decide +kernel⟩
theorem sc__law_pick : FnScope ["_law_pen_here", "_law_some"] ["_law_pen_here", "_law_some"] (defScope s__law_pick) := ⟨rfl, rfl, rfl, by decide +kernel, rfl, by decide +kernel, by decide +kernel⟩
theorem sc_BadRatio___init__ : FnScope ["self", "value"] ["self", "value"] (defScope s_BadRatio___init__) := ⟨rfl, rfl, rfl, by decide +kernel, rfl, by decide +kernel, by decide +kernel⟩
theorem sc_BadRounding___init__ : FnScope ["self", "part"] ["self", "part"] (defScope s_BadRounding___init__) := ⟨rfl, rfl, rfl, by decide +kernel, rfl, by decide +kernel, by decide +kernel⟩
theorem sc_BadDrawn___init__ : FnScope ["self", "part"] ["self", "part"] (defScope s_BadDrawn___init__) := ⟨rfl, rfl, rfl, by decide +kernel, rfl, by decide +kernel, by decide +kernel⟩
theorem sc_BadClaim___init__ : FnScope ["self", "part"] ["self", "part"] (defScope s_BadClaim___init__) := ⟨rfl, rfl, rfl, by decide +kernel, rfl, by decide +kernel, by decide +kernel⟩
theorem sc_BadZooms___init__ : FnScope ["self", "part"] ["self", "part"] (defScope s_BadZooms___init__) := ⟨rfl, rfl, rfl, by decide +kernel, rfl, by decide +kernel, by decide +kernel⟩
theorem sc_BadZoom___init__ : FnScope ["self", "value"] ["self", "value"] (defScope s_BadZoom___init__) := ⟨rfl, rfl, rfl, by decide +kernel, rfl, by decide +kernel, by decide +kernel⟩
theorem sc_BadScroll___init__ : FnScope ["self", "value"] ["self", "value"] (defScope s_BadScroll___init__) := ⟨rfl, rfl, rfl, by decide +kernel, rfl, by decide +kernel, by decide +kernel⟩
theorem sc_BadNumber___init__ : FnScope ["self", "value"] ["self", "value"] (defScope s_BadNumber___init__) := ⟨rfl, rfl, rfl, by decide +kernel, rfl, by decide +kernel, by decide +kernel⟩
theorem sc_BadBox___init__ : FnScope ["self", "part"] ["self", "part"] (defScope s_BadBox___init__) := ⟨rfl, rfl, rfl, by decide +kernel, rfl, by decide +kernel, by decide +kernel⟩
theorem sc_BadPage___init__ : FnScope ["self", "part"] ["self", "part"] (defScope s_BadPage___init__) := ⟨rfl, rfl, rfl, by decide +kernel, rfl, by decide +kernel, by decide +kernel⟩
theorem sc_BadWay___init__ : FnScope ["self", "part"] ["self", "part"] (defScope s_BadWay___init__) := ⟨rfl, rfl, rfl, by decide +kernel, rfl, by decide +kernel, by decide +kernel⟩
theorem sc_BadStyle___init__ : FnScope ["self", "part"] ["self", "part"] (defScope s_BadStyle___init__) := ⟨rfl, rfl, rfl, by decide +kernel, rfl, by decide +kernel, by decide +kernel⟩
theorem sc_BadDrawing___init__ : FnScope ["self", "part"] ["self", "part"] (defScope s_BadDrawing___init__) := ⟨rfl, rfl, rfl, by decide +kernel, rfl, by decide +kernel, by decide +kernel⟩
theorem sc_BadSight___init__ : FnScope ["self", "at"] ["self", "at"] (defScope s_BadSight___init__) := ⟨rfl, rfl, rfl, by decide +kernel, rfl, by decide +kernel, by decide +kernel⟩
theorem sc_BadScreen___init__ : FnScope ["self", "part"] ["self", "part"] (defScope s_BadScreen___init__) := ⟨rfl, rfl, rfl, by decide +kernel, rfl, by decide +kernel, by decide +kernel⟩
theorem sc_BadLine___init__ : FnScope ["self", "word"] ["self", "word"] (defScope s_BadLine___init__) := ⟨rfl, rfl, rfl, by decide +kernel, rfl, by decide +kernel, by decide +kernel⟩
theorem sc_NoBox___init__ : FnScope ["self", "name"] ["self", "name"] (defScope s_NoBox___init__) := ⟨rfl, rfl, rfl, by decide +kernel, rfl, by decide +kernel, by decide +kernel⟩
theorem sc_NoThing___init__ : FnScope ["self", "name"] ["self", "name"] (defScope s_NoThing___init__) := ⟨rfl, rfl, rfl, by decide +kernel, rfl, by decide +kernel, by decide +kernel⟩
theorem sc_NoZoom___init__ : FnScope ["self", "zoom"] ["self", "zoom"] (defScope s_NoZoom___init__) := ⟨rfl, rfl, rfl, by decide +kernel, rfl, by decide +kernel, by decide +kernel⟩
theorem sc_Taken___init__ : FnScope ["self", "name"] ["self", "name"] (defScope s_Taken___init__) := ⟨rfl, rfl, rfl, by decide +kernel, rfl, by decide +kernel, by decide +kernel⟩
theorem sc_Unlike___init__ : FnScope ["self", "part"] ["self", "part"] (defScope s_Unlike___init__) := ⟨rfl, rfl, rfl, by decide +kernel, rfl, by decide +kernel, by decide +kernel⟩
theorem sc_Refused___init__ : FnScope ["self", "name"] ["self", "name"] (defScope s_Refused___init__) := ⟨rfl, rfl, rfl, by decide +kernel, rfl, by decide +kernel, by decide +kernel⟩
theorem sc_BadText___init__ : FnScope ["self", "line", "word"] ["self", "line", "word"] (defScope s_BadText___init__) := ⟨rfl, rfl, rfl, by decide +kernel, rfl, by decide +kernel, by decide +kernel⟩
theorem sc_TooMany___init__ : FnScope ["self", "what", "most"] ["self", "what", "most"] (defScope s_TooMany___init__) := ⟨rfl, rfl, rfl, by decide +kernel, rfl, by decide +kernel, by decide +kernel⟩
theorem sc_NoChange___init__ : FnScope ["self"] ["self"] (defScope s_NoChange___init__) := ⟨rfl, rfl, rfl, by decide +kernel, rfl, by decide +kernel, by decide +kernel⟩
theorem sc__law_of_parts : FnScope ["_law_value", "_law_found"] ["_law_value"] (defScope s__law_of_parts) := ⟨rfl, rfl, rfl, by decide +kernel, rfl, by decide +kernel, by decide +kernel⟩
theorem sc__law_of_values : FnScope ["_law_value", "_law_more", "_law_found"] ["_law_value", "_law_more"] (defScope s__law_of_values) := ⟨rfl, rfl, rfl, by decide +kernel, rfl, by decide +kernel, by decide +kernel⟩
theorem sc__law_classes : FnScope ["_law_error", "_law_told", "_law_at"] ["_law_error"] (defScope s__law_classes) := ⟨rfl, rfl, rfl, by decide +kernel, rfl, by decide +kernel, by decide +kernel⟩
theorem sc__law_fields : FnScope ["_law_pairs_so", "_law_value", "_law_error", "_law_kept_here"] ["_law_pairs_so", "_law_value"] (defScope s__law_fields) := ⟨rfl, rfl, rfl, by decide +kernel, rfl, by decide +kernel, by decide +kernel⟩
theorem sc__law_kept : FnScope ["_law_error"] ["_law_error"] (defScope s__law_kept) := ⟨rfl, rfl, rfl, by decide +kernel, rfl, by decide +kernel, by decide +kernel⟩
theorem sc_law : FnScope ["_law_script", "_law_pen_here", "_law_turn", "_law_value", "_law_more", "_law_made", "_law_error", "_law_kept_here", "_law_at", "_law_told"] ["_law_script"] (defScope s_law) := ⟨rfl, rfl, rfl, by decide +kernel, rfl, by decide +kernel, by decide +kernel⟩
/-- where the defs and classes stand -/
structure Ad where
  (_law_pen _law_draw _law_pick BadRatio___init__ SnapError BadRatio BadRounding___init__ BadRounding BadDrawn___init__ BadDrawn BadClaim___init__ BadClaim BadZooms___init__ BadZooms BadZoom___init__ BadZoom BadScroll___init__ BadScroll BadNumber___init__ BadNumber BadBox___init__ BadBox BadPage___init__ BadPage BadWay___init__ BadWay BadStyle___init__ BadStyle BadDrawing___init__ BadDrawing BadSight___init__ BadSight BadScreen___init__ BadScreen BadLine___init__ BadLine NoBox___init__ NoBox NoThing___init__ NoThing NoZoom___init__ NoZoom Taken___init__ Taken Unlike___init__ Unlike Refused___init__ Refused BadText___init__ BadText TooMany___init__ TooMany NoChange___init__ NoChange _law_of_parts _law_of_values _law_classes _law_fields _law_kept law : Addr)
/-- what the walk asks of the text's top -/
structure Tx (K : PySem.W.Frag) (mg : Str → Option Value) (d : Ad) : Prop where
  F__law_pen : ∃ fd, Fun K "_law_pen" "_law_pen" s__law_pen d._law_pen fd
  n_list : mg "list" = none
  F__law_draw : ∃ fd, Fun K "_law_draw" "_law_draw" s__law_draw d._law_draw fd
  n_int : mg "int" = none
  n_len : mg "len" = none
  n_abs : mg "abs" = none
  F__law_pick : ∃ fd, Fun K "_law_pick" "_law_pick" s__law_pick d._law_pick fd
  k__law_draw : PySem.W.keepIn K (.ref d._law_draw) = true
  m__law_draw : mg "_law_draw" = some (.ref d._law_draw)
  F_BadRatio___init__ : ∃ fd, Fun K "__init__" "BadRatio.__init__" s_BadRatio___init__ d.BadRatio___init__ fd
  vi_SnapError : VInit K d.SnapError
  m_SnapError : mg "SnapError" = some (.ref d.SnapError)
  ex_BadRatio : Ex K d.SnapError d.BadRatio d.BadRatio___init__ "BadRatio"
  a_BadRatio_value : NoAttr K d.BadRatio "value"
  F_BadRounding___init__ : ∃ fd, Fun K "__init__" "BadRounding.__init__" s_BadRounding___init__ d.BadRounding___init__ fd
  ex_BadRounding : Ex K d.SnapError d.BadRounding d.BadRounding___init__ "BadRounding"
  a_BadRounding_part : NoAttr K d.BadRounding "part"
  F_BadDrawn___init__ : ∃ fd, Fun K "__init__" "BadDrawn.__init__" s_BadDrawn___init__ d.BadDrawn___init__ fd
  ex_BadDrawn : Ex K d.SnapError d.BadDrawn d.BadDrawn___init__ "BadDrawn"
  a_BadDrawn_part : NoAttr K d.BadDrawn "part"
  F_BadClaim___init__ : ∃ fd, Fun K "__init__" "BadClaim.__init__" s_BadClaim___init__ d.BadClaim___init__ fd
  ex_BadClaim : Ex K d.SnapError d.BadClaim d.BadClaim___init__ "BadClaim"
  a_BadClaim_part : NoAttr K d.BadClaim "part"
  F_BadZooms___init__ : ∃ fd, Fun K "__init__" "BadZooms.__init__" s_BadZooms___init__ d.BadZooms___init__ fd
  ex_BadZooms : Ex K d.SnapError d.BadZooms d.BadZooms___init__ "BadZooms"
  a_BadZooms_part : NoAttr K d.BadZooms "part"
  F_BadZoom___init__ : ∃ fd, Fun K "__init__" "BadZoom.__init__" s_BadZoom___init__ d.BadZoom___init__ fd
  ex_BadZoom : Ex K d.SnapError d.BadZoom d.BadZoom___init__ "BadZoom"
  a_BadZoom_value : NoAttr K d.BadZoom "value"
  F_BadScroll___init__ : ∃ fd, Fun K "__init__" "BadScroll.__init__" s_BadScroll___init__ d.BadScroll___init__ fd
  ex_BadScroll : Ex K d.SnapError d.BadScroll d.BadScroll___init__ "BadScroll"
  a_BadScroll_value : NoAttr K d.BadScroll "value"
  F_BadNumber___init__ : ∃ fd, Fun K "__init__" "BadNumber.__init__" s_BadNumber___init__ d.BadNumber___init__ fd
  ex_BadNumber : Ex K d.SnapError d.BadNumber d.BadNumber___init__ "BadNumber"
  a_BadNumber_value : NoAttr K d.BadNumber "value"
  F_BadBox___init__ : ∃ fd, Fun K "__init__" "BadBox.__init__" s_BadBox___init__ d.BadBox___init__ fd
  ex_BadBox : Ex K d.SnapError d.BadBox d.BadBox___init__ "BadBox"
  a_BadBox_part : NoAttr K d.BadBox "part"
  F_BadPage___init__ : ∃ fd, Fun K "__init__" "BadPage.__init__" s_BadPage___init__ d.BadPage___init__ fd
  ex_BadPage : Ex K d.SnapError d.BadPage d.BadPage___init__ "BadPage"
  a_BadPage_part : NoAttr K d.BadPage "part"
  F_BadWay___init__ : ∃ fd, Fun K "__init__" "BadWay.__init__" s_BadWay___init__ d.BadWay___init__ fd
  ex_BadWay : Ex K d.SnapError d.BadWay d.BadWay___init__ "BadWay"
  a_BadWay_part : NoAttr K d.BadWay "part"
  F_BadStyle___init__ : ∃ fd, Fun K "__init__" "BadStyle.__init__" s_BadStyle___init__ d.BadStyle___init__ fd
  ex_BadStyle : Ex K d.SnapError d.BadStyle d.BadStyle___init__ "BadStyle"
  a_BadStyle_part : NoAttr K d.BadStyle "part"
  F_BadDrawing___init__ : ∃ fd, Fun K "__init__" "BadDrawing.__init__" s_BadDrawing___init__ d.BadDrawing___init__ fd
  ex_BadDrawing : Ex K d.SnapError d.BadDrawing d.BadDrawing___init__ "BadDrawing"
  a_BadDrawing_part : NoAttr K d.BadDrawing "part"
  F_BadSight___init__ : ∃ fd, Fun K "__init__" "BadSight.__init__" s_BadSight___init__ d.BadSight___init__ fd
  ex_BadSight : Ex K d.SnapError d.BadSight d.BadSight___init__ "BadSight"
  a_BadSight_at : NoAttr K d.BadSight "at"
  F_BadScreen___init__ : ∃ fd, Fun K "__init__" "BadScreen.__init__" s_BadScreen___init__ d.BadScreen___init__ fd
  ex_BadScreen : Ex K d.SnapError d.BadScreen d.BadScreen___init__ "BadScreen"
  a_BadScreen_part : NoAttr K d.BadScreen "part"
  F_BadLine___init__ : ∃ fd, Fun K "__init__" "BadLine.__init__" s_BadLine___init__ d.BadLine___init__ fd
  ex_BadLine : Ex K d.SnapError d.BadLine d.BadLine___init__ "BadLine"
  a_BadLine_word : NoAttr K d.BadLine "word"
  F_NoBox___init__ : ∃ fd, Fun K "__init__" "NoBox.__init__" s_NoBox___init__ d.NoBox___init__ fd
  ex_NoBox : Ex K d.SnapError d.NoBox d.NoBox___init__ "NoBox"
  a_NoBox_name : NoAttr K d.NoBox "name"
  F_NoThing___init__ : ∃ fd, Fun K "__init__" "NoThing.__init__" s_NoThing___init__ d.NoThing___init__ fd
  ex_NoThing : Ex K d.SnapError d.NoThing d.NoThing___init__ "NoThing"
  a_NoThing_name : NoAttr K d.NoThing "name"
  F_NoZoom___init__ : ∃ fd, Fun K "__init__" "NoZoom.__init__" s_NoZoom___init__ d.NoZoom___init__ fd
  ex_NoZoom : Ex K d.SnapError d.NoZoom d.NoZoom___init__ "NoZoom"
  a_NoZoom_zoom : NoAttr K d.NoZoom "zoom"
  F_Taken___init__ : ∃ fd, Fun K "__init__" "Taken.__init__" s_Taken___init__ d.Taken___init__ fd
  ex_Taken : Ex K d.SnapError d.Taken d.Taken___init__ "Taken"
  a_Taken_name : NoAttr K d.Taken "name"
  F_Unlike___init__ : ∃ fd, Fun K "__init__" "Unlike.__init__" s_Unlike___init__ d.Unlike___init__ fd
  ex_Unlike : Ex K d.SnapError d.Unlike d.Unlike___init__ "Unlike"
  a_Unlike_part : NoAttr K d.Unlike "part"
  F_Refused___init__ : ∃ fd, Fun K "__init__" "Refused.__init__" s_Refused___init__ d.Refused___init__ fd
  ex_Refused : Ex K d.SnapError d.Refused d.Refused___init__ "Refused"
  a_Refused_name : NoAttr K d.Refused "name"
  F_BadText___init__ : ∃ fd, Fun K "__init__" "BadText.__init__" s_BadText___init__ d.BadText___init__ fd
  ex_BadText : Ex K d.SnapError d.BadText d.BadText___init__ "BadText"
  a_BadText_line : NoAttr K d.BadText "line"
  a_BadText_word : NoAttr K d.BadText "word"
  F_TooMany___init__ : ∃ fd, Fun K "__init__" "TooMany.__init__" s_TooMany___init__ d.TooMany___init__ fd
  ex_TooMany : Ex K d.SnapError d.TooMany d.TooMany___init__ "TooMany"
  a_TooMany_what : NoAttr K d.TooMany "what"
  a_TooMany_most : NoAttr K d.TooMany "most"
  F_NoChange___init__ : ∃ fd, Fun K "__init__" "NoChange.__init__" s_NoChange___init__ d.NoChange___init__ fd
  ex_NoChange : Ex K d.SnapError d.NoChange d.NoChange___init__ "NoChange"
  F__law_of_parts : ∃ fd, Fun K "_law_of_parts" "_law_of_parts" s__law_of_parts d._law_of_parts fd
  m_BadRounding : mg "BadRounding" = some (.ref d.BadRounding)
  m_BadDrawn : mg "BadDrawn" = some (.ref d.BadDrawn)
  m_BadClaim : mg "BadClaim" = some (.ref d.BadClaim)
  m_BadZooms : mg "BadZooms" = some (.ref d.BadZooms)
  m_BadBox : mg "BadBox" = some (.ref d.BadBox)
  m_BadPage : mg "BadPage" = some (.ref d.BadPage)
  m_BadWay : mg "BadWay" = some (.ref d.BadWay)
  m_BadStyle : mg "BadStyle" = some (.ref d.BadStyle)
  m_BadDrawing : mg "BadDrawing" = some (.ref d.BadDrawing)
  m_BadScreen : mg "BadScreen" = some (.ref d.BadScreen)
  m_Unlike : mg "Unlike" = some (.ref d.Unlike)
  F__law_of_values : ∃ fd, Fun K "_law_of_values" "_law_of_values" s__law_of_values d._law_of_values fd
  m_BadRatio : mg "BadRatio" = some (.ref d.BadRatio)
  m_BadZoom : mg "BadZoom" = some (.ref d.BadZoom)
  m_BadScroll : mg "BadScroll" = some (.ref d.BadScroll)
  m_BadNumber : mg "BadNumber" = some (.ref d.BadNumber)
  m_BadSight : mg "BadSight" = some (.ref d.BadSight)
  m_BadLine : mg "BadLine" = some (.ref d.BadLine)
  m_NoBox : mg "NoBox" = some (.ref d.NoBox)
  m_NoThing : mg "NoThing" = some (.ref d.NoThing)
  m_NoZoom : mg "NoZoom" = some (.ref d.NoZoom)
  m_Taken : mg "Taken" = some (.ref d.Taken)
  m_Refused : mg "Refused" = some (.ref d.Refused)
  m_BadText : mg "BadText" = some (.ref d.BadText)
  m_TooMany : mg "TooMany" = some (.ref d.TooMany)
  sx_SnapError : Sx K d.SnapError "SnapError"
  gx_object : Gx K
  F__law_classes : ∃ fd, Fun K "_law_classes" "_law_classes" s__law_classes d._law_classes fd
  n_isinstance : mg "isinstance" = none
  m_NoChange : mg "NoChange" = some (.ref d.NoChange)
  n_range : mg "range" = none
  F__law_fields : ∃ fd, Fun K "_law_fields" "_law_fields" s__law_fields d._law_fields fd
  n_repr : mg "repr" = none
  F__law_kept : ∃ fd, Fun K "_law_kept" "_law_kept" s__law_kept d._law_kept fd
  F_law : ∃ fd, Fun K "law" "law" s_law d.law fd
  k__law_pen : PySem.W.keepIn K (.ref d._law_pen) = true
  m__law_pen : mg "_law_pen" = some (.ref d._law_pen)
  k__law_pick : PySem.W.keepIn K (.ref d._law_pick) = true
  m__law_pick : mg "_law_pick" = some (.ref d._law_pick)
  k__law_of_parts : PySem.W.keepIn K (.ref d._law_of_parts) = true
  m__law_of_parts : mg "_law_of_parts" = some (.ref d._law_of_parts)
  k__law_of_values : PySem.W.keepIn K (.ref d._law_of_values) = true
  m__law_of_values : mg "_law_of_values" = some (.ref d._law_of_values)
  k__law_fields : PySem.W.keepIn K (.ref d._law_fields) = true
  m__law_fields : mg "_law_fields" = some (.ref d._law_fields)
  k__law_classes : PySem.W.keepIn K (.ref d._law_classes) = true
  m__law_classes : mg "_law_classes" = some (.ref d._law_classes)
  n_ValueError : mg "ValueError" = none
  k__law_kept : PySem.W.keepIn K (.ref d._law_kept) = true
  m__law_kept : mg "_law_kept" = some (.ref d._law_kept)
  m_law : mg "law" = some (.ref d.law)
end AZ
namespace AZ
open PySem L2
/-- a pen: its list at l, the spot at most n -/
def PenAt (H : Hp) (p : Addr) (n : Nat) : Prop := ∃ (l : Addr) (ns : List Int) (spot great : Int), l ≠ p ∧ H p = some (.lst [.ref l, .int spot, .int great]) ∧ H l = some (.lst (ns.map V.int)) ∧ ns.length ≤ 63 ∧ 0 ≤ spot ∧ spot ≤ n
def spPen (K : PySem.W.Frag) : Sp := fun vs H Q _ => ∃ (a : Addr) (ns : List Int), vs = [.ref a] ∧ SqL K H a (ns.map V.int) ∧ ns.length ≤ 63 ∧ ∀ p H', H p = none → Same H H' → PenAt H' p 0 → Q (.ref p) H'
def spDraw : Sp := fun vs H Q _ => ∃ (p : Addr) (n : Nat) (many : Int), vs = [.ref p, .int many] ∧ PenAt H p n ∧ n < 100000 ∧ 0 < many ∧ many ≤ 1000 ∧
  ∀ d H', 0 ≤ d → d < many → PenAt H' p (n + 1) → Up p H H' → Q (.int d) H'
/-- a list beside the pen, or a tuple, at s -/
def SeqAt' (H : Hp) (p s : Addr) (xs : List V) : Prop := (H s = some (.lst xs) ∧ s ≠ p) ∨ H s = some (.tup xs)
theorem SeqAt'.up {H H' : Hp} {p s : Addr} {xs : List V} (h : SeqAt' H p s xs) (e : Up p H H') : SeqAt' H' p s xs := h.elim (fun h => Or.inl ⟨e.lst h.1 h.2, h.2⟩) fun h => Or.inr (e.tup h)
def spPick : Sp := fun vs H Q _ => ∃ (p s : Addr) (n : Nat) (xs : List V), vs = [.ref p, .ref s] ∧ PenAt H p n ∧ n < 100000 ∧ SeqAt' H p s xs ∧ 0 < xs.length ∧ xs.length ≤ 1000 ∧
  ∀ x H', x ∈ xs → PenAt H' p (n + 1) → Up p H H' → Q x H'
section
variable {P : Program} {w : World} {K : PySem.W.Frag} {mg : Str → Option Value} {base : Heap} {d : Ad}
theorem G__law_pen (T : Tx K mg d) : FnR P w K mg base CX0 1 d._law_pen (spPen K) := by
  obtain ⟨fd, F⟩ := T.F__law_pen
  refine FnR.imp (FnOk.raw (F.ok sc__law_pen (sp := spPen K) (fun vs H Q E h => ?_) (fun cdv A outer s H vs Q E hr h => ?_)) (F.binds fun _ _ _ _ _ _ us hl => match us, hl with | [_], _ => rfl) .nil) fun vs H Q E h => by rw [List.append_nil]; exact h
  · obtain ⟨a, ns, rfl, _⟩ := h
    rfl
  · obtain ⟨a, ns, rfl, hS, hlen, k⟩ := h
    -- slots: 0 _law_script
    refine ⟨_, (pss_one (ps_ret (pe_lst (pa_cons (pe_callTy call_list_of (by rfl) T.n_list (by decide +kernel) (pa_cons (pe_slice sl_list (pv 0) po_none (po_some pe_int)) pa_nil)) (pa_cons pe_int (pa_cons pe_int pa_nil)))))), ?_⟩
    refine ⟨_, rfl, _, rfl, a, _, rfl, hS, fun q hq => ⟨_, _, rfl, .inl (SqL.of upd_same), fun l hl => ⟨(by show 3 ≤ sizeLine; decide), fun p hp => ?_⟩⟩⟩
    have h1 : Same H (upd H q (.lst (cutV (ns.map V.int) none (some 60)))) := fun b o e => by rw [upd_ne (ne_of_none e hq)]; exact e
    have h2 : Same H (upd (upd H q (.lst (cutV (ns.map V.int) none (some 60)))) l (.lst (cutV (ns.map V.int) none (some 60)))) := h1.trans fun b o e => by rw [upd_ne (ne_of_none e hl)]; exact e
    have hlp : l ≠ p := ne_of_none upd_same hp
    refine k p _ ((h2).free hp) (h2.trans fun b o e => by rw [upd_ne (ne_of_none e hp)]; exact e) ⟨l, (ns.drop (HT.sIx ns.length 0 none)).take (HT.sIx ns.length ns.length (some 60) - HT.sIx ns.length 0 none), 0, 0, hlp, upd_same, ?_, ?_, Int.le_refl _, Int.le_refl _⟩
    · rw [upd_ne hlp, upd_same]
      unfold cutV
      rw [List.map_take, List.map_drop, List.length_map]
    · rw [List.length_take, List.length_drop]
      omega
theorem pen_ix0 {K : PySem.W.Frag} {H : Hp} {p : Addr} {a b c : V} (h : H p = some (.lst [a, b, c])) : SqL K H p [a, b, c] := SqL.of h
theorem G__law_draw (T : Tx K mg d) : FnR P w K mg base CX0 1 d._law_draw spDraw := by
  obtain ⟨fd, F⟩ := T.F__law_draw
  refine FnR.imp (FnOk.raw (F.ok sc__law_draw (sp := spDraw) (fun vs H Q E h => ?_) (fun cdv A outer s H vs Q E hr h => ?_)) (F.binds fun _ _ _ _ _ _ us hl => match us, hl with | [_, _], _ => rfl) .nil) fun vs H Q E h => by rw [List.append_nil]; exact h
  · obtain ⟨p, n, many, rfl, _⟩ := h
    rfl
  · obtain ⟨p, n, many, rfl, ⟨l, ns, spot, great, hlp, hp, hl, hlen, hs0, hsn⟩, hn, hm0, hm1, k⟩ := h
    -- slots: 0 _law_pen_here, 1 _law_many, 2 _law_digit, 3 _law_spot, 4 _law_cell, 5 _law_great, 6 _law_mixed
    refine ⟨_, (pss_cons (ps_if (pt_cmpR uGt (pe_ix ix_seq (pv 0) pe_int (fun _ _ => rfl)) pe_int (nomark _)) (pss_cons (ps_set (i := 2) sc__law_draw.nd rfl (Or.inl rfl) (pe_op uMod (pe_callTy call_int1 (by rfl) T.n_int (by decide +kernel) (pa_cons (pe_ix ix_seq (pv 0) pe_int (fun _ _ => rfl)) pa_nil)) (pv 1)))
      (pss_cons (ps_asg (pe_op uDiv (pe_callTy call_int1 (by rfl) T.n_int (by decide +kernel) (pa_cons (pe_ix ix_seq (pv 0) pe_int (fun _ _ => rfl)) pa_nil)) (pv 1)) (pg_sub (pv 0) pe_int set_list))
      (pss_one (ps_ret (pv 2))))) pss_nil)
      (pss_cons (ps_set (i := 3) sc__law_draw.nd rfl (Or.inl rfl) (pe_ix ix_seq (pv 0) pe_int (fun _ _ => rfl)))
      (pss_cons (ps_asg (pe_op uAdd (pv 3) pe_int) (pg_sub (pv 0) pe_int set_list))
      (pss_cons (ps_set (i := 4) sc__law_draw.nd rfl (Or.inl rfl) (pe_op uAdd (pe_op uMul pe_int (pv 3)) pe_int))
      (pss_cons (ps_if (pt_cmpR (uNe hr.units) (pe_ix ix_seq (pv 0) pe_int (fun _ _ => rfl)) (pe_lst pa_nil) (nomark _)) (pss_one (ps_set (i := 4) sc__law_draw.nd rfl (Or.inl rfl) (pe_ix ix_seq (pe_ix ix_seq (pv 0) pe_int (fun _ _ => rfl)) (pe_op uMod (pe_callTy call_int1 (by rfl) T.n_int (by decide +kernel) (pa_cons (pv 3) pa_nil)) (pe_callB call_len_seq (by rfl) T.n_len (by decide +kernel) (pa_cons (pe_ix ix_seq (pv 0) pe_int (fun _ _ => rfl)) pa_nil))) (fun _ _ => rfl)))) pss_nil)
      (pss_cons (ps_if (PW.pt (pw_and (pt_cmpR uLt (pv 3) (pe_callB call_len_seq (by rfl) T.n_len (by decide +kernel) (pa_cons (pe_ix ix_seq (pv 0) pe_int (fun _ _ => rfl)) pa_nil)) (nomark _)) (pw_and1 (pt_cmpR uGe (pe_callB call_abs (by rfl) T.n_abs (by decide +kernel) (pa_cons (pv 4) pa_nil)) (pe_op op_pow pe_int pe_int) (nomark _))))) (pss_cons (ps_set (i := 5) sc__law_draw.nd rfl (Or.inl rfl) (pe_op uAdd (pe_op uMul pe_int (pe_op uSub (pe_callB call_abs (by rfl) T.n_abs (by decide +kernel) (pa_cons (pv 4) pa_nil)) (pe_op op_pow pe_int pe_int))) (pe_callTy call_int1 (by rfl) T.n_int (by decide +kernel) (pa_cons (pe_cmpR uLt (pv 4) pe_int (nomark _)) pa_nil))))
      (pss_cons (ps_asg (pe_op uDiv (pe_callTy call_int1 (by rfl) T.n_int (by decide +kernel) (pa_cons (pv 5) pa_nil)) (pv 1)) (pg_sub (pv 0) pe_int set_list))
      (pss_one (ps_ret (pe_op uMod (pe_callTy call_int1 (by rfl) T.n_int (by decide +kernel) (pa_cons (pv 5) pa_nil)) (pv 1)))))) pss_nil)
      (pss_cons (ps_set (i := 6) sc__law_draw.nd rfl (Or.inl rfl) (pe_op uMod (pe_callTy call_int1 (by rfl) T.n_int (by decide +kernel) (pa_cons (pe_op op_pow (pe_op uAdd (pe_op uAdd (pe_op uMod (pe_callTy call_int1 (by rfl) T.n_int (by decide +kernel) (pa_cons (pv 4) pa_nil)) pe_int) (pe_op uMul pe_int (pv 3))) pe_int) pe_int) pa_nil)) pe_int))
      (pss_cons (ps_set (i := 6) sc__law_draw.nd rfl (Or.inl rfl) (pe_op uMod (pe_callTy call_int1 (by rfl) T.n_int (by decide +kernel) (pa_cons (pe_op op_pow (pe_op uAdd (pe_op uAdd (pe_op uMul (pv 6) (pe_op uAdd (pe_op uMul pe_int (pv 3)) pe_int)) (pe_op uMul (pe_op uMul pe_int (pv 3)) (pv 3))) pe_int) pe_int) pa_nil)) pe_int))
      (pss_one (ps_ret (pe_op uMod (pe_callTy call_int1 (by rfl) T.n_int (by decide +kernel) (pa_cons (pe_op uDiv (pv 6) pe_int) pa_nil)) (pv 1)))))))))))), ?_⟩
    refine ⟨_, rfl, Or.inl ⟨p, _, 2, _, rfl, rfl, SqL.of hp, at_of (j := 2) rfl rfl, Or.inl ⟨_, _, rfl, rfl, _, rfl, ite2 (fun hg => ?_) (fun hg => ?_)⟩⟩⟩
    · refine ⟨_, rfl, Or.inl ⟨p, _, 2, _, rfl, rfl, SqL.of hp, at_of (j := 2) rfl rfl, Or.inl ⟨_, rfl, _, rfl, Or.inl ⟨_, _, rfl, rfl, by omega, ?_⟩⟩⟩⟩
      refine ⟨_, rfl, Or.inl ⟨p, _, 2, _, rfl, rfl, SqL.of hp, at_of (j := 2) rfl rfl, Or.inl ⟨_, rfl, _, rfl, Or.inl ⟨_, _, rfl, rfl, small_div hm0 (by omega), ?_⟩⟩⟩⟩
      refine ⟨_, rfl, p, _, _, 2, rfl, rfl, hp, rfl, ?_⟩
      refine ⟨_, rfl, ?_⟩
      exact k _ _ (fm0 hm0).1 (fm0 hm0).2 ⟨l, ns, spot, great.fdiv many, hlp, upd_same, by rw [upd_ne hlp]; exact hl, hlen, hs0, by omega⟩ (Up.put hp)
    · refine ⟨_, rfl, Or.inl ⟨p, _, 1, _, rfl, rfl, SqL.of hp, at_of (j := 1) rfl rfl, ?_⟩⟩
      refine ⟨_, rfl, Or.inl ⟨_, _, rfl, rfl, ?_⟩⟩
      refine ⟨_, rfl, p, _, _, 1, rfl, rfl, hp, rfl, ?_⟩
      refine ⟨_, rfl, Or.inl ⟨_, _, rfl, rfl, mulL (by decide), Or.inl ⟨_, _, rfl, rfl, ?_⟩⟩⟩
      have hl1 : upd H p (.lst [.ref l, .int (spot + 1), .int great]) l = some (.lst (ns.map V.int)) := by rw [upd_ne hlp]; exact hl
      have hp1 : upd H p (.lst [.ref l, .int (spot + 1), .int great]) p = some (.lst [.ref l, .int (spot + 1), .int great]) := upd_same
      refine ⟨_, rfl, Or.inl ⟨p, _, 0, _, rfl, rfl, SqL.of hp1, at_of (j := 0) rfl rfl, (by show 0 ≤ sizeLine; decide), fun e he => ?_⟩⟩
      have hpe : p ≠ e := ne_of_none hp1 he
      have hle : l ≠ e := ne_of_none hl1 he
      have hl2 : upd (upd H p (.lst [.ref l, .int (spot + 1), .int great])) e (.lst []) l = some (.lst (ns.map V.int)) := by rw [upd_ne hle]; exact hl1
      have hp2 : upd (upd H p (.lst [.ref l, .int (spot + 1), .int great])) e (.lst []) p = some (.lst [.ref l, .int (spot + 1), .int great]) := by rw [upd_ne hpe]; exact hp1
      refine Or.inr ⟨.list (ns.map PyData.int), .list [], .lst (SqL.of hl2) (dp_ints ns), .lst (SqL.of upd_same) .nil, shaped_ints ns, shaped_ints [], _, rfl, ite2 (fun hc => ?A) (fun hc => ?B)⟩
      case' A =>
        have hne : 0 < ns.length := by
          rw [eqv_nil] at hc
          cases ns with
          | nil => simp at hc
          | cons a r => simp
        obtain ⟨hj0, hj1⟩ := fm0 (a := spot) (b := (ns.length : Int)) (by omega)
        obtain ⟨j, hj⟩ : ∃ j : Nat, spot.fmod ns.length = (j : Int) := ⟨(spot.fmod ns.length).toNat, by omega⟩
        obtain ⟨c, hcj⟩ : ∃ c, ns[j]? = some c := ⟨ns[j]'(by omega), List.getElem?_eq_getElem _⟩
        refine ⟨_, rfl, Or.inl ⟨p, _, 0, _, rfl, rfl, SqL.of hp2, at_of (j := 0) rfl rfl, ?_⟩⟩
        refine ⟨_, rfl, Or.inl ⟨_, rfl, _, rfl, Or.inl ⟨p, _, 0, _, rfl, rfl, SqL.of hp2, at_of (j := 0) rfl rfl, ⟨_, _, rfl, Or.inl (SqL.of hl2), Or.inl ⟨_, _, rfl, rfl, (by rw [List.length_map]; omega), ?_⟩⟩⟩⟩⟩
        refine Or.inl ⟨l, _, _, .int c, rfl, rfl, SqL.of hl2, at_of (j := j) (by rw [List.length_map]; exact hj) (by rw [List.getElem?_map, hcj]; rfl), ?_⟩
      case' B => generalize 70277 * spot + 11035 = c
      all_goals
        have up1 : Up p H (upd (upd H p (.lst [.ref l, .int (spot + 1), .int great])) e (.lst [])) := (Up.put hp).new' he
        refine ⟨_, rfl, _, rfl, Or.inl ⟨p, _, 0, _, rfl, rfl, SqL.of hp2, at_of (j := 0) rfl rfl, ⟨_, _, rfl, Or.inl (SqL.of hl2), Or.inl ⟨_, _, rfl, rfl, _, rfl, ite2 (fun h1 => ?_) (fun h1 => ?_)⟩⟩⟩⟩
        · refine ⟨_, rfl, ⟨_, rfl, ⟨_, _, rfl, rfl, ⟨by decide, by decide, by decide⟩, Or.inl ⟨_, _, rfl, rfl, _, rfl, ite2 (fun h2 => ?_) (fun h2 => ?_)⟩⟩⟩⟩
          · refine ⟨_, rfl, ⟨_, rfl, ⟨_, _, rfl, rfl, ⟨by decide, by decide, by decide⟩, Or.inl ⟨_, _, rfl, rfl, Or.inl ⟨_, _, rfl, rfl, mulL (by decide), ⟨_, rfl, Or.inl ⟨_, _, rfl, rfl, Or.inr ⟨_, rfl, Or.inl ⟨_, _, rfl, rfl, ?_⟩⟩⟩⟩⟩⟩⟩⟩⟩
            refine ⟨_, rfl, Or.inl ⟨_, rfl, _, rfl, Or.inl ⟨_, _, rfl, rfl, small_div hm0 (by omega), ?_⟩⟩⟩
            refine ⟨_, rfl, p, _, _, 2, rfl, rfl, hp2, rfl, ?_⟩
            refine ⟨_, rfl, Or.inl ⟨_, rfl, _, rfl, Or.inl ⟨_, _, rfl, rfl, by omega, ?_⟩⟩⟩
            exact k _ _ (fm0 hm0).1 (fm0 hm0).2 ⟨l, ns, spot + 1, _, hlp, upd_same, by rw [upd_ne hlp]; exact hl2, hlen, by omega, by omega⟩ (up1.trans (Up.put hp2))
          · refine ⟨_, rfl, Or.inl ⟨_, rfl, Or.inl ⟨_, _, rfl, rfl, nz (by decide), ⟨_, rfl, Or.inl ⟨_, _, rfl, rfl, mulL (by decide), Or.inl ⟨_, _, rfl, rfl, Or.inl ⟨_, _, rfl, rfl, ⟨_, _, rfl, rfl, ⟨by decide, by decide, stir1 (by decide) (by decide) (by decide) (by decide) (by decide) (by decide) hs0 (by omega)⟩, Or.inl ⟨_, rfl, Or.inl ⟨_, _, rfl, rfl, nz (by decide), ?_⟩⟩⟩⟩⟩⟩⟩⟩⟩⟩
            refine ⟨_, rfl, ⟨_, rfl, Or.inl ⟨_, _, rfl, rfl, mulL (by decide), Or.inl ⟨_, _, rfl, rfl, Or.inl ⟨_, _, rfl, rfl, stir3 (by decide) (by decide) _, ⟨_, rfl, Or.inl ⟨_, _, rfl, rfl, mulL (by decide), ⟨_, rfl, Or.inl ⟨_, _, rfl, rfl, stir4 (by decide) (by decide) hs0 (by omega) _, Or.inl ⟨_, _, rfl, rfl, Or.inl ⟨_, _, rfl, rfl, ⟨_, _, rfl, rfl, ⟨by decide, by decide, stir2 (by decide) (by decide) (by decide) (by decide) (by decide) (by decide) (by decide) (by decide) hs0 (by omega)⟩, Or.inl ⟨_, rfl, Or.inl ⟨_, _, rfl, rfl, nz (by decide), ?_⟩⟩⟩⟩⟩⟩⟩⟩⟩⟩⟩⟩⟩⟩
            refine ⟨_, rfl, Or.inl ⟨_, _, rfl, rfl, small_div (by decide) (by decide), Or.inl ⟨_, rfl, ⟨_, rfl, Or.inl ⟨_, _, rfl, rfl, by omega, ?_⟩⟩⟩⟩⟩
            exact k _ _ (fm0 hm0).1 (fm0 hm0).2 ⟨l, ns, spot + 1, great, hlp, hp2, hl2, hlen, by omega, by omega⟩ up1
        · refine ⟨_, rfl, Or.inl ⟨_, rfl, Or.inl ⟨_, _, rfl, rfl, nz (by decide), ⟨_, rfl, Or.inl ⟨_, _, rfl, rfl, mulL (by decide), Or.inl ⟨_, _, rfl, rfl, Or.inl ⟨_, _, rfl, rfl, ⟨_, _, rfl, rfl, ⟨by decide, by decide, stir1 (by decide) (by decide) (by decide) (by decide) (by decide) (by decide) hs0 (by omega)⟩, Or.inl ⟨_, rfl, Or.inl ⟨_, _, rfl, rfl, nz (by decide), ?_⟩⟩⟩⟩⟩⟩⟩⟩⟩⟩
          refine ⟨_, rfl, ⟨_, rfl, Or.inl ⟨_, _, rfl, rfl, mulL (by decide), Or.inl ⟨_, _, rfl, rfl, Or.inl ⟨_, _, rfl, rfl, stir3 (by decide) (by decide) _, ⟨_, rfl, Or.inl ⟨_, _, rfl, rfl, mulL (by decide), ⟨_, rfl, Or.inl ⟨_, _, rfl, rfl, stir4 (by decide) (by decide) hs0 (by omega) _, Or.inl ⟨_, _, rfl, rfl, Or.inl ⟨_, _, rfl, rfl, ⟨_, _, rfl, rfl, ⟨by decide, by decide, stir2 (by decide) (by decide) (by decide) (by decide) (by decide) (by decide) (by decide) (by decide) hs0 (by omega)⟩, Or.inl ⟨_, rfl, Or.inl ⟨_, _, rfl, rfl, nz (by decide), ?_⟩⟩⟩⟩⟩⟩⟩⟩⟩⟩⟩⟩⟩⟩
          refine ⟨_, rfl, Or.inl ⟨_, _, rfl, rfl, small_div (by decide) (by decide), Or.inl ⟨_, rfl, ⟨_, rfl, Or.inl ⟨_, _, rfl, rfl, by omega, ?_⟩⟩⟩⟩⟩
          exact k _ _ (fm0 hm0).1 (fm0 hm0).2 ⟨l, ns, spot + 1, great, hlp, hp2, hl2, hlen, by omega, by omega⟩ up1
theorem G__law_pick (T : Tx K mg d) : FnR P w K mg base CX0 2 d._law_pick spPick := by
  obtain ⟨fd, F⟩ := T.F__law_pick
  have G__law_draw : FnR P w K mg base CX0 1 d._law_draw spDraw := G__law_draw T
  refine FnR.imp (FnOk.raw (F.ok sc__law_pick (sp := spPick) (fun vs H Q E h => ?_) (fun cdv A outer s H vs Q E hr h => ?_)) (F.binds fun _ _ _ _ _ _ us hl => match us, hl with | [_, _], _ => rfl) .nil) fun vs H Q E h => by rw [List.append_nil]; exact h
  · obtain ⟨p, s, n, xs, rfl, _⟩ := h
    rfl
  · obtain ⟨p, a, n, xs, rfl, hp, hn, hs, hx0, hx1, k⟩ := h
    -- slots: 0 _law_pen_here, 1 _law_some
    refine ⟨_, (pss_one (ps_ret (pe_ix ix_seq (pv 1) (pe_fnR G__law_draw (hr.mono (by decide)) T.k__law_draw T.m__law_draw pass0 (pa_cons (pv 0) (pa_cons (pe_callB call_len_seq (by rfl) T.n_len (by decide +kernel) (pa_cons (pv 1) pa_nil)) pa_nil))) (fun _ _ => rfl)))), ?_⟩
    refine ⟨_, rfl, _, rfl, _, rfl, ⟨_, xs, rfl, hs.elim (fun h => Or.inl (SqL.of h.1)) (fun h => Or.inr (SqT.of h)), ⟨p, n, _, rfl, hp, hn, by omega, by omega, fun e H' h0 h1 hp' up => ?_⟩⟩⟩
    obtain ⟨j, rfl⟩ : ∃ j : Nat, e = (j : Int) := ⟨e.toNat, by omega⟩
    have hj : j < xs.length := by omega
    have q := k xs[j] H' (List.getElem_mem hj) hp' up
    rcases hs.up up with h | h
    · exact Or.inl ⟨a, xs, _, _, rfl, rfl, SqL.of h.1, atI_nat (List.getElem?_eq_getElem hj), q⟩
    · exact Or.inr (Or.inl ⟨a, xs, _, _, rfl, rfl, SqT.of h, atI_nat (List.getElem?_eq_getElem hj), q⟩)
end

end AZ
namespace AZ
open PySem L2
/-! ## the errors -/
section
variable {P : Program} {w : World} {K : PySem.W.Frag} {mg : Str → Option Value} {base : Heap} {d : Ad}
theorem O_BadRatio___init__ (T : Tx K mg d) : ∃ fd, FnOG P w K mg base CX0 1 d.BadRatio___init__ fd ["self", "value"] (spErr1 K d.BadRatio "value") ∧ Fun K "__init__" "BadRatio.__init__" s_BadRatio___init__ d.BadRatio___init__ fd := by
  obtain ⟨fd, F⟩ := T.F_BadRatio___init__
  refine ⟨fd, fnOG (k := 0) F sc_BadRatio___init__ (sp := spErr1 K d.BadRatio "value") (fun vs H Q E h => ?_) (fun cdv A outer s H vs Q E ng hr h => ?_), F⟩
  · obtain ⟨a, v, e, rfl, _⟩ := h
    rfl
  · obtain ⟨a, v, e, rfl, ha, S, n, k⟩ := h
    -- slots: 0 self, 1 value
    refine ⟨_, (pss_cons (ps_expr (pe_sinit T.vi_SnapError rfl T.m_SnapError (pa_cons (pv 0) (pa_cons (pe_joined (PJ.cons pe_str (PJ.cons (pe_fmtA ng hr.units (pv 1)) PJ.nil))) pa_nil))))
      (pss_one (ps_ost (pv 0) (pv 1)))), ?_⟩
    exact err1_body T.ex_BadRatio T.a_BadRatio_value ha S n rfl rfl (by decide) k
theorem G_BadRatio___init__ (T : Tx K mg d) : FnG P w K mg base CX0 1 d.BadRatio___init__ (spErr1 K d.BadRatio "value") := by
  obtain ⟨fd, O, F⟩ := O_BadRatio___init__ T
  exact O.pos (fun vs H Q E h => by obtain ⟨a, v, e, rfl, _⟩ := h; rfl) (F.binds fun _ _ _ _ _ _ us hl => match us, hl with | [_, _], _ => rfl)
theorem GK_BadRatio___init__ (T : Tx K mg d) : FnGk P w K mg base CX0 1 d.BadRatio___init__ ["value"] g11 (spErr1 K d.BadRatio "value") := by
  obtain ⟨fd, O, F⟩ := O_BadRatio___init__ T
  refine O.key11 (fun vs H Q E h => by obtain ⟨a, v, e, rfl, _⟩ := h; rfl) ?_
  obtain ⟨oc, od, kV, doc, pm, an, cdv, ct, osl, rfl, lk, hcd⟩ := F.ex
  exact fun a b => rfl
theorem O_BadRounding___init__ (T : Tx K mg d) : ∃ fd, FnOG P w K mg base CX0 1 d.BadRounding___init__ fd ["self", "part"] (spErr1 K d.BadRounding "part") ∧ Fun K "__init__" "BadRounding.__init__" s_BadRounding___init__ d.BadRounding___init__ fd := by
  obtain ⟨fd, F⟩ := T.F_BadRounding___init__
  refine ⟨fd, fnOG (k := 0) F sc_BadRounding___init__ (sp := spErr1 K d.BadRounding "part") (fun vs H Q E h => ?_) (fun cdv A outer s H vs Q E ng hr h => ?_), F⟩
  · obtain ⟨a, v, e, rfl, _⟩ := h
    rfl
  · obtain ⟨a, v, e, rfl, ha, S, n, k⟩ := h
    -- slots: 0 self, 1 part
    refine ⟨_, (pss_cons (ps_expr (pe_sinit T.vi_SnapError rfl T.m_SnapError (pa_cons (pv 0) (pa_cons (pe_joined (PJ.cons pe_str (PJ.cons (pe_fmtA ng hr.units (pv 1)) PJ.nil))) pa_nil))))
      (pss_one (ps_ost (pv 0) (pv 1)))), ?_⟩
    exact err1_body T.ex_BadRounding T.a_BadRounding_part ha S n rfl rfl (by decide) k
theorem G_BadRounding___init__ (T : Tx K mg d) : FnG P w K mg base CX0 1 d.BadRounding___init__ (spErr1 K d.BadRounding "part") := by
  obtain ⟨fd, O, F⟩ := O_BadRounding___init__ T
  exact O.pos (fun vs H Q E h => by obtain ⟨a, v, e, rfl, _⟩ := h; rfl) (F.binds fun _ _ _ _ _ _ us hl => match us, hl with | [_, _], _ => rfl)
theorem GK_BadRounding___init__ (T : Tx K mg d) : FnGk P w K mg base CX0 1 d.BadRounding___init__ ["part"] g11 (spErr1 K d.BadRounding "part") := by
  obtain ⟨fd, O, F⟩ := O_BadRounding___init__ T
  refine O.key11 (fun vs H Q E h => by obtain ⟨a, v, e, rfl, _⟩ := h; rfl) ?_
  obtain ⟨oc, od, kV, doc, pm, an, cdv, ct, osl, rfl, lk, hcd⟩ := F.ex
  exact fun a b => rfl
theorem O_BadDrawn___init__ (T : Tx K mg d) : ∃ fd, FnOG P w K mg base CX0 1 d.BadDrawn___init__ fd ["self", "part"] (spErr1 K d.BadDrawn "part") ∧ Fun K "__init__" "BadDrawn.__init__" s_BadDrawn___init__ d.BadDrawn___init__ fd := by
  obtain ⟨fd, F⟩ := T.F_BadDrawn___init__
  refine ⟨fd, fnOG (k := 0) F sc_BadDrawn___init__ (sp := spErr1 K d.BadDrawn "part") (fun vs H Q E h => ?_) (fun cdv A outer s H vs Q E ng hr h => ?_), F⟩
  · obtain ⟨a, v, e, rfl, _⟩ := h
    rfl
  · obtain ⟨a, v, e, rfl, ha, S, n, k⟩ := h
    -- slots: 0 self, 1 part
    refine ⟨_, (pss_cons (ps_expr (pe_sinit T.vi_SnapError rfl T.m_SnapError (pa_cons (pv 0) (pa_cons (pe_joined (PJ.cons pe_str (PJ.cons (pe_fmtA ng hr.units (pv 1)) PJ.nil))) pa_nil))))
      (pss_one (ps_ost (pv 0) (pv 1)))), ?_⟩
    exact err1_body T.ex_BadDrawn T.a_BadDrawn_part ha S n rfl rfl (by decide) k
theorem G_BadDrawn___init__ (T : Tx K mg d) : FnG P w K mg base CX0 1 d.BadDrawn___init__ (spErr1 K d.BadDrawn "part") := by
  obtain ⟨fd, O, F⟩ := O_BadDrawn___init__ T
  exact O.pos (fun vs H Q E h => by obtain ⟨a, v, e, rfl, _⟩ := h; rfl) (F.binds fun _ _ _ _ _ _ us hl => match us, hl with | [_, _], _ => rfl)
theorem GK_BadDrawn___init__ (T : Tx K mg d) : FnGk P w K mg base CX0 1 d.BadDrawn___init__ ["part"] g11 (spErr1 K d.BadDrawn "part") := by
  obtain ⟨fd, O, F⟩ := O_BadDrawn___init__ T
  refine O.key11 (fun vs H Q E h => by obtain ⟨a, v, e, rfl, _⟩ := h; rfl) ?_
  obtain ⟨oc, od, kV, doc, pm, an, cdv, ct, osl, rfl, lk, hcd⟩ := F.ex
  exact fun a b => rfl
theorem O_BadClaim___init__ (T : Tx K mg d) : ∃ fd, FnOG P w K mg base CX0 1 d.BadClaim___init__ fd ["self", "part"] (spErr1 K d.BadClaim "part") ∧ Fun K "__init__" "BadClaim.__init__" s_BadClaim___init__ d.BadClaim___init__ fd := by
  obtain ⟨fd, F⟩ := T.F_BadClaim___init__
  refine ⟨fd, fnOG (k := 0) F sc_BadClaim___init__ (sp := spErr1 K d.BadClaim "part") (fun vs H Q E h => ?_) (fun cdv A outer s H vs Q E ng hr h => ?_), F⟩
  · obtain ⟨a, v, e, rfl, _⟩ := h
    rfl
  · obtain ⟨a, v, e, rfl, ha, S, n, k⟩ := h
    -- slots: 0 self, 1 part
    refine ⟨_, (pss_cons (ps_expr (pe_sinit T.vi_SnapError rfl T.m_SnapError (pa_cons (pv 0) (pa_cons (pe_joined (PJ.cons pe_str (PJ.cons (pe_fmtA ng hr.units (pv 1)) PJ.nil))) pa_nil))))
      (pss_one (ps_ost (pv 0) (pv 1)))), ?_⟩
    exact err1_body T.ex_BadClaim T.a_BadClaim_part ha S n rfl rfl (by decide) k
theorem G_BadClaim___init__ (T : Tx K mg d) : FnG P w K mg base CX0 1 d.BadClaim___init__ (spErr1 K d.BadClaim "part") := by
  obtain ⟨fd, O, F⟩ := O_BadClaim___init__ T
  exact O.pos (fun vs H Q E h => by obtain ⟨a, v, e, rfl, _⟩ := h; rfl) (F.binds fun _ _ _ _ _ _ us hl => match us, hl with | [_, _], _ => rfl)
theorem GK_BadClaim___init__ (T : Tx K mg d) : FnGk P w K mg base CX0 1 d.BadClaim___init__ ["part"] g11 (spErr1 K d.BadClaim "part") := by
  obtain ⟨fd, O, F⟩ := O_BadClaim___init__ T
  refine O.key11 (fun vs H Q E h => by obtain ⟨a, v, e, rfl, _⟩ := h; rfl) ?_
  obtain ⟨oc, od, kV, doc, pm, an, cdv, ct, osl, rfl, lk, hcd⟩ := F.ex
  exact fun a b => rfl
theorem O_BadZooms___init__ (T : Tx K mg d) : ∃ fd, FnOG P w K mg base CX0 1 d.BadZooms___init__ fd ["self", "part"] (spErr1 K d.BadZooms "part") ∧ Fun K "__init__" "BadZooms.__init__" s_BadZooms___init__ d.BadZooms___init__ fd := by
  obtain ⟨fd, F⟩ := T.F_BadZooms___init__
  refine ⟨fd, fnOG (k := 0) F sc_BadZooms___init__ (sp := spErr1 K d.BadZooms "part") (fun vs H Q E h => ?_) (fun cdv A outer s H vs Q E ng hr h => ?_), F⟩
  · obtain ⟨a, v, e, rfl, _⟩ := h
    rfl
  · obtain ⟨a, v, e, rfl, ha, S, n, k⟩ := h
    -- slots: 0 self, 1 part
    refine ⟨_, (pss_cons (ps_expr (pe_sinit T.vi_SnapError rfl T.m_SnapError (pa_cons (pv 0) (pa_cons (pe_joined (PJ.cons pe_str (PJ.cons (pe_fmtA ng hr.units (pv 1)) PJ.nil))) pa_nil))))
      (pss_one (ps_ost (pv 0) (pv 1)))), ?_⟩
    exact err1_body T.ex_BadZooms T.a_BadZooms_part ha S n rfl rfl (by decide) k
theorem G_BadZooms___init__ (T : Tx K mg d) : FnG P w K mg base CX0 1 d.BadZooms___init__ (spErr1 K d.BadZooms "part") := by
  obtain ⟨fd, O, F⟩ := O_BadZooms___init__ T
  exact O.pos (fun vs H Q E h => by obtain ⟨a, v, e, rfl, _⟩ := h; rfl) (F.binds fun _ _ _ _ _ _ us hl => match us, hl with | [_, _], _ => rfl)
theorem GK_BadZooms___init__ (T : Tx K mg d) : FnGk P w K mg base CX0 1 d.BadZooms___init__ ["part"] g11 (spErr1 K d.BadZooms "part") := by
  obtain ⟨fd, O, F⟩ := O_BadZooms___init__ T
  refine O.key11 (fun vs H Q E h => by obtain ⟨a, v, e, rfl, _⟩ := h; rfl) ?_
  obtain ⟨oc, od, kV, doc, pm, an, cdv, ct, osl, rfl, lk, hcd⟩ := F.ex
  exact fun a b => rfl
theorem O_BadZoom___init__ (T : Tx K mg d) : ∃ fd, FnOG P w K mg base CX0 1 d.BadZoom___init__ fd ["self", "value"] (spErr1 K d.BadZoom "value") ∧ Fun K "__init__" "BadZoom.__init__" s_BadZoom___init__ d.BadZoom___init__ fd := by
  obtain ⟨fd, F⟩ := T.F_BadZoom___init__
  refine ⟨fd, fnOG (k := 0) F sc_BadZoom___init__ (sp := spErr1 K d.BadZoom "value") (fun vs H Q E h => ?_) (fun cdv A outer s H vs Q E ng hr h => ?_), F⟩
  · obtain ⟨a, v, e, rfl, _⟩ := h
    rfl
  · obtain ⟨a, v, e, rfl, ha, S, n, k⟩ := h
    -- slots: 0 self, 1 value
    refine ⟨_, (pss_cons (ps_expr (pe_sinit T.vi_SnapError rfl T.m_SnapError (pa_cons (pv 0) (pa_cons (pe_joined (PJ.cons pe_str (PJ.cons (pe_fmtA ng hr.units (pv 1)) PJ.nil))) pa_nil))))
      (pss_one (ps_ost (pv 0) (pv 1)))), ?_⟩
    exact err1_body T.ex_BadZoom T.a_BadZoom_value ha S n rfl rfl (by decide) k
theorem G_BadZoom___init__ (T : Tx K mg d) : FnG P w K mg base CX0 1 d.BadZoom___init__ (spErr1 K d.BadZoom "value") := by
  obtain ⟨fd, O, F⟩ := O_BadZoom___init__ T
  exact O.pos (fun vs H Q E h => by obtain ⟨a, v, e, rfl, _⟩ := h; rfl) (F.binds fun _ _ _ _ _ _ us hl => match us, hl with | [_, _], _ => rfl)
theorem GK_BadZoom___init__ (T : Tx K mg d) : FnGk P w K mg base CX0 1 d.BadZoom___init__ ["value"] g11 (spErr1 K d.BadZoom "value") := by
  obtain ⟨fd, O, F⟩ := O_BadZoom___init__ T
  refine O.key11 (fun vs H Q E h => by obtain ⟨a, v, e, rfl, _⟩ := h; rfl) ?_
  obtain ⟨oc, od, kV, doc, pm, an, cdv, ct, osl, rfl, lk, hcd⟩ := F.ex
  exact fun a b => rfl
theorem O_BadScroll___init__ (T : Tx K mg d) : ∃ fd, FnOG P w K mg base CX0 1 d.BadScroll___init__ fd ["self", "value"] (spErr1 K d.BadScroll "value") ∧ Fun K "__init__" "BadScroll.__init__" s_BadScroll___init__ d.BadScroll___init__ fd := by
  obtain ⟨fd, F⟩ := T.F_BadScroll___init__
  refine ⟨fd, fnOG (k := 0) F sc_BadScroll___init__ (sp := spErr1 K d.BadScroll "value") (fun vs H Q E h => ?_) (fun cdv A outer s H vs Q E ng hr h => ?_), F⟩
  · obtain ⟨a, v, e, rfl, _⟩ := h
    rfl
  · obtain ⟨a, v, e, rfl, ha, S, n, k⟩ := h
    -- slots: 0 self, 1 value
    refine ⟨_, (pss_cons (ps_expr (pe_sinit T.vi_SnapError rfl T.m_SnapError (pa_cons (pv 0) (pa_cons (pe_joined (PJ.cons pe_str (PJ.cons (pe_fmtA ng hr.units (pv 1)) PJ.nil))) pa_nil))))
      (pss_one (ps_ost (pv 0) (pv 1)))), ?_⟩
    exact err1_body T.ex_BadScroll T.a_BadScroll_value ha S n rfl rfl (by decide) k
theorem G_BadScroll___init__ (T : Tx K mg d) : FnG P w K mg base CX0 1 d.BadScroll___init__ (spErr1 K d.BadScroll "value") := by
  obtain ⟨fd, O, F⟩ := O_BadScroll___init__ T
  exact O.pos (fun vs H Q E h => by obtain ⟨a, v, e, rfl, _⟩ := h; rfl) (F.binds fun _ _ _ _ _ _ us hl => match us, hl with | [_, _], _ => rfl)
theorem GK_BadScroll___init__ (T : Tx K mg d) : FnGk P w K mg base CX0 1 d.BadScroll___init__ ["value"] g11 (spErr1 K d.BadScroll "value") := by
  obtain ⟨fd, O, F⟩ := O_BadScroll___init__ T
  refine O.key11 (fun vs H Q E h => by obtain ⟨a, v, e, rfl, _⟩ := h; rfl) ?_
  obtain ⟨oc, od, kV, doc, pm, an, cdv, ct, osl, rfl, lk, hcd⟩ := F.ex
  exact fun a b => rfl
theorem O_BadNumber___init__ (T : Tx K mg d) : ∃ fd, FnOG P w K mg base CX0 1 d.BadNumber___init__ fd ["self", "value"] (spErr1 K d.BadNumber "value") ∧ Fun K "__init__" "BadNumber.__init__" s_BadNumber___init__ d.BadNumber___init__ fd := by
  obtain ⟨fd, F⟩ := T.F_BadNumber___init__
  refine ⟨fd, fnOG (k := 0) F sc_BadNumber___init__ (sp := spErr1 K d.BadNumber "value") (fun vs H Q E h => ?_) (fun cdv A outer s H vs Q E ng hr h => ?_), F⟩
  · obtain ⟨a, v, e, rfl, _⟩ := h
    rfl
  · obtain ⟨a, v, e, rfl, ha, S, n, k⟩ := h
    -- slots: 0 self, 1 value
    refine ⟨_, (pss_cons (ps_expr (pe_sinit T.vi_SnapError rfl T.m_SnapError (pa_cons (pv 0) (pa_cons (pe_joined (PJ.cons pe_str (PJ.cons (pe_fmtA ng hr.units (pv 1)) PJ.nil))) pa_nil))))
      (pss_one (ps_ost (pv 0) (pv 1)))), ?_⟩
    exact err1_body T.ex_BadNumber T.a_BadNumber_value ha S n rfl rfl (by decide) k
theorem G_BadNumber___init__ (T : Tx K mg d) : FnG P w K mg base CX0 1 d.BadNumber___init__ (spErr1 K d.BadNumber "value") := by
  obtain ⟨fd, O, F⟩ := O_BadNumber___init__ T
  exact O.pos (fun vs H Q E h => by obtain ⟨a, v, e, rfl, _⟩ := h; rfl) (F.binds fun _ _ _ _ _ _ us hl => match us, hl with | [_, _], _ => rfl)
theorem GK_BadNumber___init__ (T : Tx K mg d) : FnGk P w K mg base CX0 1 d.BadNumber___init__ ["value"] g11 (spErr1 K d.BadNumber "value") := by
  obtain ⟨fd, O, F⟩ := O_BadNumber___init__ T
  refine O.key11 (fun vs H Q E h => by obtain ⟨a, v, e, rfl, _⟩ := h; rfl) ?_
  obtain ⟨oc, od, kV, doc, pm, an, cdv, ct, osl, rfl, lk, hcd⟩ := F.ex
  exact fun a b => rfl
theorem O_BadBox___init__ (T : Tx K mg d) : ∃ fd, FnOG P w K mg base CX0 1 d.BadBox___init__ fd ["self", "part"] (spErr1 K d.BadBox "part") ∧ Fun K "__init__" "BadBox.__init__" s_BadBox___init__ d.BadBox___init__ fd := by
  obtain ⟨fd, F⟩ := T.F_BadBox___init__
  refine ⟨fd, fnOG (k := 0) F sc_BadBox___init__ (sp := spErr1 K d.BadBox "part") (fun vs H Q E h => ?_) (fun cdv A outer s H vs Q E ng hr h => ?_), F⟩
  · obtain ⟨a, v, e, rfl, _⟩ := h
    rfl
  · obtain ⟨a, v, e, rfl, ha, S, n, k⟩ := h
    -- slots: 0 self, 1 part
    refine ⟨_, (pss_cons (ps_expr (pe_sinit T.vi_SnapError rfl T.m_SnapError (pa_cons (pv 0) (pa_cons (pe_joined (PJ.cons pe_str (PJ.cons (pe_fmtA ng hr.units (pv 1)) PJ.nil))) pa_nil))))
      (pss_one (ps_ost (pv 0) (pv 1)))), ?_⟩
    exact err1_body T.ex_BadBox T.a_BadBox_part ha S n rfl rfl (by decide) k
theorem G_BadBox___init__ (T : Tx K mg d) : FnG P w K mg base CX0 1 d.BadBox___init__ (spErr1 K d.BadBox "part") := by
  obtain ⟨fd, O, F⟩ := O_BadBox___init__ T
  exact O.pos (fun vs H Q E h => by obtain ⟨a, v, e, rfl, _⟩ := h; rfl) (F.binds fun _ _ _ _ _ _ us hl => match us, hl with | [_, _], _ => rfl)
theorem GK_BadBox___init__ (T : Tx K mg d) : FnGk P w K mg base CX0 1 d.BadBox___init__ ["part"] g11 (spErr1 K d.BadBox "part") := by
  obtain ⟨fd, O, F⟩ := O_BadBox___init__ T
  refine O.key11 (fun vs H Q E h => by obtain ⟨a, v, e, rfl, _⟩ := h; rfl) ?_
  obtain ⟨oc, od, kV, doc, pm, an, cdv, ct, osl, rfl, lk, hcd⟩ := F.ex
  exact fun a b => rfl
theorem O_BadPage___init__ (T : Tx K mg d) : ∃ fd, FnOG P w K mg base CX0 1 d.BadPage___init__ fd ["self", "part"] (spErr1 K d.BadPage "part") ∧ Fun K "__init__" "BadPage.__init__" s_BadPage___init__ d.BadPage___init__ fd := by
  obtain ⟨fd, F⟩ := T.F_BadPage___init__
  refine ⟨fd, fnOG (k := 0) F sc_BadPage___init__ (sp := spErr1 K d.BadPage "part") (fun vs H Q E h => ?_) (fun cdv A outer s H vs Q E ng hr h => ?_), F⟩
  · obtain ⟨a, v, e, rfl, _⟩ := h
    rfl
  · obtain ⟨a, v, e, rfl, ha, S, n, k⟩ := h
    -- slots: 0 self, 1 part
    refine ⟨_, (pss_cons (ps_expr (pe_sinit T.vi_SnapError rfl T.m_SnapError (pa_cons (pv 0) (pa_cons (pe_joined (PJ.cons pe_str (PJ.cons (pe_fmtA ng hr.units (pv 1)) PJ.nil))) pa_nil))))
      (pss_one (ps_ost (pv 0) (pv 1)))), ?_⟩
    exact err1_body T.ex_BadPage T.a_BadPage_part ha S n rfl rfl (by decide) k
theorem G_BadPage___init__ (T : Tx K mg d) : FnG P w K mg base CX0 1 d.BadPage___init__ (spErr1 K d.BadPage "part") := by
  obtain ⟨fd, O, F⟩ := O_BadPage___init__ T
  exact O.pos (fun vs H Q E h => by obtain ⟨a, v, e, rfl, _⟩ := h; rfl) (F.binds fun _ _ _ _ _ _ us hl => match us, hl with | [_, _], _ => rfl)
theorem GK_BadPage___init__ (T : Tx K mg d) : FnGk P w K mg base CX0 1 d.BadPage___init__ ["part"] g11 (spErr1 K d.BadPage "part") := by
  obtain ⟨fd, O, F⟩ := O_BadPage___init__ T
  refine O.key11 (fun vs H Q E h => by obtain ⟨a, v, e, rfl, _⟩ := h; rfl) ?_
  obtain ⟨oc, od, kV, doc, pm, an, cdv, ct, osl, rfl, lk, hcd⟩ := F.ex
  exact fun a b => rfl
theorem O_BadWay___init__ (T : Tx K mg d) : ∃ fd, FnOG P w K mg base CX0 1 d.BadWay___init__ fd ["self", "part"] (spErr1 K d.BadWay "part") ∧ Fun K "__init__" "BadWay.__init__" s_BadWay___init__ d.BadWay___init__ fd := by
  obtain ⟨fd, F⟩ := T.F_BadWay___init__
  refine ⟨fd, fnOG (k := 0) F sc_BadWay___init__ (sp := spErr1 K d.BadWay "part") (fun vs H Q E h => ?_) (fun cdv A outer s H vs Q E ng hr h => ?_), F⟩
  · obtain ⟨a, v, e, rfl, _⟩ := h
    rfl
  · obtain ⟨a, v, e, rfl, ha, S, n, k⟩ := h
    -- slots: 0 self, 1 part
    refine ⟨_, (pss_cons (ps_expr (pe_sinit T.vi_SnapError rfl T.m_SnapError (pa_cons (pv 0) (pa_cons (pe_joined (PJ.cons pe_str (PJ.cons (pe_fmtA ng hr.units (pv 1)) PJ.nil))) pa_nil))))
      (pss_one (ps_ost (pv 0) (pv 1)))), ?_⟩
    exact err1_body T.ex_BadWay T.a_BadWay_part ha S n rfl rfl (by decide) k
theorem G_BadWay___init__ (T : Tx K mg d) : FnG P w K mg base CX0 1 d.BadWay___init__ (spErr1 K d.BadWay "part") := by
  obtain ⟨fd, O, F⟩ := O_BadWay___init__ T
  exact O.pos (fun vs H Q E h => by obtain ⟨a, v, e, rfl, _⟩ := h; rfl) (F.binds fun _ _ _ _ _ _ us hl => match us, hl with | [_, _], _ => rfl)
theorem GK_BadWay___init__ (T : Tx K mg d) : FnGk P w K mg base CX0 1 d.BadWay___init__ ["part"] g11 (spErr1 K d.BadWay "part") := by
  obtain ⟨fd, O, F⟩ := O_BadWay___init__ T
  refine O.key11 (fun vs H Q E h => by obtain ⟨a, v, e, rfl, _⟩ := h; rfl) ?_
  obtain ⟨oc, od, kV, doc, pm, an, cdv, ct, osl, rfl, lk, hcd⟩ := F.ex
  exact fun a b => rfl
theorem O_BadStyle___init__ (T : Tx K mg d) : ∃ fd, FnOG P w K mg base CX0 1 d.BadStyle___init__ fd ["self", "part"] (spErr1 K d.BadStyle "part") ∧ Fun K "__init__" "BadStyle.__init__" s_BadStyle___init__ d.BadStyle___init__ fd := by
  obtain ⟨fd, F⟩ := T.F_BadStyle___init__
  refine ⟨fd, fnOG (k := 0) F sc_BadStyle___init__ (sp := spErr1 K d.BadStyle "part") (fun vs H Q E h => ?_) (fun cdv A outer s H vs Q E ng hr h => ?_), F⟩
  · obtain ⟨a, v, e, rfl, _⟩ := h
    rfl
  · obtain ⟨a, v, e, rfl, ha, S, n, k⟩ := h
    -- slots: 0 self, 1 part
    refine ⟨_, (pss_cons (ps_expr (pe_sinit T.vi_SnapError rfl T.m_SnapError (pa_cons (pv 0) (pa_cons (pe_joined (PJ.cons pe_str (PJ.cons (pe_fmtA ng hr.units (pv 1)) PJ.nil))) pa_nil))))
      (pss_one (ps_ost (pv 0) (pv 1)))), ?_⟩
    exact err1_body T.ex_BadStyle T.a_BadStyle_part ha S n rfl rfl (by decide) k
theorem G_BadStyle___init__ (T : Tx K mg d) : FnG P w K mg base CX0 1 d.BadStyle___init__ (spErr1 K d.BadStyle "part") := by
  obtain ⟨fd, O, F⟩ := O_BadStyle___init__ T
  exact O.pos (fun vs H Q E h => by obtain ⟨a, v, e, rfl, _⟩ := h; rfl) (F.binds fun _ _ _ _ _ _ us hl => match us, hl with | [_, _], _ => rfl)
theorem GK_BadStyle___init__ (T : Tx K mg d) : FnGk P w K mg base CX0 1 d.BadStyle___init__ ["part"] g11 (spErr1 K d.BadStyle "part") := by
  obtain ⟨fd, O, F⟩ := O_BadStyle___init__ T
  refine O.key11 (fun vs H Q E h => by obtain ⟨a, v, e, rfl, _⟩ := h; rfl) ?_
  obtain ⟨oc, od, kV, doc, pm, an, cdv, ct, osl, rfl, lk, hcd⟩ := F.ex
  exact fun a b => rfl
theorem O_BadDrawing___init__ (T : Tx K mg d) : ∃ fd, FnOG P w K mg base CX0 1 d.BadDrawing___init__ fd ["self", "part"] (spErr1 K d.BadDrawing "part") ∧ Fun K "__init__" "BadDrawing.__init__" s_BadDrawing___init__ d.BadDrawing___init__ fd := by
  obtain ⟨fd, F⟩ := T.F_BadDrawing___init__
  refine ⟨fd, fnOG (k := 0) F sc_BadDrawing___init__ (sp := spErr1 K d.BadDrawing "part") (fun vs H Q E h => ?_) (fun cdv A outer s H vs Q E ng hr h => ?_), F⟩
  · obtain ⟨a, v, e, rfl, _⟩ := h
    rfl
  · obtain ⟨a, v, e, rfl, ha, S, n, k⟩ := h
    -- slots: 0 self, 1 part
    refine ⟨_, (pss_cons (ps_expr (pe_sinit T.vi_SnapError rfl T.m_SnapError (pa_cons (pv 0) (pa_cons (pe_joined (PJ.cons pe_str (PJ.cons (pe_fmtA ng hr.units (pv 1)) PJ.nil))) pa_nil))))
      (pss_one (ps_ost (pv 0) (pv 1)))), ?_⟩
    exact err1_body T.ex_BadDrawing T.a_BadDrawing_part ha S n rfl rfl (by decide) k
theorem G_BadDrawing___init__ (T : Tx K mg d) : FnG P w K mg base CX0 1 d.BadDrawing___init__ (spErr1 K d.BadDrawing "part") := by
  obtain ⟨fd, O, F⟩ := O_BadDrawing___init__ T
  exact O.pos (fun vs H Q E h => by obtain ⟨a, v, e, rfl, _⟩ := h; rfl) (F.binds fun _ _ _ _ _ _ us hl => match us, hl with | [_, _], _ => rfl)
theorem GK_BadDrawing___init__ (T : Tx K mg d) : FnGk P w K mg base CX0 1 d.BadDrawing___init__ ["part"] g11 (spErr1 K d.BadDrawing "part") := by
  obtain ⟨fd, O, F⟩ := O_BadDrawing___init__ T
  refine O.key11 (fun vs H Q E h => by obtain ⟨a, v, e, rfl, _⟩ := h; rfl) ?_
  obtain ⟨oc, od, kV, doc, pm, an, cdv, ct, osl, rfl, lk, hcd⟩ := F.ex
  exact fun a b => rfl
theorem O_BadSight___init__ (T : Tx K mg d) : ∃ fd, FnOG P w K mg base CX0 1 d.BadSight___init__ fd ["self", "at"] (spErr1 K d.BadSight "at") ∧ Fun K "__init__" "BadSight.__init__" s_BadSight___init__ d.BadSight___init__ fd := by
  obtain ⟨fd, F⟩ := T.F_BadSight___init__
  refine ⟨fd, fnOG (k := 0) F sc_BadSight___init__ (sp := spErr1 K d.BadSight "at") (fun vs H Q E h => ?_) (fun cdv A outer s H vs Q E ng hr h => ?_), F⟩
  · obtain ⟨a, v, e, rfl, _⟩ := h
    rfl
  · obtain ⟨a, v, e, rfl, ha, S, n, k⟩ := h
    -- slots: 0 self, 1 at
    refine ⟨_, (pss_cons (ps_expr (pe_sinit T.vi_SnapError rfl T.m_SnapError (pa_cons (pv 0) (pa_cons (pe_joined (PJ.cons pe_str (PJ.cons (pe_fmtA ng hr.units (pv 1)) PJ.nil))) pa_nil))))
      (pss_one (ps_ost (pv 0) (pv 1)))), ?_⟩
    exact err1_body T.ex_BadSight T.a_BadSight_at ha S n rfl rfl (by decide) k
theorem G_BadSight___init__ (T : Tx K mg d) : FnG P w K mg base CX0 1 d.BadSight___init__ (spErr1 K d.BadSight "at") := by
  obtain ⟨fd, O, F⟩ := O_BadSight___init__ T
  exact O.pos (fun vs H Q E h => by obtain ⟨a, v, e, rfl, _⟩ := h; rfl) (F.binds fun _ _ _ _ _ _ us hl => match us, hl with | [_, _], _ => rfl)
theorem GK_BadSight___init__ (T : Tx K mg d) : FnGk P w K mg base CX0 1 d.BadSight___init__ ["at"] g11 (spErr1 K d.BadSight "at") := by
  obtain ⟨fd, O, F⟩ := O_BadSight___init__ T
  refine O.key11 (fun vs H Q E h => by obtain ⟨a, v, e, rfl, _⟩ := h; rfl) ?_
  obtain ⟨oc, od, kV, doc, pm, an, cdv, ct, osl, rfl, lk, hcd⟩ := F.ex
  exact fun a b => rfl
theorem O_BadScreen___init__ (T : Tx K mg d) : ∃ fd, FnOG P w K mg base CX0 1 d.BadScreen___init__ fd ["self", "part"] (spErr1 K d.BadScreen "part") ∧ Fun K "__init__" "BadScreen.__init__" s_BadScreen___init__ d.BadScreen___init__ fd := by
  obtain ⟨fd, F⟩ := T.F_BadScreen___init__
  refine ⟨fd, fnOG (k := 0) F sc_BadScreen___init__ (sp := spErr1 K d.BadScreen "part") (fun vs H Q E h => ?_) (fun cdv A outer s H vs Q E ng hr h => ?_), F⟩
  · obtain ⟨a, v, e, rfl, _⟩ := h
    rfl
  · obtain ⟨a, v, e, rfl, ha, S, n, k⟩ := h
    -- slots: 0 self, 1 part
    refine ⟨_, (pss_cons (ps_expr (pe_sinit T.vi_SnapError rfl T.m_SnapError (pa_cons (pv 0) (pa_cons (pe_joined (PJ.cons pe_str (PJ.cons (pe_fmtA ng hr.units (pv 1)) PJ.nil))) pa_nil))))
      (pss_one (ps_ost (pv 0) (pv 1)))), ?_⟩
    exact err1_body T.ex_BadScreen T.a_BadScreen_part ha S n rfl rfl (by decide) k
theorem G_BadScreen___init__ (T : Tx K mg d) : FnG P w K mg base CX0 1 d.BadScreen___init__ (spErr1 K d.BadScreen "part") := by
  obtain ⟨fd, O, F⟩ := O_BadScreen___init__ T
  exact O.pos (fun vs H Q E h => by obtain ⟨a, v, e, rfl, _⟩ := h; rfl) (F.binds fun _ _ _ _ _ _ us hl => match us, hl with | [_, _], _ => rfl)
theorem GK_BadScreen___init__ (T : Tx K mg d) : FnGk P w K mg base CX0 1 d.BadScreen___init__ ["part"] g11 (spErr1 K d.BadScreen "part") := by
  obtain ⟨fd, O, F⟩ := O_BadScreen___init__ T
  refine O.key11 (fun vs H Q E h => by obtain ⟨a, v, e, rfl, _⟩ := h; rfl) ?_
  obtain ⟨oc, od, kV, doc, pm, an, cdv, ct, osl, rfl, lk, hcd⟩ := F.ex
  exact fun a b => rfl
theorem O_BadLine___init__ (T : Tx K mg d) : ∃ fd, FnOG P w K mg base CX0 1 d.BadLine___init__ fd ["self", "word"] (spErr1 K d.BadLine "word") ∧ Fun K "__init__" "BadLine.__init__" s_BadLine___init__ d.BadLine___init__ fd := by
  obtain ⟨fd, F⟩ := T.F_BadLine___init__
  refine ⟨fd, fnOG (k := 0) F sc_BadLine___init__ (sp := spErr1 K d.BadLine "word") (fun vs H Q E h => ?_) (fun cdv A outer s H vs Q E ng hr h => ?_), F⟩
  · obtain ⟨a, v, e, rfl, _⟩ := h
    rfl
  · obtain ⟨a, v, e, rfl, ha, S, n, k⟩ := h
    -- slots: 0 self, 1 word
    refine ⟨_, (pss_cons (ps_expr (pe_sinit T.vi_SnapError rfl T.m_SnapError (pa_cons (pv 0) (pa_cons (pe_joined (PJ.cons pe_str (PJ.cons (pe_fmtA ng hr.units (pv 1)) PJ.nil))) pa_nil))))
      (pss_one (ps_ost (pv 0) (pv 1)))), ?_⟩
    exact err1_body T.ex_BadLine T.a_BadLine_word ha S n rfl rfl (by decide) k
theorem G_BadLine___init__ (T : Tx K mg d) : FnG P w K mg base CX0 1 d.BadLine___init__ (spErr1 K d.BadLine "word") := by
  obtain ⟨fd, O, F⟩ := O_BadLine___init__ T
  exact O.pos (fun vs H Q E h => by obtain ⟨a, v, e, rfl, _⟩ := h; rfl) (F.binds fun _ _ _ _ _ _ us hl => match us, hl with | [_, _], _ => rfl)
theorem GK_BadLine___init__ (T : Tx K mg d) : FnGk P w K mg base CX0 1 d.BadLine___init__ ["word"] g11 (spErr1 K d.BadLine "word") := by
  obtain ⟨fd, O, F⟩ := O_BadLine___init__ T
  refine O.key11 (fun vs H Q E h => by obtain ⟨a, v, e, rfl, _⟩ := h; rfl) ?_
  obtain ⟨oc, od, kV, doc, pm, an, cdv, ct, osl, rfl, lk, hcd⟩ := F.ex
  exact fun a b => rfl
theorem O_NoBox___init__ (T : Tx K mg d) : ∃ fd, FnOG P w K mg base CX0 1 d.NoBox___init__ fd ["self", "name"] (spErr1 K d.NoBox "name") ∧ Fun K "__init__" "NoBox.__init__" s_NoBox___init__ d.NoBox___init__ fd := by
  obtain ⟨fd, F⟩ := T.F_NoBox___init__
  refine ⟨fd, fnOG (k := 0) F sc_NoBox___init__ (sp := spErr1 K d.NoBox "name") (fun vs H Q E h => ?_) (fun cdv A outer s H vs Q E ng hr h => ?_), F⟩
  · obtain ⟨a, v, e, rfl, _⟩ := h
    rfl
  · obtain ⟨a, v, e, rfl, ha, S, n, k⟩ := h
    -- slots: 0 self, 1 name
    refine ⟨_, (pss_cons (ps_expr (pe_sinit T.vi_SnapError rfl T.m_SnapError (pa_cons (pv 0) (pa_cons (pe_joined (PJ.cons pe_str (PJ.cons (pe_fmtA ng hr.units (pv 1)) PJ.nil))) pa_nil))))
      (pss_one (ps_ost (pv 0) (pv 1)))), ?_⟩
    exact err1_body T.ex_NoBox T.a_NoBox_name ha S n rfl rfl (by decide) k
theorem G_NoBox___init__ (T : Tx K mg d) : FnG P w K mg base CX0 1 d.NoBox___init__ (spErr1 K d.NoBox "name") := by
  obtain ⟨fd, O, F⟩ := O_NoBox___init__ T
  exact O.pos (fun vs H Q E h => by obtain ⟨a, v, e, rfl, _⟩ := h; rfl) (F.binds fun _ _ _ _ _ _ us hl => match us, hl with | [_, _], _ => rfl)
theorem GK_NoBox___init__ (T : Tx K mg d) : FnGk P w K mg base CX0 1 d.NoBox___init__ ["name"] g11 (spErr1 K d.NoBox "name") := by
  obtain ⟨fd, O, F⟩ := O_NoBox___init__ T
  refine O.key11 (fun vs H Q E h => by obtain ⟨a, v, e, rfl, _⟩ := h; rfl) ?_
  obtain ⟨oc, od, kV, doc, pm, an, cdv, ct, osl, rfl, lk, hcd⟩ := F.ex
  exact fun a b => rfl
theorem O_NoThing___init__ (T : Tx K mg d) : ∃ fd, FnOG P w K mg base CX0 1 d.NoThing___init__ fd ["self", "name"] (spErr1 K d.NoThing "name") ∧ Fun K "__init__" "NoThing.__init__" s_NoThing___init__ d.NoThing___init__ fd := by
  obtain ⟨fd, F⟩ := T.F_NoThing___init__
  refine ⟨fd, fnOG (k := 0) F sc_NoThing___init__ (sp := spErr1 K d.NoThing "name") (fun vs H Q E h => ?_) (fun cdv A outer s H vs Q E ng hr h => ?_), F⟩
  · obtain ⟨a, v, e, rfl, _⟩ := h
    rfl
  · obtain ⟨a, v, e, rfl, ha, S, n, k⟩ := h
    -- slots: 0 self, 1 name
    refine ⟨_, (pss_cons (ps_expr (pe_sinit T.vi_SnapError rfl T.m_SnapError (pa_cons (pv 0) (pa_cons (pe_joined (PJ.cons pe_str (PJ.cons (pe_fmtA ng hr.units (pv 1)) PJ.nil))) pa_nil))))
      (pss_one (ps_ost (pv 0) (pv 1)))), ?_⟩
    exact err1_body T.ex_NoThing T.a_NoThing_name ha S n rfl rfl (by decide) k
theorem G_NoThing___init__ (T : Tx K mg d) : FnG P w K mg base CX0 1 d.NoThing___init__ (spErr1 K d.NoThing "name") := by
  obtain ⟨fd, O, F⟩ := O_NoThing___init__ T
  exact O.pos (fun vs H Q E h => by obtain ⟨a, v, e, rfl, _⟩ := h; rfl) (F.binds fun _ _ _ _ _ _ us hl => match us, hl with | [_, _], _ => rfl)
theorem GK_NoThing___init__ (T : Tx K mg d) : FnGk P w K mg base CX0 1 d.NoThing___init__ ["name"] g11 (spErr1 K d.NoThing "name") := by
  obtain ⟨fd, O, F⟩ := O_NoThing___init__ T
  refine O.key11 (fun vs H Q E h => by obtain ⟨a, v, e, rfl, _⟩ := h; rfl) ?_
  obtain ⟨oc, od, kV, doc, pm, an, cdv, ct, osl, rfl, lk, hcd⟩ := F.ex
  exact fun a b => rfl
theorem O_NoZoom___init__ (T : Tx K mg d) : ∃ fd, FnOG P w K mg base CX0 1 d.NoZoom___init__ fd ["self", "zoom"] (spErr1 K d.NoZoom "zoom") ∧ Fun K "__init__" "NoZoom.__init__" s_NoZoom___init__ d.NoZoom___init__ fd := by
  obtain ⟨fd, F⟩ := T.F_NoZoom___init__
  refine ⟨fd, fnOG (k := 0) F sc_NoZoom___init__ (sp := spErr1 K d.NoZoom "zoom") (fun vs H Q E h => ?_) (fun cdv A outer s H vs Q E ng hr h => ?_), F⟩
  · obtain ⟨a, v, e, rfl, _⟩ := h
    rfl
  · obtain ⟨a, v, e, rfl, ha, S, n, k⟩ := h
    -- slots: 0 self, 1 zoom
    refine ⟨_, (pss_cons (ps_expr (pe_sinit T.vi_SnapError rfl T.m_SnapError (pa_cons (pv 0) (pa_cons (pe_joined (PJ.cons pe_str (PJ.cons (pe_fmtA ng hr.units (pv 1)) PJ.nil))) pa_nil))))
      (pss_one (ps_ost (pv 0) (pv 1)))), ?_⟩
    exact err1_body T.ex_NoZoom T.a_NoZoom_zoom ha S n rfl rfl (by decide) k
theorem G_NoZoom___init__ (T : Tx K mg d) : FnG P w K mg base CX0 1 d.NoZoom___init__ (spErr1 K d.NoZoom "zoom") := by
  obtain ⟨fd, O, F⟩ := O_NoZoom___init__ T
  exact O.pos (fun vs H Q E h => by obtain ⟨a, v, e, rfl, _⟩ := h; rfl) (F.binds fun _ _ _ _ _ _ us hl => match us, hl with | [_, _], _ => rfl)
theorem GK_NoZoom___init__ (T : Tx K mg d) : FnGk P w K mg base CX0 1 d.NoZoom___init__ ["zoom"] g11 (spErr1 K d.NoZoom "zoom") := by
  obtain ⟨fd, O, F⟩ := O_NoZoom___init__ T
  refine O.key11 (fun vs H Q E h => by obtain ⟨a, v, e, rfl, _⟩ := h; rfl) ?_
  obtain ⟨oc, od, kV, doc, pm, an, cdv, ct, osl, rfl, lk, hcd⟩ := F.ex
  exact fun a b => rfl
theorem O_Taken___init__ (T : Tx K mg d) : ∃ fd, FnOG P w K mg base CX0 1 d.Taken___init__ fd ["self", "name"] (spErr1 K d.Taken "name") ∧ Fun K "__init__" "Taken.__init__" s_Taken___init__ d.Taken___init__ fd := by
  obtain ⟨fd, F⟩ := T.F_Taken___init__
  refine ⟨fd, fnOG (k := 0) F sc_Taken___init__ (sp := spErr1 K d.Taken "name") (fun vs H Q E h => ?_) (fun cdv A outer s H vs Q E ng hr h => ?_), F⟩
  · obtain ⟨a, v, e, rfl, _⟩ := h
    rfl
  · obtain ⟨a, v, e, rfl, ha, S, n, k⟩ := h
    -- slots: 0 self, 1 name
    refine ⟨_, (pss_cons (ps_expr (pe_sinit T.vi_SnapError rfl T.m_SnapError (pa_cons (pv 0) (pa_cons (pe_joined (PJ.cons pe_str (PJ.cons (pe_fmtA ng hr.units (pv 1)) PJ.nil))) pa_nil))))
      (pss_one (ps_ost (pv 0) (pv 1)))), ?_⟩
    exact err1_body T.ex_Taken T.a_Taken_name ha S n rfl rfl (by decide) k
theorem G_Taken___init__ (T : Tx K mg d) : FnG P w K mg base CX0 1 d.Taken___init__ (spErr1 K d.Taken "name") := by
  obtain ⟨fd, O, F⟩ := O_Taken___init__ T
  exact O.pos (fun vs H Q E h => by obtain ⟨a, v, e, rfl, _⟩ := h; rfl) (F.binds fun _ _ _ _ _ _ us hl => match us, hl with | [_, _], _ => rfl)
theorem GK_Taken___init__ (T : Tx K mg d) : FnGk P w K mg base CX0 1 d.Taken___init__ ["name"] g11 (spErr1 K d.Taken "name") := by
  obtain ⟨fd, O, F⟩ := O_Taken___init__ T
  refine O.key11 (fun vs H Q E h => by obtain ⟨a, v, e, rfl, _⟩ := h; rfl) ?_
  obtain ⟨oc, od, kV, doc, pm, an, cdv, ct, osl, rfl, lk, hcd⟩ := F.ex
  exact fun a b => rfl
theorem O_Unlike___init__ (T : Tx K mg d) : ∃ fd, FnOG P w K mg base CX0 1 d.Unlike___init__ fd ["self", "part"] (spErr1 K d.Unlike "part") ∧ Fun K "__init__" "Unlike.__init__" s_Unlike___init__ d.Unlike___init__ fd := by
  obtain ⟨fd, F⟩ := T.F_Unlike___init__
  refine ⟨fd, fnOG (k := 0) F sc_Unlike___init__ (sp := spErr1 K d.Unlike "part") (fun vs H Q E h => ?_) (fun cdv A outer s H vs Q E ng hr h => ?_), F⟩
  · obtain ⟨a, v, e, rfl, _⟩ := h
    rfl
  · obtain ⟨a, v, e, rfl, ha, S, n, k⟩ := h
    -- slots: 0 self, 1 part
    refine ⟨_, (pss_cons (ps_expr (pe_sinit T.vi_SnapError rfl T.m_SnapError (pa_cons (pv 0) (pa_cons (pe_joined (PJ.cons pe_str (PJ.cons (pe_fmtA ng hr.units (pv 1)) PJ.nil))) pa_nil))))
      (pss_one (ps_ost (pv 0) (pv 1)))), ?_⟩
    exact err1_body T.ex_Unlike T.a_Unlike_part ha S n rfl rfl (by decide) k
theorem G_Unlike___init__ (T : Tx K mg d) : FnG P w K mg base CX0 1 d.Unlike___init__ (spErr1 K d.Unlike "part") := by
  obtain ⟨fd, O, F⟩ := O_Unlike___init__ T
  exact O.pos (fun vs H Q E h => by obtain ⟨a, v, e, rfl, _⟩ := h; rfl) (F.binds fun _ _ _ _ _ _ us hl => match us, hl with | [_, _], _ => rfl)
theorem GK_Unlike___init__ (T : Tx K mg d) : FnGk P w K mg base CX0 1 d.Unlike___init__ ["part"] g11 (spErr1 K d.Unlike "part") := by
  obtain ⟨fd, O, F⟩ := O_Unlike___init__ T
  refine O.key11 (fun vs H Q E h => by obtain ⟨a, v, e, rfl, _⟩ := h; rfl) ?_
  obtain ⟨oc, od, kV, doc, pm, an, cdv, ct, osl, rfl, lk, hcd⟩ := F.ex
  exact fun a b => rfl
theorem O_Refused___init__ (T : Tx K mg d) : ∃ fd, FnOG P w K mg base CX0 1 d.Refused___init__ fd ["self", "name"] (spErr1 K d.Refused "name") ∧ Fun K "__init__" "Refused.__init__" s_Refused___init__ d.Refused___init__ fd := by
  obtain ⟨fd, F⟩ := T.F_Refused___init__
  refine ⟨fd, fnOG (k := 0) F sc_Refused___init__ (sp := spErr1 K d.Refused "name") (fun vs H Q E h => ?_) (fun cdv A outer s H vs Q E ng hr h => ?_), F⟩
  · obtain ⟨a, v, e, rfl, _⟩ := h
    rfl
  · obtain ⟨a, v, e, rfl, ha, S, n, k⟩ := h
    -- slots: 0 self, 1 name
    refine ⟨_, (pss_cons (ps_expr (pe_sinit T.vi_SnapError rfl T.m_SnapError (pa_cons (pv 0) (pa_cons (pe_joined (PJ.cons pe_str (PJ.cons (pe_fmtA ng hr.units (pv 1)) PJ.nil))) pa_nil))))
      (pss_one (ps_ost (pv 0) (pv 1)))), ?_⟩
    exact err1_body T.ex_Refused T.a_Refused_name ha S n rfl rfl (by decide) k
theorem G_Refused___init__ (T : Tx K mg d) : FnG P w K mg base CX0 1 d.Refused___init__ (spErr1 K d.Refused "name") := by
  obtain ⟨fd, O, F⟩ := O_Refused___init__ T
  exact O.pos (fun vs H Q E h => by obtain ⟨a, v, e, rfl, _⟩ := h; rfl) (F.binds fun _ _ _ _ _ _ us hl => match us, hl with | [_, _], _ => rfl)
theorem GK_Refused___init__ (T : Tx K mg d) : FnGk P w K mg base CX0 1 d.Refused___init__ ["name"] g11 (spErr1 K d.Refused "name") := by
  obtain ⟨fd, O, F⟩ := O_Refused___init__ T
  refine O.key11 (fun vs H Q E h => by obtain ⟨a, v, e, rfl, _⟩ := h; rfl) ?_
  obtain ⟨oc, od, kV, doc, pm, an, cdv, ct, osl, rfl, lk, hcd⟩ := F.ex
  exact fun a b => rfl
theorem O_BadText___init__ (T : Tx K mg d) : ∃ fd, FnOG P w K mg base CX0 1 d.BadText___init__ fd ["self", "line", "word"] (spErr2 K d.BadText "line" "word") ∧ Fun K "__init__" "BadText.__init__" s_BadText___init__ d.BadText___init__ fd := by
  obtain ⟨fd, F⟩ := T.F_BadText___init__
  refine ⟨fd, fnOG (k := 0) F sc_BadText___init__ (sp := spErr2 K d.BadText "line" "word") (fun vs H Q E h => ?_) (fun cdv A outer s H vs Q E ng hr h => ?_), F⟩
  · obtain ⟨a, v, u, e, e2, rfl, _⟩ := h
    rfl
  · obtain ⟨a, v, u, e, e2, rfl, ha, S, n, S2, n2, k⟩ := h
    -- slots: 0 self, 1 line, 2 word
    refine ⟨_, (pss_cons (ps_expr (pe_sinit T.vi_SnapError rfl T.m_SnapError (pa_cons (pv 0) (pa_cons (pe_joined (PJ.cons pe_str (PJ.cons (pe_fmtA ng hr.units (pv 1)) (PJ.cons pe_str (PJ.cons (pe_fmtA ng hr.units (pv 2)) PJ.nil))))) pa_nil))))
      (pss_cons (ps_ost (pv 0) (pv 1))
      (pss_one (ps_ost (pv 0) (pv 2))))), ?_⟩
    exact err2_body T.ex_BadText T.a_BadText_line T.a_BadText_word ha S n S2 n2 rfl rfl rfl (by decide) (by decide) k
theorem G_BadText___init__ (T : Tx K mg d) : FnG P w K mg base CX0 1 d.BadText___init__ (spErr2 K d.BadText "line" "word") := by
  obtain ⟨fd, O, F⟩ := O_BadText___init__ T
  exact O.pos (fun vs H Q E h => by obtain ⟨a, v, u, e, e2, rfl, _⟩ := h; rfl) (F.binds fun _ _ _ _ _ _ us hl => match us, hl with | [_, _, _], _ => rfl)
theorem GK_BadText___init__ (T : Tx K mg d) : FnGk P w K mg base CX0 1 d.BadText___init__ ["word", "line"] g12 (spErr2 K d.BadText "line" "word") := by
  obtain ⟨fd, O, F⟩ := O_BadText___init__ T
  refine O.key12 (fun vs H Q E h => by obtain ⟨a, v, u, e, e2, rfl, _⟩ := h; rfl) ?_
  obtain ⟨oc, od, kV, doc, pm, an, cdv, ct, osl, rfl, lk, hcd⟩ := F.ex
  exact fun a b c => rfl
theorem O_TooMany___init__ (T : Tx K mg d) : ∃ fd, FnOG P w K mg base CX0 1 d.TooMany___init__ fd ["self", "what", "most"] (spErr2 K d.TooMany "what" "most") ∧ Fun K "__init__" "TooMany.__init__" s_TooMany___init__ d.TooMany___init__ fd := by
  obtain ⟨fd, F⟩ := T.F_TooMany___init__
  refine ⟨fd, fnOG (k := 0) F sc_TooMany___init__ (sp := spErr2 K d.TooMany "what" "most") (fun vs H Q E h => ?_) (fun cdv A outer s H vs Q E ng hr h => ?_), F⟩
  · obtain ⟨a, v, u, e, e2, rfl, _⟩ := h
    rfl
  · obtain ⟨a, v, u, e, e2, rfl, ha, S, n, S2, n2, k⟩ := h
    -- slots: 0 self, 1 what, 2 most
    refine ⟨_, (pss_cons (ps_expr (pe_sinit T.vi_SnapError rfl T.m_SnapError (pa_cons (pv 0) (pa_cons (pe_joined (PJ.cons pe_str (PJ.cons (pe_fmtA ng hr.units (pv 1)) (PJ.cons pe_str (PJ.cons (pe_fmtA ng hr.units (pv 2)) PJ.nil))))) pa_nil))))
      (pss_cons (ps_ost (pv 0) (pv 1))
      (pss_one (ps_ost (pv 0) (pv 2))))), ?_⟩
    exact err2_body T.ex_TooMany T.a_TooMany_what T.a_TooMany_most ha S n S2 n2 rfl rfl rfl (by decide) (by decide) k
theorem G_TooMany___init__ (T : Tx K mg d) : FnG P w K mg base CX0 1 d.TooMany___init__ (spErr2 K d.TooMany "what" "most") := by
  obtain ⟨fd, O, F⟩ := O_TooMany___init__ T
  exact O.pos (fun vs H Q E h => by obtain ⟨a, v, u, e, e2, rfl, _⟩ := h; rfl) (F.binds fun _ _ _ _ _ _ us hl => match us, hl with | [_, _, _], _ => rfl)
theorem GK_TooMany___init__ (T : Tx K mg d) : FnGk P w K mg base CX0 1 d.TooMany___init__ ["most", "what"] g12 (spErr2 K d.TooMany "what" "most") := by
  obtain ⟨fd, O, F⟩ := O_TooMany___init__ T
  refine O.key12 (fun vs H Q E h => by obtain ⟨a, v, u, e, e2, rfl, _⟩ := h; rfl) ?_
  obtain ⟨oc, od, kV, doc, pm, an, cdv, ct, osl, rfl, lk, hcd⟩ := F.ex
  exact fun a b c => rfl
theorem G_NoChange___init__ (T : Tx K mg d) : FnG P w K mg base CX0 1 d.NoChange___init__ (spErr0 d.NoChange) := by
  obtain ⟨fd, F⟩ := T.F_NoChange___init__
  refine (fnOG (k := 0) F sc_NoChange___init__ (sp := spErr0 d.NoChange) (fun vs H Q E h => ?_) (fun cdv A outer s H vs Q E ng hr h => ?_)).pos (fun vs H Q E h => by obtain ⟨a, rfl, _⟩ := h; rfl) (F.binds fun _ _ _ _ _ _ us hl => match us, hl with | [_], _ => rfl)
  · obtain ⟨a, rfl, _⟩ := h
    rfl
  · obtain ⟨a, rfl, ha, k⟩ := h
    -- slots: 0 self
    refine ⟨_, (pss_one (ps_expr (pe_sinit T.vi_SnapError rfl T.m_SnapError (pa_cons (pv 0) (pa_cons pe_str pa_nil))))), ?_⟩
    exact err0_body T.ex_NoChange ha rfl k
end

end AZ
namespace AZ
open PySem L2
/-! ## the law's helpers -/
theorem go_sn {te : TE} {i : Nat} {u : TS} {D : Ends} {σ : L2.St} {H : Hp} (h : te σ H fun x H1 => u D (σ.set i (some x)) H1) : tSeq (tAsg te (gName i)) u D σ H := h
theorem go_ret {te : TE} {D : Ends} {σ : L2.St} {H : Hp} (h : te σ H D.rt) : tRet te D σ H := h
theorem var_at {i : Nat} {l : Addr} {σ : L2.St} {H : Hp} (h : σ[i]? = some (some (.ref l))) : ∀ Q' : VK, (∀ H', H' = H → Q' (.ref l) H') → tVar i σ H Q' := fun Q' k => ⟨_, h, k H rfl⟩
abbrev csParts (d : Ad) (v : V) : List (Addr × List (Str × V)) := [(d.BadRounding, [("part", v)]), (d.BadDrawn, [("part", v)]), (d.BadClaim, [("part", v)]), (d.BadZooms, [("part", v)]), (d.BadBox, [("part", v)]), (d.BadPage, [("part", v)]), (d.BadWay, [("part", v)]), (d.BadStyle, [("part", v)]), (d.BadDrawing, [("part", v)]), (d.BadScreen, [("part", v)]), (d.Unlike, [("part", v)])]
def spParts (K : PySem.W.Frag) (d : Ad) : Sp := fun vs H Q _ => ∃ v e, vs = [v] ∧ Sh K H v e ∧ Shn e ∧ ∀ l H', Same H H' → RowsAt v H' l (csParts d v) → Q (.ref l) H'
section
variable {P : Program} {w : World} {K : PySem.W.Frag} {mg : Str → Option Value} {base : Heap} {d : Ad}
theorem G__law_of_parts (T : Tx K mg d) : FnG P w K mg base CX0 3 d._law_of_parts (spParts K d) := by
  have G_BadRounding___init__ := G_BadRounding___init__ (P := P) (w := w) (base := base) T
  have GK_BadRounding___init__ := GK_BadRounding___init__ (P := P) (w := w) (base := base) T
  have G_BadDrawn___init__ := G_BadDrawn___init__ (P := P) (w := w) (base := base) T
  have GK_BadDrawn___init__ := GK_BadDrawn___init__ (P := P) (w := w) (base := base) T
  have G_BadClaim___init__ := G_BadClaim___init__ (P := P) (w := w) (base := base) T
  have GK_BadClaim___init__ := GK_BadClaim___init__ (P := P) (w := w) (base := base) T
  have G_BadZooms___init__ := G_BadZooms___init__ (P := P) (w := w) (base := base) T
  have GK_BadZooms___init__ := GK_BadZooms___init__ (P := P) (w := w) (base := base) T
  have G_BadBox___init__ := G_BadBox___init__ (P := P) (w := w) (base := base) T
  have GK_BadBox___init__ := GK_BadBox___init__ (P := P) (w := w) (base := base) T
  have G_BadPage___init__ := G_BadPage___init__ (P := P) (w := w) (base := base) T
  have GK_BadPage___init__ := GK_BadPage___init__ (P := P) (w := w) (base := base) T
  have G_BadWay___init__ := G_BadWay___init__ (P := P) (w := w) (base := base) T
  have GK_BadWay___init__ := GK_BadWay___init__ (P := P) (w := w) (base := base) T
  have G_BadStyle___init__ := G_BadStyle___init__ (P := P) (w := w) (base := base) T
  have GK_BadStyle___init__ := GK_BadStyle___init__ (P := P) (w := w) (base := base) T
  have G_BadDrawing___init__ := G_BadDrawing___init__ (P := P) (w := w) (base := base) T
  have GK_BadDrawing___init__ := GK_BadDrawing___init__ (P := P) (w := w) (base := base) T
  have G_BadScreen___init__ := G_BadScreen___init__ (P := P) (w := w) (base := base) T
  have GK_BadScreen___init__ := GK_BadScreen___init__ (P := P) (w := w) (base := base) T
  have G_Unlike___init__ := G_Unlike___init__ (P := P) (w := w) (base := base) T
  have GK_Unlike___init__ := GK_Unlike___init__ (P := P) (w := w) (base := base) T
  obtain ⟨fd, F⟩ := T.F__law_of_parts
  refine fnG_of (k := 2) F sc__law_of_parts (sp := spParts K d) (fun vs H Q E h => ?_) (fun cdv A outer s H vs Q E ng hr h => ?_) (F.binds fun _ _ _ _ _ _ us hl => match us, hl with | [_], _ => rfl)
  · obtain ⟨v, e, rfl, _⟩ := h
    rfl
  · obtain ⟨v, e, rfl, S, n, k⟩ := h
    have im : ∀ {H H' : Hp}, Same H H' → Sh K H v e → Sh K H' v e := fun x s => s.same x
    -- slots: 0 _law_value, 1 _law_found
    refine ⟨_, (pss_cons (ps_set (i := 1) sc__law_of_parts.nd rfl (Or.inl rfl) (pe_lst (pa_cons (pe_tup (pa_cons (pe_mkE T.ex_BadRounding.err G_BadRounding___init__ ng (hr.mono (by decide)) rfl T.m_BadRounding pass0 (pa_cons (pv 0) pa_nil)) (pa_cons (pe_xfA (pe_mkEk T.ex_BadRounding.err GK_BadRounding___init__ ng (hr.mono (by decide)) rfl T.m_BadRounding pass0 (pk_cons (pv 0) pk_nil))) pa_nil))) (pa_cons (pe_tup (pa_cons (pe_mkE T.ex_BadDrawn.err G_BadDrawn___init__ ng (hr.mono (by decide)) rfl T.m_BadDrawn pass0 (pa_cons (pv 0) pa_nil)) (pa_cons (pe_xfA (pe_mkEk T.ex_BadDrawn.err GK_BadDrawn___init__ ng (hr.mono (by decide)) rfl T.m_BadDrawn pass0 (pk_cons (pv 0) pk_nil))) pa_nil))) pa_nil))))
      (pss_cons (ps_set (i := 1) sc__law_of_parts.nd rfl (Or.inl rfl) (pe_op uAdd (pv 1) (pe_lst (pa_cons (pe_tup (pa_cons (pe_mkE T.ex_BadClaim.err G_BadClaim___init__ ng (hr.mono (by decide)) rfl T.m_BadClaim pass0 (pa_cons (pv 0) pa_nil)) (pa_cons (pe_xfA (pe_mkEk T.ex_BadClaim.err GK_BadClaim___init__ ng (hr.mono (by decide)) rfl T.m_BadClaim pass0 (pk_cons (pv 0) pk_nil))) pa_nil))) (pa_cons (pe_tup (pa_cons (pe_mkE T.ex_BadZooms.err G_BadZooms___init__ ng (hr.mono (by decide)) rfl T.m_BadZooms pass0 (pa_cons (pv 0) pa_nil)) (pa_cons (pe_xfA (pe_mkEk T.ex_BadZooms.err GK_BadZooms___init__ ng (hr.mono (by decide)) rfl T.m_BadZooms pass0 (pk_cons (pv 0) pk_nil))) pa_nil))) pa_nil)))))
      (pss_cons (ps_set (i := 1) sc__law_of_parts.nd rfl (Or.inl rfl) (pe_op uAdd (pv 1) (pe_lst (pa_cons (pe_tup (pa_cons (pe_mkE T.ex_BadBox.err G_BadBox___init__ ng (hr.mono (by decide)) rfl T.m_BadBox pass0 (pa_cons (pv 0) pa_nil)) (pa_cons (pe_xfA (pe_mkEk T.ex_BadBox.err GK_BadBox___init__ ng (hr.mono (by decide)) rfl T.m_BadBox pass0 (pk_cons (pv 0) pk_nil))) pa_nil))) (pa_cons (pe_tup (pa_cons (pe_mkE T.ex_BadPage.err G_BadPage___init__ ng (hr.mono (by decide)) rfl T.m_BadPage pass0 (pa_cons (pv 0) pa_nil)) (pa_cons (pe_xfA (pe_mkEk T.ex_BadPage.err GK_BadPage___init__ ng (hr.mono (by decide)) rfl T.m_BadPage pass0 (pk_cons (pv 0) pk_nil))) pa_nil))) pa_nil)))))
      (pss_cons (ps_set (i := 1) sc__law_of_parts.nd rfl (Or.inl rfl) (pe_op uAdd (pv 1) (pe_lst (pa_cons (pe_tup (pa_cons (pe_mkE T.ex_BadWay.err G_BadWay___init__ ng (hr.mono (by decide)) rfl T.m_BadWay pass0 (pa_cons (pv 0) pa_nil)) (pa_cons (pe_xfA (pe_mkEk T.ex_BadWay.err GK_BadWay___init__ ng (hr.mono (by decide)) rfl T.m_BadWay pass0 (pk_cons (pv 0) pk_nil))) pa_nil))) (pa_cons (pe_tup (pa_cons (pe_mkE T.ex_BadStyle.err G_BadStyle___init__ ng (hr.mono (by decide)) rfl T.m_BadStyle pass0 (pa_cons (pv 0) pa_nil)) (pa_cons (pe_xfA (pe_mkEk T.ex_BadStyle.err GK_BadStyle___init__ ng (hr.mono (by decide)) rfl T.m_BadStyle pass0 (pk_cons (pv 0) pk_nil))) pa_nil))) pa_nil)))))
      (pss_cons (ps_set (i := 1) sc__law_of_parts.nd rfl (Or.inl rfl) (pe_op uAdd (pv 1) (pe_lst (pa_cons (pe_tup (pa_cons (pe_mkE T.ex_BadDrawing.err G_BadDrawing___init__ ng (hr.mono (by decide)) rfl T.m_BadDrawing pass0 (pa_cons (pv 0) pa_nil)) (pa_cons (pe_xfA (pe_mkEk T.ex_BadDrawing.err GK_BadDrawing___init__ ng (hr.mono (by decide)) rfl T.m_BadDrawing pass0 (pk_cons (pv 0) pk_nil))) pa_nil))) pa_nil))))
      (pss_one (ps_ret (pe_op uAdd (pv 1) (pe_lst (pa_cons (pe_tup (pa_cons (pe_mkE T.ex_BadScreen.err G_BadScreen___init__ ng (hr.mono (by decide)) rfl T.m_BadScreen pass0 (pa_cons (pv 0) pa_nil)) (pa_cons (pe_xfA (pe_mkEk T.ex_BadScreen.err GK_BadScreen___init__ ng (hr.mono (by decide)) rfl T.m_BadScreen pass0 (pk_cons (pv 0) pk_nil))) pa_nil))) (pa_cons (pe_tup (pa_cons (pe_mkE T.ex_Unlike.err G_Unlike___init__ ng (hr.mono (by decide)) rfl T.m_Unlike pass0 (pa_cons (pv 0) pa_nil)) (pa_cons (pe_xfA (pe_mkEk T.ex_Unlike.err GK_Unlike___init__ ng (hr.mono (by decide)) rfl T.m_Unlike pass0 (pk_cons (pv 0) pk_nil))) pa_nil))) pa_nil))))))))))), ?_⟩
    refine go_sn (lst2 im (pair1 T.ex_BadRounding T.a_BadRounding_part rfl n) (pair1 T.ex_BadDrawn T.a_BadDrawn_part rfl n) S fun l1 H1 e1 x1 => ?_)
    have S1 := S.same e1
    refine go_sn (cat_rows (var_at rfl) x1 (by simp) (fun Q' k => lst2 im (pair1 T.ex_BadClaim T.a_BadClaim_part rfl n) (pair1 T.ex_BadZooms T.a_BadZooms_part rfl n) S1 k) fun l2 H2 e2 x2 => ?_)
    have S2 := S1.same e2
    refine go_sn (cat_rows (var_at rfl) x2 (by simp) (fun Q' k => lst2 im (pair1 T.ex_BadBox T.a_BadBox_part rfl n) (pair1 T.ex_BadPage T.a_BadPage_part rfl n) S2 k) fun l3 H3 e3 x3 => ?_)
    have S3 := S2.same e3
    refine go_sn (cat_rows (var_at rfl) x3 (by simp) (fun Q' k => lst2 im (pair1 T.ex_BadWay T.a_BadWay_part rfl n) (pair1 T.ex_BadStyle T.a_BadStyle_part rfl n) S3 k) fun l4 H4 e4 x4 => ?_)
    have S4 := S3.same e4
    refine go_sn (cat_rows (var_at rfl) x4 (by simp) (fun Q' k => lst1 (pair1 T.ex_BadDrawing T.a_BadDrawing_part rfl n) S4 k) fun l5 H5 e5 x5 => ?_)
    have S5 := S4.same e5
    refine go_ret (cat_rows (var_at rfl) x5 (by simp) (fun Q' k => lst2 im (pair1 T.ex_BadScreen T.a_BadScreen_part rfl n) (pair1 T.ex_Unlike T.a_Unlike_part rfl n) S5 k) fun l6 H6 e6 x6 => ?_)
    exact k l6 H6 (((((e1.trans e2).trans e3).trans e4).trans e5).trans e6) x6
abbrev csValues (d : Ad) (v m : V) : List (Addr × List (Str × V)) := [(d.BadRatio, [("value", v)]), (d.BadZoom, [("value", v)]), (d.BadScroll, [("value", v)]), (d.BadNumber, [("value", v)]), (d.BadSight, [("at", v)]), (d.BadLine, [("word", v)]), (d.NoBox, [("name", v)]), (d.NoThing, [("name", v)]), (d.NoZoom, [("zoom", v)]), (d.Taken, [("name", v)]), (d.Refused, [("name", v)]), (d.BadText, [("word", m), ("line", v)]), (d.TooMany, [("most", m), ("what", v)])]
def spValues (K : PySem.W.Frag) (d : Ad) : Sp := fun vs H Q _ => ∃ v m e e2, vs = [v, m] ∧ Sh K H v e ∧ Shn e ∧ Sh K H m e2 ∧ Shn e2 ∧ ∀ l H', Same H H' → RowsAt v H' l (csValues d v m) → Q (.ref l) H'
theorem G__law_of_values (T : Tx K mg d) : FnG P w K mg base CX0 3 d._law_of_values (spValues K d) := by
  have G_BadRatio___init__ := G_BadRatio___init__ (P := P) (w := w) (base := base) T
  have GK_BadRatio___init__ := GK_BadRatio___init__ (P := P) (w := w) (base := base) T
  have G_BadZoom___init__ := G_BadZoom___init__ (P := P) (w := w) (base := base) T
  have GK_BadZoom___init__ := GK_BadZoom___init__ (P := P) (w := w) (base := base) T
  have G_BadScroll___init__ := G_BadScroll___init__ (P := P) (w := w) (base := base) T
  have GK_BadScroll___init__ := GK_BadScroll___init__ (P := P) (w := w) (base := base) T
  have G_BadNumber___init__ := G_BadNumber___init__ (P := P) (w := w) (base := base) T
  have GK_BadNumber___init__ := GK_BadNumber___init__ (P := P) (w := w) (base := base) T
  have G_BadSight___init__ := G_BadSight___init__ (P := P) (w := w) (base := base) T
  have GK_BadSight___init__ := GK_BadSight___init__ (P := P) (w := w) (base := base) T
  have G_BadLine___init__ := G_BadLine___init__ (P := P) (w := w) (base := base) T
  have GK_BadLine___init__ := GK_BadLine___init__ (P := P) (w := w) (base := base) T
  have G_NoBox___init__ := G_NoBox___init__ (P := P) (w := w) (base := base) T
  have GK_NoBox___init__ := GK_NoBox___init__ (P := P) (w := w) (base := base) T
  have G_NoThing___init__ := G_NoThing___init__ (P := P) (w := w) (base := base) T
  have GK_NoThing___init__ := GK_NoThing___init__ (P := P) (w := w) (base := base) T
  have G_NoZoom___init__ := G_NoZoom___init__ (P := P) (w := w) (base := base) T
  have GK_NoZoom___init__ := GK_NoZoom___init__ (P := P) (w := w) (base := base) T
  have G_Taken___init__ := G_Taken___init__ (P := P) (w := w) (base := base) T
  have GK_Taken___init__ := GK_Taken___init__ (P := P) (w := w) (base := base) T
  have G_Refused___init__ := G_Refused___init__ (P := P) (w := w) (base := base) T
  have GK_Refused___init__ := GK_Refused___init__ (P := P) (w := w) (base := base) T
  have G_BadText___init__ := G_BadText___init__ (P := P) (w := w) (base := base) T
  have GK_BadText___init__ := GK_BadText___init__ (P := P) (w := w) (base := base) T
  have G_TooMany___init__ := G_TooMany___init__ (P := P) (w := w) (base := base) T
  have GK_TooMany___init__ := GK_TooMany___init__ (P := P) (w := w) (base := base) T
  obtain ⟨fd, F⟩ := T.F__law_of_values
  refine fnG_of (k := 2) F sc__law_of_values (sp := spValues K d) (fun vs H Q E h => ?_) (fun cdv A outer s H vs Q E ng hr h => ?_) (F.binds fun _ _ _ _ _ _ us hl => match us, hl with | [_, _], _ => rfl)
  · obtain ⟨v, m, e, e2, rfl, _⟩ := h
    rfl
  · obtain ⟨v, m, e, e2, rfl, S, n, SM, n2, k⟩ := h
    have im : ∀ {H H' : Hp}, Same H H' → (Sh K H v e ∧ Sh K H m e2) → (Sh K H' v e ∧ Sh K H' m e2) := fun x s => ⟨s.1.same x, s.2.same x⟩
    -- slots: 0 _law_value, 1 _law_more, 2 _law_found
    refine ⟨_, (pss_cons (ps_set (i := 2) sc__law_of_values.nd rfl (Or.inl rfl) (pe_lst (pa_cons (pe_tup (pa_cons (pe_mkE T.ex_BadRatio.err G_BadRatio___init__ ng (hr.mono (by decide)) rfl T.m_BadRatio pass0 (pa_cons (pv 0) pa_nil)) (pa_cons (pe_xfA (pe_mkEk T.ex_BadRatio.err GK_BadRatio___init__ ng (hr.mono (by decide)) rfl T.m_BadRatio pass0 (pk_cons (pv 0) pk_nil))) pa_nil))) (pa_cons (pe_tup (pa_cons (pe_mkE T.ex_BadZoom.err G_BadZoom___init__ ng (hr.mono (by decide)) rfl T.m_BadZoom pass0 (pa_cons (pv 0) pa_nil)) (pa_cons (pe_xfA (pe_mkEk T.ex_BadZoom.err GK_BadZoom___init__ ng (hr.mono (by decide)) rfl T.m_BadZoom pass0 (pk_cons (pv 0) pk_nil))) pa_nil))) pa_nil))))
      (pss_cons (ps_set (i := 2) sc__law_of_values.nd rfl (Or.inl rfl) (pe_op uAdd (pv 2) (pe_lst (pa_cons (pe_tup (pa_cons (pe_mkE T.ex_BadScroll.err G_BadScroll___init__ ng (hr.mono (by decide)) rfl T.m_BadScroll pass0 (pa_cons (pv 0) pa_nil)) (pa_cons (pe_xfA (pe_mkEk T.ex_BadScroll.err GK_BadScroll___init__ ng (hr.mono (by decide)) rfl T.m_BadScroll pass0 (pk_cons (pv 0) pk_nil))) pa_nil))) (pa_cons (pe_tup (pa_cons (pe_mkE T.ex_BadNumber.err G_BadNumber___init__ ng (hr.mono (by decide)) rfl T.m_BadNumber pass0 (pa_cons (pv 0) pa_nil)) (pa_cons (pe_xfA (pe_mkEk T.ex_BadNumber.err GK_BadNumber___init__ ng (hr.mono (by decide)) rfl T.m_BadNumber pass0 (pk_cons (pv 0) pk_nil))) pa_nil))) pa_nil)))))
      (pss_cons (ps_set (i := 2) sc__law_of_values.nd rfl (Or.inl rfl) (pe_op uAdd (pv 2) (pe_lst (pa_cons (pe_tup (pa_cons (pe_mkE T.ex_BadSight.err G_BadSight___init__ ng (hr.mono (by decide)) rfl T.m_BadSight pass0 (pa_cons (pv 0) pa_nil)) (pa_cons (pe_xfA (pe_mkEk T.ex_BadSight.err GK_BadSight___init__ ng (hr.mono (by decide)) rfl T.m_BadSight pass0 (pk_cons (pv 0) pk_nil))) pa_nil))) (pa_cons (pe_tup (pa_cons (pe_mkE T.ex_BadLine.err G_BadLine___init__ ng (hr.mono (by decide)) rfl T.m_BadLine pass0 (pa_cons (pv 0) pa_nil)) (pa_cons (pe_xfA (pe_mkEk T.ex_BadLine.err GK_BadLine___init__ ng (hr.mono (by decide)) rfl T.m_BadLine pass0 (pk_cons (pv 0) pk_nil))) pa_nil))) pa_nil)))))
      (pss_cons (ps_set (i := 2) sc__law_of_values.nd rfl (Or.inl rfl) (pe_op uAdd (pv 2) (pe_lst (pa_cons (pe_tup (pa_cons (pe_mkE T.ex_NoBox.err G_NoBox___init__ ng (hr.mono (by decide)) rfl T.m_NoBox pass0 (pa_cons (pv 0) pa_nil)) (pa_cons (pe_xfA (pe_mkEk T.ex_NoBox.err GK_NoBox___init__ ng (hr.mono (by decide)) rfl T.m_NoBox pass0 (pk_cons (pv 0) pk_nil))) pa_nil))) (pa_cons (pe_tup (pa_cons (pe_mkE T.ex_NoThing.err G_NoThing___init__ ng (hr.mono (by decide)) rfl T.m_NoThing pass0 (pa_cons (pv 0) pa_nil)) (pa_cons (pe_xfA (pe_mkEk T.ex_NoThing.err GK_NoThing___init__ ng (hr.mono (by decide)) rfl T.m_NoThing pass0 (pk_cons (pv 0) pk_nil))) pa_nil))) pa_nil)))))
      (pss_cons (ps_set (i := 2) sc__law_of_values.nd rfl (Or.inl rfl) (pe_op uAdd (pv 2) (pe_lst (pa_cons (pe_tup (pa_cons (pe_mkE T.ex_NoZoom.err G_NoZoom___init__ ng (hr.mono (by decide)) rfl T.m_NoZoom pass0 (pa_cons (pv 0) pa_nil)) (pa_cons (pe_xfA (pe_mkEk T.ex_NoZoom.err GK_NoZoom___init__ ng (hr.mono (by decide)) rfl T.m_NoZoom pass0 (pk_cons (pv 0) pk_nil))) pa_nil))) (pa_cons (pe_tup (pa_cons (pe_mkE T.ex_Taken.err G_Taken___init__ ng (hr.mono (by decide)) rfl T.m_Taken pass0 (pa_cons (pv 0) pa_nil)) (pa_cons (pe_xfA (pe_mkEk T.ex_Taken.err GK_Taken___init__ ng (hr.mono (by decide)) rfl T.m_Taken pass0 (pk_cons (pv 0) pk_nil))) pa_nil))) pa_nil)))))
      (pss_cons (ps_set (i := 2) sc__law_of_values.nd rfl (Or.inl rfl) (pe_op uAdd (pv 2) (pe_lst (pa_cons (pe_tup (pa_cons (pe_mkE T.ex_Refused.err G_Refused___init__ ng (hr.mono (by decide)) rfl T.m_Refused pass0 (pa_cons (pv 0) pa_nil)) (pa_cons (pe_xfA (pe_mkEk T.ex_Refused.err GK_Refused___init__ ng (hr.mono (by decide)) rfl T.m_Refused pass0 (pk_cons (pv 0) pk_nil))) pa_nil))) (pa_cons (pe_tup (pa_cons (pe_mkE T.ex_BadText.err G_BadText___init__ ng (hr.mono (by decide)) rfl T.m_BadText pass0 (pa_cons (pv 0) (pa_cons (pv 1) pa_nil))) (pa_cons (pe_xfA (pe_mkEk T.ex_BadText.err GK_BadText___init__ ng (hr.mono (by decide)) rfl T.m_BadText pass0 (pk_cons (pv 1) (pk_cons (pv 0) pk_nil)))) pa_nil))) pa_nil)))))
      (pss_one (ps_ret (pe_op uAdd (pv 2) (pe_lst (pa_cons (pe_tup (pa_cons (pe_mkE T.ex_TooMany.err G_TooMany___init__ ng (hr.mono (by decide)) rfl T.m_TooMany pass0 (pa_cons (pv 0) (pa_cons (pv 1) pa_nil))) (pa_cons (pe_xfA (pe_mkEk T.ex_TooMany.err GK_TooMany___init__ ng (hr.mono (by decide)) rfl T.m_TooMany pass0 (pk_cons (pv 1) (pk_cons (pv 0) pk_nil)))) pa_nil))) pa_nil))))))))))), ?_⟩
    have S0 := And.intro S SM
    refine go_sn (lst2 (I := fun v H => Sh K H v e ∧ Sh K H m e2) im ((pair1 T.ex_BadRatio T.a_BadRatio_value rfl n).imp fun _ s => s.1) ((pair1 T.ex_BadZoom T.a_BadZoom_value rfl n).imp fun _ s => s.1) S0 fun l1 H1 e1 x1 => ?_)
    have S1 := im e1 S0
    refine go_sn (cat_rows (var_at rfl) x1 (by simp) (fun Q' k => lst2 (I := fun v H => Sh K H v e ∧ Sh K H m e2) im ((pair1 T.ex_BadScroll T.a_BadScroll_value rfl n).imp fun _ s => s.1) ((pair1 T.ex_BadNumber T.a_BadNumber_value rfl n).imp fun _ s => s.1) S1 k) fun l2 H2 e2' x2 => ?_)
    have S2 := im e2' S1
    refine go_sn (cat_rows (var_at rfl) x2 (by simp) (fun Q' k => lst2 (I := fun v H => Sh K H v e ∧ Sh K H m e2) im ((pair1 T.ex_BadSight T.a_BadSight_at rfl n).imp fun _ s => s.1) ((pair1 T.ex_BadLine T.a_BadLine_word rfl n).imp fun _ s => s.1) S2 k) fun l3 H3 e3' x3 => ?_)
    have S3 := im e3' S2
    refine go_sn (cat_rows (var_at rfl) x3 (by simp) (fun Q' k => lst2 (I := fun v H => Sh K H v e ∧ Sh K H m e2) im ((pair1 T.ex_NoBox T.a_NoBox_name rfl n).imp fun _ s => s.1) ((pair1 T.ex_NoThing T.a_NoThing_name rfl n).imp fun _ s => s.1) S3 k) fun l4 H4 e4' x4 => ?_)
    have S4 := im e4' S3
    refine go_sn (cat_rows (var_at rfl) x4 (by simp) (fun Q' k => lst2 (I := fun v H => Sh K H v e ∧ Sh K H m e2) im ((pair1 T.ex_NoZoom T.a_NoZoom_zoom rfl n).imp fun _ s => s.1) ((pair1 T.ex_Taken T.a_Taken_name rfl n).imp fun _ s => s.1) S4 k) fun l5 H5 e5' x5 => ?_)
    have S5 := im e5' S4
    refine go_sn (cat_rows (var_at rfl) x5 (by simp) (fun Q' k => lst2 (I := fun v H => Sh K H v e ∧ Sh K H m e2) im ((pair1 T.ex_Refused T.a_Refused_name rfl n).imp fun _ s => s.1) (pair2 T.ex_BadText T.a_BadText_line (by decide) rfl rfl n n2) S5 k) fun l6 H6 e6' x6 => ?_)
    have S6 := im e6' S5
    refine go_ret (cat_rows (var_at rfl) x6 (by simp) (fun Q' k => lst1 (I := fun v H => Sh K H v e ∧ Sh K H m e2) (pair2 T.ex_TooMany T.a_TooMany_what (by decide) rfl rfl n n2) S6 k) fun l7 H7 e7' x7 => ?_)
    exact k l7 H7 ((((((e1.trans e2').trans e3').trans e4').trans e5').trans e6').trans e7') x7
end
/-! ## which class an error is of -/
abbrev fam (d : Ad) : List (Addr × Str) := [(d.BadRounding, "BadRounding"), (d.BadDrawn, "BadDrawn"), (d.BadClaim, "BadClaim"), (d.BadZooms, "BadZooms"), (d.BadBox, "BadBox"), (d.BadPage, "BadPage"), (d.BadWay, "BadWay"), (d.BadStyle, "BadStyle"), (d.BadDrawing, "BadDrawing"), (d.BadScreen, "BadScreen"), (d.Unlike, "Unlike"), (d.BadRatio, "BadRatio"), (d.BadZoom, "BadZoom"), (d.BadScroll, "BadScroll"), (d.BadNumber, "BadNumber"), (d.BadSight, "BadSight"), (d.BadLine, "BadLine"), (d.NoBox, "NoBox"), (d.NoThing, "NoThing"), (d.NoZoom, "NoZoom"), (d.Taken, "Taken"), (d.Refused, "Refused"), (d.BadText, "BadText"), (d.TooMany, "TooMany"), (d.NoChange, "NoChange")]
abbrev famN : List Str := ["BadRounding", "BadDrawn", "BadClaim", "BadZooms", "BadBox", "BadPage", "BadWay", "BadStyle", "BadDrawing", "BadScreen", "Unlike", "BadRatio", "BadZoom", "BadScroll", "BadNumber", "BadSight", "BadLine", "NoBox", "NoThing", "NoZoom", "Taken", "Refused", "BadText", "TooMany", "NoChange"]
section
variable {P : Program} {w : World} {K : PySem.W.Frag} {mg : Str → Option Value} {base : Heap} {d : Ad} {i j : Nat} {c c' : Addr × Str} {σ : L2.St} {a : Addr} {H : Hp} {Q : VK}
theorem famEx (T : Tx K mg d) (h : (fam d)[i]? = some c) : (∃ fI, Ex K d.SnapError c.1 fI c.2) ∧ famN[i]? = some c.2 := by
  match i, h with
  | 0, h => cases h; exact ⟨⟨_, T.ex_BadRounding⟩, rfl⟩
  | 1, h => cases h; exact ⟨⟨_, T.ex_BadDrawn⟩, rfl⟩
  | 2, h => cases h; exact ⟨⟨_, T.ex_BadClaim⟩, rfl⟩
  | 3, h => cases h; exact ⟨⟨_, T.ex_BadZooms⟩, rfl⟩
  | 4, h => cases h; exact ⟨⟨_, T.ex_BadBox⟩, rfl⟩
  | 5, h => cases h; exact ⟨⟨_, T.ex_BadPage⟩, rfl⟩
  | 6, h => cases h; exact ⟨⟨_, T.ex_BadWay⟩, rfl⟩
  | 7, h => cases h; exact ⟨⟨_, T.ex_BadStyle⟩, rfl⟩
  | 8, h => cases h; exact ⟨⟨_, T.ex_BadDrawing⟩, rfl⟩
  | 9, h => cases h; exact ⟨⟨_, T.ex_BadScreen⟩, rfl⟩
  | 10, h => cases h; exact ⟨⟨_, T.ex_Unlike⟩, rfl⟩
  | 11, h => cases h; exact ⟨⟨_, T.ex_BadRatio⟩, rfl⟩
  | 12, h => cases h; exact ⟨⟨_, T.ex_BadZoom⟩, rfl⟩
  | 13, h => cases h; exact ⟨⟨_, T.ex_BadScroll⟩, rfl⟩
  | 14, h => cases h; exact ⟨⟨_, T.ex_BadNumber⟩, rfl⟩
  | 15, h => cases h; exact ⟨⟨_, T.ex_BadSight⟩, rfl⟩
  | 16, h => cases h; exact ⟨⟨_, T.ex_BadLine⟩, rfl⟩
  | 17, h => cases h; exact ⟨⟨_, T.ex_NoBox⟩, rfl⟩
  | 18, h => cases h; exact ⟨⟨_, T.ex_NoThing⟩, rfl⟩
  | 19, h => cases h; exact ⟨⟨_, T.ex_NoZoom⟩, rfl⟩
  | 20, h => cases h; exact ⟨⟨_, T.ex_Taken⟩, rfl⟩
  | 21, h => cases h; exact ⟨⟨_, T.ex_Refused⟩, rfl⟩
  | 22, h => cases h; exact ⟨⟨_, T.ex_BadText⟩, rfl⟩
  | 23, h => cases h; exact ⟨⟨_, T.ex_TooMany⟩, rfl⟩
  | 24, h => cases h; exact ⟨⟨_, T.ex_NoChange⟩, rfl⟩
  | n + 25, h => simp at h
theorem ErrO.same {a C : Addr} {H H' : Hp} (e : Same H H') (h : ErrO H a C) : ErrO H' a C := h.elim (fun h => Or.inl (e _ _ h)) fun ⟨fs, h⟩ => Or.inr ⟨fs, h.same e⟩
theorem famN_ne {s : Str} (h : famN[i]? = some s) : s ≠ "SnapError" := fun e => by
  have m : s ∈ famN := List.mem_of_getElem? h
  rw [e] at m
  exact absurd m (by decide)
theorem fam_name (T : Tx K mg d) (hi : (fam d)[i]? = some c) (hj : (fam d)[j]? = some c') (e : c.2 = c'.2) : i = j := by
  have h1 := (famEx T hi).2
  have h2 := (famEx T hj).2
  rw [e, ← h2] at h1
  have hlt : i < famN.length := by
    have := (List.getElem?_eq_some_iff.mp (famEx T hi).2).1
    exact this
  exact (List.getElem?_inj hlt (by decide)).mp h1
theorem kit_fam (T : Tx K mg d) (hi : (fam d)[i]? = some c) (hj : (fam d)[j]? = some c') : PySem.W.kitOne K (.ref c.1) (.ref c'.1) = some (decide (i = j)) := by
  by_cases e : i = j
  · subst e
    rw [hi] at hj
    cases hj
    rw [decide_eq_true rfl]
    exact kit_rr
  · rw [decide_eq_false e]
    obtain ⟨⟨fI, x⟩, n1⟩ := famEx T hi
    obtain ⟨⟨fJ, y⟩, n2⟩ := famEx T hj
    exact x.kit_ne y T.sx_SnapError (fun q => e (fam_name T hi hj q)) (famN_ne n2)
/-- isinstance(e, C), C one of them -/
abbrev tIsE (K : PySem.W.Frag) (t : TA) : TE := tCB (fun xs H Q => rIsE1 K xs H Q ∨ rIsET K xs H Q) t
theorem isb (T : Tx K mg d) (j : Nat) (hi : (fam d)[i]? = some c) (hj : (fam d)[j]? = some c') (he : ErrO H a c.1) (h0 : σ[0]? = some (some (.ref a))) (q : Q (.bl (decide (i = j))) H) : tIsE K (tCons (tVar 0) (tCons (tC (V.ref c'.1)) tNil)) σ H Q :=
  let ⟨⟨fI, x⟩, _⟩ := famEx T hi
  ⟨_, h0, Or.inl ⟨a, _, _, fI, _, _, _, _, rfl, T.gx_object, x, he, .own _, kit_fam T hi hj, q⟩⟩
theorem lb2 {R1 R2 : TE} {b1 b2 : Bool} (h1 : ∀ Q : VK, Q (.bl b1) H → R1 σ H Q) (h2 : ∀ Q : VK, Q (.bl b2) H → R2 σ H Q) (k : ∀ l, H l = none → Q (.ref l) (upd H l (.lst ([b1, b2].map V.bl)))) : tLst (tCons R1 (tCons R2 tNil)) σ H Q :=
  h1 _ (h2 _ ⟨(by show 2 ≤ sizeLine; decide), k⟩)
theorem lb3 {R1 R2 R3 : TE} {b1 b2 b3 : Bool} (h1 : ∀ Q : VK, Q (.bl b1) H → R1 σ H Q) (h2 : ∀ Q : VK, Q (.bl b2) H → R2 σ H Q) (h3 : ∀ Q : VK, Q (.bl b3) H → R3 σ H Q) (k : ∀ l, H l = none → Q (.ref l) (upd H l (.lst ([b1, b2, b3].map V.bl)))) : tLst (tCons R1 (tCons R2 (tCons R3 tNil))) σ H Q :=
  h1 _ (h2 _ (h3 _ ⟨(by show 3 ≤ sizeLine; decide), k⟩))
theorem lb3s {R1 R2 R3 : TE} {b1 b2 b3 : Bool} (h1 : ∀ Q : VK, Q (.bl b1) H → R1 σ H Q) (h2 : ∀ Q : VK, Q (.bl b2) H → R2 σ H Q) (h3 : ∀ Q : VK, Q (.bl b3) H → R3 σ H Q) (k : ∀ l H', Same H H' → H' l = some (.lst ([b1, b2, b3].map V.bl)) → Q (.ref l) H') : tLst (tCons R1 (tCons R2 (tCons R3 tNil))) σ H Q :=
  lb3 h1 h2 h3 fun l hl => k l _ (sameNew hl) upd_same
theorem cat_b {r1 r2 r4 : R2} {t2 : TE} {b1 b2 : List Bool} {l : Addr} (h0 : σ[1]? = some (some (.ref l))) (hl : H l = some (.lst (b1.map V.bl))) (hz : b1.length + b2.length ≤ 1000)
    (h2 : ∀ Q' : VK, (∀ b, H b = none → Q' (.ref b) (upd H b (.lst (b2.map V.bl)))) → t2 σ H Q') (k : ∀ p H', Same H H' → H' p = some (.lst ((b1 ++ b2).map V.bl)) → Q (.ref p) H') : tOp (orR r1 (orR r2 (orR rCat r4))) (tVar 1) t2 σ H Q := by
  refine ⟨_, h0, h2 _ fun b hb => Or.inr (Or.inr (Or.inl ⟨l, b, b1.map V.bl, b2.map V.bl, rfl, rfl, ?_, upd_same, ?_, fun p hp => ?_⟩))⟩
  · rw [upd_ne (ne_of_none hl hb)]; exact hl
  · rw [List.length_map, List.length_map]; exact Nat.le_trans hz (by decide)
  · refine k p _ ((sameNew hb).trans (sameNew hp)) ?_
    rw [upd_same, List.map_append]
def spClasses (d : Ad) : Sp := fun vs H Q _ => ∃ (a : Addr) (i : Nat) (c : Addr × Str), vs = [.ref a] ∧ (fam d)[i]? = some c ∧ ErrO H a c.1 ∧ ∀ l H', Same H H' → H' l = some (.lst [.int (i : Int)]) → Q (.ref l) H'
theorem fam_filter (hi : i < 25) : (List.range 25).filter (fun j => decide (i = j)) = [i] := by
  match i, hi with
  | 0, _ => decide
  | 1, _ => decide
  | 2, _ => decide
  | 3, _ => decide
  | 4, _ => decide
  | 5, _ => decide
  | 6, _ => decide
  | 7, _ => decide
  | 8, _ => decide
  | 9, _ => decide
  | 10, _ => decide
  | 11, _ => decide
  | 12, _ => decide
  | 13, _ => decide
  | 14, _ => decide
  | 15, _ => decide
  | 16, _ => decide
  | 17, _ => decide
  | 18, _ => decide
  | 19, _ => decide
  | 20, _ => decide
  | 21, _ => decide
  | 22, _ => decide
  | 23, _ => decide
  | 24, _ => decide
  | n + 25, h => omega
theorem G__law_classes (T : Tx K mg d) : FnG P w K mg base CX0 3 d._law_classes (spClasses d) := by
  obtain ⟨fd, F⟩ := T.F__law_classes
  refine fnG_of (k := 2) F sc__law_classes (sp := spClasses d) (fun vs H Q E h => ?_) (fun cdv A outer s H vs Q E ng hr h => ?_) (F.binds fun _ _ _ _ _ _ us hl => match us, hl with | [_], _ => rfl)
  · obtain ⟨a, i, c, rfl, _⟩ := h
    rfl
  · obtain ⟨a, i, c, rfl, hi, he, k⟩ := h
    -- slots: 0 _law_error, 1 _law_told, 2 _law_at
    refine ⟨_, (pss_cons (ps_set (i := 1) sc__law_classes.nd rfl (Or.inr rfl) (pe_lst (pa_cons (pe_callB (uIsEK rfl) (by rfl) T.n_isinstance (by decide +kernel) (pa_cons (pv 0) (pa_cons (pe_glob (v := .ref _) rfl T.m_BadRounding rfl) pa_nil))) (pa_cons (pe_callB (uIsEK rfl) (by rfl) T.n_isinstance (by decide +kernel) (pa_cons (pv 0) (pa_cons (pe_glob (v := .ref _) rfl T.m_BadDrawn rfl) pa_nil))) (pa_cons (pe_callB (uIsEK rfl) (by rfl) T.n_isinstance (by decide +kernel) (pa_cons (pv 0) (pa_cons (pe_glob (v := .ref _) rfl T.m_BadClaim rfl) pa_nil))) pa_nil)))))
      (pss_cons (ps_set (i := 1) sc__law_classes.nd rfl (Or.inr rfl) (pe_op uAdd (pv 1) (pe_lst (pa_cons (pe_callB (uIsEK rfl) (by rfl) T.n_isinstance (by decide +kernel) (pa_cons (pv 0) (pa_cons (pe_glob (v := .ref _) rfl T.m_BadZooms rfl) pa_nil))) (pa_cons (pe_callB (uIsEK rfl) (by rfl) T.n_isinstance (by decide +kernel) (pa_cons (pv 0) (pa_cons (pe_glob (v := .ref _) rfl T.m_BadBox rfl) pa_nil))) (pa_cons (pe_callB (uIsEK rfl) (by rfl) T.n_isinstance (by decide +kernel) (pa_cons (pv 0) (pa_cons (pe_glob (v := .ref _) rfl T.m_BadPage rfl) pa_nil))) pa_nil))))))
      (pss_cons (ps_set (i := 1) sc__law_classes.nd rfl (Or.inr rfl) (pe_op uAdd (pv 1) (pe_lst (pa_cons (pe_callB (uIsEK rfl) (by rfl) T.n_isinstance (by decide +kernel) (pa_cons (pv 0) (pa_cons (pe_glob (v := .ref _) rfl T.m_BadWay rfl) pa_nil))) (pa_cons (pe_callB (uIsEK rfl) (by rfl) T.n_isinstance (by decide +kernel) (pa_cons (pv 0) (pa_cons (pe_glob (v := .ref _) rfl T.m_BadStyle rfl) pa_nil))) (pa_cons (pe_callB (uIsEK rfl) (by rfl) T.n_isinstance (by decide +kernel) (pa_cons (pv 0) (pa_cons (pe_glob (v := .ref _) rfl T.m_BadDrawing rfl) pa_nil))) pa_nil))))))
      (pss_cons (ps_set (i := 1) sc__law_classes.nd rfl (Or.inr rfl) (pe_op uAdd (pv 1) (pe_lst (pa_cons (pe_callB (uIsEK rfl) (by rfl) T.n_isinstance (by decide +kernel) (pa_cons (pv 0) (pa_cons (pe_glob (v := .ref _) rfl T.m_BadScreen rfl) pa_nil))) (pa_cons (pe_callB (uIsEK rfl) (by rfl) T.n_isinstance (by decide +kernel) (pa_cons (pv 0) (pa_cons (pe_glob (v := .ref _) rfl T.m_Unlike rfl) pa_nil))) pa_nil)))))
      (pss_cons (ps_set (i := 1) sc__law_classes.nd rfl (Or.inr rfl) (pe_op uAdd (pv 1) (pe_lst (pa_cons (pe_callB (uIsEK rfl) (by rfl) T.n_isinstance (by decide +kernel) (pa_cons (pv 0) (pa_cons (pe_glob (v := .ref _) rfl T.m_BadRatio rfl) pa_nil))) (pa_cons (pe_callB (uIsEK rfl) (by rfl) T.n_isinstance (by decide +kernel) (pa_cons (pv 0) (pa_cons (pe_glob (v := .ref _) rfl T.m_BadZoom rfl) pa_nil))) (pa_cons (pe_callB (uIsEK rfl) (by rfl) T.n_isinstance (by decide +kernel) (pa_cons (pv 0) (pa_cons (pe_glob (v := .ref _) rfl T.m_BadScroll rfl) pa_nil))) pa_nil))))))
      (pss_cons (ps_set (i := 1) sc__law_classes.nd rfl (Or.inr rfl) (pe_op uAdd (pv 1) (pe_lst (pa_cons (pe_callB (uIsEK rfl) (by rfl) T.n_isinstance (by decide +kernel) (pa_cons (pv 0) (pa_cons (pe_glob (v := .ref _) rfl T.m_BadNumber rfl) pa_nil))) (pa_cons (pe_callB (uIsEK rfl) (by rfl) T.n_isinstance (by decide +kernel) (pa_cons (pv 0) (pa_cons (pe_glob (v := .ref _) rfl T.m_BadSight rfl) pa_nil))) (pa_cons (pe_callB (uIsEK rfl) (by rfl) T.n_isinstance (by decide +kernel) (pa_cons (pv 0) (pa_cons (pe_glob (v := .ref _) rfl T.m_BadLine rfl) pa_nil))) pa_nil))))))
      (pss_cons (ps_set (i := 1) sc__law_classes.nd rfl (Or.inr rfl) (pe_op uAdd (pv 1) (pe_lst (pa_cons (pe_callB (uIsEK rfl) (by rfl) T.n_isinstance (by decide +kernel) (pa_cons (pv 0) (pa_cons (pe_glob (v := .ref _) rfl T.m_NoBox rfl) pa_nil))) (pa_cons (pe_callB (uIsEK rfl) (by rfl) T.n_isinstance (by decide +kernel) (pa_cons (pv 0) (pa_cons (pe_glob (v := .ref _) rfl T.m_NoThing rfl) pa_nil))) (pa_cons (pe_callB (uIsEK rfl) (by rfl) T.n_isinstance (by decide +kernel) (pa_cons (pv 0) (pa_cons (pe_glob (v := .ref _) rfl T.m_NoZoom rfl) pa_nil))) pa_nil))))))
      (pss_cons (ps_set (i := 1) sc__law_classes.nd rfl (Or.inr rfl) (pe_op uAdd (pv 1) (pe_lst (pa_cons (pe_callB (uIsEK rfl) (by rfl) T.n_isinstance (by decide +kernel) (pa_cons (pv 0) (pa_cons (pe_glob (v := .ref _) rfl T.m_Taken rfl) pa_nil))) (pa_cons (pe_callB (uIsEK rfl) (by rfl) T.n_isinstance (by decide +kernel) (pa_cons (pv 0) (pa_cons (pe_glob (v := .ref _) rfl T.m_Refused rfl) pa_nil))) (pa_cons (pe_callB (uIsEK rfl) (by rfl) T.n_isinstance (by decide +kernel) (pa_cons (pv 0) (pa_cons (pe_glob (v := .ref _) rfl T.m_BadText rfl) pa_nil))) pa_nil))))))
      (pss_cons (ps_set (i := 1) sc__law_classes.nd rfl (Or.inr rfl) (pe_op uAdd (pv 1) (pe_lst (pa_cons (pe_callB (uIsEK rfl) (by rfl) T.n_isinstance (by decide +kernel) (pa_cons (pv 0) (pa_cons (pe_glob (v := .ref _) rfl T.m_TooMany rfl) pa_nil))) (pa_cons (pe_callB (uIsEK rfl) (by rfl) T.n_isinstance (by decide +kernel) (pa_cons (pv 0) (pa_cons (pe_glob (v := .ref _) rfl T.m_NoChange rfl) pa_nil))) pa_nil)))))
      (pss_one (ps_ret (pe_lc (own := [("_law_at", 2)]) (g := gName 2) (by rfl) sc__law_classes.nd (pi_range1 rfl T.n_range (pa_cons (pe_callB call_len_seq (by rfl) T.n_len (by decide +kernel) (pa_cons (pv 1) pa_nil)) pa_nil)) (blkOk_by (own := [("_law_at", 2)]) (N := ["_law_error", "_law_told", "_law_at"]) (sc := defScope s__law_classes) (by decide +kernel)) (fun _ _ _ _ _ => pg_name (i := 2) sc__law_classes.nd rfl (Or.inl rfl)) (fun _ _ _ _ _ => pts_one (pt_val (pe_ix (ix_seqK (K := K) rfl) (pv 1) (pv 2) (fun _ _ => rfl)))) (fun _ _ _ _ _ => (pv 2)))))))))))))), ?_⟩
    have B : ∀ {H' : Hp} {σ : L2.St} (j : Nat) (c' : Addr × Str), Same H H' → (fam d)[j]? = some c' → σ[0]? = some (some (.ref a)) → ∀ Q : VK, Q (.bl (decide (i = j))) H' → tIsE K (tCons (tVar 0) (tCons (tC (V.ref c'.1)) tNil)) σ H' Q :=
      fun j c' e hj h0 Q q => isb T j hi hj (he.same e) h0 q
    refine go_sn (lb3s (B 0 (d.BadRounding, "BadRounding") (Same.refl H) rfl rfl) (B 1 (d.BadDrawn, "BadDrawn") (Same.refl H) rfl rfl) (B 2 (d.BadClaim, "BadClaim") (Same.refl H) rfl rfl) fun l1 H1 E1 L1 => ?_)
    refine go_sn (cat_b (b1 := [decide (i = 0), decide (i = 1), decide (i = 2)]) rfl L1 (by simp) (fun Q' k => lb3 (B 3 (d.BadZooms, "BadZooms") E1 rfl rfl) (B 4 (d.BadBox, "BadBox") E1 rfl rfl) (B 5 (d.BadPage, "BadPage") E1 rfl rfl) k) fun l2 H2 e2 L2 => ?_)
    have E2 := E1.trans e2
    refine go_sn (cat_b (b1 := [decide (i = 0), decide (i = 1), decide (i = 2), decide (i = 3), decide (i = 4), decide (i = 5)]) rfl L2 (by simp) (fun Q' k => lb3 (B 6 (d.BadWay, "BadWay") E2 rfl rfl) (B 7 (d.BadStyle, "BadStyle") E2 rfl rfl) (B 8 (d.BadDrawing, "BadDrawing") E2 rfl rfl) k) fun l3 H3 e3 L3 => ?_)
    have E3 := E2.trans e3
    refine go_sn (cat_b (b1 := [decide (i = 0), decide (i = 1), decide (i = 2), decide (i = 3), decide (i = 4), decide (i = 5), decide (i = 6), decide (i = 7), decide (i = 8)]) rfl L3 (by simp) (fun Q' k => lb2 (B 9 (d.BadScreen, "BadScreen") E3 rfl rfl) (B 10 (d.Unlike, "Unlike") E3 rfl rfl) k) fun l4 H4 e4 L4 => ?_)
    have E4 := E3.trans e4
    refine go_sn (cat_b (b1 := [decide (i = 0), decide (i = 1), decide (i = 2), decide (i = 3), decide (i = 4), decide (i = 5), decide (i = 6), decide (i = 7), decide (i = 8), decide (i = 9), decide (i = 10)]) rfl L4 (by simp) (fun Q' k => lb3 (B 11 (d.BadRatio, "BadRatio") E4 rfl rfl) (B 12 (d.BadZoom, "BadZoom") E4 rfl rfl) (B 13 (d.BadScroll, "BadScroll") E4 rfl rfl) k) fun l5 H5 e5 L5 => ?_)
    have E5 := E4.trans e5
    refine go_sn (cat_b (b1 := [decide (i = 0), decide (i = 1), decide (i = 2), decide (i = 3), decide (i = 4), decide (i = 5), decide (i = 6), decide (i = 7), decide (i = 8), decide (i = 9), decide (i = 10), decide (i = 11), decide (i = 12), decide (i = 13)]) rfl L5 (by simp) (fun Q' k => lb3 (B 14 (d.BadNumber, "BadNumber") E5 rfl rfl) (B 15 (d.BadSight, "BadSight") E5 rfl rfl) (B 16 (d.BadLine, "BadLine") E5 rfl rfl) k) fun l6 H6 e6 L6 => ?_)
    have E6 := E5.trans e6
    refine go_sn (cat_b (b1 := [decide (i = 0), decide (i = 1), decide (i = 2), decide (i = 3), decide (i = 4), decide (i = 5), decide (i = 6), decide (i = 7), decide (i = 8), decide (i = 9), decide (i = 10), decide (i = 11), decide (i = 12), decide (i = 13), decide (i = 14), decide (i = 15), decide (i = 16)]) rfl L6 (by simp) (fun Q' k => lb3 (B 17 (d.NoBox, "NoBox") E6 rfl rfl) (B 18 (d.NoThing, "NoThing") E6 rfl rfl) (B 19 (d.NoZoom, "NoZoom") E6 rfl rfl) k) fun l7 H7 e7 L7 => ?_)
    have E7 := E6.trans e7
    refine go_sn (cat_b (b1 := [decide (i = 0), decide (i = 1), decide (i = 2), decide (i = 3), decide (i = 4), decide (i = 5), decide (i = 6), decide (i = 7), decide (i = 8), decide (i = 9), decide (i = 10), decide (i = 11), decide (i = 12), decide (i = 13), decide (i = 14), decide (i = 15), decide (i = 16), decide (i = 17), decide (i = 18), decide (i = 19)]) rfl L7 (by simp) (fun Q' k => lb3 (B 20 (d.Taken, "Taken") E7 rfl rfl) (B 21 (d.Refused, "Refused") E7 rfl rfl) (B 22 (d.BadText, "BadText") E7 rfl rfl) k) fun l8 H8 e8 L8 => ?_)
    have E8 := E7.trans e8
    refine go_sn (cat_b (b1 := [decide (i = 0), decide (i = 1), decide (i = 2), decide (i = 3), decide (i = 4), decide (i = 5), decide (i = 6), decide (i = 7), decide (i = 8), decide (i = 9), decide (i = 10), decide (i = 11), decide (i = 12), decide (i = 13), decide (i = 14), decide (i = 15), decide (i = 16), decide (i = 17), decide (i = 18), decide (i = 19), decide (i = 20), decide (i = 21), decide (i = 22)]) rfl L8 (by simp) (fun Q' k => lb2 (B 23 (d.TooMany, "TooMany") E8 rfl rfl) (B 24 (d.NoChange, "NoChange") E8 rfl rfl) k) fun l9 H9 e9 L9 => ?_)
    have E9 := E8.trans e9
    have told : (([decide (i = 0), decide (i = 1), decide (i = 2), decide (i = 3), decide (i = 4), decide (i = 5), decide (i = 6), decide (i = 7), decide (i = 8), decide (i = 9), decide (i = 10), decide (i = 11), decide (i = 12), decide (i = 13), decide (i = 14), decide (i = 15), decide (i = 16), decide (i = 17), decide (i = 18), decide (i = 19), decide (i = 20), decide (i = 21), decide (i = 22), decide (i = 23), decide (i = 24)] : List Bool)) = (List.range 25).map fun j => decide (i = j) := rfl
    have L : H9 l9 = some (.lst (((List.range 25).map fun j => decide (i = j)).map V.bl)) := by rw [← told]; exact L9
    clear L9 told
    have lt : i < 25 := (List.getElem?_eq_some_iff.mp hi).1
    refine go_ret ⟨_, rfl, ⟨l9, _, rfl, Or.inl (SqL.of L), 25, by simp, by decide, by decide, fun D hD => ?_⟩⟩
    refine lc_range (Pv := fun j H'' => Same H9 H'' ∧ H'' D = some (.lst (((List.range j).filter fun j => decide (i = j)).map fun (j : Nat) => V.int (j : Int)))) ⟨sameNew hD, upd_same⟩ (fun j H'' hj g => ?_) (fun H'' g => ?_)
    · have hj : j < 25 := hj
      have at_ : ((((List.range 25).map fun j => decide (i = j)).map V.bl))[j]? = some (.bl (decide (i = j))) := by
        rw [List.getElem?_map, List.getElem?_map, List.getElem?_range hj]; rfl
      have next : ∀ z : List V, ((List.range j).filter fun j => decide (i = j)).map (fun (j : Nat) => V.int (j : Int)) ++ z = ((List.range (j + 1)).filter fun j => decide (i = j)).map (fun (j : Nat) => V.int (j : Int)) ↔ z = if decide (i = j) = true then [V.int (j : Int)] else [] := fun z => by
        rw [List.range_succ, List.filter_append, List.map_append, List.append_cancel_left_eq]
        by_cases q : i = j
        · simp [q]
        · simp [q]
      refine ⟨rfl, ⟨_, rfl, _, rfl, Or.inl ⟨l9, _, _, .bl (decide (i = j)), rfl, rfl, SqL.of (g.1 _ _ L), at_of (j := j) (by omega) at_, _, rfl, ?_⟩⟩⟩
      refine if2 (fun q => ⟨_, rfl, _, g.2, ?_, fun b o e => ?_, ?_⟩) (fun q => ⟨g.1, ?_⟩)
      · rw [List.length_map]
        exact Nat.lt_of_le_of_lt (List.length_filter_le _ _) (by rw [List.length_range]; exact Nat.lt_trans hj (by decide))
      · rw [upd_ne (ne_of_none e hD)]; exact g.1 _ _ e
      · rw [upd_same, (next _).mpr (by rw [if_pos q, Int.zero_add])]
      · rw [g.2, ← (next []).mpr (by rw [q]; rfl), List.append_nil]
    · refine k D H'' (E9.trans g.1) ?_
      have z := g.2
      rw [show ((25 : Int)).toNat = 25 from rfl] at z
      rw [fam_filter lt] at z
      exact z
/-! ## what errors keep -/
theorem paired_get {α β : Type} {R : α → β → Prop} : ∀ {xs : List α} {ys : List β} {j : Nat} {x : α}, Paired R xs ys → xs[j]? = some x → ∃ y, ys[j]? = some y ∧ R x y
  | _, _, 0, _, .cons h _, e => by cases e; exact ⟨_, rfl, h⟩
  | _, _, j + 1, _, .cons _ r, e => by
    obtain ⟨y, h1, h2⟩ := paired_get (j := j) r (by simpa using e)
    exact ⟨y, by simpa using h1, h2⟩
  | _, _, j, _, .nil, e => by simp at e
def spFields (K : PySem.W.Frag) : Sp := fun vs H Q _ => ∃ l v e cs, vs = [.ref l, v] ∧ RowsAt v H l cs ∧ Sh K H v e ∧ Shn e ∧ ∀ H', Same H H' → Q (.bl true) H'
theorem G__law_fields (T : Tx K mg d) : FnG P w K mg base CX0 3 d._law_fields (spFields K) := by
  obtain ⟨fd, F⟩ := T.F__law_fields
  refine fnG_of (k := 2) F sc__law_fields (sp := spFields K) (fun vs H Q E h => ?_) (fun cdv A outer s H vs Q E ng hr h => ?_) (F.binds fun _ _ _ _ _ _ us hl => match us, hl with | [_, _], _ => rfl)
  · obtain ⟨l, v, e, cs, rfl, _⟩ := h
    rfl
  · obtain ⟨l, v, e, cs, rfl, ⟨ps, hp, pr⟩, S, n, k⟩ := h
    -- slots: 0 _law_pairs_so, 1 _law_value, 2 _law_error, 3 _law_kept_here
    refine ⟨_, (pss_one (ps_ret (pe_cmpR (uEq hr.units) (pe_lc (own := [("_law_error", 2), ("_law_kept_here", 3)]) (g := gTup K 2 (gCons (gName 2) (gCons (gName 3) gNil))) (by rfl) sc__law_fields.nd (pi_list (pv 0)) (blkOk_by (own := [("_law_error", 2), ("_law_kept_here", 3)]) (N := ["_law_pairs_so", "_law_value", "_law_error", "_law_kept_here"]) (sc := defScope s__law_fields) (by decide +kernel)) (fun _ _ _ _ _ => pg_tup (by rfl) (pgs_cons (pg_name (i := 2) sc__law_fields.nd rfl (Or.inl rfl)) (pgs_cons (pg_name (i := 3) sc__law_fields.nd rfl (Or.inl rfl)) pgs_nil))) (fun _ _ _ _ _ => pts_one (pt_cmpR (op_ne) (pe_callB (call_reprSK (K:=K) rfl ng hr.units70) (by rfl) T.n_repr (by decide +kernel) (pa_cons (pv 3) pa_nil)) (pe_callB (call_reprSK (K:=K) rfl ng hr.units70) (by rfl) T.n_repr (by decide +kernel) (pa_cons (pv 1) pa_nil)) (nomark _))) (fun _ _ _ _ _ => pe_int)) (pe_lst pa_nil) (nomark _)))), ?_⟩
    refine go_ret ⟨_, rfl, l, rfl, ⟨_, SqL.of hp⟩, fun D hD => ?_⟩
    refine lc_list (K := K) (a := l) (xs := ps) (fun j H'' => Same H H'' ∧ H'' D = some (.lst [])) ⟨sameNew hD, upd_same⟩ (fun j H'' _ g => SqL.of (g.1 _ _ hp)) (fun j x H'' hx g => ?_) (fun H'' g => ?_)
    · obtain ⟨c, _, t, er, rfl, ht, _⟩ := paired_get pr hx
      refine ⟨t, [.ref er, v], rfl, SqT.of (g.1 _ _ ht), rfl, _, _, rfl, _, _, rfl, rfl, rfl, ?_⟩
      exact ⟨_, rfl, v, e, rfl, S.same g.1, n, _, rfl, v, e, rfl, S.same g.1, n, rfl, _, rfl, ifF (by simp) g⟩
    · refine ⟨Nat.zero_le _, fun p hpn => Or.inr (Or.inr ⟨.list [], .list [], .lst (SqL.of ?_) .nil, .lst (SqL.of upd_same) .nil, shaped_ints [], shaped_ints [], ?_⟩)⟩
      · rw [upd_ne (ne_of_none g.2 hpn)]; exact g.2
      · exact vb (eqv_nil []) (k _ (g.1.trans (sameNew hpn)))
def HasF (K : PySem.W.Frag) (C : Addr) (fs : List (Str × V)) (f : Str) (v : V) : Prop := NoAttr K C f ∧ fs.lookup f = some v
structure KeptOk (K : PySem.W.Frag) (C : Addr) (fs : List (Str × V)) (v : V) (i : Nat) : Prop where
  val : i = 11 ∨ i = 12 ∨ i = 13 ∨ i = 14 → HasF K C fs "value" v
  at_ : i = 15 → HasF K C fs "at" v
  word : i = 16 → HasF K C fs "word" v
  name : i = 17 ∨ i = 18 ∨ i = 20 ∨ i = 21 → HasF K C fs "name" v
  zoom : i = 19 → HasF K C fs "zoom" v
  text : i = 22 → HasF K C fs "line" v ∧ ∃ u, HasF K C fs "word" u
  many : i = 23 → HasF K C fs "what" v ∧ ∃ u, HasF K C fs "most" u
  part : i < 11 → HasF K C fs "part" v
  lt : i < 24
def spKept (K : PySem.W.Frag) (d : Ad) : Sp := fun vs H Q _ => ∃ (a : Addr) (i : Nat) (c : Addr × Str) (fs : List (Str × V)) (v : V), vs = [.ref a] ∧ (fam d)[i]? = some c ∧ ErrAt H a c.1 fs ∧ KeptOk K c.1 fs v i ∧ ∀ l rest H', Same H H' → H' l = some (.lst (v :: rest)) → Q (.ref l) H'
theorem go_if {R r : TE} {u : TS} {D : Ends} {b : Bool} (h : ∀ Q : VK, (∀ H', Same H H' → Q (.bl b) H') → R σ H Q) (ht : b = true → ∀ H', Same H H' → r σ H' D.rt) (hf : b = false → ∀ H', Same H H' → u D σ H') : tSeq (tIfS (tB R) (tRet r) tNext) u D σ H :=
  h _ fun H' e => ⟨_, rfl, if2 (fun q => ht q H' e) (fun q => hf q H' e)⟩
theorem kit_any (T : Tx K mg d) (hi : (fam d)[i]? = some c) : ∀ L : List (Nat × Addr × Str), (∀ p ∈ L, (fam d)[p.1]? = some p.2) → PySem.W.kitAny K (.ref c.1) (L.map fun p => .ref p.2.1) = some (L.any fun p => decide (i = p.1))
  | [], _ => rfl
  | p :: L, h => by
    have h1 := kit_fam T hi (h p (List.mem_cons_self ..))
    have h2 := kit_any T hi L fun q hq => h q (List.mem_cons_of_mem _ hq)
    show PySem.W.kitAny K (.ref c.1) (.ref p.2.1 :: L.map fun p => .ref p.2.1) = _
    unfold PySem.W.kitAny
    rw [h1]
    by_cases e : i = p.1
    · rw [decide_eq_true e]; simp [e]
    · rw [decide_eq_false e]; simp only [List.any_cons, decide_eq_false e, Bool.false_or]; exact h2
theorem ist4 (T : Tx K mg d) (p1 p2 p3 p4 : Nat × Addr × Str) (h : ∀ p ∈ [p1, p2, p3, p4], (fam d)[p.1]? = some p.2) (hi : (fam d)[i]? = some c) (he : ErrO H a c.1) (h0 : σ[0]? = some (some (.ref a))) (Q : VK) (q : ∀ H', Same H H' → Q (.bl ([p1, p2, p3, p4].any fun p => decide (i = p.1))) H') :
    tIsE K (tCons (tVar 0) (tCons (tTup (tCons (tC (V.ref p1.2.1)) (tCons (tC (V.ref p2.2.1)) (tCons (tC (V.ref p3.2.1)) (tCons (tC (V.ref p4.2.1)) tNil))))) tNil)) σ H Q := by
  obtain ⟨⟨fI, x⟩, _⟩ := famEx T hi
  refine ⟨_, h0, ⟨(by show 4 ≤ sizeLine; decide), fun tp htp => Or.inr ⟨a, tp, _, _, fI, _, _, _, _, rfl, upd_same, T.gx_object, x, he.same (sameNew htp), .cons (.own _) (.cons (.own _) (.cons (.own _) (.cons (.own _) .nil))), kit_any T hi _ h, q _ (sameNew htp)⟩⟩⟩
theorem kept1 {f : Str} {fs : List (Str × V)} {v : V} (T : Tx K mg d) (hi : (fam d)[i]? = some c) (he : ErrAt H a c.1 fs) (h0 : σ[0]? = some (some (.ref a))) (hf : HasF K c.1 fs f v) (k : ∀ l rest H', Same H H' → H' l = some (.lst (v :: rest)) → Q (.ref l) H') : tLst (tCons (tXfA K f (tVar 0)) tNil) σ H Q := by
  obtain ⟨⟨fI, x⟩, _⟩ := famEx T hi
  exact ⟨_, h0, a, c.1, fs, v, rfl, x.xf, hf.1, he, hf.2, (by show 1 ≤ sizeLine; decide), fun l hl => k l [] _ (sameNew hl) upd_same⟩
theorem kept2 {f g : Str} {fs : List (Str × V)} {v u : V} (T : Tx K mg d) (hi : (fam d)[i]? = some c) (he : ErrAt H a c.1 fs) (h0 : σ[0]? = some (some (.ref a))) (hf : HasF K c.1 fs f v) (hg : HasF K c.1 fs g u) (k : ∀ l rest H', Same H H' → H' l = some (.lst (v :: rest)) → Q (.ref l) H') :
    tLst (tCons (tXfA K f (tVar 0)) (tCons (tXfA K g (tVar 0)) tNil)) σ H Q := by
  obtain ⟨⟨fI, x⟩, _⟩ := famEx T hi
  exact ⟨_, h0, a, c.1, fs, v, rfl, x.xf, hf.1, he, hf.2, _, h0, a, c.1, fs, u, rfl, x.xf, hg.1, he, hg.2, (by show 2 ≤ sizeLine; decide), fun l hl => k l [u] _ (sameNew hl) upd_same⟩
theorem G__law_kept (T : Tx K mg d) : FnG P w K mg base CX0 3 d._law_kept (spKept K d) := by
  obtain ⟨fd, F⟩ := T.F__law_kept
  refine fnG_of (k := 2) F sc__law_kept (sp := spKept K d) (fun vs H Q E h => ?_) (fun cdv A outer s H vs Q E ng hr h => ?_) (F.binds fun _ _ _ _ _ _ us hl => match us, hl with | [_], _ => rfl)
  · obtain ⟨a, i, c, fs, v, rfl, _⟩ := h
    rfl
  · obtain ⟨a, i, c, fs, v, rfl, hi, he, ok, k⟩ := h
    -- slots: 0 _law_error
    refine ⟨_, (pss_cons (ps_if (pt_val (pe_callB (uIsEK rfl) (by rfl) T.n_isinstance (by decide +kernel) (pa_cons (pv 0) (pa_cons (pe_tup (pa_cons (pe_glob (v := .ref _) rfl T.m_BadRatio rfl) (pa_cons (pe_glob (v := .ref _) rfl T.m_BadZoom rfl) (pa_cons (pe_glob (v := .ref _) rfl T.m_BadScroll rfl) (pa_cons (pe_glob (v := .ref _) rfl T.m_BadNumber rfl) pa_nil))))) pa_nil)))) (pss_one (ps_ret (pe_lst (pa_cons (pe_xfA (pv 0)) pa_nil)))) pss_nil)
      (pss_cons (ps_if (pt_val (pe_callB (uIsEK rfl) (by rfl) T.n_isinstance (by decide +kernel) (pa_cons (pv 0) (pa_cons (pe_glob (v := .ref _) rfl T.m_BadSight rfl) pa_nil)))) (pss_one (ps_ret (pe_lst (pa_cons (pe_xfA (pv 0)) pa_nil)))) pss_nil)
      (pss_cons (ps_if (pt_val (pe_callB (uIsEK rfl) (by rfl) T.n_isinstance (by decide +kernel) (pa_cons (pv 0) (pa_cons (pe_glob (v := .ref _) rfl T.m_BadLine rfl) pa_nil)))) (pss_one (ps_ret (pe_lst (pa_cons (pe_xfA (pv 0)) pa_nil)))) pss_nil)
      (pss_cons (ps_if (pt_val (pe_callB (uIsEK rfl) (by rfl) T.n_isinstance (by decide +kernel) (pa_cons (pv 0) (pa_cons (pe_tup (pa_cons (pe_glob (v := .ref _) rfl T.m_NoBox rfl) (pa_cons (pe_glob (v := .ref _) rfl T.m_NoThing rfl) (pa_cons (pe_glob (v := .ref _) rfl T.m_Taken rfl) (pa_cons (pe_glob (v := .ref _) rfl T.m_Refused rfl) pa_nil))))) pa_nil)))) (pss_one (ps_ret (pe_lst (pa_cons (pe_xfA (pv 0)) pa_nil)))) pss_nil)
      (pss_cons (ps_if (pt_val (pe_callB (uIsEK rfl) (by rfl) T.n_isinstance (by decide +kernel) (pa_cons (pv 0) (pa_cons (pe_glob (v := .ref _) rfl T.m_NoZoom rfl) pa_nil)))) (pss_one (ps_ret (pe_lst (pa_cons (pe_xfA (pv 0)) pa_nil)))) pss_nil)
      (pss_cons (ps_if (pt_val (pe_callB (uIsEK rfl) (by rfl) T.n_isinstance (by decide +kernel) (pa_cons (pv 0) (pa_cons (pe_glob (v := .ref _) rfl T.m_BadText rfl) pa_nil)))) (pss_one (ps_ret (pe_lst (pa_cons (pe_xfA (pv 0)) (pa_cons (pe_xfA (pv 0)) pa_nil))))) pss_nil)
      (pss_one (ps_ret (pe_ifExp (pt_val (pe_callB (uIsEK rfl) (by rfl) T.n_isinstance (by decide +kernel) (pa_cons (pv 0) (pa_cons (pe_glob (v := .ref _) rfl T.m_TooMany rfl) pa_nil)))) (pe_lst (pa_cons (pe_xfA (pv 0)) (pa_cons (pe_xfA (pv 0)) pa_nil))) (pe_lst (pa_cons (pe_xfA (pv 0)) pa_nil))))))))))), ?_⟩
    have B : ∀ {H' : Hp} {σ : L2.St} (j : Nat) (c' : Addr × Str), Same H H' → (fam d)[j]? = some c' → σ[0]? = some (some (.ref a)) → ∀ Q : VK, (∀ H'', Same H' H'' → Q (.bl (decide (i = j))) H'') → tIsE K (tCons (tVar 0) (tCons (tC (V.ref c'.1)) tNil)) σ H' Q :=
      fun j c' e hj h0 Q q => isb T j hi hj (he.same e).o h0 (q _ (Same.refl _))
    have k' : ∀ {H1 : Hp}, Same H H1 → ∀ l rest H', Same H1 H' → H' l = some (.lst (v :: rest)) → Q (.ref l) H' := fun e l rest H' e' q => k l rest H' (e.trans e') q
    refine go_if (ist4 T (11, d.BadRatio, "BadRatio") (12, d.BadZoom, "BadZoom") (13, d.BadScroll, "BadScroll") (14, d.BadNumber, "BadNumber") (by intro p hp; simp at hp; rcases hp with rfl | rfl | rfl | rfl <;> rfl) hi he.o rfl) (fun q H1 e1 => kept1 T hi (he.same e1) rfl (ok.val (by simpa using q)) (k' e1)) (fun q1 H1 e1 => ?_)
    refine go_if (B 15 (d.BadSight, "BadSight") e1 rfl rfl) (fun q H2 e2 => kept1 T hi (he.same (e1.trans e2)) rfl (ok.at_ (by simpa using q)) (k' (e1.trans e2))) (fun q2 H2 e2 => ?_)
    have E2 := e1.trans e2
    refine go_if (B 16 (d.BadLine, "BadLine") E2 rfl rfl) (fun q H3 e3 => kept1 T hi (he.same (E2.trans e3)) rfl (ok.word (by simpa using q)) (k' (E2.trans e3))) (fun q3 H3 e3 => ?_)
    have E3 := E2.trans e3
    refine go_if (ist4 T (17, d.NoBox, "NoBox") (18, d.NoThing, "NoThing") (20, d.Taken, "Taken") (21, d.Refused, "Refused") (by intro p hp; simp at hp; rcases hp with rfl | rfl | rfl | rfl <;> rfl) hi (he.same E3).o rfl) (fun q H4 e4 => kept1 T hi (he.same (E3.trans e4)) rfl (ok.name (by simpa using q)) (k' (E3.trans e4))) (fun q4 H4 e4 => ?_)
    have E4 := E3.trans e4
    refine go_if (B 19 (d.NoZoom, "NoZoom") E4 rfl rfl) (fun q H5 e5 => kept1 T hi (he.same (E4.trans e5)) rfl (ok.zoom (by simpa using q)) (k' (E4.trans e5))) (fun q5 H5 e5 => ?_)
    have E5 := E4.trans e5
    refine go_if (B 22 (d.BadText, "BadText") E5 rfl rfl) (fun q H6 e6 => ?_) (fun q6 H6 e6 => ?_)
    · obtain ⟨h1, u, h2⟩ := ok.text (by simpa using q)
      exact kept2 T hi (he.same (E5.trans e6)) rfl h1 h2 (k' (E5.trans e6))
    have E6 := E5.trans e6
    refine go_ret (B 23 (d.TooMany, "TooMany") E6 rfl rfl _ fun H7 e7 => ⟨_, rfl, if2 (fun q => ?_) (fun q7 => ?_)⟩)
    · obtain ⟨h1, u, h2⟩ := ok.many (by simpa using q)
      exact kept2 T hi (he.same (E6.trans e7)) rfl h1 h2 (k' (E6.trans e7))
    · refine kept1 T hi (he.same (E6.trans e7)) rfl (ok.part ?_) (k' (E6.trans e7))
      have lt := ok.lt
      simp at q1 q2 q3 q4 q5 q6 q7
      omega
end
/-! ## the law's lists and numbers -/
abbrev csAll (d : Ad) (v m : V) : List (Addr × List (Str × V)) := csParts d v ++ csValues d v m
def rngD (n : Nat) : List PyData := (List.range n).map fun (i : Nat) => PyData.list [.int (i : Int)]
section
variable {K : PySem.W.Frag} {mg : Str → Option Value} {d : Ad} {v m : V} {H H' : Hp} {D l : Addr} {Q : VK}
theorem csOk (T : Tx K mg d) : ∀ {j : Nat} {y : Addr × List (Str × V)}, (csAll d v m)[j]? = some y → ∃ nm, (fam d)[j]? = some (y.1, nm) ∧ KeptOk K y.1 y.2 v j := by
  intro j y h
  match j, h with
  | 0, h => cases h; exact ⟨_, rfl, ⟨fun h => absurd h (by decide), fun h => absurd h (by decide), fun h => absurd h (by decide), fun h => absurd h (by decide), fun h => absurd h (by decide), fun h => absurd h (by decide), fun h => absurd h (by decide), fun _ => ⟨T.a_BadRounding_part, by simp [List.lookup]⟩, by decide⟩⟩
  | 1, h => cases h; exact ⟨_, rfl, ⟨fun h => absurd h (by decide), fun h => absurd h (by decide), fun h => absurd h (by decide), fun h => absurd h (by decide), fun h => absurd h (by decide), fun h => absurd h (by decide), fun h => absurd h (by decide), fun _ => ⟨T.a_BadDrawn_part, by simp [List.lookup]⟩, by decide⟩⟩
  | 2, h => cases h; exact ⟨_, rfl, ⟨fun h => absurd h (by decide), fun h => absurd h (by decide), fun h => absurd h (by decide), fun h => absurd h (by decide), fun h => absurd h (by decide), fun h => absurd h (by decide), fun h => absurd h (by decide), fun _ => ⟨T.a_BadClaim_part, by simp [List.lookup]⟩, by decide⟩⟩
  | 3, h => cases h; exact ⟨_, rfl, ⟨fun h => absurd h (by decide), fun h => absurd h (by decide), fun h => absurd h (by decide), fun h => absurd h (by decide), fun h => absurd h (by decide), fun h => absurd h (by decide), fun h => absurd h (by decide), fun _ => ⟨T.a_BadZooms_part, by simp [List.lookup]⟩, by decide⟩⟩
  | 4, h => cases h; exact ⟨_, rfl, ⟨fun h => absurd h (by decide), fun h => absurd h (by decide), fun h => absurd h (by decide), fun h => absurd h (by decide), fun h => absurd h (by decide), fun h => absurd h (by decide), fun h => absurd h (by decide), fun _ => ⟨T.a_BadBox_part, by simp [List.lookup]⟩, by decide⟩⟩
  | 5, h => cases h; exact ⟨_, rfl, ⟨fun h => absurd h (by decide), fun h => absurd h (by decide), fun h => absurd h (by decide), fun h => absurd h (by decide), fun h => absurd h (by decide), fun h => absurd h (by decide), fun h => absurd h (by decide), fun _ => ⟨T.a_BadPage_part, by simp [List.lookup]⟩, by decide⟩⟩
  | 6, h => cases h; exact ⟨_, rfl, ⟨fun h => absurd h (by decide), fun h => absurd h (by decide), fun h => absurd h (by decide), fun h => absurd h (by decide), fun h => absurd h (by decide), fun h => absurd h (by decide), fun h => absurd h (by decide), fun _ => ⟨T.a_BadWay_part, by simp [List.lookup]⟩, by decide⟩⟩
  | 7, h => cases h; exact ⟨_, rfl, ⟨fun h => absurd h (by decide), fun h => absurd h (by decide), fun h => absurd h (by decide), fun h => absurd h (by decide), fun h => absurd h (by decide), fun h => absurd h (by decide), fun h => absurd h (by decide), fun _ => ⟨T.a_BadStyle_part, by simp [List.lookup]⟩, by decide⟩⟩
  | 8, h => cases h; exact ⟨_, rfl, ⟨fun h => absurd h (by decide), fun h => absurd h (by decide), fun h => absurd h (by decide), fun h => absurd h (by decide), fun h => absurd h (by decide), fun h => absurd h (by decide), fun h => absurd h (by decide), fun _ => ⟨T.a_BadDrawing_part, by simp [List.lookup]⟩, by decide⟩⟩
  | 9, h => cases h; exact ⟨_, rfl, ⟨fun h => absurd h (by decide), fun h => absurd h (by decide), fun h => absurd h (by decide), fun h => absurd h (by decide), fun h => absurd h (by decide), fun h => absurd h (by decide), fun h => absurd h (by decide), fun _ => ⟨T.a_BadScreen_part, by simp [List.lookup]⟩, by decide⟩⟩
  | 10, h => cases h; exact ⟨_, rfl, ⟨fun h => absurd h (by decide), fun h => absurd h (by decide), fun h => absurd h (by decide), fun h => absurd h (by decide), fun h => absurd h (by decide), fun h => absurd h (by decide), fun h => absurd h (by decide), fun _ => ⟨T.a_Unlike_part, by simp [List.lookup]⟩, by decide⟩⟩
  | 11, h => cases h; exact ⟨_, rfl, ⟨fun _ => ⟨T.a_BadRatio_value, by simp [List.lookup]⟩, fun h => absurd h (by decide), fun h => absurd h (by decide), fun h => absurd h (by decide), fun h => absurd h (by decide), fun h => absurd h (by decide), fun h => absurd h (by decide), fun h => absurd h (by decide), by decide⟩⟩
  | 12, h => cases h; exact ⟨_, rfl, ⟨fun _ => ⟨T.a_BadZoom_value, by simp [List.lookup]⟩, fun h => absurd h (by decide), fun h => absurd h (by decide), fun h => absurd h (by decide), fun h => absurd h (by decide), fun h => absurd h (by decide), fun h => absurd h (by decide), fun h => absurd h (by decide), by decide⟩⟩
  | 13, h => cases h; exact ⟨_, rfl, ⟨fun _ => ⟨T.a_BadScroll_value, by simp [List.lookup]⟩, fun h => absurd h (by decide), fun h => absurd h (by decide), fun h => absurd h (by decide), fun h => absurd h (by decide), fun h => absurd h (by decide), fun h => absurd h (by decide), fun h => absurd h (by decide), by decide⟩⟩
  | 14, h => cases h; exact ⟨_, rfl, ⟨fun _ => ⟨T.a_BadNumber_value, by simp [List.lookup]⟩, fun h => absurd h (by decide), fun h => absurd h (by decide), fun h => absurd h (by decide), fun h => absurd h (by decide), fun h => absurd h (by decide), fun h => absurd h (by decide), fun h => absurd h (by decide), by decide⟩⟩
  | 15, h => cases h; exact ⟨_, rfl, ⟨fun h => absurd h (by decide), fun _ => ⟨T.a_BadSight_at, by simp [List.lookup]⟩, fun h => absurd h (by decide), fun h => absurd h (by decide), fun h => absurd h (by decide), fun h => absurd h (by decide), fun h => absurd h (by decide), fun h => absurd h (by decide), by decide⟩⟩
  | 16, h => cases h; exact ⟨_, rfl, ⟨fun h => absurd h (by decide), fun h => absurd h (by decide), fun _ => ⟨T.a_BadLine_word, by simp [List.lookup]⟩, fun h => absurd h (by decide), fun h => absurd h (by decide), fun h => absurd h (by decide), fun h => absurd h (by decide), fun h => absurd h (by decide), by decide⟩⟩
  | 17, h => cases h; exact ⟨_, rfl, ⟨fun h => absurd h (by decide), fun h => absurd h (by decide), fun h => absurd h (by decide), fun _ => ⟨T.a_NoBox_name, by simp [List.lookup]⟩, fun h => absurd h (by decide), fun h => absurd h (by decide), fun h => absurd h (by decide), fun h => absurd h (by decide), by decide⟩⟩
  | 18, h => cases h; exact ⟨_, rfl, ⟨fun h => absurd h (by decide), fun h => absurd h (by decide), fun h => absurd h (by decide), fun _ => ⟨T.a_NoThing_name, by simp [List.lookup]⟩, fun h => absurd h (by decide), fun h => absurd h (by decide), fun h => absurd h (by decide), fun h => absurd h (by decide), by decide⟩⟩
  | 19, h => cases h; exact ⟨_, rfl, ⟨fun h => absurd h (by decide), fun h => absurd h (by decide), fun h => absurd h (by decide), fun h => absurd h (by decide), fun _ => ⟨T.a_NoZoom_zoom, by simp [List.lookup]⟩, fun h => absurd h (by decide), fun h => absurd h (by decide), fun h => absurd h (by decide), by decide⟩⟩
  | 20, h => cases h; exact ⟨_, rfl, ⟨fun h => absurd h (by decide), fun h => absurd h (by decide), fun h => absurd h (by decide), fun _ => ⟨T.a_Taken_name, by simp [List.lookup]⟩, fun h => absurd h (by decide), fun h => absurd h (by decide), fun h => absurd h (by decide), fun h => absurd h (by decide), by decide⟩⟩
  | 21, h => cases h; exact ⟨_, rfl, ⟨fun h => absurd h (by decide), fun h => absurd h (by decide), fun h => absurd h (by decide), fun _ => ⟨T.a_Refused_name, by simp [List.lookup]⟩, fun h => absurd h (by decide), fun h => absurd h (by decide), fun h => absurd h (by decide), fun h => absurd h (by decide), by decide⟩⟩
  | 22, h => cases h; exact ⟨_, rfl, ⟨fun h => absurd h (by decide), fun h => absurd h (by decide), fun h => absurd h (by decide), fun h => absurd h (by decide), fun h => absurd h (by decide), fun _ => ⟨⟨T.a_BadText_line, rfl⟩, m, T.a_BadText_word, rfl⟩, fun h => absurd h (by decide), fun h => absurd h (by decide), by decide⟩⟩
  | 23, h => cases h; exact ⟨_, rfl, ⟨fun h => absurd h (by decide), fun h => absurd h (by decide), fun h => absurd h (by decide), fun h => absurd h (by decide), fun h => absurd h (by decide), fun h => absurd h (by decide), fun _ => ⟨⟨T.a_TooMany_what, rfl⟩, m, T.a_TooMany_most, rfl⟩, fun h => absurd h (by decide), by decide⟩⟩
  | n + 24, h => simp at h
theorem PenAt.up {p : Addr} {n : Nat} (h : PenAt H p n) (e : Same H H') : PenAt H' p n := by
  obtain ⟨l, ns, s, g, a, b, c, r⟩ := h
  exact ⟨l, ns, s, g, a, e _ _ b, e _ _ c, r⟩
theorem v_ok {t1 l2 dd : Addr} {x : V} (h1 : H t1 = some (.tup [.int 1])) (h2 : H l2 = some (.lst [.int 2])) (h3 : H dd = some (.dK [(Sum.inr "a", .int 1)]))
    (hx : x ∈ [V.non, .int 0, .bl true, .str "part", .ref t1, .ref l2, .ref dd, .int ((10 : Int) ^ (39 : Int).toNat), .int (-1), .str ""]) : ∃ e, Sh K H x e ∧ Shn e := by
  simp only [List.mem_cons, List.not_mem_nil, or_false] at hx
  rcases hx with rfl | rfl | rfl | rfl | rfl | rfl | rfl | rfl | rfl | rfl
  · exact ⟨_, .dp .non rfl, by decide +kernel, by decide +kernel, by decide +kernel⟩
  · exact ⟨_, .dp (.int 0) rfl, by decide +kernel, by decide +kernel, by decide +kernel⟩
  · exact ⟨_, .dp (.bl true) rfl, by decide +kernel, by decide +kernel, by decide +kernel⟩
  · exact ⟨_, .dp (.str "part") rfl, by decide +kernel, by decide +kernel, by decide +kernel⟩
  · exact ⟨_, .dp (.tup (SqT.of h1) (.cons (.int 1) .nil)) rfl, by decide +kernel, by decide +kernel, by decide +kernel⟩
  · exact ⟨_, .dp (.lst (SqL.of h2) (.cons (.int 2) .nil)) rfl, by decide +kernel, by decide +kernel, by decide +kernel⟩
  · exact ⟨_, .dict (l := [(Sum.inr "a", 1)]) h3, by decide +kernel, by decide +kernel, by decide +kernel⟩
  · exact ⟨_, .dp (.int _) rfl, by decide +kernel, by decide +kernel, by decide +kernel⟩
  · exact ⟨_, .dp (.int _) rfl, by decide +kernel, by decide +kernel, by decide +kernel⟩
  · exact ⟨_, .dp (.str "") rfl, by decide +kernel, by decide +kernel, by decide +kernel⟩
theorem m_ok {t : Addr} {x : V} (h : H t = some (.tup [.int 0, .int 0])) (hx : x ∈ [V.str "line", .int 7, .non, .ref t]) : ∃ e, Dp K H x e ∧ e.hasDict = false ∧ Shn e ∧ Shn (.list [e, e, e]) := by
  simp only [List.mem_cons, List.not_mem_nil, or_false] at hx
  rcases hx with rfl | rfl | rfl | rfl
  · exact ⟨_, .str "line", rfl, ⟨by decide +kernel, by decide +kernel, by decide +kernel⟩, by decide +kernel, by decide +kernel, by decide +kernel⟩
  · exact ⟨_, .int 7, rfl, ⟨by decide +kernel, by decide +kernel, by decide +kernel⟩, by decide +kernel, by decide +kernel, by decide +kernel⟩
  · exact ⟨_, .non, rfl, ⟨by decide +kernel, by decide +kernel, by decide +kernel⟩, by decide +kernel, by decide +kernel, by decide +kernel⟩
  · exact ⟨_, .tup (SqT.of h) (.cons (.int 0) (.cons (.int 0) .nil)), rfl, ⟨by decide +kernel, by decide +kernel, by decide +kernel⟩, by decide +kernel, by decide +kernel, by decide +kernel⟩
/-- at D: a list of lists [0], [1], .. -/
def Lol (H : Hp) (D : Addr) (j : Nat) : Prop := ∃ as : List Addr, H D = some (.lst (as.map V.ref)) ∧ Paired (fun b (i : Nat) => H b = some (.lst [V.int (i : Int)])) as (List.range j)
theorem lol_paired {H H' : Hp} (e : ∀ b (i : Nat), H b = some (.lst [V.int (i : Int)]) → H' b = some (.lst [V.int (i : Int)])) : ∀ {as : List Addr} {is : List Nat}, Paired (fun b (i : Nat) => H b = some (.lst [V.int (i : Int)])) as is → Paired (fun b (i : Nat) => H' b = some (.lst [V.int (i : Int)])) as is
  | _, _, .nil => .nil
  | _, _, .cons h r => .cons (e _ _ h) (lol_paired e r)
theorem Lol.grow {j : Nat} (h : Lol H D j) (e : Same H H') (hl : H' l = some (.lst [V.int (j : Int)])) (hj : j < 1000) : ∃ acc, H' D = some (.lst acc) ∧ acc.length < sizeLine ∧ Lol (upd H' D (.lst (acc ++ [.ref l]))) D (j + 1) := by
  obtain ⟨as, hD, pr⟩ := h
  have nD : ∀ {b : Addr} {i : Nat}, H' b = some (.lst [V.int (i : Int)]) → b ≠ D := fun {b i} hb z => by
    rw [z, e _ _ hD] at hb
    cases as with
    | nil => simp at hb
    | cons x xs => simp at hb
  refine ⟨as.map V.ref, e _ _ hD, ?_, as ++ [l], ?_, ?_⟩
  · rw [List.length_map, pr.length, List.length_range]
    exact Nat.lt_trans hj (by decide)
  · rw [upd_same, List.map_append]; rfl
  · rw [List.range_succ]
    refine paired_append (lol_paired (fun b i hb => ?_) pr) (.cons ?_ .nil)
    · rw [upd_ne (nD (e _ _ hb))]; exact e _ _ hb
    · rw [upd_ne (nD hl)]; exact hl
theorem lol_dps : ∀ {as : List Addr} {is : List Nat}, Paired (fun b (i : Nat) => H b = some (.lst [V.int (i : Int)])) as is → DpAll K H (as.map V.ref) (is.map fun (i : Nat) => PyData.list [.int (i : Int)])
  | _, _, .nil => .nil
  | _, _, .cons h r => .cons (.lst (SqL.of h) (.cons (.int _) .nil)) (lol_dps r)
theorem Lol.dp {j : Nat} (h : Lol H D j) : Dp K H (.ref D) (.list (rngD j)) := let ⟨as, hD, pr⟩ := h; .lst (SqL.of hD) (lol_dps pr)
theorem Lol.nil (h : H D = none) : Lol (upd H D (.lst [])) D 0 := ⟨[], upd_same, .nil⟩
theorem yes_then {σ : L2.St} {A B : Hp → Prop} (h : A H) : tYes σ H (fun b H3 => if b = true then A H3 else B H3) := by
  show (if true = true then A H else B H)
  rw [if_pos rfl]
  exact h
theorem comp_left {s0 s1 s2 s3 s4 s6 s7 s8 s9 : Option V} {L : Addr} (T : Tx K mg d) (R : RowsAt v H L (csAll d v m)) (k : ∀ D H', Same H H' → Lol H' D 24 → Q (.ref D) H') :
    tLc (iList K (tVar 5)) (gTup K 2 (gCons (gName 6) (gCons (gName 7) gNil))) tYes (fun σ H Q => tCons (tVar 6) tNil σ H fun vs H1 => spClasses d vs H1 Q E0) [6, 7] [s0, s1, s2, s3, s4, some (.ref L), s6, s7, s8, s9] H Q := by
  obtain ⟨ps, hp, pr⟩ := R
  have len : ps.length = 24 := pr.length
  refine ⟨_, rfl, L, rfl, ⟨_, SqL.of hp⟩, fun D hD => ?_⟩
  refine lc_list (K := K) (a := L) (xs := ps) (te := fun σ H Q => tCons (tVar 6) tNil σ H fun vs H1 => spClasses d vs H1 Q E0) (fun j H'' => Same H H'' ∧ Lol H'' D j) ⟨sameNew hD, Lol.nil hD⟩ (fun j H'' _ g => SqL.of (g.1 _ _ hp)) (fun j x H'' hx g => ?_) (fun H'' g => k D H'' g.1 (len ▸ g.2))
  obtain ⟨y, hy, t, er, rfl, ht, he⟩ := paired_get pr hx
  obtain ⟨nm, hf, _⟩ := csOk T hy
  have hj : j < 24 := by rw [← len]; exact (List.getElem?_eq_some_iff.mp hx).1
  refine ⟨t, [.ref er, v], rfl, SqT.of (g.1 _ _ ht), rfl, _, _, rfl, _, _, rfl, rfl, rfl, ?_⟩
  refine yes_then ⟨_, rfl, er, j, _, rfl, hf, (he.same g.1).o, fun l H3 e3 hl => ?_⟩
  obtain ⟨acc, h1, h2, h3⟩ := g.2.grow e3 hl (by omega)
  obtain ⟨_, hD0, _⟩ := g.2
  refine ⟨acc, h1, h2, fun b o hb => ?_, h3⟩
  rw [upd_ne (ne_of_none hb hD)]
  exact e3 _ _ (g.1 _ _ hb)
theorem comp_right {s0 s1 s2 s3 s4 s5 s6 s7 s8 s9 : Option V} (k : ∀ D H', Same H H' → Lol H' D 24 → Q (.ref D) H') :
    tLc (iRng1 (tCons (tC (V.int 24)) tNil)) (gName 8) tYes (tLst (tCons (tVar 8) tNil)) [8] [s0, s1, s2, s3, s4, s5, s6, s7, s8, s9] H Q := by
  refine ⟨24, rfl, by decide, by decide, fun D hD => ?_⟩
  refine lc_range (Pv := fun j H'' => Same H H'' ∧ Lol H'' D j) ⟨sameNew hD, Lol.nil hD⟩ (fun j H'' hj g => ?_) (fun H'' g => k D H'' g.1 g.2)
  have hj : j < 24 := hj
  refine ⟨rfl, yes_then ⟨_, rfl, (by show 1 ≤ sizeLine; decide), fun l hl => ?_⟩⟩
  have hs : Same H'' (upd H'' l (.lst [V.int (0 + (j : Int))])) := sameNew hl
  obtain ⟨acc, h1, h2, h3⟩ := g.2.grow hs (by rw [upd_same, Int.zero_add]) (by omega)
  refine ⟨acc, h1, h2, fun b o hb => ?_, h3⟩
  rw [upd_ne (ne_of_none hb hD), upd_ne (ne_of_none (g.1 _ _ hb) hl)]
  exact g.1 _ _ hb
theorem lol_eq : PyData.eqv (.list (rngD 24)) (.list (rngD 24)) = true := by decide +kernel
theorem lol_shaped : SeqAt.shaped (.list (rngD 24)) = true := by decide +kernel
end
/-! ## the law -/
def levelLaw : Nat := 5
def spLaw (K : PySem.W.Frag) : Sp := fun vs H Q _ => ∃ (a : Addr) (ns : List Int), vs = [.ref a] ∧ SqL K H a (ns.map V.int) ∧ ns.length ≤ 63 ∧ ∀ H', Q (.bl true) H'
section
variable {P : Program} {w : World} {K : PySem.W.Frag} {mg : Str → Option Value} {base : Heap} {d : Ad}
theorem sif1 {tc : TT} {t : TS} {D : Ends} {σ : L2.St} {H : Hp} (h : ∀ Q : Bool → Hp → Prop, (∀ H2, Same H H2 → Q false H2) → tc σ H Q) (k : ∀ H2, Same H H2 → D.nx σ H2) : tIfS tc t tNext D σ H :=
  h _ fun H2 e => iteF (k H2 e)
theorem told3 {X1 X2 X3 : TE} {σ : L2.St} {H : Hp} {w : V} {Q : VK} (h1 : ∀ (Q : VK) (H1 : Hp), Same H H1 → (∀ H2, Same H1 H2 → Q w H2) → X1 σ H1 Q) (h2 : ∀ (Q : VK) (H1 : Hp), Same H H1 → (∀ H2, Same H1 H2 → Q w H2) → X2 σ H1 Q)
    (h3 : ∀ (Q : VK) (H1 : Hp), Same H H1 → (∀ H2, Same H1 H2 → Q w H2) → X3 σ H1 Q) (k : ∀ l H2, Same H H2 → H2 l = some (.lst [w, w, w]) → Q (.ref l) H2) : tLst (tCons X1 (tCons X2 (tCons X3 tNil))) σ H Q :=
  h1 _ H (Same.refl H) fun Ha ea => h2 _ Ha ea fun Hb eb => h3 _ Hb (ea.trans eb) fun Hc ec => ⟨(by show 3 ≤ sizeLine; decide), fun l hl => k l _ (((ea.trans eb).trans ec).trans (sameNew hl)) upd_same⟩
theorem sh3 {K : PySem.W.Frag} {H : Hp} {l : Addr} {y : V} {e : PyData} (h : H l = some (.lst [y, y, y])) (M : Dp K H y e) (nd : e.hasDict = false) : Sh K H (.ref l) (.list [e, e, e]) :=
  .dp (.lst (SqL.of h) (.cons M (.cons M (.cons M .nil)))) (by simp [PyData.hasDict, PyData.hasDictAll, nd])
theorem cmp_lol {K : PySem.W.Frag} {tl tr : TE} {r1 : R2} {σ : L2.St} {H : Hp} {Q : Bool → Hp → Prop} (h1 : ∀ Q' : VK, (∀ D H', Same H H' → Lol H' D 24 → Q' (.ref D) H') → tl σ H Q') (h2 : ∀ (H1 : Hp) (Q' : VK), (∀ D H', Same H1 H' → Lol H' D 24 → Q' (.ref D) H') → tr σ H1 Q')
    (q : ∀ H2, Same H H2 → Q false H2) : tTest (tOp (orR r1 (rNeD K)) tl tr) σ H Q :=
  h1 _ fun D H8 e8 lo => h2 H8 _ fun D2 H9 e9 lo2 => Or.inr ⟨_, _, dp_same e9 lo.dp, lo2.dp, lol_shaped, lol_shaped, _, rfl, qb (by rw [lol_eq]; rfl) (q _ (e8.trans e9))⟩
theorem uMulP {X : Cx} : OpR X (binaryOp .Mult) (orR (rI CMulU fun i j => .int (i * j)) rRep) := op_or2 op_mulU op_rep
theorem G_law (T : Tx K mg d) : FnG P w K mg base CX0 levelLaw d.law (spLaw K) := by
  have G__law_pen := G__law_pen (P := P) (w := w) (base := base) T
  have G__law_pick := G__law_pick (P := P) (w := w) (base := base) T
  have G__law_of_parts := G__law_of_parts (P := P) (w := w) (base := base) T
  have G__law_of_values := G__law_of_values (P := P) (w := w) (base := base) T
  have G__law_fields := G__law_fields (P := P) (w := w) (base := base) T
  have G__law_classes := G__law_classes (P := P) (w := w) (base := base) T
  have G__law_kept := G__law_kept (P := P) (w := w) (base := base) T
  have G_BadText___init__ := G_BadText___init__ (P := P) (w := w) (base := base) T
  have GK_BadText___init__ := GK_BadText___init__ (P := P) (w := w) (base := base) T
  have G_TooMany___init__ := G_TooMany___init__ (P := P) (w := w) (base := base) T
  have G_NoChange___init__ := G_NoChange___init__ (P := P) (w := w) (base := base) T
  obtain ⟨fd, F⟩ := T.F_law
  refine fnG_of (k := 4) F sc_law (sp := spLaw K) (fun vs H Q E h => ?_) (fun cdv A outer s H vs Q E ng hr h => ?_) (F.binds fun _ _ _ _ _ _ us hl => match us, hl with | [_], _ => rfl)
  · obtain ⟨a, ns, rfl, _⟩ := h
    rfl
  · obtain ⟨a, ns, rfl, hS, hl, k⟩ := h
    -- slots: 0 _law_script, 1 _law_pen_here, 2 _law_turn, 3 _law_value, 4 _law_more, 5 _law_made, 6 _law_error, 7 _law_kept_here, 8 _law_at, 9 _law_told
    refine ⟨_, (pss_cons (ps_set (i := 1) sc_law.nd rfl (Or.inl rfl) (pe_fnR G__law_pen (hr.mono (by decide)) T.k__law_pen T.m__law_pen pass0 (pa_cons (pv 0) pa_nil)))
      (pss_cons (ps_for PassesOwn.never rfl (pi_range1 rfl T.n_range (pa_cons pe_int pa_nil)) (pg_name (i := 2) sc_law.nd rfl (Or.inl rfl)) (pss_cons (ps_set (i := 3) sc_law.nd rfl (Or.inl rfl) (pe_fnR G__law_pick (hr.mono (by decide)) T.k__law_pick T.m__law_pick pass0 (pa_cons (pv 1) (pa_cons (pe_lst (pa_cons pe_non (pa_cons pe_int (pa_cons pe_bl (pa_cons pe_str (pa_cons (pe_tup (pa_cons pe_int pa_nil)) (pa_cons (pe_lst (pa_cons pe_int pa_nil)) (pa_cons (pe_disp (pps_cons pe_str pe_int pps_nil) rfl rfl (by simp) (by decide)) (pa_cons (pe_op op_pow pe_int pe_int) (pa_cons (pe_un uNeg pe_int) (pa_cons pe_str pa_nil))))))))))) pa_nil))))
      (pss_cons (ps_set (i := 4) sc_law.nd rfl (Or.inl rfl) (pe_fnR G__law_pick (hr.mono (by decide)) T.k__law_pick T.m__law_pick pass0 (pa_cons (pv 1) (pa_cons (pe_lst (pa_cons pe_str (pa_cons pe_int (pa_cons pe_non (pa_cons (pe_tup (pa_cons pe_int (pa_cons pe_int pa_nil))) pa_nil))))) pa_nil))))
      (pss_cons (ps_set (i := 5) sc_law.nd rfl (Or.inl rfl) (pe_op uAdd (pe_fnG G__law_of_parts ng (hr.mono (by decide)) T.k__law_of_parts T.m__law_of_parts pass0 (pa_cons (pv 3) pa_nil)) (pe_fnG G__law_of_values ng (hr.mono (by decide)) T.k__law_of_values T.m__law_of_values pass0 (pa_cons (pv 3) (pa_cons (pv 4) pa_nil)))))
      (pss_cons (ps_if (PW.pt (pw_or (pt_not (pt_val (pe_fnG G__law_fields ng (hr.mono (by decide)) T.k__law_fields T.m__law_fields pass0 (pa_cons (pv 5) (pa_cons (pv 3) pa_nil))))) (pw_or1 (pt_cmpR (uNe hr.units) (pe_lc (own := [("_law_error", 6), ("_law_kept_here", 7)]) (g := gTup K 2 (gCons (gName 6) (gCons (gName 7) gNil))) (by rfl) sc_law.nd (pi_list (pv 5)) (blkOk_by (own := [("_law_error", 6), ("_law_kept_here", 7)]) (N := ["_law_script", "_law_pen_here", "_law_turn", "_law_value", "_law_more", "_law_made", "_law_error", "_law_kept_here", "_law_at", "_law_told"]) (sc := defScope s_law) (by decide +kernel)) (fun _ _ _ _ _ => pg_tup (by rfl) (pgs_cons (pg_name (i := 6) sc_law.nd rfl (Or.inl rfl)) (pgs_cons (pg_name (i := 7) sc_law.nd rfl (Or.inl rfl)) pgs_nil))) (fun _ _ _ _ _ => pts_nil) (fun _ _ _ _ _ => (pe_fnG G__law_classes ng (hr.mono (by decide)) T.k__law_classes T.m__law_classes pass0 (pa_cons (pv 6) pa_nil)))) (pe_lc (own := [("_law_at", 8)]) (g := gName 8) (by rfl) sc_law.nd (pi_range1 rfl T.n_range (pa_cons pe_int pa_nil)) (blkOk_by (own := [("_law_at", 8)]) (N := ["_law_script", "_law_pen_here", "_law_turn", "_law_value", "_law_more", "_law_made", "_law_error", "_law_kept_here", "_law_at", "_law_told"]) (sc := defScope s_law) (by decide +kernel)) (fun _ _ _ _ _ => pg_name (i := 8) sc_law.nd rfl (Or.inl rfl)) (fun _ _ _ _ _ => pts_nil) (fun _ _ _ _ _ => (pe_lst (pa_cons (pv 8) pa_nil)))) (nomark _))))) (pss_one (ps_ret pe_bl)) pss_nil)
      (pss_cons (ps_for PassesOwn.never rfl (pi_list (pv 5)) (pg_tup (by rfl) (pgs_cons (pg_name (i := 6) sc_law.nd rfl (Or.inl rfl)) (pgs_cons (pg_name (i := 7) sc_law.nd rfl (Or.inl rfl)) pgs_nil))) (pss_one (ps_if (PW.pt (pw_or (pt_not (pt_val (pe_callB (uIsEK (K:=K) rfl) (by rfl) T.n_isinstance (by decide +kernel) (pa_cons (pv 6) (pa_cons (pe_glob (v := .ref _) rfl T.m_SnapError rfl) pa_nil))))) (pw_or (pt_not (pt_val (pe_callB (uIsEK (K:=K) rfl) (by rfl) T.n_isinstance (by decide +kernel) (pa_cons (pv 6) (pa_cons (pe_bltn (v := .ty "ValueError") (by rfl) T.n_ValueError (by decide +kernel) rfl) pa_nil))))) (pw_or1 (pt_cmpR (uNe hr.units) (pe_callB (call_reprSK (K:=K) rfl ng hr.units70) (by rfl) T.n_repr (by decide +kernel) (pa_cons (pe_ix ix_seq (pe_fnG G__law_kept ng (hr.mono (by decide)) T.k__law_kept T.m__law_kept pass0 (pa_cons (pv 6) pa_nil)) pe_int (fun _ _ => rfl)) pa_nil)) (pe_callB (call_reprSK (K:=K) rfl ng hr.units70) (by rfl) T.n_repr (by decide +kernel) (pa_cons (pv 3) pa_nil)) (nomark _)))))) (pss_one (ps_ret pe_bl)) pss_nil)))
      (pss_cons (ps_set (i := 9) sc_law.nd rfl (Or.inl rfl) (pe_lst (pa_cons (pe_xfA (pe_mkE T.ex_BadText.err G_BadText___init__ ng (hr.mono (by decide)) rfl T.m_BadText pass0 (pa_cons (pv 3) (pa_cons (pv 4) pa_nil)))) (pa_cons (pe_xfA (pe_mkE T.ex_TooMany.err G_TooMany___init__ ng (hr.mono (by decide)) rfl T.m_TooMany pass0 (pa_cons (pv 3) (pa_cons (pv 4) pa_nil)))) (pa_cons (pe_xfA (pe_mkEk T.ex_BadText.err GK_BadText___init__ ng (hr.mono (by decide)) rfl T.m_BadText pass0 (pk_cons (pv 4) (pk_cons (pv 3) pk_nil)))) pa_nil)))))
      (pss_one (ps_if (pt_cmpR (uNe hr.units) (pe_callB (call_reprSK (K:=K) rfl ng hr.units70) (by rfl) T.n_repr (by decide +kernel) (pa_cons (pv 9) pa_nil)) (pe_callB (call_reprSK (K:=K) rfl ng hr.units70) (by rfl) T.n_repr (by decide +kernel) (pa_cons (pe_op uMulP (pe_lst (pa_cons (pv 4) pa_nil)) pe_int) pa_nil)) (nomark _)) (pss_one (ps_ret pe_bl)) pss_nil)))))))))
      (pss_one (ps_ret (pe_and (pe_cmpR (uEq hr.units) (pe_fnG G__law_classes ng (hr.mono (by decide)) T.k__law_classes T.m__law_classes pass0 (pa_cons (pe_mkE0 T.ex_NoChange.err G_NoChange___init__ ng (hr.mono (by decide)) rfl T.m_NoChange pass0) pa_nil)) (pe_lst (pa_cons pe_int pa_nil)) (nomark _)) (pe_and (pe_callB (uIsEK (K:=K) rfl) (by rfl) T.n_isinstance (by decide +kernel) (pa_cons (pe_mkE0 T.ex_NoChange.err G_NoChange___init__ ng (hr.mono (by decide)) rfl T.m_NoChange pass0) (pa_cons (pe_glob (v := .ref _) rfl T.m_SnapError rfl) pa_nil))) (pe_one (pe_callB (uIsEK (K:=K) rfl) (by rfl) T.n_isinstance (by decide +kernel) (pa_cons (pe_mkE0 T.ex_NoChange.err G_NoChange___init__ ng (hr.mono (by decide)) rfl T.m_NoChange pass0) (pa_cons (pe_bltn (v := .ty "ValueError") (by rfl) T.n_ValueError (by decide +kernel) rfl) pa_nil)))))))))), ?_⟩
    refine ⟨_, rfl, ⟨a, ns, rfl, hS, hl, fun p H1 np e1 hp => ?_⟩⟩
    refine ⟨14, rfl, by decide, by decide, for_range (n := 14) (fun i σ H' => ∃ x2 x3 x4 x5 x6 x7 x8 x9, σ = [some (.ref a), some (.ref p), x2, x3, x4, x5, x6, x7, x8, x9] ∧ PenAt H' p (2 * i)) ⟨none, none, none, none, none, none, none, none, rfl, hp⟩ (fun i σ H' hi h => ?_) (fun σ H' h => ?_)⟩
    · obtain ⟨x2, x3, x4, x5, x6, x7, x8, x9, rfl, hp⟩ := h
      refine ⟨_, rfl, ⟨(by show 1 ≤ sizeLine; decide), fun t1 ht1 => ⟨(by show 1 ≤ sizeLine; decide), fun l2 hl2 => fun dd hdd => ⟨upd_same, [(Sum.inr "a", .int 1)], rfl, by decide, ?_⟩⟩⟩⟩
      refine ⟨_, _, rfl, rfl, ⟨by decide, by decide, by decide⟩, Or.inl ⟨_, rfl, (by show 10 ≤ sizeLine; decide), fun L0 hL0 => ?_⟩⟩
      have sa : Same H' _ := sameNew (o := HO.tup [V.int 1]) ht1
      have sb := sameNew (o := HO.lst [V.int 2]) hl2
      have sc : Same (upd (upd H' t1 (.tup [.int 1])) l2 (.lst [.int 2])) (upd (upd (upd (upd H' t1 (.tup [.int 1])) l2 (.lst [.int 2])) dd (.dK [])) dd (.dK (mergeK [] [(Sum.inr "a", .int 1)]))) := fun b o e => by
        rw [upd_ne (ne_of_none e hdd), upd_ne (ne_of_none e hdd)]; exact e
      have s3 := (sa.trans sb).trans sc
      obtain ⟨lp, nsp, spot, great, hlp, hpp, hrest⟩ := id hp
      have nl2 : l2 ≠ p := (ne_of_none (sa _ _ hpp) hl2).symm
      have nL0 : L0 ≠ p := (ne_of_none (s3 _ _ hpp) hL0).symm
      refine ⟨p, L0, 2 * i, _, rfl, (hp.up s3).up (sameNew hL0), by omega, Or.inl ⟨upd_same, nL0⟩, (by simp), (by simp), fun x H2 hx hp2 u2 => ?_⟩
      refine ⟨_, rfl, ⟨(by show 2 ≤ sizeLine; decide), fun t0 ht0 => ⟨(by show 4 ≤ sizeLine; decide), fun L1 hL1 => ?_⟩⟩⟩
      have sd := sameNew (o := HO.tup [V.int 0, V.int 0]) ht0
      obtain ⟨lp2, nsp2, spot2, great2, hlp2, hpp2, hrest2⟩ := id hp2
      have nL1 : L1 ≠ p := (ne_of_none (sd _ _ hpp2) hL1).symm
      refine ⟨p, L1, 2 * i + 1, _, rfl, (hp2.up sd).up (sameNew hL1), by omega, Or.inl ⟨upd_same, nL1⟩, (by simp), (by simp), fun y H3 hy hp3 u3 => ?_⟩
      have U := u2.trans ((Up.same (sd.trans (sameNew hL1))).trans u3)
      have b1 : H3 t1 = some (.tup [.int 1]) := U.tup (sameNew hL0 _ _ (sc _ _ (sb _ _ upd_same)))
      have b2 : H3 l2 = some (.lst [.int 2]) := U.lst (sameNew hL0 _ _ (sc _ _ upd_same)) nl2
      have b3 : H3 dd = some (.dK [(Sum.inr "a", .int 1)]) := U _ _ (sameNew hL0 _ _ upd_same) fun _ => rfl
      obtain ⟨e, S, n⟩ := v_ok (K := K) b1 b2 b3 hx
      obtain ⟨e2, M, nd, n2, n3⟩ := m_ok (K := K) (u3.tup (sameNew hL1 _ _ upd_same)) hy
      clear b1 b2 b3 hx hy U u2 u3 sa sb sc sd s3 hpp hrest hpp2 hrest2 hL0 hL1 ht0 ht1 hl2 hdd
      have SM : Sh K H3 y e2 := .dp M nd
      refine ⟨_, rfl, ⟨x, e, rfl, S, n, fun l1 H4 e4 R1 => ⟨_, rfl, _, rfl, ⟨x, y, e, e2, rfl, S.same e4, n, SM.same e4, n2, fun l2' H5 e5 R2 => ?_⟩⟩⟩⟩
      obtain ⟨ps, hps, pr⟩ := R1.same e5
      obtain ⟨qs, hqs, qr⟩ := R2
      have len : ps.length + qs.length = 24 := by rw [pr.length, qr.length]; rfl
      refine Or.inr (Or.inr (Or.inl ⟨l1, l2', ps, qs, rfl, rfl, hps, hqs, by rw [len]; decide, fun L hL => ?_⟩))
      have hLL : (upd H5 L (.lst (ps ++ qs))) L = some (.lst (ps ++ qs)) := upd_same
      have PR := rows_same (sameNew (o := HO.lst (ps ++ qs)) hL) (paired_append pr qr)
      have e6 := (e4.trans e5).trans (sameNew (o := HO.lst (ps ++ qs)) hL)
      generalize upd H5 L (HO.lst (ps ++ qs)) = H6 at hLL PR e6 ⊢
      have R : RowsAt x H6 L (csAll d x y) := ⟨ps ++ qs, hLL, PR⟩
      try dsimp only [tNext, gName]
      refine sif (fun Q' q => ?_) (fun H9 e9 => ?_)
      · refine ⟨_, rfl, _, rfl, ⟨L, x, e, _, rfl, R, S.same e6, n, fun H7 e7 => ⟨true, rfl, ifF rfl ?_⟩⟩⟩
        exact cmp_lol (fun Q1 k1 => comp_left T (R.same e7) k1) (fun H1' Q1 k1 => comp_right k1) fun H2' e2' => q _ (e7.trans e2')
      refine ⟨_, rfl, L, rfl, ⟨_, SqL.of (e9 _ _ hLL)⟩, ?_⟩
      refine for_list (K := K) (a := L) (xs := ps ++ qs) (fun j σ H'' => ∃ z6 z7, σ = [some (.ref a), some (.ref p), some (.int (0 + (i : Int))), some x, some y, some (.ref L), z6, z7, x8, x9] ∧ Same H9 H'') ⟨x6, x7, rfl, Same.refl _⟩ (fun j σ H'' _ g => ?_) (fun j z σ H'' hz g => ?_) (fun σ H'' g => ?_)
      · obtain ⟨_, _, _, eg⟩ := g
        exact SqL.of (eg _ _ (e9 _ _ hLL))
      · obtain ⟨z6, z7, rfl, eg⟩ := g
        obtain ⟨yy, hyy, t, er, rfl, ht, he⟩ := paired_get PR hz
        obtain ⟨nm, hf, ok⟩ := csOk T hyy
        obtain ⟨⟨fI, ex⟩, hn⟩ := famEx T hf
        have ee := e9.trans eg
        have S' := S.same (e6.trans ee)
        have he' := he.same ee
        refine ⟨t, [.ref er, x], rfl, SqT.of (ee _ _ ht), rfl, _, _, rfl, _, _, rfl, rfl, ?_⟩
        refine sif1 (fun Q' q => ?_) (fun H2' e2' => ⟨_, _, rfl, eg.trans e2'⟩)
        refine ⟨_, rfl, Or.inl ⟨er, _, _, fI, nm, _, _, true, rfl, T.gx_object, ex, he'.o, .own _, ex.kit_s T.sx_SnapError (famN_ne hn), ⟨true, rfl, ifF rfl ?_⟩⟩⟩
        refine ⟨_, rfl, Or.inl ⟨er, _, _, fI, nm, _, _, true, rfl, T.gx_object, ex, he'.o, .ty _, ex.kit_v, ⟨true, rfl, ifF rfl ?_⟩⟩⟩
        refine ⟨_, rfl, er, j, _, yy.2, x, rfl, hf, he', ok, fun l rest H3' e3' hl' => Or.inl ⟨l, x :: rest, 0, x, rfl, rfl, SqL.of hl', at_of (j := 0) rfl rfl, x, e, rfl, S'.same e3', n, ?_⟩⟩
        exact ⟨_, rfl, x, e, rfl, S'.same e3', n, Or.inl ⟨rfl, _, rfl, qb (by simp) (q _ e3')⟩⟩
      · obtain ⟨z6, z7, rfl, eg⟩ := g
        have ee := e6.trans (e9.trans eg)
        have S' := S.same ee
        have SM' := SM.same ee
        refine go_sn (told3 (w := y) (fun Q1 G eG k' => fld2g T.ex_BadText T.a_BadText_word (fun Q2 k2 => mk2 rfl rfl (S'.same eG) n (SM'.same eG) n2 k2) k') (fun Q1 G eG k' => fld2g T.ex_TooMany T.a_TooMany_most (fun Q2 k2 => mk2 rfl rfl (S'.same eG) n (SM'.same eG) n2 k2) k')
          (fun Q1 G eG k' => fld2g T.ex_BadText T.a_BadText_word (fun Q2 k2 => mk2k rfl rfl (S'.same eG) n (SM'.same eG) n2 k2) k') fun l Ht et hl' => ?_)
        have M' := dp_same (ee.trans et) M
        refine sif1 (fun Q' q => ?_) (fun Hz ez => ?_)
        · refine ⟨_, rfl, .ref l, _, rfl, sh3 hl' M' nd, n3, ?_⟩
          refine ⟨_, rfl, (by show 1 ≤ sizeLine; decide), fun lb hlb => Or.inr ⟨lb, 3, [y], rfl, rfl, upd_same, by decide, by decide, (by show 1 * 3 ≤ sizeLine; decide), fun pp hpp => ?_⟩⟩
          have eb := (sameNew (o := HO.lst [y]) hlb).trans (sameNew (o := HO.lst [y, y, y]) hpp)
          exact ⟨.ref pp, _, rfl, sh3 upd_same (dp_same eb M') nd, n3, Or.inl ⟨rfl, _, rfl, qb (by simp) (q _ eb)⟩⟩
        · refine ⟨_, _, _, _, _, _, _, _, rfl, ?_⟩
          have h4 := hp3.up ((ee.trans et).trans ez)
          rw [show 2 * (i + 1) = 2 * i + 1 + 1 by omega]
          exact h4
    · obtain ⟨x2, x3, x4, x5, x6, x7, x8, x9, rfl, hp⟩ := h
      refine ⟨(by show 0 ≤ 1000; decide), fun b hb => ⟨b, rfl, upd_same, rfl, ⟨b, 24, (d.NoChange, "NoChange"), rfl, rfl, Or.inl upd_same, fun l H2 e2 hl' => ⟨(by show 1 ≤ sizeLine; decide), fun l3 hl3 => ?_⟩⟩⟩⟩
      refine Or.inr (Or.inr ⟨.list [.int 24], .list [.int 24], .lst (SqL.of (sameNew hl3 _ _ hl')) (.cons (.int 24) .nil), .lst (SqL.of upd_same) (.cons (.int 24) .nil), by decide +kernel, by decide +kernel, _, rfl, ifT (by decide +kernel) ?_⟩)
      refine ⟨(by show 0 ≤ 1000; decide), fun b2 hb2 => ⟨b2, rfl, upd_same, rfl, Or.inl ⟨b2, _, d.NoChange, _, "NoChange", _, _, true, rfl, T.gx_object, T.ex_NoChange, Or.inl upd_same, .own _, T.ex_NoChange.kit_s T.sx_SnapError (by decide), ⟨true, rfl, ifT rfl ?_⟩⟩⟩⟩
      exact ⟨(by show 0 ≤ 1000; decide), fun b3 hb3 => ⟨b3, rfl, upd_same, rfl, Or.inl ⟨b3, _, d.NoChange, _, "NoChange", _, _, true, rfl, T.gx_object, T.ex_NoChange, Or.inl upd_same, .ty _, T.ex_NoChange.kit_v, k _⟩⟩⟩
theorem law_end {fa : Addr} {h : Heap} (hfa : mg "law" = some (.ref fa)) (T : Tx K mg d) : ∀ base : Heap, K.In base → base.Ns mainGlobals mg → FnG P w K mg base CX0 levelLaw fa (spLaw K) := by
  have e := T.m_law
  rw [hfa] at e
  cases e
  exact fun base _ _ => G_law T
end

end AZ
namespace AZ
open PySem L2
theorem tx_mk {K : PySem.W.Frag} {h : Heap} {mg : Str → Option Value} {A__law_pen A__law_draw A__law_pick A_BadRatio___init__ A_SnapError A_BadRatio A_BadRounding___init__ A_BadRounding A_BadDrawn___init__ A_BadDrawn A_BadClaim___init__ A_BadClaim A_BadZooms___init__ A_BadZooms A_BadZoom___init__ A_BadZoom A_BadScroll___init__ A_BadScroll A_BadNumber___init__ A_BadNumber A_BadBox___init__ A_BadBox A_BadPage___init__ A_BadPage A_BadWay___init__ A_BadWay A_BadStyle___init__ A_BadStyle A_BadDrawing___init__ A_BadDrawing A_BadSight___init__ A_BadSight A_BadScreen___init__ A_BadScreen A_BadLine___init__ A_BadLine A_NoBox___init__ A_NoBox A_NoThing___init__ A_NoThing A_NoZoom___init__ A_NoZoom A_Taken___init__ A_Taken A_Unlike___init__ A_Unlike A_Refused___init__ A_Refused A_BadText___init__ A_BadText A_TooMany___init__ A_TooMany A_NoChange___init__ A_NoChange A__law_of_parts A__law_of_values A__law_classes A__law_fields A__law_kept A_law : Addr} {cd_BadBox___init__ cd_BadClaim___init__ cd_BadDrawing___init__ cd_BadDrawn___init__ cd_BadLine___init__ cd_BadNumber___init__ cd_BadPage___init__ cd_BadRatio___init__ cd_BadRounding___init__ cd_BadScreen___init__ cd_BadScroll___init__ cd_BadSight___init__ cd_BadStyle___init__ cd_BadText___init__ cd_BadWay___init__ cd_BadZoom___init__ cd_BadZooms___init__ cd_NoBox___init__ cd_NoChange___init__ cd_NoThing___init__ cd_NoZoom___init__ cd_Refused___init__ cd_Taken___init__ cd_TooMany___init__ cd_Unlike___init__ cd__law_classes cd__law_draw cd__law_fields cd__law_kept cd__law_of_parts cd__law_of_values cd__law_pen cd__law_pick cd_law ct_BadBox___init__ ct_BadClaim___init__ ct_BadDrawing___init__ ct_BadDrawn___init__ ct_BadLine___init__ ct_BadNumber___init__ ct_BadPage___init__ ct_BadRatio___init__ ct_BadRounding___init__ ct_BadScreen___init__ ct_BadScroll___init__ ct_BadSight___init__ ct_BadStyle___init__ ct_BadText___init__ ct_BadWay___init__ ct_BadZoom___init__ ct_BadZooms___init__ ct_NoBox___init__ ct_NoChange___init__ ct_NoThing___init__ ct_NoZoom___init__ ct_Refused___init__ ct_Taken___init__ ct_TooMany___init__ ct_Unlike___init__ ct__law_classes ct__law_draw ct__law_fields ct__law_kept ct__law_of_parts ct__law_of_values ct__law_pen ct__law_pick ct_law dc_BadBox___init__ dc_BadClaim___init__ dc_BadDrawing___init__ dc_BadDrawn___init__ dc_BadLine___init__ dc_BadNumber___init__ dc_BadPage___init__ dc_BadRatio___init__ dc_BadRounding___init__ dc_BadScreen___init__ dc_BadScroll___init__ dc_BadSight___init__ dc_BadStyle___init__ dc_BadText___init__ dc_BadWay___init__ dc_BadZoom___init__ dc_BadZooms___init__ dc_NoBox___init__ dc_NoChange___init__ dc_NoThing___init__ dc_NoZoom___init__ dc_Refused___init__ dc_Taken___init__ dc_TooMany___init__ dc_Unlike___init__ dc__law_classes dc__law_draw dc__law_fields dc__law_kept dc__law_of_parts dc__law_of_values dc__law_pen dc__law_pick dc_law kV_BadBox___init__ kV_BadClaim___init__ kV_BadDrawing___init__ kV_BadDrawn___init__ kV_BadLine___init__ kV_BadNumber___init__ kV_BadPage___init__ kV_BadRatio___init__ kV_BadRounding___init__ kV_BadScreen___init__ kV_BadScroll___init__ kV_BadSight___init__ kV_BadStyle___init__ kV_BadText___init__ kV_BadWay___init__ kV_BadZoom___init__ kV_BadZooms___init__ kV_NoBox___init__ kV_NoChange___init__ kV_NoThing___init__ kV_NoZoom___init__ kV_Refused___init__ kV_Taken___init__ kV_TooMany___init__ kV_Unlike___init__ kV__law_classes kV__law_draw kV__law_fields kV__law_kept kV__law_of_parts kV__law_of_values kV__law_pen kV__law_pick kV_law oc_BadBox___init__ oc_BadClaim___init__ oc_BadDrawing___init__ oc_BadDrawn___init__ oc_BadLine___init__ oc_BadNumber___init__ oc_BadPage___init__ oc_BadRatio___init__ oc_BadRounding___init__ oc_BadScreen___init__ oc_BadScroll___init__ oc_BadSight___init__ oc_BadStyle___init__ oc_BadText___init__ oc_BadWay___init__ oc_BadZoom___init__ oc_BadZooms___init__ oc_NoBox___init__ oc_NoChange___init__ oc_NoThing___init__ oc_NoZoom___init__ oc_Refused___init__ oc_Taken___init__ oc_TooMany___init__ oc_Unlike___init__ oc__law_classes oc__law_draw oc__law_fields oc__law_kept oc__law_of_parts oc__law_of_values oc__law_pen oc__law_pick oc_law pm_BadBox___init__ pm_BadClaim___init__ pm_BadDrawing___init__ pm_BadDrawn___init__ pm_BadLine___init__ pm_BadNumber___init__ pm_BadPage___init__ pm_BadRatio___init__ pm_BadRounding___init__ pm_BadScreen___init__ pm_BadScroll___init__ pm_BadSight___init__ pm_BadStyle___init__ pm_BadText___init__ pm_BadWay___init__ pm_BadZoom___init__ pm_BadZooms___init__ pm_NoBox___init__ pm_NoChange___init__ pm_NoThing___init__ pm_NoZoom___init__ pm_Refused___init__ pm_Taken___init__ pm_TooMany___init__ pm_Unlike___init__ pm__law_classes pm__law_draw pm__law_fields pm__law_kept pm__law_of_parts pm__law_of_values pm__law_pen pm__law_pick pm_law : Value} {an_BadBox___init__ an_BadClaim___init__ an_BadDrawing___init__ an_BadDrawn___init__ an_BadLine___init__ an_BadNumber___init__ an_BadPage___init__ an_BadRatio___init__ an_BadRounding___init__ an_BadScreen___init__ an_BadScroll___init__ an_BadSight___init__ an_BadStyle___init__ an_BadText___init__ an_BadWay___init__ an_BadZoom___init__ an_BadZooms___init__ an_NoBox___init__ an_NoChange___init__ an_NoThing___init__ an_NoZoom___init__ an_Refused___init__ an_Taken___init__ an_TooMany___init__ an_Unlike___init__ an__law_classes an__law_draw an__law_fields an__law_kept an__law_of_parts an__law_of_values an__law_pen an__law_pick an_law od_BadBox___init__ od_BadClaim___init__ od_BadDrawing___init__ od_BadDrawn___init__ od_BadLine___init__ od_BadNumber___init__ od_BadPage___init__ od_BadRatio___init__ od_BadRounding___init__ od_BadScreen___init__ od_BadScroll___init__ od_BadSight___init__ od_BadStyle___init__ od_BadText___init__ od_BadWay___init__ od_BadZoom___init__ od_BadZooms___init__ od_NoBox___init__ od_NoChange___init__ od_NoThing___init__ od_NoZoom___init__ od_Refused___init__ od_Taken___init__ od_TooMany___init__ od_Unlike___init__ od__law_classes od__law_draw od__law_fields od__law_kept od__law_of_parts od__law_of_values od__law_pen od__law_pick od_law : Option Addr} {sl_BadBox___init__ sl_BadClaim___init__ sl_BadDrawing___init__ sl_BadDrawn___init__ sl_BadLine___init__ sl_BadNumber___init__ sl_BadPage___init__ sl_BadRatio___init__ sl_BadRounding___init__ sl_BadScreen___init__ sl_BadScroll___init__ sl_BadSight___init__ sl_BadStyle___init__ sl_BadText___init__ sl_BadWay___init__ sl_BadZoom___init__ sl_BadZooms___init__ sl_NoBox___init__ sl_NoChange___init__ sl_NoThing___init__ sl_NoZoom___init__ sl_Refused___init__ sl_Taken___init__ sl_TooMany___init__ sl_Unlike___init__ sl__law_classes sl__law_draw sl__law_fields sl__law_kept sl__law_of_parts sl__law_of_values sl__law_pen sl__law_pick sl_law : Array (Option Value)} {e0_BadBox e0_BadClaim e0_BadDrawing e0_BadDrawn e0_BadLine e0_BadNumber e0_BadPage e0_BadRatio e0_BadRounding e0_BadScreen e0_BadScroll e0_BadSight e0_BadStyle e0_BadText e0_BadWay e0_BadZoom e0_BadZooms e0_NoBox e0_NoChange e0_NoThing e0_NoZoom e0_Refused e0_SnapError e0_Taken e0_TooMany e0_Unlike : Option Value} {e1_BadBox e1_BadClaim e1_BadDrawing e1_BadDrawn e1_BadLine e1_BadNumber e1_BadPage e1_BadRatio e1_BadRounding e1_BadScreen e1_BadScroll e1_BadSight e1_BadStyle e1_BadText e1_BadWay e1_BadZoom e1_BadZooms e1_NoBox e1_NoChange e1_NoThing e1_NoZoom e1_Refused e1_SnapError e1_Taken e1_TooMany e1_Unlike : Option Value} {e2_BadBox e2_BadClaim e2_BadDrawing e2_BadDrawn e2_BadLine e2_BadNumber e2_BadPage e2_BadRatio e2_BadRounding e2_BadScreen e2_BadScroll e2_BadSight e2_BadStyle e2_BadText e2_BadWay e2_BadZoom e2_BadZooms e2_NoBox e2_NoChange e2_NoThing e2_NoZoom e2_Refused e2_SnapError e2_Taken e2_TooMany e2_Unlike : Option Value} {e3_BadBox e3_BadClaim e3_BadDrawing e3_BadDrawn e3_BadLine e3_BadNumber e3_BadPage e3_BadRatio e3_BadRounding e3_BadScreen e3_BadScroll e3_BadSight e3_BadStyle e3_BadText e3_BadWay e3_BadZoom e3_BadZooms e3_NoBox e3_NoChange e3_NoThing e3_NoZoom e3_Refused e3_SnapError e3_Taken e3_TooMany e3_Unlike : Option Value} {e5_BadBox e5_BadClaim e5_BadDrawing e5_BadDrawn e5_BadLine e5_BadNumber e5_BadPage e5_BadRatio e5_BadRounding e5_BadScreen e5_BadScroll e5_BadSight e5_BadStyle e5_BadText e5_BadWay e5_BadZoom e5_BadZooms e5_NoBox e5_NoChange e5_NoThing e5_NoZoom e5_Refused e5_SnapError e5_Taken e5_TooMany e5_Unlike : Option Value} {eN_BadBox eN_BadClaim eN_BadDrawing eN_BadDrawn eN_BadLine eN_BadNumber eN_BadPage eN_BadRatio eN_BadRounding eN_BadScreen eN_BadScroll eN_BadSight eN_BadStyle eN_BadText eN_BadWay eN_BadZoom eN_BadZooms eN_NoBox eN_NoChange eN_NoThing eN_NoZoom eN_Refused eN_SnapError eN_Taken eN_TooMany eN_Unlike : Addr} {ea_BadBox ea_BadClaim ea_BadDrawing ea_BadDrawn ea_BadLine ea_BadNumber ea_BadPage ea_BadRatio ea_BadRounding ea_BadScreen ea_BadScroll ea_BadSight ea_BadStyle ea_BadText ea_BadWay ea_BadZoom ea_BadZooms ea_NoBox ea_NoChange ea_NoThing ea_NoZoom ea_Refused ea_SnapError ea_Taken ea_TooMany ea_Unlike : Bool} {eb_BadBox eb_BadClaim eb_BadDrawing eb_BadDrawn eb_BadLine eb_BadNumber eb_BadPage eb_BadRatio eb_BadRounding eb_BadScreen eb_BadScroll eb_BadSight eb_BadStyle eb_BadText eb_BadWay eb_BadZoom eb_BadZooms eb_NoBox eb_NoChange eb_NoThing eb_NoZoom eb_Refused eb_SnapError eb_Taken eb_TooMany eb_Unlike : List Value} {ec_BadBox ec_BadClaim ec_BadDrawing ec_BadDrawn ec_BadLine ec_BadNumber ec_BadPage ec_BadRatio ec_BadRounding ec_BadScreen ec_BadScroll ec_BadSight ec_BadStyle ec_BadText ec_BadWay ec_BadZoom ec_BadZooms ec_NoBox ec_NoChange ec_NoThing ec_NoZoom ec_Refused ec_SnapError ec_Taken ec_TooMany ec_Unlike : Option Bool} {ed_BadBox ed_BadClaim ed_BadDrawing ed_BadDrawn ed_BadLine ed_BadNumber ed_BadPage ed_BadRatio ed_BadRounding ed_BadScreen ed_BadScroll ed_BadSight ed_BadStyle ed_BadText ed_BadWay ed_BadZoom ed_BadZooms ed_NoBox ed_NoChange ed_NoThing ed_NoZoom ed_Refused ed_SnapError ed_Taken ed_TooMany ed_Unlike : Option Addr} {en_BadBox en_BadClaim en_BadDrawing en_BadDrawn en_BadLine en_BadNumber en_BadPage en_BadRatio en_BadRounding en_BadScreen en_BadScroll en_BadSight en_BadStyle en_BadText en_BadWay en_BadZoom en_BadZooms en_NoBox en_NoChange en_NoThing en_NoZoom en_Refused en_SnapError en_Taken en_TooMany en_Unlike : List Str} {eq_BadBox eq_BadClaim eq_BadDrawing eq_BadDrawn eq_BadLine eq_BadNumber eq_BadPage eq_BadRatio eq_BadRounding eq_BadScreen eq_BadScroll eq_BadSight eq_BadStyle eq_BadText eq_BadWay eq_BadZoom eq_BadZooms eq_NoBox eq_NoChange eq_NoThing eq_NoZoom eq_Refused eq_SnapError eq_Taken eq_TooMany eq_Unlike : Str} {eu_BadBox eu_BadClaim eu_BadDrawing eu_BadDrawn eu_BadLine eu_BadNumber eu_BadPage eu_BadRatio eu_BadRounding eu_BadScreen eu_BadScroll eu_BadSight eu_BadStyle eu_BadText eu_BadWay eu_BadZoom eu_BadZooms eu_NoBox eu_NoChange eu_NoThing eu_NoZoom eu_Refused eu_SnapError eu_Taken eu_TooMany eu_Unlike : List Value} (X : K.In h) (G : h.Ns mainGlobals mg)
    (L__law_pen : PySem.W.nsIn K mainGlobals "_law_pen" = some (some (.ref A__law_pen)))
    (L__law_draw : PySem.W.nsIn K mainGlobals "_law_draw" = some (some (.ref A__law_draw)))
    (L__law_pick : PySem.W.nsIn K mainGlobals "_law_pick" = some (some (.ref A__law_pick)))
    (L_SnapError : PySem.W.nsIn K mainGlobals "SnapError" = some (some (.ref A_SnapError)))
    (L_BadRatio : PySem.W.nsIn K mainGlobals "BadRatio" = some (some (.ref A_BadRatio)))
    (L_BadRounding : PySem.W.nsIn K mainGlobals "BadRounding" = some (some (.ref A_BadRounding)))
    (L_BadDrawn : PySem.W.nsIn K mainGlobals "BadDrawn" = some (some (.ref A_BadDrawn)))
    (L_BadClaim : PySem.W.nsIn K mainGlobals "BadClaim" = some (some (.ref A_BadClaim)))
    (L_BadZooms : PySem.W.nsIn K mainGlobals "BadZooms" = some (some (.ref A_BadZooms)))
    (L_BadZoom : PySem.W.nsIn K mainGlobals "BadZoom" = some (some (.ref A_BadZoom)))
    (L_BadScroll : PySem.W.nsIn K mainGlobals "BadScroll" = some (some (.ref A_BadScroll)))
    (L_BadNumber : PySem.W.nsIn K mainGlobals "BadNumber" = some (some (.ref A_BadNumber)))
    (L_BadBox : PySem.W.nsIn K mainGlobals "BadBox" = some (some (.ref A_BadBox)))
    (L_BadPage : PySem.W.nsIn K mainGlobals "BadPage" = some (some (.ref A_BadPage)))
    (L_BadWay : PySem.W.nsIn K mainGlobals "BadWay" = some (some (.ref A_BadWay)))
    (L_BadStyle : PySem.W.nsIn K mainGlobals "BadStyle" = some (some (.ref A_BadStyle)))
    (L_BadDrawing : PySem.W.nsIn K mainGlobals "BadDrawing" = some (some (.ref A_BadDrawing)))
    (L_BadSight : PySem.W.nsIn K mainGlobals "BadSight" = some (some (.ref A_BadSight)))
    (L_BadScreen : PySem.W.nsIn K mainGlobals "BadScreen" = some (some (.ref A_BadScreen)))
    (L_BadLine : PySem.W.nsIn K mainGlobals "BadLine" = some (some (.ref A_BadLine)))
    (L_NoBox : PySem.W.nsIn K mainGlobals "NoBox" = some (some (.ref A_NoBox)))
    (L_NoThing : PySem.W.nsIn K mainGlobals "NoThing" = some (some (.ref A_NoThing)))
    (L_NoZoom : PySem.W.nsIn K mainGlobals "NoZoom" = some (some (.ref A_NoZoom)))
    (L_Taken : PySem.W.nsIn K mainGlobals "Taken" = some (some (.ref A_Taken)))
    (L_Unlike : PySem.W.nsIn K mainGlobals "Unlike" = some (some (.ref A_Unlike)))
    (L_Refused : PySem.W.nsIn K mainGlobals "Refused" = some (some (.ref A_Refused)))
    (L_BadText : PySem.W.nsIn K mainGlobals "BadText" = some (some (.ref A_BadText)))
    (L_TooMany : PySem.W.nsIn K mainGlobals "TooMany" = some (some (.ref A_TooMany)))
    (L_NoChange : PySem.W.nsIn K mainGlobals "NoChange" = some (some (.ref A_NoChange)))
    (L__law_of_parts : PySem.W.nsIn K mainGlobals "_law_of_parts" = some (some (.ref A__law_of_parts)))
    (L__law_of_values : PySem.W.nsIn K mainGlobals "_law_of_values" = some (some (.ref A__law_of_values)))
    (L__law_classes : PySem.W.nsIn K mainGlobals "_law_classes" = some (some (.ref A__law_classes)))
    (L__law_fields : PySem.W.nsIn K mainGlobals "_law_fields" = some (some (.ref A__law_fields)))
    (L__law_kept : PySem.W.nsIn K mainGlobals "_law_kept" = some (some (.ref A__law_kept)))
    (L_law : PySem.W.nsIn K mainGlobals "law" = some (some (.ref A_law)))
    (L_BadRatio___init__ : PySem.W.findIn K (.ref A_BadRatio) "__init__" = some (some (.ref A_BadRatio___init__)))
    (L_BadRounding___init__ : PySem.W.findIn K (.ref A_BadRounding) "__init__" = some (some (.ref A_BadRounding___init__)))
    (L_BadDrawn___init__ : PySem.W.findIn K (.ref A_BadDrawn) "__init__" = some (some (.ref A_BadDrawn___init__)))
    (L_BadClaim___init__ : PySem.W.findIn K (.ref A_BadClaim) "__init__" = some (some (.ref A_BadClaim___init__)))
    (L_BadZooms___init__ : PySem.W.findIn K (.ref A_BadZooms) "__init__" = some (some (.ref A_BadZooms___init__)))
    (L_BadZoom___init__ : PySem.W.findIn K (.ref A_BadZoom) "__init__" = some (some (.ref A_BadZoom___init__)))
    (L_BadScroll___init__ : PySem.W.findIn K (.ref A_BadScroll) "__init__" = some (some (.ref A_BadScroll___init__)))
    (L_BadNumber___init__ : PySem.W.findIn K (.ref A_BadNumber) "__init__" = some (some (.ref A_BadNumber___init__)))
    (L_BadBox___init__ : PySem.W.findIn K (.ref A_BadBox) "__init__" = some (some (.ref A_BadBox___init__)))
    (L_BadPage___init__ : PySem.W.findIn K (.ref A_BadPage) "__init__" = some (some (.ref A_BadPage___init__)))
    (L_BadWay___init__ : PySem.W.findIn K (.ref A_BadWay) "__init__" = some (some (.ref A_BadWay___init__)))
    (L_BadStyle___init__ : PySem.W.findIn K (.ref A_BadStyle) "__init__" = some (some (.ref A_BadStyle___init__)))
    (L_BadDrawing___init__ : PySem.W.findIn K (.ref A_BadDrawing) "__init__" = some (some (.ref A_BadDrawing___init__)))
    (L_BadSight___init__ : PySem.W.findIn K (.ref A_BadSight) "__init__" = some (some (.ref A_BadSight___init__)))
    (L_BadScreen___init__ : PySem.W.findIn K (.ref A_BadScreen) "__init__" = some (some (.ref A_BadScreen___init__)))
    (L_BadLine___init__ : PySem.W.findIn K (.ref A_BadLine) "__init__" = some (some (.ref A_BadLine___init__)))
    (L_NoBox___init__ : PySem.W.findIn K (.ref A_NoBox) "__init__" = some (some (.ref A_NoBox___init__)))
    (L_NoThing___init__ : PySem.W.findIn K (.ref A_NoThing) "__init__" = some (some (.ref A_NoThing___init__)))
    (L_NoZoom___init__ : PySem.W.findIn K (.ref A_NoZoom) "__init__" = some (some (.ref A_NoZoom___init__)))
    (L_Taken___init__ : PySem.W.findIn K (.ref A_Taken) "__init__" = some (some (.ref A_Taken___init__)))
    (L_Unlike___init__ : PySem.W.findIn K (.ref A_Unlike) "__init__" = some (some (.ref A_Unlike___init__)))
    (L_Refused___init__ : PySem.W.findIn K (.ref A_Refused) "__init__" = some (some (.ref A_Refused___init__)))
    (L_BadText___init__ : PySem.W.findIn K (.ref A_BadText) "__init__" = some (some (.ref A_BadText___init__)))
    (L_TooMany___init__ : PySem.W.findIn K (.ref A_TooMany) "__init__" = some (some (.ref A_TooMany___init__)))
    (L_NoChange___init__ : PySem.W.findIn K (.ref A_NoChange) "__init__" = some (some (.ref A_NoChange___init__)))
    (F__law_pen_l : K.lookup A__law_pen = some ⟨oc__law_pen, od__law_pen, .func (PySem.W.fnOf "_law_pen" "_law_pen" (defArgs s__law_pen) (defBody s__law_pen) (defScope s__law_pen) .none kV__law_pen dc__law_pen pm__law_pen an__law_pen cd__law_pen ct__law_pen), sl__law_pen⟩)
    (F__law_draw_l : K.lookup A__law_draw = some ⟨oc__law_draw, od__law_draw, .func (PySem.W.fnOf "_law_draw" "_law_draw" (defArgs s__law_draw) (defBody s__law_draw) (defScope s__law_draw) .none kV__law_draw dc__law_draw pm__law_draw an__law_draw cd__law_draw ct__law_draw), sl__law_draw⟩)
    (F__law_pick_l : K.lookup A__law_pick = some ⟨oc__law_pick, od__law_pick, .func (PySem.W.fnOf "_law_pick" "_law_pick" (defArgs s__law_pick) (defBody s__law_pick) (defScope s__law_pick) .none kV__law_pick dc__law_pick pm__law_pick an__law_pick cd__law_pick ct__law_pick), sl__law_pick⟩)
    (F_BadRatio___init___l : K.lookup A_BadRatio___init__ = some ⟨oc_BadRatio___init__, od_BadRatio___init__, .func (PySem.W.fnOf "__init__" "BadRatio.__init__" (defArgs s_BadRatio___init__) (defBody s_BadRatio___init__) (defScope s_BadRatio___init__) .none kV_BadRatio___init__ dc_BadRatio___init__ pm_BadRatio___init__ an_BadRatio___init__ cd_BadRatio___init__ ct_BadRatio___init__), sl_BadRatio___init__⟩)
    (F_BadRounding___init___l : K.lookup A_BadRounding___init__ = some ⟨oc_BadRounding___init__, od_BadRounding___init__, .func (PySem.W.fnOf "__init__" "BadRounding.__init__" (defArgs s_BadRounding___init__) (defBody s_BadRounding___init__) (defScope s_BadRounding___init__) .none kV_BadRounding___init__ dc_BadRounding___init__ pm_BadRounding___init__ an_BadRounding___init__ cd_BadRounding___init__ ct_BadRounding___init__), sl_BadRounding___init__⟩)
    (F_BadDrawn___init___l : K.lookup A_BadDrawn___init__ = some ⟨oc_BadDrawn___init__, od_BadDrawn___init__, .func (PySem.W.fnOf "__init__" "BadDrawn.__init__" (defArgs s_BadDrawn___init__) (defBody s_BadDrawn___init__) (defScope s_BadDrawn___init__) .none kV_BadDrawn___init__ dc_BadDrawn___init__ pm_BadDrawn___init__ an_BadDrawn___init__ cd_BadDrawn___init__ ct_BadDrawn___init__), sl_BadDrawn___init__⟩)
    (F_BadClaim___init___l : K.lookup A_BadClaim___init__ = some ⟨oc_BadClaim___init__, od_BadClaim___init__, .func (PySem.W.fnOf "__init__" "BadClaim.__init__" (defArgs s_BadClaim___init__) (defBody s_BadClaim___init__) (defScope s_BadClaim___init__) .none kV_BadClaim___init__ dc_BadClaim___init__ pm_BadClaim___init__ an_BadClaim___init__ cd_BadClaim___init__ ct_BadClaim___init__), sl_BadClaim___init__⟩)
    (F_BadZooms___init___l : K.lookup A_BadZooms___init__ = some ⟨oc_BadZooms___init__, od_BadZooms___init__, .func (PySem.W.fnOf "__init__" "BadZooms.__init__" (defArgs s_BadZooms___init__) (defBody s_BadZooms___init__) (defScope s_BadZooms___init__) .none kV_BadZooms___init__ dc_BadZooms___init__ pm_BadZooms___init__ an_BadZooms___init__ cd_BadZooms___init__ ct_BadZooms___init__), sl_BadZooms___init__⟩)
    (F_BadZoom___init___l : K.lookup A_BadZoom___init__ = some ⟨oc_BadZoom___init__, od_BadZoom___init__, .func (PySem.W.fnOf "__init__" "BadZoom.__init__" (defArgs s_BadZoom___init__) (defBody s_BadZoom___init__) (defScope s_BadZoom___init__) .none kV_BadZoom___init__ dc_BadZoom___init__ pm_BadZoom___init__ an_BadZoom___init__ cd_BadZoom___init__ ct_BadZoom___init__), sl_BadZoom___init__⟩)
    (F_BadScroll___init___l : K.lookup A_BadScroll___init__ = some ⟨oc_BadScroll___init__, od_BadScroll___init__, .func (PySem.W.fnOf "__init__" "BadScroll.__init__" (defArgs s_BadScroll___init__) (defBody s_BadScroll___init__) (defScope s_BadScroll___init__) .none kV_BadScroll___init__ dc_BadScroll___init__ pm_BadScroll___init__ an_BadScroll___init__ cd_BadScroll___init__ ct_BadScroll___init__), sl_BadScroll___init__⟩)
    (F_BadNumber___init___l : K.lookup A_BadNumber___init__ = some ⟨oc_BadNumber___init__, od_BadNumber___init__, .func (PySem.W.fnOf "__init__" "BadNumber.__init__" (defArgs s_BadNumber___init__) (defBody s_BadNumber___init__) (defScope s_BadNumber___init__) .none kV_BadNumber___init__ dc_BadNumber___init__ pm_BadNumber___init__ an_BadNumber___init__ cd_BadNumber___init__ ct_BadNumber___init__), sl_BadNumber___init__⟩)
    (F_BadBox___init___l : K.lookup A_BadBox___init__ = some ⟨oc_BadBox___init__, od_BadBox___init__, .func (PySem.W.fnOf "__init__" "BadBox.__init__" (defArgs s_BadBox___init__) (defBody s_BadBox___init__) (defScope s_BadBox___init__) .none kV_BadBox___init__ dc_BadBox___init__ pm_BadBox___init__ an_BadBox___init__ cd_BadBox___init__ ct_BadBox___init__), sl_BadBox___init__⟩)
    (F_BadPage___init___l : K.lookup A_BadPage___init__ = some ⟨oc_BadPage___init__, od_BadPage___init__, .func (PySem.W.fnOf "__init__" "BadPage.__init__" (defArgs s_BadPage___init__) (defBody s_BadPage___init__) (defScope s_BadPage___init__) .none kV_BadPage___init__ dc_BadPage___init__ pm_BadPage___init__ an_BadPage___init__ cd_BadPage___init__ ct_BadPage___init__), sl_BadPage___init__⟩)
    (F_BadWay___init___l : K.lookup A_BadWay___init__ = some ⟨oc_BadWay___init__, od_BadWay___init__, .func (PySem.W.fnOf "__init__" "BadWay.__init__" (defArgs s_BadWay___init__) (defBody s_BadWay___init__) (defScope s_BadWay___init__) .none kV_BadWay___init__ dc_BadWay___init__ pm_BadWay___init__ an_BadWay___init__ cd_BadWay___init__ ct_BadWay___init__), sl_BadWay___init__⟩)
    (F_BadStyle___init___l : K.lookup A_BadStyle___init__ = some ⟨oc_BadStyle___init__, od_BadStyle___init__, .func (PySem.W.fnOf "__init__" "BadStyle.__init__" (defArgs s_BadStyle___init__) (defBody s_BadStyle___init__) (defScope s_BadStyle___init__) .none kV_BadStyle___init__ dc_BadStyle___init__ pm_BadStyle___init__ an_BadStyle___init__ cd_BadStyle___init__ ct_BadStyle___init__), sl_BadStyle___init__⟩)
    (F_BadDrawing___init___l : K.lookup A_BadDrawing___init__ = some ⟨oc_BadDrawing___init__, od_BadDrawing___init__, .func (PySem.W.fnOf "__init__" "BadDrawing.__init__" (defArgs s_BadDrawing___init__) (defBody s_BadDrawing___init__) (defScope s_BadDrawing___init__) .none kV_BadDrawing___init__ dc_BadDrawing___init__ pm_BadDrawing___init__ an_BadDrawing___init__ cd_BadDrawing___init__ ct_BadDrawing___init__), sl_BadDrawing___init__⟩)
    (F_BadSight___init___l : K.lookup A_BadSight___init__ = some ⟨oc_BadSight___init__, od_BadSight___init__, .func (PySem.W.fnOf "__init__" "BadSight.__init__" (defArgs s_BadSight___init__) (defBody s_BadSight___init__) (defScope s_BadSight___init__) .none kV_BadSight___init__ dc_BadSight___init__ pm_BadSight___init__ an_BadSight___init__ cd_BadSight___init__ ct_BadSight___init__), sl_BadSight___init__⟩)
    (F_BadScreen___init___l : K.lookup A_BadScreen___init__ = some ⟨oc_BadScreen___init__, od_BadScreen___init__, .func (PySem.W.fnOf "__init__" "BadScreen.__init__" (defArgs s_BadScreen___init__) (defBody s_BadScreen___init__) (defScope s_BadScreen___init__) .none kV_BadScreen___init__ dc_BadScreen___init__ pm_BadScreen___init__ an_BadScreen___init__ cd_BadScreen___init__ ct_BadScreen___init__), sl_BadScreen___init__⟩)
    (F_BadLine___init___l : K.lookup A_BadLine___init__ = some ⟨oc_BadLine___init__, od_BadLine___init__, .func (PySem.W.fnOf "__init__" "BadLine.__init__" (defArgs s_BadLine___init__) (defBody s_BadLine___init__) (defScope s_BadLine___init__) .none kV_BadLine___init__ dc_BadLine___init__ pm_BadLine___init__ an_BadLine___init__ cd_BadLine___init__ ct_BadLine___init__), sl_BadLine___init__⟩)
    (F_NoBox___init___l : K.lookup A_NoBox___init__ = some ⟨oc_NoBox___init__, od_NoBox___init__, .func (PySem.W.fnOf "__init__" "NoBox.__init__" (defArgs s_NoBox___init__) (defBody s_NoBox___init__) (defScope s_NoBox___init__) .none kV_NoBox___init__ dc_NoBox___init__ pm_NoBox___init__ an_NoBox___init__ cd_NoBox___init__ ct_NoBox___init__), sl_NoBox___init__⟩)
    (F_NoThing___init___l : K.lookup A_NoThing___init__ = some ⟨oc_NoThing___init__, od_NoThing___init__, .func (PySem.W.fnOf "__init__" "NoThing.__init__" (defArgs s_NoThing___init__) (defBody s_NoThing___init__) (defScope s_NoThing___init__) .none kV_NoThing___init__ dc_NoThing___init__ pm_NoThing___init__ an_NoThing___init__ cd_NoThing___init__ ct_NoThing___init__), sl_NoThing___init__⟩)
    (F_NoZoom___init___l : K.lookup A_NoZoom___init__ = some ⟨oc_NoZoom___init__, od_NoZoom___init__, .func (PySem.W.fnOf "__init__" "NoZoom.__init__" (defArgs s_NoZoom___init__) (defBody s_NoZoom___init__) (defScope s_NoZoom___init__) .none kV_NoZoom___init__ dc_NoZoom___init__ pm_NoZoom___init__ an_NoZoom___init__ cd_NoZoom___init__ ct_NoZoom___init__), sl_NoZoom___init__⟩)
    (F_Taken___init___l : K.lookup A_Taken___init__ = some ⟨oc_Taken___init__, od_Taken___init__, .func (PySem.W.fnOf "__init__" "Taken.__init__" (defArgs s_Taken___init__) (defBody s_Taken___init__) (defScope s_Taken___init__) .none kV_Taken___init__ dc_Taken___init__ pm_Taken___init__ an_Taken___init__ cd_Taken___init__ ct_Taken___init__), sl_Taken___init__⟩)
    (F_Unlike___init___l : K.lookup A_Unlike___init__ = some ⟨oc_Unlike___init__, od_Unlike___init__, .func (PySem.W.fnOf "__init__" "Unlike.__init__" (defArgs s_Unlike___init__) (defBody s_Unlike___init__) (defScope s_Unlike___init__) .none kV_Unlike___init__ dc_Unlike___init__ pm_Unlike___init__ an_Unlike___init__ cd_Unlike___init__ ct_Unlike___init__), sl_Unlike___init__⟩)
    (F_Refused___init___l : K.lookup A_Refused___init__ = some ⟨oc_Refused___init__, od_Refused___init__, .func (PySem.W.fnOf "__init__" "Refused.__init__" (defArgs s_Refused___init__) (defBody s_Refused___init__) (defScope s_Refused___init__) .none kV_Refused___init__ dc_Refused___init__ pm_Refused___init__ an_Refused___init__ cd_Refused___init__ ct_Refused___init__), sl_Refused___init__⟩)
    (F_BadText___init___l : K.lookup A_BadText___init__ = some ⟨oc_BadText___init__, od_BadText___init__, .func (PySem.W.fnOf "__init__" "BadText.__init__" (defArgs s_BadText___init__) (defBody s_BadText___init__) (defScope s_BadText___init__) .none kV_BadText___init__ dc_BadText___init__ pm_BadText___init__ an_BadText___init__ cd_BadText___init__ ct_BadText___init__), sl_BadText___init__⟩)
    (F_TooMany___init___l : K.lookup A_TooMany___init__ = some ⟨oc_TooMany___init__, od_TooMany___init__, .func (PySem.W.fnOf "__init__" "TooMany.__init__" (defArgs s_TooMany___init__) (defBody s_TooMany___init__) (defScope s_TooMany___init__) .none kV_TooMany___init__ dc_TooMany___init__ pm_TooMany___init__ an_TooMany___init__ cd_TooMany___init__ ct_TooMany___init__), sl_TooMany___init__⟩)
    (F_NoChange___init___l : K.lookup A_NoChange___init__ = some ⟨oc_NoChange___init__, od_NoChange___init__, .func (PySem.W.fnOf "__init__" "NoChange.__init__" (defArgs s_NoChange___init__) (defBody s_NoChange___init__) (defScope s_NoChange___init__) .none kV_NoChange___init__ dc_NoChange___init__ pm_NoChange___init__ an_NoChange___init__ cd_NoChange___init__ ct_NoChange___init__), sl_NoChange___init__⟩)
    (F__law_of_parts_l : K.lookup A__law_of_parts = some ⟨oc__law_of_parts, od__law_of_parts, .func (PySem.W.fnOf "_law_of_parts" "_law_of_parts" (defArgs s__law_of_parts) (defBody s__law_of_parts) (defScope s__law_of_parts) .none kV__law_of_parts dc__law_of_parts pm__law_of_parts an__law_of_parts cd__law_of_parts ct__law_of_parts), sl__law_of_parts⟩)
    (F__law_of_values_l : K.lookup A__law_of_values = some ⟨oc__law_of_values, od__law_of_values, .func (PySem.W.fnOf "_law_of_values" "_law_of_values" (defArgs s__law_of_values) (defBody s__law_of_values) (defScope s__law_of_values) .none kV__law_of_values dc__law_of_values pm__law_of_values an__law_of_values cd__law_of_values ct__law_of_values), sl__law_of_values⟩)
    (F__law_classes_l : K.lookup A__law_classes = some ⟨oc__law_classes, od__law_classes, .func (PySem.W.fnOf "_law_classes" "_law_classes" (defArgs s__law_classes) (defBody s__law_classes) (defScope s__law_classes) .none kV__law_classes dc__law_classes pm__law_classes an__law_classes cd__law_classes ct__law_classes), sl__law_classes⟩)
    (F__law_fields_l : K.lookup A__law_fields = some ⟨oc__law_fields, od__law_fields, .func (PySem.W.fnOf "_law_fields" "_law_fields" (defArgs s__law_fields) (defBody s__law_fields) (defScope s__law_fields) .none kV__law_fields dc__law_fields pm__law_fields an__law_fields cd__law_fields ct__law_fields), sl__law_fields⟩)
    (F__law_kept_l : K.lookup A__law_kept = some ⟨oc__law_kept, od__law_kept, .func (PySem.W.fnOf "_law_kept" "_law_kept" (defArgs s__law_kept) (defBody s__law_kept) (defScope s__law_kept) .none kV__law_kept dc__law_kept pm__law_kept an__law_kept cd__law_kept ct__law_kept), sl__law_kept⟩)
    (F_law_l : K.lookup A_law = some ⟨oc_law, od_law, .func (PySem.W.fnOf "law" "law" (defArgs s_law) (defBody s_law) (defScope s_law) .none kV_law dc_law pm_law an_law cd_law ct_law), sl_law⟩)
    (F__law_pen_c : PySem.W.codeIn K cd__law_pen "_law_pen" = true)
    (F__law_pen_k : PySem.W.keepIn K (.ref A__law_pen) = true)
    (n_list_a : PySem.W.nsIn K mainGlobals "list" = some none)
    (F__law_draw_c : PySem.W.codeIn K cd__law_draw "_law_draw" = true)
    (F__law_draw_k : PySem.W.keepIn K (.ref A__law_draw) = true)
    (n_int_a : PySem.W.nsIn K mainGlobals "int" = some none)
    (n_len_a : PySem.W.nsIn K mainGlobals "len" = some none)
    (n_abs_a : PySem.W.nsIn K mainGlobals "abs" = some none)
    (F__law_pick_c : PySem.W.codeIn K cd__law_pick "_law_pick" = true)
    (F__law_pick_k : PySem.W.keepIn K (.ref A__law_pick) = true)
    (k__law_draw_a : PySem.W.keepIn K (.ref A__law_draw) = true)
    (m__law_draw_a : PySem.W.nsIn K mainGlobals "_law_draw" = some (some (.ref A__law_draw)))
    (F_BadRatio___init___c : PySem.W.codeIn K cd_BadRatio___init__ "BadRatio.__init__" = true)
    (F_BadRatio___init___k : PySem.W.keepIn K (.ref A_BadRatio___init__) = true)
    (vi_SnapError_r : PySem.W.readsIn K A_SnapError (.type "type") = true)
    (vi_SnapError_g : PySem.W.specialIn K (.ref A_SnapError) "__getattribute__" = some (some (.builtin "type.__getattribute__")))
    (vi_SnapError_v : PySem.W.findCls K (.ref A_SnapError) (.type "type") "__init__" = some (.val (.builtin "ValueError.__init__")))
    (m_SnapError_a : PySem.W.nsIn K mainGlobals "SnapError" = some (some (.ref A_SnapError)))
    (ex_BadRatio_l : K.lookup A_BadRatio = some (excClassObj "BadRatio" eq_BadRatio A_BadRatio eN_BadRatio eb_BadRatio (.ref A_SnapError :: PySem.HandSPX.veTail) true en_BadRatio eu_BadRatio ea_BadRatio ec_BadRatio ed_BadRatio e0_BadRatio e1_BadRatio e2_BadRatio e3_BadRatio e5_BadRatio "ValueError.__new__"))
    (ex_BadRatio_s : PySem.W.findIn K (.ref A_BadRatio) "__setattr__" = some (some (.builtin "object.__setattr__")))
    (ex_BadRatio_g : PySem.W.findIn K (.ref A_BadRatio) "__getattribute__" = some (some (.builtin "BaseException.__getattribute__")))
    (ex_BadRatio_h : PySem.W.findIn K (.ref A_BadRatio) "__getattr__" = some none)
    (ex_BadRatio_c : PySem.W.findIn K (.ref A_BadRatio) "__class__" = some (some (.builtin "object.__class__")))
    (ex_BadRatio_i : PySem.W.findIn K (.ref A_BadRatio) "__init__" = some (some (.ref A_BadRatio___init__)))
    (ex_BadRatio_f : PySem.W.typeIn K (.ref A_BadRatio___init__) = some (.type "function"))
    (ex_BadRatio_k : PySem.W.keepIn K (.ref A_BadRatio) = true)
    (a_BadRatio_value_a : PySem.W.findIn K (.ref A_BadRatio) "value" = some none)
    (F_BadRounding___init___c : PySem.W.codeIn K cd_BadRounding___init__ "BadRounding.__init__" = true)
    (F_BadRounding___init___k : PySem.W.keepIn K (.ref A_BadRounding___init__) = true)
    (ex_BadRounding_l : K.lookup A_BadRounding = some (excClassObj "BadRounding" eq_BadRounding A_BadRounding eN_BadRounding eb_BadRounding (.ref A_SnapError :: PySem.HandSPX.veTail) true en_BadRounding eu_BadRounding ea_BadRounding ec_BadRounding ed_BadRounding e0_BadRounding e1_BadRounding e2_BadRounding e3_BadRounding e5_BadRounding "ValueError.__new__"))
    (ex_BadRounding_s : PySem.W.findIn K (.ref A_BadRounding) "__setattr__" = some (some (.builtin "object.__setattr__")))
    (ex_BadRounding_g : PySem.W.findIn K (.ref A_BadRounding) "__getattribute__" = some (some (.builtin "BaseException.__getattribute__")))
    (ex_BadRounding_h : PySem.W.findIn K (.ref A_BadRounding) "__getattr__" = some none)
    (ex_BadRounding_c : PySem.W.findIn K (.ref A_BadRounding) "__class__" = some (some (.builtin "object.__class__")))
    (ex_BadRounding_i : PySem.W.findIn K (.ref A_BadRounding) "__init__" = some (some (.ref A_BadRounding___init__)))
    (ex_BadRounding_f : PySem.W.typeIn K (.ref A_BadRounding___init__) = some (.type "function"))
    (ex_BadRounding_k : PySem.W.keepIn K (.ref A_BadRounding) = true)
    (a_BadRounding_part_a : PySem.W.findIn K (.ref A_BadRounding) "part" = some none)
    (F_BadDrawn___init___c : PySem.W.codeIn K cd_BadDrawn___init__ "BadDrawn.__init__" = true)
    (F_BadDrawn___init___k : PySem.W.keepIn K (.ref A_BadDrawn___init__) = true)
    (ex_BadDrawn_l : K.lookup A_BadDrawn = some (excClassObj "BadDrawn" eq_BadDrawn A_BadDrawn eN_BadDrawn eb_BadDrawn (.ref A_SnapError :: PySem.HandSPX.veTail) true en_BadDrawn eu_BadDrawn ea_BadDrawn ec_BadDrawn ed_BadDrawn e0_BadDrawn e1_BadDrawn e2_BadDrawn e3_BadDrawn e5_BadDrawn "ValueError.__new__"))
    (ex_BadDrawn_s : PySem.W.findIn K (.ref A_BadDrawn) "__setattr__" = some (some (.builtin "object.__setattr__")))
    (ex_BadDrawn_g : PySem.W.findIn K (.ref A_BadDrawn) "__getattribute__" = some (some (.builtin "BaseException.__getattribute__")))
    (ex_BadDrawn_h : PySem.W.findIn K (.ref A_BadDrawn) "__getattr__" = some none)
    (ex_BadDrawn_c : PySem.W.findIn K (.ref A_BadDrawn) "__class__" = some (some (.builtin "object.__class__")))
    (ex_BadDrawn_i : PySem.W.findIn K (.ref A_BadDrawn) "__init__" = some (some (.ref A_BadDrawn___init__)))
    (ex_BadDrawn_f : PySem.W.typeIn K (.ref A_BadDrawn___init__) = some (.type "function"))
    (ex_BadDrawn_k : PySem.W.keepIn K (.ref A_BadDrawn) = true)
    (a_BadDrawn_part_a : PySem.W.findIn K (.ref A_BadDrawn) "part" = some none)
    (F_BadClaim___init___c : PySem.W.codeIn K cd_BadClaim___init__ "BadClaim.__init__" = true)
    (F_BadClaim___init___k : PySem.W.keepIn K (.ref A_BadClaim___init__) = true)
    (ex_BadClaim_l : K.lookup A_BadClaim = some (excClassObj "BadClaim" eq_BadClaim A_BadClaim eN_BadClaim eb_BadClaim (.ref A_SnapError :: PySem.HandSPX.veTail) true en_BadClaim eu_BadClaim ea_BadClaim ec_BadClaim ed_BadClaim e0_BadClaim e1_BadClaim e2_BadClaim e3_BadClaim e5_BadClaim "ValueError.__new__"))
    (ex_BadClaim_s : PySem.W.findIn K (.ref A_BadClaim) "__setattr__" = some (some (.builtin "object.__setattr__")))
    (ex_BadClaim_g : PySem.W.findIn K (.ref A_BadClaim) "__getattribute__" = some (some (.builtin "BaseException.__getattribute__")))
    (ex_BadClaim_h : PySem.W.findIn K (.ref A_BadClaim) "__getattr__" = some none)
    (ex_BadClaim_c : PySem.W.findIn K (.ref A_BadClaim) "__class__" = some (some (.builtin "object.__class__")))
    (ex_BadClaim_i : PySem.W.findIn K (.ref A_BadClaim) "__init__" = some (some (.ref A_BadClaim___init__)))
    (ex_BadClaim_f : PySem.W.typeIn K (.ref A_BadClaim___init__) = some (.type "function"))
    (ex_BadClaim_k : PySem.W.keepIn K (.ref A_BadClaim) = true)
    (a_BadClaim_part_a : PySem.W.findIn K (.ref A_BadClaim) "part" = some none)
    (F_BadZooms___init___c : PySem.W.codeIn K cd_BadZooms___init__ "BadZooms.__init__" = true)
    (F_BadZooms___init___k : PySem.W.keepIn K (.ref A_BadZooms___init__) = true)
    (ex_BadZooms_l : K.lookup A_BadZooms = some (excClassObj "BadZooms" eq_BadZooms A_BadZooms eN_BadZooms eb_BadZooms (.ref A_SnapError :: PySem.HandSPX.veTail) true en_BadZooms eu_BadZooms ea_BadZooms ec_BadZooms ed_BadZooms e0_BadZooms e1_BadZooms e2_BadZooms e3_BadZooms e5_BadZooms "ValueError.__new__"))
    (ex_BadZooms_s : PySem.W.findIn K (.ref A_BadZooms) "__setattr__" = some (some (.builtin "object.__setattr__")))
    (ex_BadZooms_g : PySem.W.findIn K (.ref A_BadZooms) "__getattribute__" = some (some (.builtin "BaseException.__getattribute__")))
    (ex_BadZooms_h : PySem.W.findIn K (.ref A_BadZooms) "__getattr__" = some none)
    (ex_BadZooms_c : PySem.W.findIn K (.ref A_BadZooms) "__class__" = some (some (.builtin "object.__class__")))
    (ex_BadZooms_i : PySem.W.findIn K (.ref A_BadZooms) "__init__" = some (some (.ref A_BadZooms___init__)))
    (ex_BadZooms_f : PySem.W.typeIn K (.ref A_BadZooms___init__) = some (.type "function"))
    (ex_BadZooms_k : PySem.W.keepIn K (.ref A_BadZooms) = true)
    (a_BadZooms_part_a : PySem.W.findIn K (.ref A_BadZooms) "part" = some none)
    (F_BadZoom___init___c : PySem.W.codeIn K cd_BadZoom___init__ "BadZoom.__init__" = true)
    (F_BadZoom___init___k : PySem.W.keepIn K (.ref A_BadZoom___init__) = true)
    (ex_BadZoom_l : K.lookup A_BadZoom = some (excClassObj "BadZoom" eq_BadZoom A_BadZoom eN_BadZoom eb_BadZoom (.ref A_SnapError :: PySem.HandSPX.veTail) true en_BadZoom eu_BadZoom ea_BadZoom ec_BadZoom ed_BadZoom e0_BadZoom e1_BadZoom e2_BadZoom e3_BadZoom e5_BadZoom "ValueError.__new__"))
    (ex_BadZoom_s : PySem.W.findIn K (.ref A_BadZoom) "__setattr__" = some (some (.builtin "object.__setattr__")))
    (ex_BadZoom_g : PySem.W.findIn K (.ref A_BadZoom) "__getattribute__" = some (some (.builtin "BaseException.__getattribute__")))
    (ex_BadZoom_h : PySem.W.findIn K (.ref A_BadZoom) "__getattr__" = some none)
    (ex_BadZoom_c : PySem.W.findIn K (.ref A_BadZoom) "__class__" = some (some (.builtin "object.__class__")))
    (ex_BadZoom_i : PySem.W.findIn K (.ref A_BadZoom) "__init__" = some (some (.ref A_BadZoom___init__)))
    (ex_BadZoom_f : PySem.W.typeIn K (.ref A_BadZoom___init__) = some (.type "function"))
    (ex_BadZoom_k : PySem.W.keepIn K (.ref A_BadZoom) = true)
    (a_BadZoom_value_a : PySem.W.findIn K (.ref A_BadZoom) "value" = some none)
    (F_BadScroll___init___c : PySem.W.codeIn K cd_BadScroll___init__ "BadScroll.__init__" = true)
    (F_BadScroll___init___k : PySem.W.keepIn K (.ref A_BadScroll___init__) = true)
    (ex_BadScroll_l : K.lookup A_BadScroll = some (excClassObj "BadScroll" eq_BadScroll A_BadScroll eN_BadScroll eb_BadScroll (.ref A_SnapError :: PySem.HandSPX.veTail) true en_BadScroll eu_BadScroll ea_BadScroll ec_BadScroll ed_BadScroll e0_BadScroll e1_BadScroll e2_BadScroll e3_BadScroll e5_BadScroll "ValueError.__new__"))
    (ex_BadScroll_s : PySem.W.findIn K (.ref A_BadScroll) "__setattr__" = some (some (.builtin "object.__setattr__")))
    (ex_BadScroll_g : PySem.W.findIn K (.ref A_BadScroll) "__getattribute__" = some (some (.builtin "BaseException.__getattribute__")))
    (ex_BadScroll_h : PySem.W.findIn K (.ref A_BadScroll) "__getattr__" = some none)
    (ex_BadScroll_c : PySem.W.findIn K (.ref A_BadScroll) "__class__" = some (some (.builtin "object.__class__")))
    (ex_BadScroll_i : PySem.W.findIn K (.ref A_BadScroll) "__init__" = some (some (.ref A_BadScroll___init__)))
    (ex_BadScroll_f : PySem.W.typeIn K (.ref A_BadScroll___init__) = some (.type "function"))
    (ex_BadScroll_k : PySem.W.keepIn K (.ref A_BadScroll) = true)
    (a_BadScroll_value_a : PySem.W.findIn K (.ref A_BadScroll) "value" = some none)
    (F_BadNumber___init___c : PySem.W.codeIn K cd_BadNumber___init__ "BadNumber.__init__" = true)
    (F_BadNumber___init___k : PySem.W.keepIn K (.ref A_BadNumber___init__) = true)
    (ex_BadNumber_l : K.lookup A_BadNumber = some (excClassObj "BadNumber" eq_BadNumber A_BadNumber eN_BadNumber eb_BadNumber (.ref A_SnapError :: PySem.HandSPX.veTail) true en_BadNumber eu_BadNumber ea_BadNumber ec_BadNumber ed_BadNumber e0_BadNumber e1_BadNumber e2_BadNumber e3_BadNumber e5_BadNumber "ValueError.__new__"))
    (ex_BadNumber_s : PySem.W.findIn K (.ref A_BadNumber) "__setattr__" = some (some (.builtin "object.__setattr__")))
    (ex_BadNumber_g : PySem.W.findIn K (.ref A_BadNumber) "__getattribute__" = some (some (.builtin "BaseException.__getattribute__")))
    (ex_BadNumber_h : PySem.W.findIn K (.ref A_BadNumber) "__getattr__" = some none)
    (ex_BadNumber_c : PySem.W.findIn K (.ref A_BadNumber) "__class__" = some (some (.builtin "object.__class__")))
    (ex_BadNumber_i : PySem.W.findIn K (.ref A_BadNumber) "__init__" = some (some (.ref A_BadNumber___init__)))
    (ex_BadNumber_f : PySem.W.typeIn K (.ref A_BadNumber___init__) = some (.type "function"))
    (ex_BadNumber_k : PySem.W.keepIn K (.ref A_BadNumber) = true)
    (a_BadNumber_value_a : PySem.W.findIn K (.ref A_BadNumber) "value" = some none)
    (F_BadBox___init___c : PySem.W.codeIn K cd_BadBox___init__ "BadBox.__init__" = true)
    (F_BadBox___init___k : PySem.W.keepIn K (.ref A_BadBox___init__) = true)
    (ex_BadBox_l : K.lookup A_BadBox = some (excClassObj "BadBox" eq_BadBox A_BadBox eN_BadBox eb_BadBox (.ref A_SnapError :: PySem.HandSPX.veTail) true en_BadBox eu_BadBox ea_BadBox ec_BadBox ed_BadBox e0_BadBox e1_BadBox e2_BadBox e3_BadBox e5_BadBox "ValueError.__new__"))
    (ex_BadBox_s : PySem.W.findIn K (.ref A_BadBox) "__setattr__" = some (some (.builtin "object.__setattr__")))
    (ex_BadBox_g : PySem.W.findIn K (.ref A_BadBox) "__getattribute__" = some (some (.builtin "BaseException.__getattribute__")))
    (ex_BadBox_h : PySem.W.findIn K (.ref A_BadBox) "__getattr__" = some none)
    (ex_BadBox_c : PySem.W.findIn K (.ref A_BadBox) "__class__" = some (some (.builtin "object.__class__")))
    (ex_BadBox_i : PySem.W.findIn K (.ref A_BadBox) "__init__" = some (some (.ref A_BadBox___init__)))
    (ex_BadBox_f : PySem.W.typeIn K (.ref A_BadBox___init__) = some (.type "function"))
    (ex_BadBox_k : PySem.W.keepIn K (.ref A_BadBox) = true)
    (a_BadBox_part_a : PySem.W.findIn K (.ref A_BadBox) "part" = some none)
    (F_BadPage___init___c : PySem.W.codeIn K cd_BadPage___init__ "BadPage.__init__" = true)
    (F_BadPage___init___k : PySem.W.keepIn K (.ref A_BadPage___init__) = true)
    (ex_BadPage_l : K.lookup A_BadPage = some (excClassObj "BadPage" eq_BadPage A_BadPage eN_BadPage eb_BadPage (.ref A_SnapError :: PySem.HandSPX.veTail) true en_BadPage eu_BadPage ea_BadPage ec_BadPage ed_BadPage e0_BadPage e1_BadPage e2_BadPage e3_BadPage e5_BadPage "ValueError.__new__"))
    (ex_BadPage_s : PySem.W.findIn K (.ref A_BadPage) "__setattr__" = some (some (.builtin "object.__setattr__")))
    (ex_BadPage_g : PySem.W.findIn K (.ref A_BadPage) "__getattribute__" = some (some (.builtin "BaseException.__getattribute__")))
    (ex_BadPage_h : PySem.W.findIn K (.ref A_BadPage) "__getattr__" = some none)
    (ex_BadPage_c : PySem.W.findIn K (.ref A_BadPage) "__class__" = some (some (.builtin "object.__class__")))
    (ex_BadPage_i : PySem.W.findIn K (.ref A_BadPage) "__init__" = some (some (.ref A_BadPage___init__)))
    (ex_BadPage_f : PySem.W.typeIn K (.ref A_BadPage___init__) = some (.type "function"))
    (ex_BadPage_k : PySem.W.keepIn K (.ref A_BadPage) = true)
    (a_BadPage_part_a : PySem.W.findIn K (.ref A_BadPage) "part" = some none)
    (F_BadWay___init___c : PySem.W.codeIn K cd_BadWay___init__ "BadWay.__init__" = true)
    (F_BadWay___init___k : PySem.W.keepIn K (.ref A_BadWay___init__) = true)
    (ex_BadWay_l : K.lookup A_BadWay = some (excClassObj "BadWay" eq_BadWay A_BadWay eN_BadWay eb_BadWay (.ref A_SnapError :: PySem.HandSPX.veTail) true en_BadWay eu_BadWay ea_BadWay ec_BadWay ed_BadWay e0_BadWay e1_BadWay e2_BadWay e3_BadWay e5_BadWay "ValueError.__new__"))
    (ex_BadWay_s : PySem.W.findIn K (.ref A_BadWay) "__setattr__" = some (some (.builtin "object.__setattr__")))
    (ex_BadWay_g : PySem.W.findIn K (.ref A_BadWay) "__getattribute__" = some (some (.builtin "BaseException.__getattribute__")))
    (ex_BadWay_h : PySem.W.findIn K (.ref A_BadWay) "__getattr__" = some none)
    (ex_BadWay_c : PySem.W.findIn K (.ref A_BadWay) "__class__" = some (some (.builtin "object.__class__")))
    (ex_BadWay_i : PySem.W.findIn K (.ref A_BadWay) "__init__" = some (some (.ref A_BadWay___init__)))
    (ex_BadWay_f : PySem.W.typeIn K (.ref A_BadWay___init__) = some (.type "function"))
    (ex_BadWay_k : PySem.W.keepIn K (.ref A_BadWay) = true)
    (a_BadWay_part_a : PySem.W.findIn K (.ref A_BadWay) "part" = some none)
    (F_BadStyle___init___c : PySem.W.codeIn K cd_BadStyle___init__ "BadStyle.__init__" = true)
    (F_BadStyle___init___k : PySem.W.keepIn K (.ref A_BadStyle___init__) = true)
    (ex_BadStyle_l : K.lookup A_BadStyle = some (excClassObj "BadStyle" eq_BadStyle A_BadStyle eN_BadStyle eb_BadStyle (.ref A_SnapError :: PySem.HandSPX.veTail) true en_BadStyle eu_BadStyle ea_BadStyle ec_BadStyle ed_BadStyle e0_BadStyle e1_BadStyle e2_BadStyle e3_BadStyle e5_BadStyle "ValueError.__new__"))
    (ex_BadStyle_s : PySem.W.findIn K (.ref A_BadStyle) "__setattr__" = some (some (.builtin "object.__setattr__")))
    (ex_BadStyle_g : PySem.W.findIn K (.ref A_BadStyle) "__getattribute__" = some (some (.builtin "BaseException.__getattribute__")))
    (ex_BadStyle_h : PySem.W.findIn K (.ref A_BadStyle) "__getattr__" = some none)
    (ex_BadStyle_c : PySem.W.findIn K (.ref A_BadStyle) "__class__" = some (some (.builtin "object.__class__")))
    (ex_BadStyle_i : PySem.W.findIn K (.ref A_BadStyle) "__init__" = some (some (.ref A_BadStyle___init__)))
    (ex_BadStyle_f : PySem.W.typeIn K (.ref A_BadStyle___init__) = some (.type "function"))
    (ex_BadStyle_k : PySem.W.keepIn K (.ref A_BadStyle) = true)
    (a_BadStyle_part_a : PySem.W.findIn K (.ref A_BadStyle) "part" = some none)
    (F_BadDrawing___init___c : PySem.W.codeIn K cd_BadDrawing___init__ "BadDrawing.__init__" = true)
    (F_BadDrawing___init___k : PySem.W.keepIn K (.ref A_BadDrawing___init__) = true)
    (ex_BadDrawing_l : K.lookup A_BadDrawing = some (excClassObj "BadDrawing" eq_BadDrawing A_BadDrawing eN_BadDrawing eb_BadDrawing (.ref A_SnapError :: PySem.HandSPX.veTail) true en_BadDrawing eu_BadDrawing ea_BadDrawing ec_BadDrawing ed_BadDrawing e0_BadDrawing e1_BadDrawing e2_BadDrawing e3_BadDrawing e5_BadDrawing "ValueError.__new__"))
    (ex_BadDrawing_s : PySem.W.findIn K (.ref A_BadDrawing) "__setattr__" = some (some (.builtin "object.__setattr__")))
    (ex_BadDrawing_g : PySem.W.findIn K (.ref A_BadDrawing) "__getattribute__" = some (some (.builtin "BaseException.__getattribute__")))
    (ex_BadDrawing_h : PySem.W.findIn K (.ref A_BadDrawing) "__getattr__" = some none)
    (ex_BadDrawing_c : PySem.W.findIn K (.ref A_BadDrawing) "__class__" = some (some (.builtin "object.__class__")))
    (ex_BadDrawing_i : PySem.W.findIn K (.ref A_BadDrawing) "__init__" = some (some (.ref A_BadDrawing___init__)))
    (ex_BadDrawing_f : PySem.W.typeIn K (.ref A_BadDrawing___init__) = some (.type "function"))
    (ex_BadDrawing_k : PySem.W.keepIn K (.ref A_BadDrawing) = true)
    (a_BadDrawing_part_a : PySem.W.findIn K (.ref A_BadDrawing) "part" = some none)
    (F_BadSight___init___c : PySem.W.codeIn K cd_BadSight___init__ "BadSight.__init__" = true)
    (F_BadSight___init___k : PySem.W.keepIn K (.ref A_BadSight___init__) = true)
    (ex_BadSight_l : K.lookup A_BadSight = some (excClassObj "BadSight" eq_BadSight A_BadSight eN_BadSight eb_BadSight (.ref A_SnapError :: PySem.HandSPX.veTail) true en_BadSight eu_BadSight ea_BadSight ec_BadSight ed_BadSight e0_BadSight e1_BadSight e2_BadSight e3_BadSight e5_BadSight "ValueError.__new__"))
    (ex_BadSight_s : PySem.W.findIn K (.ref A_BadSight) "__setattr__" = some (some (.builtin "object.__setattr__")))
    (ex_BadSight_g : PySem.W.findIn K (.ref A_BadSight) "__getattribute__" = some (some (.builtin "BaseException.__getattribute__")))
    (ex_BadSight_h : PySem.W.findIn K (.ref A_BadSight) "__getattr__" = some none)
    (ex_BadSight_c : PySem.W.findIn K (.ref A_BadSight) "__class__" = some (some (.builtin "object.__class__")))
    (ex_BadSight_i : PySem.W.findIn K (.ref A_BadSight) "__init__" = some (some (.ref A_BadSight___init__)))
    (ex_BadSight_f : PySem.W.typeIn K (.ref A_BadSight___init__) = some (.type "function"))
    (ex_BadSight_k : PySem.W.keepIn K (.ref A_BadSight) = true)
    (a_BadSight_at_a : PySem.W.findIn K (.ref A_BadSight) "at" = some none)
    (F_BadScreen___init___c : PySem.W.codeIn K cd_BadScreen___init__ "BadScreen.__init__" = true)
    (F_BadScreen___init___k : PySem.W.keepIn K (.ref A_BadScreen___init__) = true)
    (ex_BadScreen_l : K.lookup A_BadScreen = some (excClassObj "BadScreen" eq_BadScreen A_BadScreen eN_BadScreen eb_BadScreen (.ref A_SnapError :: PySem.HandSPX.veTail) true en_BadScreen eu_BadScreen ea_BadScreen ec_BadScreen ed_BadScreen e0_BadScreen e1_BadScreen e2_BadScreen e3_BadScreen e5_BadScreen "ValueError.__new__"))
    (ex_BadScreen_s : PySem.W.findIn K (.ref A_BadScreen) "__setattr__" = some (some (.builtin "object.__setattr__")))
    (ex_BadScreen_g : PySem.W.findIn K (.ref A_BadScreen) "__getattribute__" = some (some (.builtin "BaseException.__getattribute__")))
    (ex_BadScreen_h : PySem.W.findIn K (.ref A_BadScreen) "__getattr__" = some none)
    (ex_BadScreen_c : PySem.W.findIn K (.ref A_BadScreen) "__class__" = some (some (.builtin "object.__class__")))
    (ex_BadScreen_i : PySem.W.findIn K (.ref A_BadScreen) "__init__" = some (some (.ref A_BadScreen___init__)))
    (ex_BadScreen_f : PySem.W.typeIn K (.ref A_BadScreen___init__) = some (.type "function"))
    (ex_BadScreen_k : PySem.W.keepIn K (.ref A_BadScreen) = true)
    (a_BadScreen_part_a : PySem.W.findIn K (.ref A_BadScreen) "part" = some none)
    (F_BadLine___init___c : PySem.W.codeIn K cd_BadLine___init__ "BadLine.__init__" = true)
    (F_BadLine___init___k : PySem.W.keepIn K (.ref A_BadLine___init__) = true)
    (ex_BadLine_l : K.lookup A_BadLine = some (excClassObj "BadLine" eq_BadLine A_BadLine eN_BadLine eb_BadLine (.ref A_SnapError :: PySem.HandSPX.veTail) true en_BadLine eu_BadLine ea_BadLine ec_BadLine ed_BadLine e0_BadLine e1_BadLine e2_BadLine e3_BadLine e5_BadLine "ValueError.__new__"))
    (ex_BadLine_s : PySem.W.findIn K (.ref A_BadLine) "__setattr__" = some (some (.builtin "object.__setattr__")))
    (ex_BadLine_g : PySem.W.findIn K (.ref A_BadLine) "__getattribute__" = some (some (.builtin "BaseException.__getattribute__")))
    (ex_BadLine_h : PySem.W.findIn K (.ref A_BadLine) "__getattr__" = some none)
    (ex_BadLine_c : PySem.W.findIn K (.ref A_BadLine) "__class__" = some (some (.builtin "object.__class__")))
    (ex_BadLine_i : PySem.W.findIn K (.ref A_BadLine) "__init__" = some (some (.ref A_BadLine___init__)))
    (ex_BadLine_f : PySem.W.typeIn K (.ref A_BadLine___init__) = some (.type "function"))
    (ex_BadLine_k : PySem.W.keepIn K (.ref A_BadLine) = true)
    (a_BadLine_word_a : PySem.W.findIn K (.ref A_BadLine) "word" = some none)
    (F_NoBox___init___c : PySem.W.codeIn K cd_NoBox___init__ "NoBox.__init__" = true)
    (F_NoBox___init___k : PySem.W.keepIn K (.ref A_NoBox___init__) = true)
    (ex_NoBox_l : K.lookup A_NoBox = some (excClassObj "NoBox" eq_NoBox A_NoBox eN_NoBox eb_NoBox (.ref A_SnapError :: PySem.HandSPX.veTail) true en_NoBox eu_NoBox ea_NoBox ec_NoBox ed_NoBox e0_NoBox e1_NoBox e2_NoBox e3_NoBox e5_NoBox "ValueError.__new__"))
    (ex_NoBox_s : PySem.W.findIn K (.ref A_NoBox) "__setattr__" = some (some (.builtin "object.__setattr__")))
    (ex_NoBox_g : PySem.W.findIn K (.ref A_NoBox) "__getattribute__" = some (some (.builtin "BaseException.__getattribute__")))
    (ex_NoBox_h : PySem.W.findIn K (.ref A_NoBox) "__getattr__" = some none)
    (ex_NoBox_c : PySem.W.findIn K (.ref A_NoBox) "__class__" = some (some (.builtin "object.__class__")))
    (ex_NoBox_i : PySem.W.findIn K (.ref A_NoBox) "__init__" = some (some (.ref A_NoBox___init__)))
    (ex_NoBox_f : PySem.W.typeIn K (.ref A_NoBox___init__) = some (.type "function"))
    (ex_NoBox_k : PySem.W.keepIn K (.ref A_NoBox) = true)
    (a_NoBox_name_a : PySem.W.findIn K (.ref A_NoBox) "name" = some none)
    (F_NoThing___init___c : PySem.W.codeIn K cd_NoThing___init__ "NoThing.__init__" = true)
    (F_NoThing___init___k : PySem.W.keepIn K (.ref A_NoThing___init__) = true)
    (ex_NoThing_l : K.lookup A_NoThing = some (excClassObj "NoThing" eq_NoThing A_NoThing eN_NoThing eb_NoThing (.ref A_SnapError :: PySem.HandSPX.veTail) true en_NoThing eu_NoThing ea_NoThing ec_NoThing ed_NoThing e0_NoThing e1_NoThing e2_NoThing e3_NoThing e5_NoThing "ValueError.__new__"))
    (ex_NoThing_s : PySem.W.findIn K (.ref A_NoThing) "__setattr__" = some (some (.builtin "object.__setattr__")))
    (ex_NoThing_g : PySem.W.findIn K (.ref A_NoThing) "__getattribute__" = some (some (.builtin "BaseException.__getattribute__")))
    (ex_NoThing_h : PySem.W.findIn K (.ref A_NoThing) "__getattr__" = some none)
    (ex_NoThing_c : PySem.W.findIn K (.ref A_NoThing) "__class__" = some (some (.builtin "object.__class__")))
    (ex_NoThing_i : PySem.W.findIn K (.ref A_NoThing) "__init__" = some (some (.ref A_NoThing___init__)))
    (ex_NoThing_f : PySem.W.typeIn K (.ref A_NoThing___init__) = some (.type "function"))
    (ex_NoThing_k : PySem.W.keepIn K (.ref A_NoThing) = true)
    (a_NoThing_name_a : PySem.W.findIn K (.ref A_NoThing) "name" = some none)
    (F_NoZoom___init___c : PySem.W.codeIn K cd_NoZoom___init__ "NoZoom.__init__" = true)
    (F_NoZoom___init___k : PySem.W.keepIn K (.ref A_NoZoom___init__) = true)
    (ex_NoZoom_l : K.lookup A_NoZoom = some (excClassObj "NoZoom" eq_NoZoom A_NoZoom eN_NoZoom eb_NoZoom (.ref A_SnapError :: PySem.HandSPX.veTail) true en_NoZoom eu_NoZoom ea_NoZoom ec_NoZoom ed_NoZoom e0_NoZoom e1_NoZoom e2_NoZoom e3_NoZoom e5_NoZoom "ValueError.__new__"))
    (ex_NoZoom_s : PySem.W.findIn K (.ref A_NoZoom) "__setattr__" = some (some (.builtin "object.__setattr__")))
    (ex_NoZoom_g : PySem.W.findIn K (.ref A_NoZoom) "__getattribute__" = some (some (.builtin "BaseException.__getattribute__")))
    (ex_NoZoom_h : PySem.W.findIn K (.ref A_NoZoom) "__getattr__" = some none)
    (ex_NoZoom_c : PySem.W.findIn K (.ref A_NoZoom) "__class__" = some (some (.builtin "object.__class__")))
    (ex_NoZoom_i : PySem.W.findIn K (.ref A_NoZoom) "__init__" = some (some (.ref A_NoZoom___init__)))
    (ex_NoZoom_f : PySem.W.typeIn K (.ref A_NoZoom___init__) = some (.type "function"))
    (ex_NoZoom_k : PySem.W.keepIn K (.ref A_NoZoom) = true)
    (a_NoZoom_zoom_a : PySem.W.findIn K (.ref A_NoZoom) "zoom" = some none)
    (F_Taken___init___c : PySem.W.codeIn K cd_Taken___init__ "Taken.__init__" = true)
    (F_Taken___init___k : PySem.W.keepIn K (.ref A_Taken___init__) = true)
    (ex_Taken_l : K.lookup A_Taken = some (excClassObj "Taken" eq_Taken A_Taken eN_Taken eb_Taken (.ref A_SnapError :: PySem.HandSPX.veTail) true en_Taken eu_Taken ea_Taken ec_Taken ed_Taken e0_Taken e1_Taken e2_Taken e3_Taken e5_Taken "ValueError.__new__"))
    (ex_Taken_s : PySem.W.findIn K (.ref A_Taken) "__setattr__" = some (some (.builtin "object.__setattr__")))
    (ex_Taken_g : PySem.W.findIn K (.ref A_Taken) "__getattribute__" = some (some (.builtin "BaseException.__getattribute__")))
    (ex_Taken_h : PySem.W.findIn K (.ref A_Taken) "__getattr__" = some none)
    (ex_Taken_c : PySem.W.findIn K (.ref A_Taken) "__class__" = some (some (.builtin "object.__class__")))
    (ex_Taken_i : PySem.W.findIn K (.ref A_Taken) "__init__" = some (some (.ref A_Taken___init__)))
    (ex_Taken_f : PySem.W.typeIn K (.ref A_Taken___init__) = some (.type "function"))
    (ex_Taken_k : PySem.W.keepIn K (.ref A_Taken) = true)
    (a_Taken_name_a : PySem.W.findIn K (.ref A_Taken) "name" = some none)
    (F_Unlike___init___c : PySem.W.codeIn K cd_Unlike___init__ "Unlike.__init__" = true)
    (F_Unlike___init___k : PySem.W.keepIn K (.ref A_Unlike___init__) = true)
    (ex_Unlike_l : K.lookup A_Unlike = some (excClassObj "Unlike" eq_Unlike A_Unlike eN_Unlike eb_Unlike (.ref A_SnapError :: PySem.HandSPX.veTail) true en_Unlike eu_Unlike ea_Unlike ec_Unlike ed_Unlike e0_Unlike e1_Unlike e2_Unlike e3_Unlike e5_Unlike "ValueError.__new__"))
    (ex_Unlike_s : PySem.W.findIn K (.ref A_Unlike) "__setattr__" = some (some (.builtin "object.__setattr__")))
    (ex_Unlike_g : PySem.W.findIn K (.ref A_Unlike) "__getattribute__" = some (some (.builtin "BaseException.__getattribute__")))
    (ex_Unlike_h : PySem.W.findIn K (.ref A_Unlike) "__getattr__" = some none)
    (ex_Unlike_c : PySem.W.findIn K (.ref A_Unlike) "__class__" = some (some (.builtin "object.__class__")))
    (ex_Unlike_i : PySem.W.findIn K (.ref A_Unlike) "__init__" = some (some (.ref A_Unlike___init__)))
    (ex_Unlike_f : PySem.W.typeIn K (.ref A_Unlike___init__) = some (.type "function"))
    (ex_Unlike_k : PySem.W.keepIn K (.ref A_Unlike) = true)
    (a_Unlike_part_a : PySem.W.findIn K (.ref A_Unlike) "part" = some none)
    (F_Refused___init___c : PySem.W.codeIn K cd_Refused___init__ "Refused.__init__" = true)
    (F_Refused___init___k : PySem.W.keepIn K (.ref A_Refused___init__) = true)
    (ex_Refused_l : K.lookup A_Refused = some (excClassObj "Refused" eq_Refused A_Refused eN_Refused eb_Refused (.ref A_SnapError :: PySem.HandSPX.veTail) true en_Refused eu_Refused ea_Refused ec_Refused ed_Refused e0_Refused e1_Refused e2_Refused e3_Refused e5_Refused "ValueError.__new__"))
    (ex_Refused_s : PySem.W.findIn K (.ref A_Refused) "__setattr__" = some (some (.builtin "object.__setattr__")))
    (ex_Refused_g : PySem.W.findIn K (.ref A_Refused) "__getattribute__" = some (some (.builtin "BaseException.__getattribute__")))
    (ex_Refused_h : PySem.W.findIn K (.ref A_Refused) "__getattr__" = some none)
    (ex_Refused_c : PySem.W.findIn K (.ref A_Refused) "__class__" = some (some (.builtin "object.__class__")))
    (ex_Refused_i : PySem.W.findIn K (.ref A_Refused) "__init__" = some (some (.ref A_Refused___init__)))
    (ex_Refused_f : PySem.W.typeIn K (.ref A_Refused___init__) = some (.type "function"))
    (ex_Refused_k : PySem.W.keepIn K (.ref A_Refused) = true)
    (a_Refused_name_a : PySem.W.findIn K (.ref A_Refused) "name" = some none)
    (F_BadText___init___c : PySem.W.codeIn K cd_BadText___init__ "BadText.__init__" = true)
    (F_BadText___init___k : PySem.W.keepIn K (.ref A_BadText___init__) = true)
    (ex_BadText_l : K.lookup A_BadText = some (excClassObj "BadText" eq_BadText A_BadText eN_BadText eb_BadText (.ref A_SnapError :: PySem.HandSPX.veTail) true en_BadText eu_BadText ea_BadText ec_BadText ed_BadText e0_BadText e1_BadText e2_BadText e3_BadText e5_BadText "ValueError.__new__"))
    (ex_BadText_s : PySem.W.findIn K (.ref A_BadText) "__setattr__" = some (some (.builtin "object.__setattr__")))
    (ex_BadText_g : PySem.W.findIn K (.ref A_BadText) "__getattribute__" = some (some (.builtin "BaseException.__getattribute__")))
    (ex_BadText_h : PySem.W.findIn K (.ref A_BadText) "__getattr__" = some none)
    (ex_BadText_c : PySem.W.findIn K (.ref A_BadText) "__class__" = some (some (.builtin "object.__class__")))
    (ex_BadText_i : PySem.W.findIn K (.ref A_BadText) "__init__" = some (some (.ref A_BadText___init__)))
    (ex_BadText_f : PySem.W.typeIn K (.ref A_BadText___init__) = some (.type "function"))
    (ex_BadText_k : PySem.W.keepIn K (.ref A_BadText) = true)
    (a_BadText_line_a : PySem.W.findIn K (.ref A_BadText) "line" = some none)
    (a_BadText_word_a : PySem.W.findIn K (.ref A_BadText) "word" = some none)
    (F_TooMany___init___c : PySem.W.codeIn K cd_TooMany___init__ "TooMany.__init__" = true)
    (F_TooMany___init___k : PySem.W.keepIn K (.ref A_TooMany___init__) = true)
    (ex_TooMany_l : K.lookup A_TooMany = some (excClassObj "TooMany" eq_TooMany A_TooMany eN_TooMany eb_TooMany (.ref A_SnapError :: PySem.HandSPX.veTail) true en_TooMany eu_TooMany ea_TooMany ec_TooMany ed_TooMany e0_TooMany e1_TooMany e2_TooMany e3_TooMany e5_TooMany "ValueError.__new__"))
    (ex_TooMany_s : PySem.W.findIn K (.ref A_TooMany) "__setattr__" = some (some (.builtin "object.__setattr__")))
    (ex_TooMany_g : PySem.W.findIn K (.ref A_TooMany) "__getattribute__" = some (some (.builtin "BaseException.__getattribute__")))
    (ex_TooMany_h : PySem.W.findIn K (.ref A_TooMany) "__getattr__" = some none)
    (ex_TooMany_c : PySem.W.findIn K (.ref A_TooMany) "__class__" = some (some (.builtin "object.__class__")))
    (ex_TooMany_i : PySem.W.findIn K (.ref A_TooMany) "__init__" = some (some (.ref A_TooMany___init__)))
    (ex_TooMany_f : PySem.W.typeIn K (.ref A_TooMany___init__) = some (.type "function"))
    (ex_TooMany_k : PySem.W.keepIn K (.ref A_TooMany) = true)
    (a_TooMany_what_a : PySem.W.findIn K (.ref A_TooMany) "what" = some none)
    (a_TooMany_most_a : PySem.W.findIn K (.ref A_TooMany) "most" = some none)
    (F_NoChange___init___c : PySem.W.codeIn K cd_NoChange___init__ "NoChange.__init__" = true)
    (F_NoChange___init___k : PySem.W.keepIn K (.ref A_NoChange___init__) = true)
    (ex_NoChange_l : K.lookup A_NoChange = some (excClassObj "NoChange" eq_NoChange A_NoChange eN_NoChange eb_NoChange (.ref A_SnapError :: PySem.HandSPX.veTail) true en_NoChange eu_NoChange ea_NoChange ec_NoChange ed_NoChange e0_NoChange e1_NoChange e2_NoChange e3_NoChange e5_NoChange "ValueError.__new__"))
    (ex_NoChange_s : PySem.W.findIn K (.ref A_NoChange) "__setattr__" = some (some (.builtin "object.__setattr__")))
    (ex_NoChange_g : PySem.W.findIn K (.ref A_NoChange) "__getattribute__" = some (some (.builtin "BaseException.__getattribute__")))
    (ex_NoChange_h : PySem.W.findIn K (.ref A_NoChange) "__getattr__" = some none)
    (ex_NoChange_c : PySem.W.findIn K (.ref A_NoChange) "__class__" = some (some (.builtin "object.__class__")))
    (ex_NoChange_i : PySem.W.findIn K (.ref A_NoChange) "__init__" = some (some (.ref A_NoChange___init__)))
    (ex_NoChange_f : PySem.W.typeIn K (.ref A_NoChange___init__) = some (.type "function"))
    (ex_NoChange_k : PySem.W.keepIn K (.ref A_NoChange) = true)
    (F__law_of_parts_c : PySem.W.codeIn K cd__law_of_parts "_law_of_parts" = true)
    (F__law_of_parts_k : PySem.W.keepIn K (.ref A__law_of_parts) = true)
    (m_BadRounding_a : PySem.W.nsIn K mainGlobals "BadRounding" = some (some (.ref A_BadRounding)))
    (m_BadDrawn_a : PySem.W.nsIn K mainGlobals "BadDrawn" = some (some (.ref A_BadDrawn)))
    (m_BadClaim_a : PySem.W.nsIn K mainGlobals "BadClaim" = some (some (.ref A_BadClaim)))
    (m_BadZooms_a : PySem.W.nsIn K mainGlobals "BadZooms" = some (some (.ref A_BadZooms)))
    (m_BadBox_a : PySem.W.nsIn K mainGlobals "BadBox" = some (some (.ref A_BadBox)))
    (m_BadPage_a : PySem.W.nsIn K mainGlobals "BadPage" = some (some (.ref A_BadPage)))
    (m_BadWay_a : PySem.W.nsIn K mainGlobals "BadWay" = some (some (.ref A_BadWay)))
    (m_BadStyle_a : PySem.W.nsIn K mainGlobals "BadStyle" = some (some (.ref A_BadStyle)))
    (m_BadDrawing_a : PySem.W.nsIn K mainGlobals "BadDrawing" = some (some (.ref A_BadDrawing)))
    (m_BadScreen_a : PySem.W.nsIn K mainGlobals "BadScreen" = some (some (.ref A_BadScreen)))
    (m_Unlike_a : PySem.W.nsIn K mainGlobals "Unlike" = some (some (.ref A_Unlike)))
    (F__law_of_values_c : PySem.W.codeIn K cd__law_of_values "_law_of_values" = true)
    (F__law_of_values_k : PySem.W.keepIn K (.ref A__law_of_values) = true)
    (m_BadRatio_a : PySem.W.nsIn K mainGlobals "BadRatio" = some (some (.ref A_BadRatio)))
    (m_BadZoom_a : PySem.W.nsIn K mainGlobals "BadZoom" = some (some (.ref A_BadZoom)))
    (m_BadScroll_a : PySem.W.nsIn K mainGlobals "BadScroll" = some (some (.ref A_BadScroll)))
    (m_BadNumber_a : PySem.W.nsIn K mainGlobals "BadNumber" = some (some (.ref A_BadNumber)))
    (m_BadSight_a : PySem.W.nsIn K mainGlobals "BadSight" = some (some (.ref A_BadSight)))
    (m_BadLine_a : PySem.W.nsIn K mainGlobals "BadLine" = some (some (.ref A_BadLine)))
    (m_NoBox_a : PySem.W.nsIn K mainGlobals "NoBox" = some (some (.ref A_NoBox)))
    (m_NoThing_a : PySem.W.nsIn K mainGlobals "NoThing" = some (some (.ref A_NoThing)))
    (m_NoZoom_a : PySem.W.nsIn K mainGlobals "NoZoom" = some (some (.ref A_NoZoom)))
    (m_Taken_a : PySem.W.nsIn K mainGlobals "Taken" = some (some (.ref A_Taken)))
    (m_Refused_a : PySem.W.nsIn K mainGlobals "Refused" = some (some (.ref A_Refused)))
    (m_BadText_a : PySem.W.nsIn K mainGlobals "BadText" = some (some (.ref A_BadText)))
    (m_TooMany_a : PySem.W.nsIn K mainGlobals "TooMany" = some (some (.ref A_TooMany)))
    (sx_SnapError_l : K.lookup A_SnapError = some (excClassObj "SnapError" eq_SnapError A_SnapError eN_SnapError eb_SnapError PySem.HandSPX.veTail true en_SnapError eu_SnapError ea_SnapError ec_SnapError ed_SnapError e0_SnapError e1_SnapError e2_SnapError e3_SnapError e5_SnapError "ValueError.__new__"))
    (gx_object_n : PySem.W.specialIn K (.builtin "object.__class__") "__get__" = some (some (.builtin "getset_descriptor.__get__")))
    (gx_object_t : PySem.W.takesIn K (.builtin "object.__class__") = some true)
    (F__law_classes_c : PySem.W.codeIn K cd__law_classes "_law_classes" = true)
    (F__law_classes_k : PySem.W.keepIn K (.ref A__law_classes) = true)
    (n_isinstance_a : PySem.W.nsIn K mainGlobals "isinstance" = some none)
    (m_NoChange_a : PySem.W.nsIn K mainGlobals "NoChange" = some (some (.ref A_NoChange)))
    (n_range_a : PySem.W.nsIn K mainGlobals "range" = some none)
    (F__law_fields_c : PySem.W.codeIn K cd__law_fields "_law_fields" = true)
    (F__law_fields_k : PySem.W.keepIn K (.ref A__law_fields) = true)
    (n_repr_a : PySem.W.nsIn K mainGlobals "repr" = some none)
    (F__law_kept_c : PySem.W.codeIn K cd__law_kept "_law_kept" = true)
    (F__law_kept_k : PySem.W.keepIn K (.ref A__law_kept) = true)
    (F_law_c : PySem.W.codeIn K cd_law "law" = true)
    (F_law_k : PySem.W.keepIn K (.ref A_law) = true)
    (k__law_pen_a : PySem.W.keepIn K (.ref A__law_pen) = true)
    (m__law_pen_a : PySem.W.nsIn K mainGlobals "_law_pen" = some (some (.ref A__law_pen)))
    (k__law_pick_a : PySem.W.keepIn K (.ref A__law_pick) = true)
    (m__law_pick_a : PySem.W.nsIn K mainGlobals "_law_pick" = some (some (.ref A__law_pick)))
    (k__law_of_parts_a : PySem.W.keepIn K (.ref A__law_of_parts) = true)
    (m__law_of_parts_a : PySem.W.nsIn K mainGlobals "_law_of_parts" = some (some (.ref A__law_of_parts)))
    (k__law_of_values_a : PySem.W.keepIn K (.ref A__law_of_values) = true)
    (m__law_of_values_a : PySem.W.nsIn K mainGlobals "_law_of_values" = some (some (.ref A__law_of_values)))
    (k__law_fields_a : PySem.W.keepIn K (.ref A__law_fields) = true)
    (m__law_fields_a : PySem.W.nsIn K mainGlobals "_law_fields" = some (some (.ref A__law_fields)))
    (k__law_classes_a : PySem.W.keepIn K (.ref A__law_classes) = true)
    (m__law_classes_a : PySem.W.nsIn K mainGlobals "_law_classes" = some (some (.ref A__law_classes)))
    (n_ValueError_a : PySem.W.nsIn K mainGlobals "ValueError" = some none)
    (k__law_kept_a : PySem.W.keepIn K (.ref A__law_kept) = true)
    (m__law_kept_a : PySem.W.nsIn K mainGlobals "_law_kept" = some (some (.ref A__law_kept)))
    (m_law_a : PySem.W.nsIn K mainGlobals "law" = some (some (.ref A_law)))
    : Tx K mg ⟨A__law_pen, A__law_draw, A__law_pick, A_BadRatio___init__, A_SnapError, A_BadRatio, A_BadRounding___init__, A_BadRounding, A_BadDrawn___init__, A_BadDrawn, A_BadClaim___init__, A_BadClaim, A_BadZooms___init__, A_BadZooms, A_BadZoom___init__, A_BadZoom, A_BadScroll___init__, A_BadScroll, A_BadNumber___init__, A_BadNumber, A_BadBox___init__, A_BadBox, A_BadPage___init__, A_BadPage, A_BadWay___init__, A_BadWay, A_BadStyle___init__, A_BadStyle, A_BadDrawing___init__, A_BadDrawing, A_BadSight___init__, A_BadSight, A_BadScreen___init__, A_BadScreen, A_BadLine___init__, A_BadLine, A_NoBox___init__, A_NoBox, A_NoThing___init__, A_NoThing, A_NoZoom___init__, A_NoZoom, A_Taken___init__, A_Taken, A_Unlike___init__, A_Unlike, A_Refused___init__, A_Refused, A_BadText___init__, A_BadText, A_TooMany___init__, A_TooMany, A_NoChange___init__, A_NoChange, A__law_of_parts, A__law_of_values, A__law_classes, A__law_fields, A__law_kept, A_law⟩ where
    F__law_pen := ⟨_, fun_mk (st := s__law_pen) F__law_pen_l F__law_pen_c F__law_pen_k⟩
    n_list := PySem.W.mg_none_of X G n_list_a
    F__law_draw := ⟨_, fun_mk (st := s__law_draw) F__law_draw_l F__law_draw_c F__law_draw_k⟩
    n_int := PySem.W.mg_none_of X G n_int_a
    n_len := PySem.W.mg_none_of X G n_len_a
    n_abs := PySem.W.mg_none_of X G n_abs_a
    F__law_pick := ⟨_, fun_mk (st := s__law_pick) F__law_pick_l F__law_pick_c F__law_pick_k⟩
    k__law_draw := k__law_draw_a
    m__law_draw := PySem.W.mg_of X G m__law_draw_a
    F_BadRatio___init__ := ⟨_, fun_mk (st := s_BadRatio___init__) F_BadRatio___init___l F_BadRatio___init___c F_BadRatio___init___k⟩
    vi_SnapError := ⟨⟨_, ⟨vi_SnapError_r, vi_SnapError_g⟩, vi_SnapError_v⟩⟩
    m_SnapError := PySem.W.mg_of X G m_SnapError_a
    ex_BadRatio := ⟨⟨_, _, _, _, _, _, _, _, _, _, _, _, _, ex_BadRatio_l⟩, ex_BadRatio_s, ex_BadRatio_g, ex_BadRatio_h, ex_BadRatio_c, ex_BadRatio_i, ex_BadRatio_f, ex_BadRatio_k⟩
    a_BadRatio_value := a_BadRatio_value_a
    F_BadRounding___init__ := ⟨_, fun_mk (st := s_BadRounding___init__) F_BadRounding___init___l F_BadRounding___init___c F_BadRounding___init___k⟩
    ex_BadRounding := ⟨⟨_, _, _, _, _, _, _, _, _, _, _, _, _, ex_BadRounding_l⟩, ex_BadRounding_s, ex_BadRounding_g, ex_BadRounding_h, ex_BadRounding_c, ex_BadRounding_i, ex_BadRounding_f, ex_BadRounding_k⟩
    a_BadRounding_part := a_BadRounding_part_a
    F_BadDrawn___init__ := ⟨_, fun_mk (st := s_BadDrawn___init__) F_BadDrawn___init___l F_BadDrawn___init___c F_BadDrawn___init___k⟩
    ex_BadDrawn := ⟨⟨_, _, _, _, _, _, _, _, _, _, _, _, _, ex_BadDrawn_l⟩, ex_BadDrawn_s, ex_BadDrawn_g, ex_BadDrawn_h, ex_BadDrawn_c, ex_BadDrawn_i, ex_BadDrawn_f, ex_BadDrawn_k⟩
    a_BadDrawn_part := a_BadDrawn_part_a
    F_BadClaim___init__ := ⟨_, fun_mk (st := s_BadClaim___init__) F_BadClaim___init___l F_BadClaim___init___c F_BadClaim___init___k⟩
    ex_BadClaim := ⟨⟨_, _, _, _, _, _, _, _, _, _, _, _, _, ex_BadClaim_l⟩, ex_BadClaim_s, ex_BadClaim_g, ex_BadClaim_h, ex_BadClaim_c, ex_BadClaim_i, ex_BadClaim_f, ex_BadClaim_k⟩
    a_BadClaim_part := a_BadClaim_part_a
    F_BadZooms___init__ := ⟨_, fun_mk (st := s_BadZooms___init__) F_BadZooms___init___l F_BadZooms___init___c F_BadZooms___init___k⟩
    ex_BadZooms := ⟨⟨_, _, _, _, _, _, _, _, _, _, _, _, _, ex_BadZooms_l⟩, ex_BadZooms_s, ex_BadZooms_g, ex_BadZooms_h, ex_BadZooms_c, ex_BadZooms_i, ex_BadZooms_f, ex_BadZooms_k⟩
    a_BadZooms_part := a_BadZooms_part_a
    F_BadZoom___init__ := ⟨_, fun_mk (st := s_BadZoom___init__) F_BadZoom___init___l F_BadZoom___init___c F_BadZoom___init___k⟩
    ex_BadZoom := ⟨⟨_, _, _, _, _, _, _, _, _, _, _, _, _, ex_BadZoom_l⟩, ex_BadZoom_s, ex_BadZoom_g, ex_BadZoom_h, ex_BadZoom_c, ex_BadZoom_i, ex_BadZoom_f, ex_BadZoom_k⟩
    a_BadZoom_value := a_BadZoom_value_a
    F_BadScroll___init__ := ⟨_, fun_mk (st := s_BadScroll___init__) F_BadScroll___init___l F_BadScroll___init___c F_BadScroll___init___k⟩
    ex_BadScroll := ⟨⟨_, _, _, _, _, _, _, _, _, _, _, _, _, ex_BadScroll_l⟩, ex_BadScroll_s, ex_BadScroll_g, ex_BadScroll_h, ex_BadScroll_c, ex_BadScroll_i, ex_BadScroll_f, ex_BadScroll_k⟩
    a_BadScroll_value := a_BadScroll_value_a
    F_BadNumber___init__ := ⟨_, fun_mk (st := s_BadNumber___init__) F_BadNumber___init___l F_BadNumber___init___c F_BadNumber___init___k⟩
    ex_BadNumber := ⟨⟨_, _, _, _, _, _, _, _, _, _, _, _, _, ex_BadNumber_l⟩, ex_BadNumber_s, ex_BadNumber_g, ex_BadNumber_h, ex_BadNumber_c, ex_BadNumber_i, ex_BadNumber_f, ex_BadNumber_k⟩
    a_BadNumber_value := a_BadNumber_value_a
    F_BadBox___init__ := ⟨_, fun_mk (st := s_BadBox___init__) F_BadBox___init___l F_BadBox___init___c F_BadBox___init___k⟩
    ex_BadBox := ⟨⟨_, _, _, _, _, _, _, _, _, _, _, _, _, ex_BadBox_l⟩, ex_BadBox_s, ex_BadBox_g, ex_BadBox_h, ex_BadBox_c, ex_BadBox_i, ex_BadBox_f, ex_BadBox_k⟩
    a_BadBox_part := a_BadBox_part_a
    F_BadPage___init__ := ⟨_, fun_mk (st := s_BadPage___init__) F_BadPage___init___l F_BadPage___init___c F_BadPage___init___k⟩
    ex_BadPage := ⟨⟨_, _, _, _, _, _, _, _, _, _, _, _, _, ex_BadPage_l⟩, ex_BadPage_s, ex_BadPage_g, ex_BadPage_h, ex_BadPage_c, ex_BadPage_i, ex_BadPage_f, ex_BadPage_k⟩
    a_BadPage_part := a_BadPage_part_a
    F_BadWay___init__ := ⟨_, fun_mk (st := s_BadWay___init__) F_BadWay___init___l F_BadWay___init___c F_BadWay___init___k⟩
    ex_BadWay := ⟨⟨_, _, _, _, _, _, _, _, _, _, _, _, _, ex_BadWay_l⟩, ex_BadWay_s, ex_BadWay_g, ex_BadWay_h, ex_BadWay_c, ex_BadWay_i, ex_BadWay_f, ex_BadWay_k⟩
    a_BadWay_part := a_BadWay_part_a
    F_BadStyle___init__ := ⟨_, fun_mk (st := s_BadStyle___init__) F_BadStyle___init___l F_BadStyle___init___c F_BadStyle___init___k⟩
    ex_BadStyle := ⟨⟨_, _, _, _, _, _, _, _, _, _, _, _, _, ex_BadStyle_l⟩, ex_BadStyle_s, ex_BadStyle_g, ex_BadStyle_h, ex_BadStyle_c, ex_BadStyle_i, ex_BadStyle_f, ex_BadStyle_k⟩
    a_BadStyle_part := a_BadStyle_part_a
    F_BadDrawing___init__ := ⟨_, fun_mk (st := s_BadDrawing___init__) F_BadDrawing___init___l F_BadDrawing___init___c F_BadDrawing___init___k⟩
    ex_BadDrawing := ⟨⟨_, _, _, _, _, _, _, _, _, _, _, _, _, ex_BadDrawing_l⟩, ex_BadDrawing_s, ex_BadDrawing_g, ex_BadDrawing_h, ex_BadDrawing_c, ex_BadDrawing_i, ex_BadDrawing_f, ex_BadDrawing_k⟩
    a_BadDrawing_part := a_BadDrawing_part_a
    F_BadSight___init__ := ⟨_, fun_mk (st := s_BadSight___init__) F_BadSight___init___l F_BadSight___init___c F_BadSight___init___k⟩
    ex_BadSight := ⟨⟨_, _, _, _, _, _, _, _, _, _, _, _, _, ex_BadSight_l⟩, ex_BadSight_s, ex_BadSight_g, ex_BadSight_h, ex_BadSight_c, ex_BadSight_i, ex_BadSight_f, ex_BadSight_k⟩
    a_BadSight_at := a_BadSight_at_a
    F_BadScreen___init__ := ⟨_, fun_mk (st := s_BadScreen___init__) F_BadScreen___init___l F_BadScreen___init___c F_BadScreen___init___k⟩
    ex_BadScreen := ⟨⟨_, _, _, _, _, _, _, _, _, _, _, _, _, ex_BadScreen_l⟩, ex_BadScreen_s, ex_BadScreen_g, ex_BadScreen_h, ex_BadScreen_c, ex_BadScreen_i, ex_BadScreen_f, ex_BadScreen_k⟩
    a_BadScreen_part := a_BadScreen_part_a
    F_BadLine___init__ := ⟨_, fun_mk (st := s_BadLine___init__) F_BadLine___init___l F_BadLine___init___c F_BadLine___init___k⟩
    ex_BadLine := ⟨⟨_, _, _, _, _, _, _, _, _, _, _, _, _, ex_BadLine_l⟩, ex_BadLine_s, ex_BadLine_g, ex_BadLine_h, ex_BadLine_c, ex_BadLine_i, ex_BadLine_f, ex_BadLine_k⟩
    a_BadLine_word := a_BadLine_word_a
    F_NoBox___init__ := ⟨_, fun_mk (st := s_NoBox___init__) F_NoBox___init___l F_NoBox___init___c F_NoBox___init___k⟩
    ex_NoBox := ⟨⟨_, _, _, _, _, _, _, _, _, _, _, _, _, ex_NoBox_l⟩, ex_NoBox_s, ex_NoBox_g, ex_NoBox_h, ex_NoBox_c, ex_NoBox_i, ex_NoBox_f, ex_NoBox_k⟩
    a_NoBox_name := a_NoBox_name_a
    F_NoThing___init__ := ⟨_, fun_mk (st := s_NoThing___init__) F_NoThing___init___l F_NoThing___init___c F_NoThing___init___k⟩
    ex_NoThing := ⟨⟨_, _, _, _, _, _, _, _, _, _, _, _, _, ex_NoThing_l⟩, ex_NoThing_s, ex_NoThing_g, ex_NoThing_h, ex_NoThing_c, ex_NoThing_i, ex_NoThing_f, ex_NoThing_k⟩
    a_NoThing_name := a_NoThing_name_a
    F_NoZoom___init__ := ⟨_, fun_mk (st := s_NoZoom___init__) F_NoZoom___init___l F_NoZoom___init___c F_NoZoom___init___k⟩
    ex_NoZoom := ⟨⟨_, _, _, _, _, _, _, _, _, _, _, _, _, ex_NoZoom_l⟩, ex_NoZoom_s, ex_NoZoom_g, ex_NoZoom_h, ex_NoZoom_c, ex_NoZoom_i, ex_NoZoom_f, ex_NoZoom_k⟩
    a_NoZoom_zoom := a_NoZoom_zoom_a
    F_Taken___init__ := ⟨_, fun_mk (st := s_Taken___init__) F_Taken___init___l F_Taken___init___c F_Taken___init___k⟩
    ex_Taken := ⟨⟨_, _, _, _, _, _, _, _, _, _, _, _, _, ex_Taken_l⟩, ex_Taken_s, ex_Taken_g, ex_Taken_h, ex_Taken_c, ex_Taken_i, ex_Taken_f, ex_Taken_k⟩
    a_Taken_name := a_Taken_name_a
    F_Unlike___init__ := ⟨_, fun_mk (st := s_Unlike___init__) F_Unlike___init___l F_Unlike___init___c F_Unlike___init___k⟩
    ex_Unlike := ⟨⟨_, _, _, _, _, _, _, _, _, _, _, _, _, ex_Unlike_l⟩, ex_Unlike_s, ex_Unlike_g, ex_Unlike_h, ex_Unlike_c, ex_Unlike_i, ex_Unlike_f, ex_Unlike_k⟩
    a_Unlike_part := a_Unlike_part_a
    F_Refused___init__ := ⟨_, fun_mk (st := s_Refused___init__) F_Refused___init___l F_Refused___init___c F_Refused___init___k⟩
    ex_Refused := ⟨⟨_, _, _, _, _, _, _, _, _, _, _, _, _, ex_Refused_l⟩, ex_Refused_s, ex_Refused_g, ex_Refused_h, ex_Refused_c, ex_Refused_i, ex_Refused_f, ex_Refused_k⟩
    a_Refused_name := a_Refused_name_a
    F_BadText___init__ := ⟨_, fun_mk (st := s_BadText___init__) F_BadText___init___l F_BadText___init___c F_BadText___init___k⟩
    ex_BadText := ⟨⟨_, _, _, _, _, _, _, _, _, _, _, _, _, ex_BadText_l⟩, ex_BadText_s, ex_BadText_g, ex_BadText_h, ex_BadText_c, ex_BadText_i, ex_BadText_f, ex_BadText_k⟩
    a_BadText_line := a_BadText_line_a
    a_BadText_word := a_BadText_word_a
    F_TooMany___init__ := ⟨_, fun_mk (st := s_TooMany___init__) F_TooMany___init___l F_TooMany___init___c F_TooMany___init___k⟩
    ex_TooMany := ⟨⟨_, _, _, _, _, _, _, _, _, _, _, _, _, ex_TooMany_l⟩, ex_TooMany_s, ex_TooMany_g, ex_TooMany_h, ex_TooMany_c, ex_TooMany_i, ex_TooMany_f, ex_TooMany_k⟩
    a_TooMany_what := a_TooMany_what_a
    a_TooMany_most := a_TooMany_most_a
    F_NoChange___init__ := ⟨_, fun_mk (st := s_NoChange___init__) F_NoChange___init___l F_NoChange___init___c F_NoChange___init___k⟩
    ex_NoChange := ⟨⟨_, _, _, _, _, _, _, _, _, _, _, _, _, ex_NoChange_l⟩, ex_NoChange_s, ex_NoChange_g, ex_NoChange_h, ex_NoChange_c, ex_NoChange_i, ex_NoChange_f, ex_NoChange_k⟩
    F__law_of_parts := ⟨_, fun_mk (st := s__law_of_parts) F__law_of_parts_l F__law_of_parts_c F__law_of_parts_k⟩
    m_BadRounding := PySem.W.mg_of X G m_BadRounding_a
    m_BadDrawn := PySem.W.mg_of X G m_BadDrawn_a
    m_BadClaim := PySem.W.mg_of X G m_BadClaim_a
    m_BadZooms := PySem.W.mg_of X G m_BadZooms_a
    m_BadBox := PySem.W.mg_of X G m_BadBox_a
    m_BadPage := PySem.W.mg_of X G m_BadPage_a
    m_BadWay := PySem.W.mg_of X G m_BadWay_a
    m_BadStyle := PySem.W.mg_of X G m_BadStyle_a
    m_BadDrawing := PySem.W.mg_of X G m_BadDrawing_a
    m_BadScreen := PySem.W.mg_of X G m_BadScreen_a
    m_Unlike := PySem.W.mg_of X G m_Unlike_a
    F__law_of_values := ⟨_, fun_mk (st := s__law_of_values) F__law_of_values_l F__law_of_values_c F__law_of_values_k⟩
    m_BadRatio := PySem.W.mg_of X G m_BadRatio_a
    m_BadZoom := PySem.W.mg_of X G m_BadZoom_a
    m_BadScroll := PySem.W.mg_of X G m_BadScroll_a
    m_BadNumber := PySem.W.mg_of X G m_BadNumber_a
    m_BadSight := PySem.W.mg_of X G m_BadSight_a
    m_BadLine := PySem.W.mg_of X G m_BadLine_a
    m_NoBox := PySem.W.mg_of X G m_NoBox_a
    m_NoThing := PySem.W.mg_of X G m_NoThing_a
    m_NoZoom := PySem.W.mg_of X G m_NoZoom_a
    m_Taken := PySem.W.mg_of X G m_Taken_a
    m_Refused := PySem.W.mg_of X G m_Refused_a
    m_BadText := PySem.W.mg_of X G m_BadText_a
    m_TooMany := PySem.W.mg_of X G m_TooMany_a
    sx_SnapError := ⟨⟨_, _, _, _, _, _, _, _, _, _, _, _, _, sx_SnapError_l⟩⟩
    gx_object := ⟨gx_object_n, gx_object_t⟩
    F__law_classes := ⟨_, fun_mk (st := s__law_classes) F__law_classes_l F__law_classes_c F__law_classes_k⟩
    n_isinstance := PySem.W.mg_none_of X G n_isinstance_a
    m_NoChange := PySem.W.mg_of X G m_NoChange_a
    n_range := PySem.W.mg_none_of X G n_range_a
    F__law_fields := ⟨_, fun_mk (st := s__law_fields) F__law_fields_l F__law_fields_c F__law_fields_k⟩
    n_repr := PySem.W.mg_none_of X G n_repr_a
    F__law_kept := ⟨_, fun_mk (st := s__law_kept) F__law_kept_l F__law_kept_c F__law_kept_k⟩
    F_law := ⟨_, fun_mk (st := s_law) F_law_l F_law_c F_law_k⟩
    k__law_pen := k__law_pen_a
    m__law_pen := PySem.W.mg_of X G m__law_pen_a
    k__law_pick := k__law_pick_a
    m__law_pick := PySem.W.mg_of X G m__law_pick_a
    k__law_of_parts := k__law_of_parts_a
    m__law_of_parts := PySem.W.mg_of X G m__law_of_parts_a
    k__law_of_values := k__law_of_values_a
    m__law_of_values := PySem.W.mg_of X G m__law_of_values_a
    k__law_fields := k__law_fields_a
    m__law_fields := PySem.W.mg_of X G m__law_fields_a
    k__law_classes := k__law_classes_a
    m__law_classes := PySem.W.mg_of X G m__law_classes_a
    n_ValueError := PySem.W.mg_none_of X G n_ValueError_a
    k__law_kept := k__law_kept_a
    m__law_kept := PySem.W.mg_of X G m__law_kept_a
    m_law := PySem.W.mg_of X G m_law_a
theorem walk {l : PySem.W.OpenLaw} {q : Program} {loose : List Str} {XP : (Str → Option Value) → Heap → Prop} {YP : World → Heap → Prop} {r : DefRec} {K : Params → PySem.W.Frag} (hn : l.most = some 63) (hdf : r.params.defaults = [])
    (hY : ∀ (w : World) (h : Heap), YP w h → (K w.params).In h)
    (F : ∀ (w : World) (mg : Str → Option Value) (fa : Addr) (h : Heap), (K w.params).In h → h.Ns mainGlobals mg → mg r.name = some (.ref fa) →
      ∀ base : Heap, (K w.params).In base → base.Ns mainGlobals mg → FnG l.prog w (K w.params) mg base CX0 levelLaw fa (spLaw (K w.params))) :
    PySem.W.WalkO q loose XP YP l.row.toRowW r [] (fun f vs => PySem.call f vs) :=
  walkG (n := 63) (k := levelLaw) (sp := spLaw) hn (by decide) hdf ⟨rfl, by decide, by decide⟩ hY F fun _ _ a ns hl _ hS => ⟨a, ns, rfl, hS, hl, fun _ => rfl⟩
end AZ
open PySem PySem.W PyProof.Rows
set_option maxRecDepth 100000 in
set_option maxHeartbeats 0 in
theorem PySem.Challenge.cw_allzooms_k01_errors_and_their_fields_holds : PySem.Challenge.rw_allzooms_k01_errors_and_their_fields.Holds := by
  w_on; o_law; k_head; (case hw => w_witness2)
  k_fill
  refine AZ.walk (l := PySem.Challenge.rw_allzooms_k01_errors_and_their_fields) rfl rfl (fun w h Y => PySem.W.kIn_of Y) ?F
  case F =>
    intro w mg fa h KX G hmg
    refine' AZ.law_end (P := (PySem.Challenge.rw_allzooms_k01_errors_and_their_fields).prog) (h := h) hmg (AZ.tx_mk KX G ?L__law_pen ?L__law_draw ?L__law_pick ?L_SnapError ?L_BadRatio ?L_BadRounding ?L_BadDrawn ?L_BadClaim ?L_BadZooms ?L_BadZoom ?L_BadScroll ?L_BadNumber ?L_BadBox ?L_BadPage ?L_BadWay ?L_BadStyle ?L_BadDrawing ?L_BadSight ?L_BadScreen ?L_BadLine ?L_NoBox ?L_NoThing ?L_NoZoom ?L_Taken ?L_Unlike ?L_Refused ?L_BadText ?L_TooMany ?L_NoChange ?L__law_of_parts ?L__law_of_values ?L__law_classes ?L__law_fields ?L__law_kept ?L_law ?L_BadRatio___init__ ?L_BadRounding___init__ ?L_BadDrawn___init__ ?L_BadClaim___init__ ?L_BadZooms___init__ ?L_BadZoom___init__ ?L_BadScroll___init__ ?L_BadNumber___init__ ?L_BadBox___init__ ?L_BadPage___init__ ?L_BadWay___init__ ?L_BadStyle___init__ ?L_BadDrawing___init__ ?L_BadSight___init__ ?L_BadScreen___init__ ?L_BadLine___init__ ?L_NoBox___init__ ?L_NoThing___init__ ?L_NoZoom___init__ ?L_Taken___init__ ?L_Unlike___init__ ?L_Refused___init__ ?L_BadText___init__ ?L_TooMany___init__ ?L_NoChange___init__ ?F__law_pen_l ?F__law_draw_l ?F__law_pick_l ?F_BadRatio___init___l ?F_BadRounding___init___l ?F_BadDrawn___init___l ?F_BadClaim___init___l ?F_BadZooms___init___l ?F_BadZoom___init___l ?F_BadScroll___init___l ?F_BadNumber___init___l ?F_BadBox___init___l ?F_BadPage___init___l ?F_BadWay___init___l ?F_BadStyle___init___l ?F_BadDrawing___init___l ?F_BadSight___init___l ?F_BadScreen___init___l ?F_BadLine___init___l ?F_NoBox___init___l ?F_NoThing___init___l ?F_NoZoom___init___l ?F_Taken___init___l ?F_Unlike___init___l ?F_Refused___init___l ?F_BadText___init___l ?F_TooMany___init___l ?F_NoChange___init___l ?F__law_of_parts_l ?F__law_of_values_l ?F__law_classes_l ?F__law_fields_l ?F__law_kept_l ?F_law_l ?F__law_pen_c ?F__law_pen_k ?n_list_a ?F__law_draw_c ?F__law_draw_k ?n_int_a ?n_len_a ?n_abs_a ?F__law_pick_c ?F__law_pick_k ?k__law_draw_a ?m__law_draw_a ?F_BadRatio___init___c ?F_BadRatio___init___k ?vi_SnapError_r ?vi_SnapError_g ?vi_SnapError_v ?m_SnapError_a ?ex_BadRatio_l ?ex_BadRatio_s ?ex_BadRatio_g ?ex_BadRatio_h ?ex_BadRatio_c ?ex_BadRatio_i ?ex_BadRatio_f ?ex_BadRatio_k ?a_BadRatio_value_a ?F_BadRounding___init___c ?F_BadRounding___init___k ?ex_BadRounding_l ?ex_BadRounding_s ?ex_BadRounding_g ?ex_BadRounding_h ?ex_BadRounding_c ?ex_BadRounding_i ?ex_BadRounding_f ?ex_BadRounding_k ?a_BadRounding_part_a ?F_BadDrawn___init___c ?F_BadDrawn___init___k ?ex_BadDrawn_l ?ex_BadDrawn_s ?ex_BadDrawn_g ?ex_BadDrawn_h ?ex_BadDrawn_c ?ex_BadDrawn_i ?ex_BadDrawn_f ?ex_BadDrawn_k ?a_BadDrawn_part_a ?F_BadClaim___init___c ?F_BadClaim___init___k ?ex_BadClaim_l ?ex_BadClaim_s ?ex_BadClaim_g ?ex_BadClaim_h ?ex_BadClaim_c ?ex_BadClaim_i ?ex_BadClaim_f ?ex_BadClaim_k ?a_BadClaim_part_a ?F_BadZooms___init___c ?F_BadZooms___init___k ?ex_BadZooms_l ?ex_BadZooms_s ?ex_BadZooms_g ?ex_BadZooms_h ?ex_BadZooms_c ?ex_BadZooms_i ?ex_BadZooms_f ?ex_BadZooms_k ?a_BadZooms_part_a ?F_BadZoom___init___c ?F_BadZoom___init___k ?ex_BadZoom_l ?ex_BadZoom_s ?ex_BadZoom_g ?ex_BadZoom_h ?ex_BadZoom_c ?ex_BadZoom_i ?ex_BadZoom_f ?ex_BadZoom_k ?a_BadZoom_value_a ?F_BadScroll___init___c ?F_BadScroll___init___k ?ex_BadScroll_l ?ex_BadScroll_s ?ex_BadScroll_g ?ex_BadScroll_h ?ex_BadScroll_c ?ex_BadScroll_i ?ex_BadScroll_f ?ex_BadScroll_k ?a_BadScroll_value_a ?F_BadNumber___init___c ?F_BadNumber___init___k ?ex_BadNumber_l ?ex_BadNumber_s ?ex_BadNumber_g ?ex_BadNumber_h ?ex_BadNumber_c ?ex_BadNumber_i ?ex_BadNumber_f ?ex_BadNumber_k ?a_BadNumber_value_a ?F_BadBox___init___c ?F_BadBox___init___k ?ex_BadBox_l ?ex_BadBox_s ?ex_BadBox_g ?ex_BadBox_h ?ex_BadBox_c ?ex_BadBox_i ?ex_BadBox_f ?ex_BadBox_k ?a_BadBox_part_a ?F_BadPage___init___c ?F_BadPage___init___k ?ex_BadPage_l ?ex_BadPage_s ?ex_BadPage_g ?ex_BadPage_h ?ex_BadPage_c ?ex_BadPage_i ?ex_BadPage_f ?ex_BadPage_k ?a_BadPage_part_a ?F_BadWay___init___c ?F_BadWay___init___k ?ex_BadWay_l ?ex_BadWay_s ?ex_BadWay_g ?ex_BadWay_h ?ex_BadWay_c ?ex_BadWay_i ?ex_BadWay_f ?ex_BadWay_k ?a_BadWay_part_a ?F_BadStyle___init___c ?F_BadStyle___init___k ?ex_BadStyle_l ?ex_BadStyle_s ?ex_BadStyle_g ?ex_BadStyle_h ?ex_BadStyle_c ?ex_BadStyle_i ?ex_BadStyle_f ?ex_BadStyle_k ?a_BadStyle_part_a ?F_BadDrawing___init___c ?F_BadDrawing___init___k ?ex_BadDrawing_l ?ex_BadDrawing_s ?ex_BadDrawing_g ?ex_BadDrawing_h ?ex_BadDrawing_c ?ex_BadDrawing_i ?ex_BadDrawing_f ?ex_BadDrawing_k ?a_BadDrawing_part_a ?F_BadSight___init___c ?F_BadSight___init___k ?ex_BadSight_l ?ex_BadSight_s ?ex_BadSight_g ?ex_BadSight_h ?ex_BadSight_c ?ex_BadSight_i ?ex_BadSight_f ?ex_BadSight_k ?a_BadSight_at_a ?F_BadScreen___init___c ?F_BadScreen___init___k ?ex_BadScreen_l ?ex_BadScreen_s ?ex_BadScreen_g ?ex_BadScreen_h ?ex_BadScreen_c ?ex_BadScreen_i ?ex_BadScreen_f ?ex_BadScreen_k ?a_BadScreen_part_a ?F_BadLine___init___c ?F_BadLine___init___k ?ex_BadLine_l ?ex_BadLine_s ?ex_BadLine_g ?ex_BadLine_h ?ex_BadLine_c ?ex_BadLine_i ?ex_BadLine_f ?ex_BadLine_k ?a_BadLine_word_a ?F_NoBox___init___c ?F_NoBox___init___k ?ex_NoBox_l ?ex_NoBox_s ?ex_NoBox_g ?ex_NoBox_h ?ex_NoBox_c ?ex_NoBox_i ?ex_NoBox_f ?ex_NoBox_k ?a_NoBox_name_a ?F_NoThing___init___c ?F_NoThing___init___k ?ex_NoThing_l ?ex_NoThing_s ?ex_NoThing_g ?ex_NoThing_h ?ex_NoThing_c ?ex_NoThing_i ?ex_NoThing_f ?ex_NoThing_k ?a_NoThing_name_a ?F_NoZoom___init___c ?F_NoZoom___init___k ?ex_NoZoom_l ?ex_NoZoom_s ?ex_NoZoom_g ?ex_NoZoom_h ?ex_NoZoom_c ?ex_NoZoom_i ?ex_NoZoom_f ?ex_NoZoom_k ?a_NoZoom_zoom_a ?F_Taken___init___c ?F_Taken___init___k ?ex_Taken_l ?ex_Taken_s ?ex_Taken_g ?ex_Taken_h ?ex_Taken_c ?ex_Taken_i ?ex_Taken_f ?ex_Taken_k ?a_Taken_name_a ?F_Unlike___init___c ?F_Unlike___init___k ?ex_Unlike_l ?ex_Unlike_s ?ex_Unlike_g ?ex_Unlike_h ?ex_Unlike_c ?ex_Unlike_i ?ex_Unlike_f ?ex_Unlike_k ?a_Unlike_part_a ?F_Refused___init___c ?F_Refused___init___k ?ex_Refused_l ?ex_Refused_s ?ex_Refused_g ?ex_Refused_h ?ex_Refused_c ?ex_Refused_i ?ex_Refused_f ?ex_Refused_k ?a_Refused_name_a ?F_BadText___init___c ?F_BadText___init___k ?ex_BadText_l ?ex_BadText_s ?ex_BadText_g ?ex_BadText_h ?ex_BadText_c ?ex_BadText_i ?ex_BadText_f ?ex_BadText_k ?a_BadText_line_a ?a_BadText_word_a ?F_TooMany___init___c ?F_TooMany___init___k ?ex_TooMany_l ?ex_TooMany_s ?ex_TooMany_g ?ex_TooMany_h ?ex_TooMany_c ?ex_TooMany_i ?ex_TooMany_f ?ex_TooMany_k ?a_TooMany_what_a ?a_TooMany_most_a ?F_NoChange___init___c ?F_NoChange___init___k ?ex_NoChange_l ?ex_NoChange_s ?ex_NoChange_g ?ex_NoChange_h ?ex_NoChange_c ?ex_NoChange_i ?ex_NoChange_f ?ex_NoChange_k ?F__law_of_parts_c ?F__law_of_parts_k ?m_BadRounding_a ?m_BadDrawn_a ?m_BadClaim_a ?m_BadZooms_a ?m_BadBox_a ?m_BadPage_a ?m_BadWay_a ?m_BadStyle_a ?m_BadDrawing_a ?m_BadScreen_a ?m_Unlike_a ?F__law_of_values_c ?F__law_of_values_k ?m_BadRatio_a ?m_BadZoom_a ?m_BadScroll_a ?m_BadNumber_a ?m_BadSight_a ?m_BadLine_a ?m_NoBox_a ?m_NoThing_a ?m_NoZoom_a ?m_Taken_a ?m_Refused_a ?m_BadText_a ?m_TooMany_a ?sx_SnapError_l ?gx_object_n ?gx_object_t ?F__law_classes_c ?F__law_classes_k ?n_isinstance_a ?m_NoChange_a ?n_range_a ?F__law_fields_c ?F__law_fields_k ?n_repr_a ?F__law_kept_c ?F__law_kept_k ?F_law_c ?F_law_k ?k__law_pen_a ?m__law_pen_a ?k__law_pick_a ?m__law_pick_a ?k__law_of_parts_a ?m__law_of_parts_a ?k__law_of_values_a ?m__law_of_values_a ?k__law_fields_a ?m__law_fields_a ?k__law_classes_a ?m__law_classes_a ?n_ValueError_a ?k__law_kept_a ?m__law_kept_a ?m_law_a)
    (case L__law_pen => k_is)
    (case L__law_draw => k_is)
    (case L__law_pick => k_is)
    (case L_SnapError => k_is)
    (case L_BadRatio => k_is)
    (case L_BadRounding => k_is)
    (case L_BadDrawn => k_is)
    (case L_BadClaim => k_is)
    (case L_BadZooms => k_is)
    (case L_BadZoom => k_is)
    (case L_BadScroll => k_is)
    (case L_BadNumber => k_is)
    (case L_BadBox => k_is)
    (case L_BadPage => k_is)
    (case L_BadWay => k_is)
    (case L_BadStyle => k_is)
    (case L_BadDrawing => k_is)
    (case L_BadSight => k_is)
    (case L_BadScreen => k_is)
    (case L_BadLine => k_is)
    (case L_NoBox => k_is)
    (case L_NoThing => k_is)
    (case L_NoZoom => k_is)
    (case L_Taken => k_is)
    (case L_Unlike => k_is)
    (case L_Refused => k_is)
    (case L_BadText => k_is)
    (case L_TooMany => k_is)
    (case L_NoChange => k_is)
    (case L__law_of_parts => k_is)
    (case L__law_of_values => k_is)
    (case L__law_classes => k_is)
    (case L__law_fields => k_is)
    (case L__law_kept => k_is)
    (case L_law => k_is)
    (case L_BadRatio___init__ => k_is)
    (case L_BadRounding___init__ => k_is)
    (case L_BadDrawn___init__ => k_is)
    (case L_BadClaim___init__ => k_is)
    (case L_BadZooms___init__ => k_is)
    (case L_BadZoom___init__ => k_is)
    (case L_BadScroll___init__ => k_is)
    (case L_BadNumber___init__ => k_is)
    (case L_BadBox___init__ => k_is)
    (case L_BadPage___init__ => k_is)
    (case L_BadWay___init__ => k_is)
    (case L_BadStyle___init__ => k_is)
    (case L_BadDrawing___init__ => k_is)
    (case L_BadSight___init__ => k_is)
    (case L_BadScreen___init__ => k_is)
    (case L_BadLine___init__ => k_is)
    (case L_NoBox___init__ => k_is)
    (case L_NoThing___init__ => k_is)
    (case L_NoZoom___init__ => k_is)
    (case L_Taken___init__ => k_is)
    (case L_Unlike___init__ => k_is)
    (case L_Refused___init__ => k_is)
    (case L_BadText___init__ => k_is)
    (case L_TooMany___init__ => k_is)
    (case L_NoChange___init__ => k_is)
    (case F__law_pen_l => k_is)
    (case F__law_draw_l => k_is)
    (case F__law_pick_l => k_is)
    (case F_BadRatio___init___l => k_is)
    (case F_BadRounding___init___l => k_is)
    (case F_BadDrawn___init___l => k_is)
    (case F_BadClaim___init___l => k_is)
    (case F_BadZooms___init___l => k_is)
    (case F_BadZoom___init___l => k_is)
    (case F_BadScroll___init___l => k_is)
    (case F_BadNumber___init___l => k_is)
    (case F_BadBox___init___l => k_is)
    (case F_BadPage___init___l => k_is)
    (case F_BadWay___init___l => k_is)
    (case F_BadStyle___init___l => k_is)
    (case F_BadDrawing___init___l => k_is)
    (case F_BadSight___init___l => k_is)
    (case F_BadScreen___init___l => k_is)
    (case F_BadLine___init___l => k_is)
    (case F_NoBox___init___l => k_is)
    (case F_NoThing___init___l => k_is)
    (case F_NoZoom___init___l => k_is)
    (case F_Taken___init___l => k_is)
    (case F_Unlike___init___l => k_is)
    (case F_Refused___init___l => k_is)
    (case F_BadText___init___l => k_is)
    (case F_TooMany___init___l => k_is)
    (case F_NoChange___init___l => k_is)
    (case F__law_of_parts_l => k_is)
    (case F__law_of_values_l => k_is)
    (case F__law_classes_l => k_is)
    (case F__law_fields_l => k_is)
    (case F__law_kept_l => k_is)
    (case F_law_l => k_is)
    (case F__law_pen_c => k_is)
    (case F__law_pen_k => k_is)
    (case n_list_a => k_is)
    (case F__law_draw_c => k_is)
    (case F__law_draw_k => k_is)
    (case n_int_a => k_is)
    (case n_len_a => k_is)
    (case n_abs_a => k_is)
    (case F__law_pick_c => k_is)
    (case F__law_pick_k => k_is)
    (case k__law_draw_a => k_is)
    (case m__law_draw_a => k_is)
    (case F_BadRatio___init___c => k_is)
    (case F_BadRatio___init___k => k_is)
    (case vi_SnapError_r => k_is)
    (case vi_SnapError_g => k_is)
    (case vi_SnapError_v => k_is)
    (case m_SnapError_a => k_is)
    (case ex_BadRatio_l => k_is)
    (case ex_BadRatio_s => k_is)
    (case ex_BadRatio_g => k_is)
    (case ex_BadRatio_h => k_is)
    (case ex_BadRatio_c => k_is)
    (case ex_BadRatio_i => k_is)
    (case ex_BadRatio_f => k_is)
    (case ex_BadRatio_k => k_is)
    (case a_BadRatio_value_a => k_is)
    (case F_BadRounding___init___c => k_is)
    (case F_BadRounding___init___k => k_is)
    (case ex_BadRounding_l => k_is)
    (case ex_BadRounding_s => k_is)
    (case ex_BadRounding_g => k_is)
    (case ex_BadRounding_h => k_is)
    (case ex_BadRounding_c => k_is)
    (case ex_BadRounding_i => k_is)
    (case ex_BadRounding_f => k_is)
    (case ex_BadRounding_k => k_is)
    (case a_BadRounding_part_a => k_is)
    (case F_BadDrawn___init___c => k_is)
    (case F_BadDrawn___init___k => k_is)
    (case ex_BadDrawn_l => k_is)
    (case ex_BadDrawn_s => k_is)
    (case ex_BadDrawn_g => k_is)
    (case ex_BadDrawn_h => k_is)
    (case ex_BadDrawn_c => k_is)
    (case ex_BadDrawn_i => k_is)
    (case ex_BadDrawn_f => k_is)
    (case ex_BadDrawn_k => k_is)
    (case a_BadDrawn_part_a => k_is)
    (case F_BadClaim___init___c => k_is)
    (case F_BadClaim___init___k => k_is)
    (case ex_BadClaim_l => k_is)
    (case ex_BadClaim_s => k_is)
    (case ex_BadClaim_g => k_is)
    (case ex_BadClaim_h => k_is)
    (case ex_BadClaim_c => k_is)
    (case ex_BadClaim_i => k_is)
    (case ex_BadClaim_f => k_is)
    (case ex_BadClaim_k => k_is)
    (case a_BadClaim_part_a => k_is)
    (case F_BadZooms___init___c => k_is)
    (case F_BadZooms___init___k => k_is)
    (case ex_BadZooms_l => k_is)
    (case ex_BadZooms_s => k_is)
    (case ex_BadZooms_g => k_is)
    (case ex_BadZooms_h => k_is)
    (case ex_BadZooms_c => k_is)
    (case ex_BadZooms_i => k_is)
    (case ex_BadZooms_f => k_is)
    (case ex_BadZooms_k => k_is)
    (case a_BadZooms_part_a => k_is)
    (case F_BadZoom___init___c => k_is)
    (case F_BadZoom___init___k => k_is)
    (case ex_BadZoom_l => k_is)
    (case ex_BadZoom_s => k_is)
    (case ex_BadZoom_g => k_is)
    (case ex_BadZoom_h => k_is)
    (case ex_BadZoom_c => k_is)
    (case ex_BadZoom_i => k_is)
    (case ex_BadZoom_f => k_is)
    (case ex_BadZoom_k => k_is)
    (case a_BadZoom_value_a => k_is)
    (case F_BadScroll___init___c => k_is)
    (case F_BadScroll___init___k => k_is)
    (case ex_BadScroll_l => k_is)
    (case ex_BadScroll_s => k_is)
    (case ex_BadScroll_g => k_is)
    (case ex_BadScroll_h => k_is)
    (case ex_BadScroll_c => k_is)
    (case ex_BadScroll_i => k_is)
    (case ex_BadScroll_f => k_is)
    (case ex_BadScroll_k => k_is)
    (case a_BadScroll_value_a => k_is)
    (case F_BadNumber___init___c => k_is)
    (case F_BadNumber___init___k => k_is)
    (case ex_BadNumber_l => k_is)
    (case ex_BadNumber_s => k_is)
    (case ex_BadNumber_g => k_is)
    (case ex_BadNumber_h => k_is)
    (case ex_BadNumber_c => k_is)
    (case ex_BadNumber_i => k_is)
    (case ex_BadNumber_f => k_is)
    (case ex_BadNumber_k => k_is)
    (case a_BadNumber_value_a => k_is)
    (case F_BadBox___init___c => k_is)
    (case F_BadBox___init___k => k_is)
    (case ex_BadBox_l => k_is)
    (case ex_BadBox_s => k_is)
    (case ex_BadBox_g => k_is)
    (case ex_BadBox_h => k_is)
    (case ex_BadBox_c => k_is)
    (case ex_BadBox_i => k_is)
    (case ex_BadBox_f => k_is)
    (case ex_BadBox_k => k_is)
    (case a_BadBox_part_a => k_is)
    (case F_BadPage___init___c => k_is)
    (case F_BadPage___init___k => k_is)
    (case ex_BadPage_l => k_is)
    (case ex_BadPage_s => k_is)
    (case ex_BadPage_g => k_is)
    (case ex_BadPage_h => k_is)
    (case ex_BadPage_c => k_is)
    (case ex_BadPage_i => k_is)
    (case ex_BadPage_f => k_is)
    (case ex_BadPage_k => k_is)
    (case a_BadPage_part_a => k_is)
    (case F_BadWay___init___c => k_is)
    (case F_BadWay___init___k => k_is)
    (case ex_BadWay_l => k_is)
    (case ex_BadWay_s => k_is)
    (case ex_BadWay_g => k_is)
    (case ex_BadWay_h => k_is)
    (case ex_BadWay_c => k_is)
    (case ex_BadWay_i => k_is)
    (case ex_BadWay_f => k_is)
    (case ex_BadWay_k => k_is)
    (case a_BadWay_part_a => k_is)
    (case F_BadStyle___init___c => k_is)
    (case F_BadStyle___init___k => k_is)
    (case ex_BadStyle_l => k_is)
    (case ex_BadStyle_s => k_is)
    (case ex_BadStyle_g => k_is)
    (case ex_BadStyle_h => k_is)
    (case ex_BadStyle_c => k_is)
    (case ex_BadStyle_i => k_is)
    (case ex_BadStyle_f => k_is)
    (case ex_BadStyle_k => k_is)
    (case a_BadStyle_part_a => k_is)
    (case F_BadDrawing___init___c => k_is)
    (case F_BadDrawing___init___k => k_is)
    (case ex_BadDrawing_l => k_is)
    (case ex_BadDrawing_s => k_is)
    (case ex_BadDrawing_g => k_is)
    (case ex_BadDrawing_h => k_is)
    (case ex_BadDrawing_c => k_is)
    (case ex_BadDrawing_i => k_is)
    (case ex_BadDrawing_f => k_is)
    (case ex_BadDrawing_k => k_is)
    (case a_BadDrawing_part_a => k_is)
    (case F_BadSight___init___c => k_is)
    (case F_BadSight___init___k => k_is)
    (case ex_BadSight_l => k_is)
    (case ex_BadSight_s => k_is)
    (case ex_BadSight_g => k_is)
    (case ex_BadSight_h => k_is)
    (case ex_BadSight_c => k_is)
    (case ex_BadSight_i => k_is)
    (case ex_BadSight_f => k_is)
    (case ex_BadSight_k => k_is)
    (case a_BadSight_at_a => k_is)
    (case F_BadScreen___init___c => k_is)
    (case F_BadScreen___init___k => k_is)
    (case ex_BadScreen_l => k_is)
    (case ex_BadScreen_s => k_is)
    (case ex_BadScreen_g => k_is)
    (case ex_BadScreen_h => k_is)
    (case ex_BadScreen_c => k_is)
    (case ex_BadScreen_i => k_is)
    (case ex_BadScreen_f => k_is)
    (case ex_BadScreen_k => k_is)
    (case a_BadScreen_part_a => k_is)
    (case F_BadLine___init___c => k_is)
    (case F_BadLine___init___k => k_is)
    (case ex_BadLine_l => k_is)
    (case ex_BadLine_s => k_is)
    (case ex_BadLine_g => k_is)
    (case ex_BadLine_h => k_is)
    (case ex_BadLine_c => k_is)
    (case ex_BadLine_i => k_is)
    (case ex_BadLine_f => k_is)
    (case ex_BadLine_k => k_is)
    (case a_BadLine_word_a => k_is)
    (case F_NoBox___init___c => k_is)
    (case F_NoBox___init___k => k_is)
    (case ex_NoBox_l => k_is)
    (case ex_NoBox_s => k_is)
    (case ex_NoBox_g => k_is)
    (case ex_NoBox_h => k_is)
    (case ex_NoBox_c => k_is)
    (case ex_NoBox_i => k_is)
    (case ex_NoBox_f => k_is)
    (case ex_NoBox_k => k_is)
    (case a_NoBox_name_a => k_is)
    (case F_NoThing___init___c => k_is)
    (case F_NoThing___init___k => k_is)
    (case ex_NoThing_l => k_is)
    (case ex_NoThing_s => k_is)
    (case ex_NoThing_g => k_is)
    (case ex_NoThing_h => k_is)
    (case ex_NoThing_c => k_is)
    (case ex_NoThing_i => k_is)
    (case ex_NoThing_f => k_is)
    (case ex_NoThing_k => k_is)
    (case a_NoThing_name_a => k_is)
    (case F_NoZoom___init___c => k_is)
    (case F_NoZoom___init___k => k_is)
    (case ex_NoZoom_l => k_is)
    (case ex_NoZoom_s => k_is)
    (case ex_NoZoom_g => k_is)
    (case ex_NoZoom_h => k_is)
    (case ex_NoZoom_c => k_is)
    (case ex_NoZoom_i => k_is)
    (case ex_NoZoom_f => k_is)
    (case ex_NoZoom_k => k_is)
    (case a_NoZoom_zoom_a => k_is)
    (case F_Taken___init___c => k_is)
    (case F_Taken___init___k => k_is)
    (case ex_Taken_l => k_is)
    (case ex_Taken_s => k_is)
    (case ex_Taken_g => k_is)
    (case ex_Taken_h => k_is)
    (case ex_Taken_c => k_is)
    (case ex_Taken_i => k_is)
    (case ex_Taken_f => k_is)
    (case ex_Taken_k => k_is)
    (case a_Taken_name_a => k_is)
    (case F_Unlike___init___c => k_is)
    (case F_Unlike___init___k => k_is)
    (case ex_Unlike_l => k_is)
    (case ex_Unlike_s => k_is)
    (case ex_Unlike_g => k_is)
    (case ex_Unlike_h => k_is)
    (case ex_Unlike_c => k_is)
    (case ex_Unlike_i => k_is)
    (case ex_Unlike_f => k_is)
    (case ex_Unlike_k => k_is)
    (case a_Unlike_part_a => k_is)
    (case F_Refused___init___c => k_is)
    (case F_Refused___init___k => k_is)
    (case ex_Refused_l => k_is)
    (case ex_Refused_s => k_is)
    (case ex_Refused_g => k_is)
    (case ex_Refused_h => k_is)
    (case ex_Refused_c => k_is)
    (case ex_Refused_i => k_is)
    (case ex_Refused_f => k_is)
    (case ex_Refused_k => k_is)
    (case a_Refused_name_a => k_is)
    (case F_BadText___init___c => k_is)
    (case F_BadText___init___k => k_is)
    (case ex_BadText_l => k_is)
    (case ex_BadText_s => k_is)
    (case ex_BadText_g => k_is)
    (case ex_BadText_h => k_is)
    (case ex_BadText_c => k_is)
    (case ex_BadText_i => k_is)
    (case ex_BadText_f => k_is)
    (case ex_BadText_k => k_is)
    (case a_BadText_line_a => k_is)
    (case a_BadText_word_a => k_is)
    (case F_TooMany___init___c => k_is)
    (case F_TooMany___init___k => k_is)
    (case ex_TooMany_l => k_is)
    (case ex_TooMany_s => k_is)
    (case ex_TooMany_g => k_is)
    (case ex_TooMany_h => k_is)
    (case ex_TooMany_c => k_is)
    (case ex_TooMany_i => k_is)
    (case ex_TooMany_f => k_is)
    (case ex_TooMany_k => k_is)
    (case a_TooMany_what_a => k_is)
    (case a_TooMany_most_a => k_is)
    (case F_NoChange___init___c => k_is)
    (case F_NoChange___init___k => k_is)
    (case ex_NoChange_l => k_is)
    (case ex_NoChange_s => k_is)
    (case ex_NoChange_g => k_is)
    (case ex_NoChange_h => k_is)
    (case ex_NoChange_c => k_is)
    (case ex_NoChange_i => k_is)
    (case ex_NoChange_f => k_is)
    (case ex_NoChange_k => k_is)
    (case F__law_of_parts_c => k_is)
    (case F__law_of_parts_k => k_is)
    (case m_BadRounding_a => k_is)
    (case m_BadDrawn_a => k_is)
    (case m_BadClaim_a => k_is)
    (case m_BadZooms_a => k_is)
    (case m_BadBox_a => k_is)
    (case m_BadPage_a => k_is)
    (case m_BadWay_a => k_is)
    (case m_BadStyle_a => k_is)
    (case m_BadDrawing_a => k_is)
    (case m_BadScreen_a => k_is)
    (case m_Unlike_a => k_is)
    (case F__law_of_values_c => k_is)
    (case F__law_of_values_k => k_is)
    (case m_BadRatio_a => k_is)
    (case m_BadZoom_a => k_is)
    (case m_BadScroll_a => k_is)
    (case m_BadNumber_a => k_is)
    (case m_BadSight_a => k_is)
    (case m_BadLine_a => k_is)
    (case m_NoBox_a => k_is)
    (case m_NoThing_a => k_is)
    (case m_NoZoom_a => k_is)
    (case m_Taken_a => k_is)
    (case m_Refused_a => k_is)
    (case m_BadText_a => k_is)
    (case m_TooMany_a => k_is)
    (case sx_SnapError_l => k_is)
    (case gx_object_n => k_is)
    (case gx_object_t => k_is)
    (case F__law_classes_c => k_is)
    (case F__law_classes_k => k_is)
    (case n_isinstance_a => k_is)
    (case m_NoChange_a => k_is)
    (case n_range_a => k_is)
    (case F__law_fields_c => k_is)
    (case F__law_fields_k => k_is)
    (case n_repr_a => k_is)
    (case F__law_kept_c => k_is)
    (case F__law_kept_k => k_is)
    (case F_law_c => k_is)
    (case F_law_k => k_is)
    (case k__law_pen_a => k_is)
    (case m__law_pen_a => k_is)
    (case k__law_pick_a => k_is)
    (case m__law_pick_a => k_is)
    (case k__law_of_parts_a => k_is)
    (case m__law_of_parts_a => k_is)
    (case k__law_of_values_a => k_is)
    (case m__law_of_values_a => k_is)
    (case k__law_fields_a => k_is)
    (case m__law_fields_a => k_is)
    (case k__law_classes_a => k_is)
    (case m__law_classes_a => k_is)
    (case n_ValueError_a => k_is)
    (case k__law_kept_a => k_is)
    (case m__law_kept_a => k_is)
    (case m_law_a => k_is)
