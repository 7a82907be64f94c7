import PyProof.Rows.All
import Wide.All
import OpenK.AllK
import Wide.FinOn
import PyProof.TypeEq
import HandS.ForMost
import HandS.Exc
import HandS.TryOnly
import HandS.ExcOwn
import HandS.WordsExc
import HandS.Evl
import HandS.More
import HandS.IsInst
import HandS.ExcIs
import HandS.SortKw
import HandS.SetFor
import HandS.HotCalls
import HandS.EndBits
import HandS.Deep
import HandS.Sort
import HandS.SortRule
import HandS.SortInts
import HandS.Conv
import HandS.TupSets
import HandS.Hot
import PyProof.Rows.TupIter
import PySem.Challenge.RW_tiecount_k01_what_counts_want
set_option Elab.async false
set_option linter.all false
set_option maxRecDepth 100000
set_option maxHeartbeats 4000000
/-! LAY: our own layer over the hand layer: types compared, great products, what a reading hands on (Ev and kin) told by one tactic. -/
namespace Z
open PySem PySem.Spec PyProof.Rows L2 Evl

/-! ### values' own rules -/
def metaT : List String := ["int", "str", "bool", "NoneType", "list", "tuple", "dict"]
theorem meta_of {T : String} (h : T ∈ metaT) : ∀ s : Shared, s.TypeIs (.type T) "type" := by
  intro s
  simp only [metaT, List.mem_cons, List.not_mem_nil, or_false] at h
  rcases h with rfl | rfl | rfl | rfl | rfl | rfl | rfl
  · exact TypeEq.meta_int s
  · exact TypeEq.meta_str s
  · exact TypeEq.meta_bool s
  · exact TypeEq.meta_NoneType s
  · exact TypeEq.meta_list s
  · exact TypeEq.meta_tuple s
  · exact TypeEq.meta_dict s
def rEqTy : R2 := fun x y H Q => ∃ s t, x = .ty s ∧ y = .ty t ∧ s ∈ metaT ∧ t ∈ metaT ∧ Q (.bl (decide (s = t))) H
section
variable {X : Cx}
theorem op_eqTy : OpR X (compareOp .Is) rEqTy := by
  intro pins s σ H x y v u Q I rx ry h
  obtain ⟨a, b, ea, eb, _, _, q⟩ := h
  exact L2.op_isTyB pins s σ H x y v u Q I rx ry ⟨a, b, ea, eb, q⟩
end
/-! types, != -/
section
variable {prog : Program} {w : World} {A : Around} {E : Value → Shared → Prop} {s : Shared}
theorem slot_ty_ne : Slot "type" (cmpInfo .NotEq).2.1 "object.__ne__" :=
  .of (owner := "object") (n := "__ne__") (by rw [typeLookup_type, builtinLookup_eq_fast]; kernel_rfl) (by decide +kernel) (by decide +kernel) (by decide +kernel) (by first | exact .inl (by decide +kernel) | exact .inr (by decide +kernel)) (by rw [isSubtype_type]; kernel_rfl)
theorem slot_ty_ne_r : Slot "type" (cmpInfo .NotEq).2.2 "object.__ne__" :=
  .of (owner := "object") (n := "__ne__") (by rw [typeLookup_type, builtinLookup_eq_fast]; kernel_rfl) (by decide +kernel) (by decide +kernel) (by decide +kernel) (by first | exact .inl (by decide +kernel) | exact .inr (by decide +kernel)) (by rw [isSubtype_type]; kernel_rfl)
theorem slot_ty_eq2 : Slot "type" "__eq__" "object.__eq__" :=
  .of (owner := "object") (n := "__eq__") (by rw [typeLookup_type, builtinLookup_eq_fast]; kernel_rfl) (by decide +kernel) (by decide +kernel) (by decide +kernel) (by first | exact .inl (by decide +kernel) | exact .inr (by decide +kernel)) (by rw [isSubtype_type]; kernel_rfl)
/-- object.__ne__ of two classes, by object.__eq__ -/
theorem one_ne {a b : String} {r : Value} {Q : Value → Shared → Prop} (ha : ∀ t : Shared, t.TypeIs (.type a) "type") (hr : Gives (Builtin.«object.__eq__» ⟨[.type a, .type b], []⟩) (.val r))
    (k : (r = .notImplemented ∧ Q .notImplemented s) ∨ ∃ v, r = .bool v ∧ Q (.bool (!v)) s) : wpAny (model prog w) A (call (.builtin "object.__ne__") [.type a, .type b]) Q E s := by
  refine wpAny_call_entry (T := "type") slot_ty_ne (ha s) F.cmpEntry_ne ?_ (F.cmpArgs_ne _ _)
  unfold Builtin.«object.__ne__»
  refine wpAny_bind (wpAny_of_eq (a := ((Value.type a : Value), [Value.type b])) (by first | rfl | (simp only [slotArgs]; rfl)) ?_)
  refine wpAny_bind (wpAny_cRoomFor_byValue rfl ?_)
  refine wpAny_bind (wpAny_callSpecialIfBound?_slot (ha s) slot_ty_eq2 (call_gives slot_ty_eq2 (ha s) F.cmpEntry_eq (F.cmpArgs_eq _ _) hr ?_))
  rcases k with ⟨rfl, q⟩ | ⟨v, rfl, q⟩
  · exact wpAny_pure ⟨_, rfl, q⟩
  · refine wpAny_bind (wpAny_truthy_bool ?_)
    exact wpAny_pure ⟨_, rfl, q⟩
theorem ne_types {a b : String} {Q : Value → Shared → Prop} (ha : ∀ t : Shared, t.TypeIs (.type a) "type") (hb : ∀ t : Shared, t.TypeIs (.type b) "type") (q : Q (.bool (!decide (a = b))) s) :
    wpAny (model prog w) A (compareOp .NotEq (.type a) (.type b)) Q E s := by
  show wpAny _ A (richCompare .NotEq _ _) Q E s
  by_cases e : a = b
  · subst e
    rw [decide_eq_true (p := a = a) rfl] at q
    exact wpAny_richCompare_same (T := "type") (ha s) (ha s) slot_ty_ne (one_ne ha (TypeEq.object_eq_same rfl (by simp)) (.inr ⟨true, rfl, (by intro z; cases z), q⟩))
  · rw [decide_eq_false e] at q
    have h1 : (Value.type a == Value.type b) = false := (ty_beq a b).trans (decide_eq_false e)
    have h2 : (Value.type b == Value.type a) = false := (ty_beq b a).trans (decide_eq_false fun z => e z.symm)
    rcases hi : cmpInfo CmpOp.NotEq with ⟨sym, f, r⟩
    have s1 := slot_ty_ne
    have s2 := slot_ty_ne_r
    rw [hi] at s1 s2
    simp only [richCompare, hi, (ha s).oneThing_none]
    try with_reducible refine wpAny_holding ?_
    refine wpAny_bind (wpAny_cRoomFor_byValue rfl ?_)
    refine wpAny_bind (wpAny_typeOf (ha s) (wpAny_bind (wpAny_typeOf (hb s) ?_)))
    simp only [bne_self_eq_false, Bool.false_eq_true, if_false, pure_bind, Bool.not_false, if_true]
    refine wpAny_bind (m := tryCompare (.type a) _ (.type b)) (wpAny_tryCompare_declines (ha s) s1 (one_ne ha (TypeEq.object_eq_other rfl h1) (.inl ⟨rfl, rfl, ?_⟩)))
    refine wpAny_bind (m := tryCompare (.type b) _ (.type a)) (wpAny_tryCompare_declines (hb s) s2 (one_ne hb (TypeEq.object_eq_other rfl h2) (.inl ⟨rfl, rfl, ?_⟩)))
    refine wpAny_bind (wpAny_rule (wpAny_bind (wpAny_of_eq (a := false) (by rw [isSame_plain rfl, h1]) (wpAny_pure q))))
end
def rNeTy : R2 := fun x y H Q => ∃ s t, x = .ty s ∧ y = .ty t ∧ s ∈ metaT ∧ t ∈ metaT ∧ Q (.bl (!decide (s = t))) H
theorem op_neTy {X : Cx} : OpR X (compareOp .IsNot) rNeTy := by
  intro pins s σ H x y v u Q I rx ry h
  obtain ⟨a, b, ea, eb, _, _, q⟩ := h
  exact L2.op_notTyB pins s σ H x y v u Q I rx ry ⟨a, b, ea, eb, q⟩

/-! ### great numbers: Bd n z says that z has at most n bits -/
def Bd (n : Nat) (z : Int) : Prop := z.natAbs < 2 ^ n
theorem Bd.mono {n m : Nat} {z : Int} (h : Bd n z) (l : n ≤ m) : Bd m z := Nat.lt_of_lt_of_le h (Nat.pow_le_pow_right (by decide) l)
theorem Bd.add {n : Nat} {x y : Int} (h : Bd n x) (k : Bd n y) : Bd (n + 1) (x + y) := by
  have a : x.natAbs < 2 ^ n := h
  have b : y.natAbs < 2 ^ n := k
  show (x + y).natAbs < 2 ^ (n + 1)
  rw [Nat.pow_succ]
  omega
theorem Bd.mul {n m : Nat} {x y : Int} (h : Bd n x) (k : Bd m y) : Bd (n + m) (x * y) := by
  have a : x.natAbs < 2 ^ n := h
  have b : y.natAbs < 2 ^ m := k
  show (x * y).natAbs < 2 ^ (n + m)
  rw [Int.natAbs_mul, Nat.pow_add]
  exact Nat.mul_lt_mul'' a b
theorem Bd.of {n : Nat} {z : Int} (h : z.natAbs < 2 ^ n) : Bd n z := h
theorem Bd.div {n : Nat} {x d : Int} (h : Bd n x) (hd : 0 < d) : Bd n (x / d) := by
  have a : x.natAbs < 2 ^ n := h
  refine Nat.lt_of_le_of_lt ?_ a
  by_cases hx : 0 ≤ x
  · have h1 : 0 ≤ x / d := Int.ediv_nonneg hx (Int.le_of_lt hd)
    have h2 : x / d ≤ x := Int.ediv_le_self d hx
    omega
  · have h1 : x / d < 0 := Int.ediv_neg_of_neg_of_pos (by omega) hd
    have h2 : x ≤ x / d := by
      refine (Int.le_ediv_iff_mul_le hd).mpr ?_
      have h3 : x * d ≤ x * 1 := Int.mul_le_mul_of_nonpos_left (by omega) (by omega)
      omega
    omega
theorem bits_of {n : Nat} {z : Int} (h : Bd n z) : Builtin.Int.intBits z ≤ n := by
  have h' : z.natAbs < 2 ^ n := h
  unfold Builtin.Int.intBits
  by_cases hz : z.natAbs = 0
  · have z0 : z = 0 := by omega
    subst z0
    simp
  · have : z.natAbs.log2 < n := (Nat.log2_lt hz).mpr h'
    split <;> omega
theorem bd_of {n : Nat} {z : Int} (h : Builtin.Int.intBits z ≤ n) : Bd n z := by
  show z.natAbs < 2 ^ n
  by_cases hz : z.natAbs = 0
  · rw [hz]
    exact Nat.two_pow_pos n
  · refine (Nat.log2_lt hz).mp ?_
    unfold Builtin.Int.intBits at h
    split at h
    · rename_i q
      have : z.natAbs = 0 := by simp_all
      exact absurd this hz
    · omega
/-- * of factors of together at most a hundred million bits -/
def CMulB (i j : Int) : Prop := ∃ n m, Bd n i ∧ Bd m j ∧ n + m ≤ 100000000
theorem op_mulB {X : Cx} : OpR X (binaryOp .Mult) (rI CMulB fun i j => .int (i * j)) := opI fun i j _ _ _ _ _ hc q => by
  obtain ⟨n, m, h1, h2, h3⟩ := hc
  refine mul_int q ?_
  have b1 := bits_of h1
  have b2 := bits_of h2
  have e : bitsLine = 134217728 := by decide
  unfold IntMulOk
  intro z
  rw [Bool.and_eq_true] at z
  have z2 := z.2
  unfold Builtin.Int.intTooBig at z2
  have z3 := of_decide_eq_true z2
  rw [e] at z3
  omega

/-! ### what a reading hands on: P is told of the heap ahead, the value, the heap behind -/
def EvG (te : TE) (σ : L2.St) (H : Hp) (P : Hp → V → Hp → Prop) : Prop := ∀ H1, Ex H H1 → ∀ Q : VK, (∀ v H2, Ex H1 H2 → P H1 v H2 → Q v H2) → te σ H1 Q
def SpG (sp : Sp) (vs : List V) (H : Hp) (P : Hp → V → Hp → Prop) : Prop := ∀ H1, Ex H H1 → ∀ Q : VK, (∀ v H2, Ex H1 H2 → P H1 v H2 → Q v H2) → ∀ E : XK, sp vs H1 Q E
section
variable {K : PySem.W.Frag} {σ : L2.St} {H H' : Hp} {ta tb te tx : TE} {t u : TT} {x y z v : V} {r : R2} {P P' : Hp → V → Hp → Prop} {D : Ends} {tz : TS}
theorem EvG.mono (e : Ex H H') (h : EvG te σ H P) : EvG te σ H' P := fun H1 a Q q => h H1 (e.trans a) Q q
theorem EvG.post (h : EvG te σ H P) (w : ∀ H1 v H2, Ex H H1 → Ex H1 H2 → P H1 v H2 → P' H1 v H2) : EvG te σ H P' := fun H1 a Q q => h H1 a Q fun v H2 e p => q v H2 e (w H1 v H2 a e p)
theorem eg_ev (h : Ev te σ H v) : EvG te σ H fun _ x _ => x = v := fun H1 e Q q => h H1 e Q fun H2 e2 => q v H2 e2 rfl
theorem eg_L {xs : List V} (h : EvL te σ H xs) : EvG te σ H fun H1 x H2 => ∃ p, x = .ref p ∧ H1 p = none ∧ H2 p = some (.lst xs) := fun H1 e Q q => h H1 e Q fun p H2 hp e2 h2 => q _ H2 e2 ⟨p, rfl, hp, h2⟩
theorem eg_U {xs : List V} (h : EvU te σ H xs) : EvG te σ H fun H1 x H2 => ∃ p, x = .ref p ∧ H1 p = none ∧ H2 p = some (.tup xs) := fun H1 e Q q => h H1 e Q fun p H2 hp e2 h2 => q _ H2 e2 ⟨p, rfl, hp, h2⟩
theorem eg_call {sp : Sp} {dvs vs : List V} {E : XK} {ta : TA} (h : EvA ta σ H vs) (hs : SpG sp (vs ++ dvs) H P) (k : ∀ H0 H1 v H2, Ex H0 H1 → P H1 v H2 → P H0 v H2) : EvG (tCall sp dvs E ta) σ H P := fun H1 e Q q =>
  h H1 e _ fun H2 e2 => hs H2 (e.trans e2) Q (fun v H3 e3 p => q v H3 (e2.trans e3) (k H1 H2 v H3 e2 p)) E
theorem q_asgG {i : Nat} (h : EvG te σ H P) (k : ∀ v H1, Ex H H1 → P H v H1 → tz D (σ.set i (some v)) H1) : tSeq (tAsg te (gName i)) tz D σ H := h H (Ex.refl H) _ fun v H1 e p => k v H1 e p
theorem s_retG (h : EvG te σ H P) (k : ∀ v H1, Ex H H1 → P H v H1 → D.rt v H1) : tRet te D σ H := h H (Ex.refl H) _ k
theorem s_asgG {i : Nat} (h : EvG te σ H P) (k : ∀ v H1, Ex H H1 → P H v H1 → D.nx (σ.set i (some v)) H1) : tAsg te (gName i) D σ H := h H (Ex.refl H) _ fun v H1 e p => k v H1 e p
/-- operations -/
theorem rv_eqTy {a b : String} (ha : a ∈ metaT) (hb : b ∈ metaT) : RV rEqTy (.ty a) (.ty b) H (.bl (decide (a = b))) := fun H1 _ _ q => ⟨a, b, rfl, rfl, ha, hb, q H1 (Ex.refl H1)⟩
theorem rv_neTy {a b : String} (ha : a ∈ metaT) (hb : b ∈ metaT) : RV rNeTy (.ty a) (.ty b) H (.bl (!decide (a = b))) := fun H1 _ _ q => ⟨a, b, rfl, rfl, ha, hb, q H1 (Ex.refl H1)⟩
theorem rv_isN : RV (fun x y H Q => y = .non ∧ Q (.bl (decide (x = .non))) H) x .non H (.bl (decide (x = .non))) := fun H1 _ _ q => ⟨rfl, q H1 (Ex.refl H1)⟩
theorem rv_notN : RV (fun x y H Q => y = .non ∧ Q (.bl (!decide (x = .non))) H) x .non H (.bl (!decide (x = .non))) := fun H1 _ _ q => ⟨rfl, q H1 (Ex.refl H1)⟩
mutual
theorem Dp.ex (e : Ex H H') : ∀ {d : PyData} {v : V}, Dp K H v d → Dp K H' v d
  | .none, _, h => by cases h; exact .non
  | .bool b, _, h => by cases h; exact .bl b
  | .int i, _, h => by cases h; exact .int i
  | .str x, _, h => by cases h; exact .str x
  | .list ds, _, h => by
    cases h with
    | lst hs ha => exact .lst (ex_l e hs) (DpAll.ex e ha)
  | .tuple ds, _, h => by
    cases h with
    | tup hs ha => exact .tup (ex_t e hs) (DpAll.ex e ha)
  | .dict _, _, h => nomatch h
theorem DpAll.ex (e : Ex H H') : ∀ {ds : List PyData} {vs : List V}, DpAll K H vs ds → DpAll K H' vs ds
  | [], _, h => by cases h; exact .nil
  | d :: ds, _, h => by
    cases h with
    | cons h1 h2 => exact .cons (Dp.ex e h1) (DpAll.ex e h2)
end

theorem TyB.ex (e : Ex H H') {T : String} (h : TyB K H x T) : TyB K H' x T := by
  cases h with
  | non => exact .non
  | bl b => exact .bl b
  | int i => exact .int i
  | str s => exact .str s
  | byt b => exact .byt b
  | lst h => exact .lst (ex_l e h)
  | tup h => exact .tup (ex_t e h)
  | dK h => exact .dK (e _ _ h)
theorem rv_eqD {d e : PyData} (h1 : Dp K H x d) (h2 : Dp K H y e) (s1 : SeqAt.shaped d = true) (s2 : SeqAt.shaped e = true) : RV (rEqD K) x y H (.bl (PyData.eqv d e)) := fun H1 a _ q => ⟨d, e, Dp.ex a h1, Dp.ex a h2, s1, s2, q H1 (Ex.refl H1)⟩
theorem rv_neD {d e : PyData} (h1 : Dp K H x d) (h2 : Dp K H y e) (s1 : SeqAt.shaped d = true) (s2 : SeqAt.shaped e = true) : RV (rNeD K) x y H (.bl (!PyData.eqv d e)) := fun H1 a _ q => ⟨d, e, Dp.ex a h1, Dp.ex a h2, s1, s2, q H1 (Ex.refl H1)⟩
/-- calls by values -/
abbrev rLenQ (K : PySem.W.Frag) : List V → Hp → VK → Prop := fun xs H Q => ∃ p ys, xs = [.ref p] ∧ (SqL K H p ys ∨ SqT K H p ys) ∧ Q (.int ys.length) H
theorem rc_lenL {p : Addr} {xs : List V} (h : SqL K H p xs) : RC (fun xs H Q => ∃ p ys, xs = [.ref p] ∧ (SqL K H p ys ∨ SqT K H p ys) ∧ Q (.int ys.length) H) [.ref p] H (.int (xs.length : Int)) := fun H1 e _ q => ⟨p, xs, rfl, .inl (ex_l e h), q H1 (Ex.refl H1)⟩
theorem rc_lenT {p : Addr} {xs : List V} (h : SqT K H p xs) : RC (fun xs H Q => ∃ p ys, xs = [.ref p] ∧ (SqL K H p ys ∨ SqT K H p ys) ∧ Q (.int ys.length) H) [.ref p] H (.int (xs.length : Int)) := fun H1 e _ q => ⟨p, xs, rfl, .inr (ex_t e h), q H1 (Ex.refl H1)⟩
theorem rc_max2 {i j : Int} : RC (fun xs H Q => ∃ i j, xs = [.int i, .int j] ∧ Q (.int (if j > i then j else i)) H) [.int i, .int j] H (.int (if j > i then j else i)) := fun H1 _ _ q => ⟨i, j, rfl, q H1 (Ex.refl H1)⟩
theorem rc_min2 {i j : Int} : RC (fun xs H Q => ∃ i j, xs = [.int i, .int j] ∧ Q (.int (if j < i then j else i)) H) [.int i, .int j] H (.int (if j < i then j else i)) := fun H1 _ _ q => ⟨i, j, rfl, q H1 (Ex.refl H1)⟩
theorem rc_intI {i : Int} : RC (fun xs H Q => (∃ i, xs = [.int i] ∧ Q (.int i) H) ∨ ∃ k : Bool, xs = [.bl k] ∧ Q (.int (if k then 1 else 0)) H) [.int i] H (.int i) := fun H1 _ _ q => .inl ⟨i, rfl, q H1 (Ex.refl H1)⟩
theorem rc_intB {k : Bool} : RC (fun xs H Q => (∃ i, xs = [.int i] ∧ Q (.int i) H) ∨ ∃ k : Bool, xs = [.bl k] ∧ Q (.int (if k then 1 else 0)) H) [.bl k] H (.int (if k then 1 else 0)) := fun H1 _ _ q => .inr ⟨k, rfl, q H1 (Ex.refl H1)⟩
theorem rc_type {T : String} (h : TyB K H x T) : RC (rTyp K) [x] H (.ty T) := fun H1 e _ q => ⟨x, T, rfl, TyB.ex e h, q H1 (Ex.refl H1)⟩
theorem rc_sum {p : Addr} {ns : List Int} (h : SqL K H p (ns.map V.int)) : RC (rSum K) [.ref p] H (.int ns.sum) := fun H1 e _ q => ⟨p, ns, rfl, ex_l e h, q H1 (Ex.refl H1)⟩
theorem rc_all {p : Addr} {bs : List Bool} (h : SqL K H p (bs.map V.bl)) : RC (rAll K) [.ref p] H (.bl (bs.all id)) := fun H1 e _ q => ⟨p, bs, rfl, ex_l e h, q H1 (Ex.refl H1)⟩
theorem rcl_list {p : Addr} {xs : List V} (h : SqL K H p xs) : RCL (fun xs H Q => ∃ p ys, xs = [.ref p] ∧ (SqL K H p ys ∨ SqT K H p ys) ∧ ∀ l, H l = none → Q (.ref l) (upd H l (.lst ys))) [.ref p] H xs := fun H1 e _ q => ⟨p, xs, rfl, .inl (ex_l e h), fun l hl => q l _ hl (Ex.new hl) upd_same⟩
theorem TyOf.ex (e : Ex H H') {t : Value} (h : TyOf K H x t) : TyOf K H' x t := by
  cases h with
  | non => exact .non
  | bl b => exact .bl b
  | int i => exact .int i
  | str s => exact .str s
  | flt s => exact .flt s
  | lst h => exact .lst (e _ _ h)
  | frz h => exact .frz (e _ _ h)
  | tup h => exact .tup (e _ _ h)
  | dK h => exact .dK (e _ _ h)
  | dT h => exact .dT (e _ _ h)
  | ins h a b c d f => exact .ins (e _ _ h) a b c d f
theorem rc_isi {c : V} {tv cv : Value} {b : Bool} (kc : ClsV c cv) (ht : TyOf K H x tv) (hk : PySem.W.kitOne K tv cv = some b) : RC (rIsi K) [x, c] H (.bl b) := fun H1 e _ q => ⟨x, c, tv, cv, b, rfl, kc, .base (TyOf.ex e ht), hk, q H1 (Ex.refl H1)⟩
theorem ev_len' {p : Addr} {xs : List V} (ha : Ev ta σ H (.ref p)) (h : SqL K H p xs) : Ev (tCB (rLenQ K) (tCons ta tNil)) σ H (.int (xs.length : Int)) := ev_cb (ea_cons ha ea_nil) (rc_lenL h)

theorem ev_chain {r' : R2} {tc : TE} {b1 b2 : Bool} (ha : Ev ta σ H x) (hb : Ev tb σ H y) (h1 : RV r x y H (.bl b1)) (hc : b1 = true → Ev tc σ H z) (h2 : b1 = true → RV r' y z H (.bl b2)) : Ev (tChain r r' ta tb tc) σ H (.bl (b1 && b2)) := fun H1 e Q q =>
  ha H1 e _ fun H2 e2 => hb H2 (e.trans e2) _ fun H3 e3 => h1 H3 ((e.trans e2).trans e3) _ fun H4 e4 => ⟨b1, rfl, by
    have a4 := ((e.trans e2).trans e3).trans e4
    cases b1 with
    | true =>
      show tc σ H4 _
      exact hc rfl H4 a4 _ fun H5 e5 => h2 rfl H5 (a4.trans e5) Q fun H6 e6 => q H6 ((((e2.trans e3).trans e4).trans e5).trans e6)
    | false =>
      show Q (.bl false) H4
      exact q H4 ((e2.trans e3).trans e4)⟩
theorem ev_andF (h1 : Ev ta σ H (.bl false)) : Ev (tAndV ta tb) σ H (.bl false) := ev_andV (b := true) h1 fun h => Bool.noConfusion h
theorem ev_andT {b : Bool} (h1 : Ev ta σ H (.bl true)) (h2 : Ev tb σ H (.bl b)) : Ev (tAndV ta tb) σ H (.bl b) := ev_andV (a := true) h1 fun _ => h2
theorem ev_orT (h1 : Ev ta σ H (.bl true)) : Ev (tOrV ta tb) σ H (.bl true) := ev_orV (b := true) h1 fun h => Bool.noConfusion h
theorem ev_orF {b : Bool} (h1 : Ev ta σ H (.bl false)) (h2 : Ev tb σ H (.bl b)) : Ev (tOrV ta tb) σ H (.bl b) := ev_orV (a := false) h1 fun _ => h2
theorem et_andF (h1 : EvT t σ H false) : EvT (tAnd t u) σ H false := et_and (b := true) h1 fun h => Bool.noConfusion h
theorem et_andT {b : Bool} (h1 : EvT t σ H true) (h2 : EvT u σ H b) : EvT (tAnd t u) σ H b := et_and (a := true) h1 fun _ => h2
theorem et_orT (h1 : EvT t σ H true) : EvT (tOr t u) σ H true := et_or (b := true) h1 fun h => Bool.noConfusion h
theorem et_orF {b : Bool} (h1 : EvT t σ H false) (h2 : EvT u σ H b) : EvT (tOr t u) σ H b := et_or (a := false) h1 fun _ => h2
end

/-! ### the rules with the written part named -/
section
variable {X : Cx} {K : PySem.W.Frag}
theorem kx_in (h : X.K = K := by rfl) : OpR X (compareOp .In) (rIn K false) := by subst h; exact op_in_seq
theorem kx_notIn (h : X.K = K := by rfl) : OpR X (compareOp .NotIn) (rIn K true) := by subst h; exact op_notIn_seq
theorem kx_ixL (h : X.K = K := by rfl) : IxR X (rIxL K) := by subst h; exact ix_list
theorem kx_ixT (h : X.K = K := by rfl) : IxR X (rIxT K) := by subst h; exact ix_tup
theorem kx_len (h : X.K = K := by rfl) : CallR X (.builtin "len") (rLenQ K) := by subst h; exact call_len_seq
theorem kx_eqD (hu : X.A.units + 64 < cLine) (h : X.K = K := by rfl) : OpR X (compareOp .Eq) (rEqD K) := by subst h; exact op_eqD hu
theorem kx_neD (hu : X.A.units + 64 < cLine) (h : X.K = K := by rfl) : OpR X (compareOp .NotEq) (rNeD K) := by subst h; exact op_neD hu
theorem kx_type (h : X.K = K := by rfl) : CallR X (.type "type") (rTyp K) := by subst h; exact call_type1
theorem kx_isi (h : X.K = K := by rfl) : CallR X (.builtin "isinstance") (rIsi K) := by subst h; exact call_isi
theorem kx_sum (hc : X.calm = true) (h : X.K = K := by rfl) : CallR X (.builtin "sum") (rSum K) := by subst h; exact cr_sum hc
theorem kx_all (hc : X.calm = true) (h : X.K = K := by rfl) : CallR X (.builtin "all") (rAll K) := by subst h; exact cr_all hc
theorem kx_max (hc : X.calm = true) (h : X.K = K := by rfl) : CallR X (.builtin "max") (rMax K) := by subst h; exact cr_max hc
theorem kx_min (hc : X.calm = true) (h : X.K = K := by rfl) : CallR X (.builtin "min") (rMin K) := by subst h; exact cr_min hc
theorem kx_sorted (h : X.K = K := by rfl) : CallR X (.builtin "sorted") (rSorted K) := by subst h; exact cr_sorted
theorem kx_sortedRev {b : Bool} (h : X.K = K := by rfl) : CallRK X (.builtin "sorted") [Str.ofString "reverse"] (rSortedKw K b [.bl b]) := by subst h; exact cr_sortedRev
abbrev rListQ (K : PySem.W.Frag) : List V → Hp → VK → Prop := fun xs H Q => ∃ p ys, xs = [.ref p] ∧ (SqL K H p ys ∨ SqT K H p ys) ∧ ∀ l, H l = none → Q (.ref l) (upd H l (.lst ys))
abbrev rTupQ (K : PySem.W.Frag) : List V → Hp → VK → Prop := fun xs H Q => ∃ p ys, xs = [.ref p] ∧ ((SqL K H p ys ∧ ∀ l, H l = none → Q (.ref l) (upd H l (.tup ys))) ∨ (SqT K H p ys ∧ Q (.ref p) H))
theorem kx_list (h : X.K = K := by rfl) : CallR X (.type "list") (rListQ K) := by subst h; exact call_list_of
theorem kx_tuple (h : X.K = K := by rfl) : CallR X (.type "tuple") (rTupQ K) := by subst h; exact call_tuple_of
theorem kx_slL (h : X.K = K := by rfl) : SlR X (rSlL K) := by subst h; exact sl_list
theorem kx_piL {tg l : Expr} {tl : TE} (hl : PE X l tl) (h : X.K = K := by rfl) : PI X tg l (iList K tl) := by subst h; exact pi_list hl
theorem kx_piT {tg l : Expr} {tl : TE} (hl : PE X l tl) (h : X.K = K := by rfl) : PI X tg l (iTup K tl) := by subst h; exact pi_tup hl
theorem kx_pgT {es : List Expr} {k : Nat} {t : TGs} {n : Nat} {pos : Pos} (hc : X.calm = true) (h : PGs X es t) (hn : (assignEach es X.env).length = n := by rfl) (hst : (assignEach es X.env).findIdx? (·.1) = none := by rfl) (hk : X.K = K := by rfl) : PG X (.Tuple es k pos) (gTup K n t) := by subst hk; exact pg_tup hc h hn hst
end
end Z
set_option Elab.async false
set_option linter.all false
set_option maxRecDepth 100000
set_option maxHeartbeats 4000000
/-! LAYT: lists of ties, counts, slices, comprehensions told as maps and filters. -/
namespace Z
open PySem PySem.Spec PyProof.Rows L2 Evl
/-! ### ties -/
abbrev Tie := Nat × Nat
def tieV (p : Tie) : List V := [.int (p.1 : Int), .int (p.2 : Int)]
def tieD (p : Tie) : PyData := .tuple [.int (p.1 : Int), .int (p.2 : Int)]
def TieAt (K : PySem.W.Frag) (H : Hp) (x : V) (p : Tie) : Prop := ∃ t, x = .ref t ∧ SqT K H t (tieV p)
abbrev Ties (K : PySem.W.Frag) (H : Hp) (xs : List V) (ts : List Tie) : Prop := PySem.Paired (TieAt K H) xs ts
section
variable {K : PySem.W.Frag} {H H' : Hp} {x : V} {p : Tie} {xs ys : List V} {ts us : List Tie} {l : Addr}
theorem TieAt.ex (e : Ex H H') (h : TieAt K H x p) : TieAt K H' x p := by
  obtain ⟨t, rfl, s⟩ := h
  exact ⟨t, rfl, ex_t e s⟩
/-- a list may change: tuples stay -/
theorem sqt_upd {t : Addr} {zs vs ws : List V} (hl : H l = some (.lst vs)) (s : SqT K H t zs) : SqT K (upd H l (.lst ws)) t zs := by
  rcases s with (s | ⟨o, s⟩) | s
  · exact .inl (.inl ((upd_ne (ne_of s hl (by intro z; cases z))).trans s))
  · exact .inl (.inr ⟨o, (upd_ne (ne_of s hl (by intro z; cases z))).trans s⟩)
  · exact .inr s
theorem TieAt.upd {vs ws : List V} (hl : H l = some (.lst vs)) (h : TieAt K H x p) : TieAt K (L2.upd H l (.lst ws)) x p := by
  obtain ⟨t, rfl, s⟩ := h
  exact ⟨t, rfl, sqt_upd hl s⟩
theorem Paired.imp {α β : Type} {F G : α → β → Prop} (f : ∀ a b, F a b → G a b) : ∀ {l : List α} {m : List β}, PySem.Paired F l m → PySem.Paired G l m
  | _, _, .nil => .nil
  | _, _, .cons r t => .cons (f _ _ r) (Paired.imp f t)
theorem Ties.ex (e : Ex H H') (h : Ties K H xs ts) : Ties K H' xs ts := Paired.imp (fun _ _ => TieAt.ex e) h
theorem Ties.upd {vs ws : List V} (hl : H l = some (.lst vs)) (h : Ties K H xs ts) : Ties K (L2.upd H l (.lst ws)) xs ts := Paired.imp (fun _ _ => TieAt.upd hl) h
theorem Paired.app {α β : Type} {F : α → β → Prop} : ∀ {l l' : List α} {m m' : List β}, PySem.Paired F l m → PySem.Paired F l' m' → PySem.Paired F (l ++ l') (m ++ m')
  | _, _, _, _, .nil, h => h
  | _, _, _, _, .cons r t, h => .cons r (Paired.app t h)
theorem Paired.take {α β : Type} {F : α → β → Prop} : ∀ (n : Nat) {l : List α} {m : List β}, PySem.Paired F l m → PySem.Paired F (l.take n) (m.take n)
  | 0, _, _, _ => .nil
  | n + 1, _, _, .nil => .nil
  | n + 1, _, _, .cons r t => .cons r (Paired.take n t)
theorem Paired.drop {α β : Type} {F : α → β → Prop} : ∀ (n : Nat) {l : List α} {m : List β}, PySem.Paired F l m → PySem.Paired F (l.drop n) (m.drop n)
  | 0, _, _, h => h
  | n + 1, _, _, .nil => .nil
  | n + 1, _, _, .cons _ t => Paired.drop n t
theorem Paired.len {α β : Type} {F : α → β → Prop} : ∀ {l : List α} {m : List β}, PySem.Paired F l m → l.length = m.length
  | _, _, .nil => rfl
  | _, _, .cons _ t => congrArg (· + 1) (Paired.len t)
theorem Paired.at {α β : Type} {F : α → β → Prop} : ∀ {l : List α} {m : List β} {i : Nat} {a : α}, PySem.Paired F l m → l[i]? = some a → ∃ b, m[i]? = some b ∧ F a b
  | _, _, i, _, .nil, h => by simp at h
  | _, _, 0, a, .cons r _, h => by
    have e := Option.some.inj h
    subst e
    exact ⟨_, rfl, r⟩
  | _, _, i + 1, a, .cons _ t, h => Paired.at (i := i) t h
theorem Paired.at' {α β : Type} {F : α → β → Prop} : ∀ {l : List α} {m : List β} {i : Nat} {b : β}, PySem.Paired F l m → m[i]? = some b → ∃ a, l[i]? = some a ∧ F a b
  | _, _, i, _, .nil, h => by simp at h
  | _, _, 0, a, .cons r _, h => by
    have e := Option.some.inj h
    subst e
    exact ⟨_, rfl, r⟩
  | _, _, i + 1, a, .cons _ t, h => Paired.at' (i := i) t h
theorem tie_dp (h : TieAt K H x p) : Dp K H x (tieD p) := by
  obtain ⟨t, rfl, s⟩ := h
  exact .tup s (.cons (.int _) (.cons (.int _) .nil))
theorem ties_dp : ∀ {xs : List V} {ts : List Tie}, Ties K H xs ts → DpAll K H xs (ts.map tieD)
  | _, _, .nil => .nil
  | _, _, .cons r t => .cons (tie_dp r) (ties_dp t)
theorem dp_tie (h : Dp K H x (tieD p)) : TieAt K H x p := by
  cases h with
  | tup s a =>
    cases a with
    | cons h1 a =>
      cases a with
      | cons h2 a =>
        cases a
        cases h1
        cases h2
        exact ⟨_, rfl, s⟩
theorem dp_ties : ∀ {ts : List Tie} {xs : List V}, DpAll K H xs (ts.map tieD) → Ties K H xs ts
  | [], _, h => by cases h; exact .nil
  | p :: ts, _, h => by
    cases h with
    | cons h1 h2 => exact .cons (dp_tie h1) (dp_ties h2)
end
/-! ### a web -/
structure WebOk (n : Nat) (ts : List Tie) : Prop where
  size : 1 ≤ n ∧ n ≤ 10
  nodup : ts.Nodup
  ok : ∀ p ∈ ts, p.1 < p.2 ∧ p.2 < n
def allTies (n : Nat) : List Tie := (List.range n).flatMap fun j => (List.range j).map fun i => (i, j)
theorem mem_allTies {n : Nat} {p : Tie} : p ∈ allTies n ↔ p.1 < p.2 ∧ p.2 < n := by
  obtain ⟨i, j⟩ := p
  simp only [allTies, List.mem_flatMap, List.mem_map, List.mem_range, Prod.mk.injEq]
  constructor
  · rintro ⟨a, ha, b, hb, rfl, rfl⟩
    exact ⟨hb, ha⟩
  · rintro ⟨h1, h2⟩
    exact ⟨j, h2, i, h1, rfl, rfl⟩
theorem sub_len {α : Type} [DecidableEq α] : ∀ {l m : List α}, l.Nodup → (∀ x ∈ l, x ∈ m) → l.length ≤ m.length
  | [], _, _, _ => Nat.zero_le _
  | a :: l, m, hn, hs => by
    have ha : a ∈ m := hs a List.mem_cons_self
    have hn' := List.nodup_cons.mp hn
    have h : l.length ≤ (m.erase a).length := sub_len hn'.2 fun x hx => by
      have hxa : x ≠ a := fun z => hn'.1 (z ▸ hx)
      exact (List.mem_erase_of_ne hxa).mpr (hs x (List.mem_cons_of_mem _ hx))
    rw [List.length_erase_of_mem ha] at h
    have : 0 < m.length := List.length_pos_of_mem ha
    simp only [List.length_cons]
    omega
theorem WebOk.len {n : Nat} {ts : List Tie} (h : WebOk n ts) : ts.length ≤ 45 := by
  have h1 : ts.length ≤ (allTies n).length := sub_len h.nodup fun p hp => mem_allTies.mpr (h.ok p hp)
  have h2 : (allTies n).length ≤ 45 := by
    have h3 : ∀ m ∈ List.range 11, (allTies m).length ≤ 45 := by decide
    exact h3 n (List.mem_range.mpr (by have := h.size; omega))
  omega
theorem WebOk.perm {n : Nat} {ts us : List Tie} (h : WebOk n ts) (p : us.Perm ts) : WebOk n us := ⟨h.size, p.nodup_iff.mpr h.nodup, fun x hx => h.ok x (p.mem_iff.mp hx)⟩
theorem rot_perm {α : Type} (l : List α) (k : Nat) : (l.drop k ++ l.take k).Perm l := by
  have h := List.perm_append_comm (l₁ := l.drop k) (l₂ := l.take k)
  rw [List.take_append_drop] at h
  exact h
/-- how many ties a point is in -/
def inTie (q : Nat) (p : Tie) : Bool := decide (p.1 = q) || decide (p.2 = q)
def deg (ts : List Tie) (q : Nat) : Nat := (ts.filter (inTie q)).length
def degs (n : Nat) (ts : List Tie) : List Nat := (List.range n).map (deg ts)
def degsI (n : Nat) (ts : List Tie) : List Int := (List.range n).map fun q => (deg ts q : Int)
theorem deg_le {n : Nat} {ts : List Tie} (h : WebOk n ts) (q : Nat) : deg ts q ≤ 9 := by
  have h3 : ∀ m ∈ List.range 11, ∀ q ∈ List.range 10, ((allTies m).filter (inTie q)).length ≤ 9 := by decide
  have h1 : deg ts q ≤ ((allTies n).filter (inTie q)).length := sub_len (h.nodup.filter _) fun p hp => by
    obtain ⟨a, b⟩ := List.mem_filter.mp hp
    exact List.mem_filter.mpr ⟨mem_allTies.mpr (h.ok p a), b⟩
  by_cases hq : q < 10
  · exact Nat.le_trans h1 (h3 n (List.mem_range.mpr (by have := h.size; omega)) q (List.mem_range.mpr hq))
  · have e : ts.filter (inTie q) = [] := by
      rw [List.filter_eq_nil_iff]
      intro p hp z
      have h4 := h.ok p hp
      have h5 := h.size
      unfold inTie at z
      simp only [Bool.or_eq_true, decide_eq_true_eq] at z
      omega
    unfold deg
    rw [e]
    exact Nat.zero_le _
/-- counts -/
structure CountsOk (cs : List Int) : Prop where
  len : 1 ≤ cs.length ∧ cs.length ≤ 10
  ok : ∀ c ∈ cs, 0 ≤ c ∧ c ≤ 20
theorem degsI_ok {n : Nat} {ts : List Tie} (h : WebOk n ts) : CountsOk (degsI n ts) := by
  refine ⟨?_, fun c hc => ?_⟩
  · unfold degsI
    rw [List.length_map, List.length_range]
    exact h.size
  · unfold degsI at hc
    obtain ⟨q, _, rfl⟩ := List.mem_map.mp hc
    have := deg_le h q
    omega
theorem CountsOk.set {cs : List Int} (h : CountsOk cs) {j : Nat} {c : Int} (hc : 0 ≤ c ∧ c ≤ 20) : CountsOk (cs.set j c) := by
  refine ⟨by rw [List.length_set]; exact h.len, fun x hx => ?_⟩
  rcases List.mem_or_eq_of_mem_set hx with z | z
  · exact h.ok x z
  · rw [z]
    exact hc
/-! ### slices -/
theorem cut_from (xs : List V) {n : Nat} (h : n ≤ xs.length) : cutV xs (some (n : Int)) none = xs.drop n := by
  unfold cutV
  rw [HT.sIx_nat, HT.sIx_none, Nat.min_eq_left h]
  exact List.take_of_length_le (by rw [List.length_drop]; exact Nat.le_refl _)
theorem cut_to (xs : List V) {n : Nat} (h : n ≤ xs.length) : cutV xs none (some (n : Int)) = xs.take n := by
  unfold cutV
  rw [HT.sIx_nat, HT.sIx_none, Nat.min_eq_left h, List.drop_zero, Nat.sub_zero]
section
variable {K : PySem.W.Frag} {σ : L2.St} {H H' : Hp} {ta tb te tl : TE} {t : TT} {x y v : V} {D : Ends} {tz : TS}
/-- new lists: one behind the other -/
theorem el_cat {xs ys : List V} (ha : EvL ta σ H xs) (hb : EvL tb σ H ys) (hz : xs.length + ys.length ≤ 100000) : EvL (tOp rCat ta tb) σ H (xs ++ ys) := fun H1 e Q q =>
  ha H1 e _ fun p H2 hp e2 h2 => hb H2 (e.trans e2) _ fun u H3 hu e3 h3 => ⟨p, u, xs, ys, rfl, rfl, e3 p _ h2, h3, sz_of hz, fun l hl => q l _ (fresh_back (e2.trans e3) hl) ((e2.trans e3).trans (Ex.new hl)) upd_same⟩
/-- (x, a new list) -/
theorem eg_tup2 {xs : List V} (ha : Ev ta σ H x) (hb : EvL tb σ H xs) : EvG (tTup (tCons ta (tCons tb tNil))) σ H fun H1 w H2 => ∃ q p, w = .ref q ∧ H1 q = none ∧ H1 p = none ∧ H2 q = some (.tup [x, .ref p]) ∧ H2 p = some (.lst xs) := fun H1 e Q q =>
  ha H1 e _ fun H2 e2 => hb H2 (e.trans e2) _ fun p H3 hp e3 h3 => ⟨by show 2 ≤ sizeLine; decide, fun u hu => q (.ref u) _ ((e2.trans e3).trans (Ex.new hu)) ⟨u, p, rfl, fresh_back (e2.trans e3) hu, fresh_back e2 hp, upd_same, by rw [upd_ne (ne_of_none h3 hu)]; exact h3⟩⟩
/-- comprehensions -/
theorem et_yes : EvT tYes σ H true := fun H1 _ _ q => q H1 (Ex.refl H1)
theorem given_all (n : Nat) (v : Nat → V) : given n (fun _ => true) v = (List.range n).map v := by
  unfold given
  rw [List.filter_eq_self.mpr (fun _ _ => rfl)]
theorem range_filter {α : Type} (g : α → Bool) (f : α → V) : ∀ (l : List α) (d : α), given l.length (fun i => g (l.getD i d)) (fun i => f (l.getD i d)) = (l.filter g).map f := by
  intro l d
  unfold given
  induction l with
  | nil => rfl
  | cons a l ih =>
    rw [List.length_cons, List.range_succ_eq_map, List.filter_cons, List.filter_map]
    have e0 : ((a :: l).getD 0 d) = a := rfl
    have e1 : ((fun i => g ((a :: l).getD i d)) ∘ Nat.succ) = fun i => g (l.getD i d) := rfl
    have e2 : ∀ is : List Nat, (is.map Nat.succ).map (fun i => f ((a :: l).getD i d)) = is.map (fun i => f (l.getD i d)) := fun is => by
      rw [List.map_map]
      rfl
    rw [e0, e1, List.filter_cons]
    cases hg : g a with
    | true =>
      rw [if_pos rfl, if_pos rfl, List.map_cons, List.map_cons, e2, ih]
      rfl
    | false =>
      rw [if_neg (by decide), if_neg (by decide), e2, ih]

theorem ev_lenL {xs : List V} (ha : EvL ta σ H xs) : Ev (tCB (rLenQ K) (tCons ta tNil)) σ H (.int (xs.length : Int)) := fun H1 e Q q =>
  ha H1 e _ fun p H2 _ e2 h2 => ⟨p, xs, rfl, .inl (sq_of h2), q H2 e2⟩
/-- a, b = a tuple of two -/
theorem q_asg2 {i j : Nat} {P : Hp → V → Hp → Prop} (h : EvG te σ H P) (k : ∀ v H1, Ex H H1 → P H v H1 → ∃ t x y, v = .ref t ∧ SqT K H1 t [x, y] ∧ tz D ((σ.set i (some x)).set j (some y)) H1) : tSeq (tAsg te (gTup K 2 (gCons (gName i) (gCons (gName j) gNil)))) tz D σ H :=
  h H (Ex.refl H) _ fun v H1 e p => by
    obtain ⟨t, x, y, rfl, hs, hk⟩ := k v H1 e p
    exact ⟨t, [x, y], rfl, hs, rfl, x, [y], rfl, y, [], rfl, rfl, hk⟩
theorem range_map {α : Type} (f : α → V) (l : List α) (d : α) : given l.length (fun _ => true) (fun i => f (l.getD i d)) = l.map f := by
  have h := range_filter (fun _ => true) f l d
  rw [List.filter_eq_self.mpr (fun _ _ => rfl)] at h
  exact h
/-- sorted(.., reverse=True) -/
theorem eg_sortedRev {p : Addr} {ns : List Int} (ha : Ev ta σ H (.ref p)) (hS : SqL K H p (ns.map V.int)) : EvG (tCKw (rSortedKw K true [.bl true]) (tCons ta tNil) (tCons (tC (.bl true)) tNil)) σ H
    fun H1 v H2 => ∃ (fs : List Int) (q : Addr), v = .ref q ∧ H1 q = none ∧ fs.Perm ns ∧ fs.Pairwise (· ≥ ·) ∧ H2 q = some (.lst (fs.map V.int)) := fun H1 e Q q =>
  ha H1 e _ fun H2 e2 => ⟨p, ns, rfl, rfl, ex_l (e.trans e2) hS, fun fs u h1 h2 hu => q _ _ (e2.trans (Ex.new hu)) ⟨fs, u, rfl, fresh_back e2 hu, h1, h2, upd_same⟩⟩
/-- sum(a new list) -/
theorem ev_sumL {ns : List Int} (ha : EvL ta σ H (ns.map V.int)) : Ev (tCB (rSum K) (tCons ta tNil)) σ H (.int ns.sum) := fun H1 e Q q =>
  ha H1 e _ fun p H2 _ e2 h2 => ⟨p, ns, rfl, sq_of h2, q H2 e2⟩
/-- an expression statement, by its reading -/
theorem q_dropC (h : te σ H fun _ H1 => tz D σ H1) : tSeq (tDrop te) tz D σ H := h
/-- max(a list of ints) -/
theorem eg_max {p : Addr} {ns : List Int} (ha : Ev ta σ H (.ref p)) (hS : SqL K H p (ns.map V.int)) (h0 : 0 < ns.length) : EvG (tCB (rMax K) (tCons ta tNil)) σ H fun _ v _ => ∃ g, v = .int g ∧ g ∈ ns ∧ ∀ y ∈ ns, y ≤ g := fun H1 e Q q =>
  ha H1 e _ fun H2 e2 => ⟨p, ns, rfl, ex_l (e.trans e2) hS, h0, fun m h1 h2 => q _ H2 e2 ⟨m, rfl, h1, h2⟩⟩
/-- xs.remove(k) -/
theorem s_rem {l : Addr} {ns : List Int} {k : Int} {j : Nat} (hl : H l = some (.lst (ns.map V.int))) (ha : Ev ta σ H (.ref l)) (h : Ev te σ H (.int k)) (hj : ns[j]? = some k) (hn : ∀ m : Nat, m < j → ns[m]? ≠ some k) (kk : ∀ H1, Ex H H1 → D.nx σ (upd H1 l (.lst ((ns.eraseIdx j).map V.int)))) :
    tDrop (tBM K "list" rRemI ta (tCons te tNil)) D σ H := ha H (Ex.refl H) _ fun H1 e1 =>
  ⟨Or.inl ⟨rfl, _, sq_of (e1 l _ hl)⟩, h H1 e1 _ fun H2 e2 => ⟨l, ns, k, j, rfl, rfl, e2 l _ (e1 l _ hl), hj, hn, kk H2 (e1.trans e2)⟩⟩
/-! a display whose items all are of one kind -/
def EvGA (ta : TA) (σ : L2.St) (H : Hp) (n : Nat) (G : V → Hp → Prop) : Prop := ∀ H1, Ex H H1 → ∀ Q : List V → Hp → Prop, (∀ vs H2, Ex H1 H2 → vs.length = n → (∀ x ∈ vs, G x H2) → Q vs H2) → ta σ H1 Q
abbrev EvGX (te : TE) (σ : L2.St) (H : Hp) (G : V → Hp → Prop) : Prop := EvG te σ H fun _ x H2 => G x H2
theorem ga_nil {G : V → Hp → Prop} : EvGA tNil σ H 0 G := fun H1 _ _ q => q [] H1 (Ex.refl H1) rfl fun _ h => (by cases h)
theorem ga_cons {G : V → Hp → Prop} {n : Nat} {tr : TA} (mono : ∀ x H1 H2, Ex H1 H2 → G x H1 → G x H2) (h : EvGX te σ H G) (hr : EvGA tr σ H n G) : EvGA (tCons te tr) σ H (n + 1) G := fun H1 e Q q =>
  h H1 e _ fun x H2 e2 hx => hr H2 (e.trans e2) _ fun vs H3 e3 hl hv => q (x :: vs) H3 (e2.trans e3) (by rw [List.length_cons, hl]) fun y hy => by
    rcases List.mem_cons.mp hy with z | z
    · rw [z]
      exact mono x H2 H3 e3 hx
    · exact hv y z
theorem gx_ev {G : V → Hp → Prop} (h : Ev te σ H v) (g : ∀ H1, Ex H H1 → G v H1) : EvGX te σ H G := fun H1 e Q q => h H1 e Q fun H2 e2 => q v H2 e2 (g H2 (e.trans e2))
theorem gx_L {G : V → Hp → Prop} {xs : List V} (h : EvL te σ H xs) (g : ∀ p H1, Ex H H1 → H1 p = some (.lst xs) → G (.ref p) H1) : EvGX te σ H G := fun H1 e Q q => h H1 e Q fun p H2 _ e2 h2 => q (.ref p) H2 e2 (g p H2 (e.trans e2) h2)
theorem gx_U {G : V → Hp → Prop} {xs : List V} (h : EvU te σ H xs) (g : ∀ p H1, Ex H H1 → H1 p = some (.tup xs) → G (.ref p) H1) : EvGX te σ H G := fun H1 e Q q => h H1 e Q fun p H2 _ e2 h2 => q (.ref p) H2 e2 (g p H2 (e.trans e2) h2)
theorem gx_dict {G : V → Hp → Prop} (g : ∀ p H1, Ex H H1 → H1 p = some (.dK []) → G (.ref p) H1) : EvGX tDNewK σ H G := fun H1 e Q q p hp => q (.ref p) _ (Ex.new hp) (g p _ (e.trans (Ex.new hp)) upd_same)
/-- one of them, by an index in bounds -/
theorem gx_menu {G : V → Hp → Prop} {n : Nat} {i : Int} {ta : TA} (mono : ∀ x H1 H2, Ex H1 H2 → G x H1 → G x H2) (h : EvGA ta σ H n G) (hi : Ev tb σ H (.int i)) (h0 : 0 ≤ i) (hn : i < (n : Int)) (hz : n ≤ 1000) : EvGX (tOp (rIxL K) (tLst ta) tb) σ H G := fun H1 e Q q =>
  h H1 e _ fun vs H2 e2 hl hv => ⟨by rw [hl]; exact sz_of (by omega), fun p hp => hi _ ((e.trans e2).trans (Ex.new hp)) _ fun H3 e3 => by
    have hlt : i.toNat < vs.length := by omega
    have h3 := e3 p _ (upd_same (H := H2) (a := p) (o := .lst vs))
    exact ⟨p, vs, i, vs[i.toNat], rfl, rfl, SqL.of h3, at_of (j := i.toNat) (by omega) (List.getElem?_eq_getElem hlt), q _ H3 ((e2.trans (Ex.new hp)).trans e3) (mono _ H2 H3 ((Ex.new hp).trans e3) (hv _ (List.getElem_mem hlt)))⟩⟩
/-- xs * k -/
theorem el_rep {p : Addr} {xs : List V} {k : Int} (ha : Ev ta σ H (.ref p)) (hb : Ev tb σ H (.int k)) (hp : H p = some (.lst xs)) (h0 : 0 ≤ k ∧ k < 1000) (hz : xs.length * k.toNat ≤ 100000) : EvL (tOp rRep ta tb) σ H (List.replicate k.toNat xs).flatten := fun H1 e Q q =>
  ha H1 e _ fun H2 e2 => hb H2 (e.trans e2) _ fun H3 e3 => ⟨p, k, xs, rfl, rfl, ((e.trans e2).trans e3) _ _ hp, by omega, by omega, sz_of hz, fun l hl => q l _ (fresh_back (e2.trans e3) hl) ((e2.trans e3).trans (Ex.new hl)) upd_same⟩
/-- tuple(a list) -/
theorem eu_tuple {p : Addr} {xs : List V} (ha : Ev ta σ H (.ref p)) (hS : SqL K H p xs) : EvU (tCB (rTupQ K) (tCons ta tNil)) σ H xs := fun H1 e Q q =>
  ha H1 e _ fun H2 e2 => ⟨p, xs, rfl, .inl ⟨ex_l (e.trans e2) hS, fun l hl => q l _ (fresh_back e2 hl) (e2.trans (Ex.new hl)) upd_same⟩⟩
/-- list(a list) -/
theorem el_listQ {p : Addr} {xs : List V} (ha : Ev ta σ H (.ref p)) (hS : SqL K H p xs) : EvL (tCB (rListQ K) (tCons ta tNil)) σ H xs := fun H1 e Q q =>
  ha H1 e _ fun H2 e2 => ⟨p, xs, rfl, .inl (ex_l (e.trans e2) hS), fun l hl => q l _ (fresh_back e2 hl) (e2.trans (Ex.new hl)) upd_same⟩
theorem el_eq {xs ys : List V} (h : EvL te σ H xs) (e : xs = ys) : EvL te σ H ys := e ▸ h
end
theorem inV_tie (q : Nat) (p : Tie) : inV (.int (q : Int)) (tieV p) = inTie q p := by
  obtain ⟨a, b⟩ := p
  show ((((a : Nat) : Int) == (q : Int)) || ((((b : Nat) : Int) == (q : Int)) || false)) = (decide (a = q) || decide (b = q))
  have e1 : (((a : Nat) : Int) == (q : Int)) = decide (a = q) := by
    by_cases h : a = q
    · rw [decide_eq_true h, h]; simp
    · rw [decide_eq_false h]; exact beq_eq_false_iff_ne.mpr (by omega)
  have e2 : (((b : Nat) : Int) == (q : Int)) = decide (b = q) := by
    by_cases h : b = q
    · rw [decide_eq_true h, h]; simp
    · rw [decide_eq_false h]; exact beq_eq_false_iff_ne.mpr (by omega)
  rw [e1, e2, Bool.or_false]

/-! ### defs that raise (the exception's context None) -/
theorem Fun.okN {P : Program} {w : World} {K : PySem.W.Frag} {mg : Str → Option Value} {base : Heap} {x qual : Str} {st : Stmt} {f : Addr} {fd : FuncData} {N ps : List Str} {k : Nat} {sp : Sp} (F : Fun K x qual st f fd) (S : FnScope N ps (defScope st)) (len : ∀ vs H Q E, sp vs H Q E → vs.length = ps.length)
    (hbody : ∀ (cdv : Value) (A : Around) (outer : List Env) (s : Shared) (H : Hp) (vs : List V) (Q : VK) (E : XK), Room k (A.deeper (envOfC qual (defScope st) s.heap.objs.size f cdv)) → sp vs H Q E →
      ∃ t, PSs (cxOf (L2N.CX P w) P w K mg base N qual (defScope st) f cdv A outer s H E) (defBody st) t ∧ t { nx := fun _ H' => Q .non H', rt := Q } (start N vs) H) : FnOk P w K mg base (L2N.CX P w) (k + 1) f fd ps sp := by
  obtain ⟨oc, od, kV, doc, pm, an, cdv, ct, osl, rfl, lk, hcd⟩ := F.ex
  exact fn_of lk hcd S len (fun A outer s H vs Q E hr hsp => hbody cdv A outer s H vs Q E hr hsp)
/-- a thing of a known kind -/
def Thing (K : PySem.W.Frag) (H : Hp) (x : V) : Prop := ∃ T, TyB K H x T ∧ T ∈ metaT
theorem Thing.ex {K : PySem.W.Frag} {H H' : Hp} {x : V} (e : Ex H H') (h : Thing K H x) : Thing K H' x := let ⟨T, a, b⟩ := h; ⟨T, TyB.ex e a, b⟩
theorem Thing.int {K : PySem.W.Frag} {H : Hp} (i : Int) : Thing K H (.int i) := ⟨"int", .int i, by decide⟩
theorem TyB.ix {K : PySem.W.Frag} {H : Hp} {x : V} {T : String} (h : TyB K H x T) : x = x := rfl

/-! ### falling lists -/
def minI (m c : Int) : Int := if m < c then m else c
theorem desc_eq : ∀ {l m : List Int}, l.Pairwise (· ≥ ·) → m.Pairwise (· ≥ ·) → l.Perm m → l = m
  | [], m, _, _, h => (List.Perm.nil_eq h)
  | a :: l, [], _, _, h => absurd h.length_eq (by simp)
  | a :: l, b :: m, h1, h2, h => by
    have p1 := List.pairwise_cons.mp h1
    have p2 := List.pairwise_cons.mp h2
    have ha : a ∈ b :: m := h.mem_iff.mp List.mem_cons_self
    have hb : b ∈ a :: l := h.mem_iff.mpr List.mem_cons_self
    have e : a = b := by
      rcases List.mem_cons.mp ha with z | z
      · exact z
      · rcases List.mem_cons.mp hb with y | y
        · exact y.symm
        · have k1 := p2.1 a z
          have k2 := p1.1 b y
          omega
    subst e
    rw [desc_eq p1.2 p2.2 (List.Perm.cons_inv h)]
theorem sum_perm : ∀ {l m : List Int}, l.Perm m → l.sum = m.sum := fun h => by
  induction h with
  | nil => rfl
  | cons x _ ih => rw [List.sum_cons, List.sum_cons, ih]
  | swap x y l =>
    rw [List.sum_cons, List.sum_cons, List.sum_cons, List.sum_cons]
    omega
  | trans _ _ h1 h2 => rw [h1, h2]
def ins (a : Int) : List Int → List Int
  | [] => [a]
  | b :: l => if b ≤ a then a :: b :: l else b :: ins a l
def isort : List Int → List Int
  | [] => []
  | a :: l => ins a (isort l)
theorem ins_perm (a : Int) : ∀ l : List Int, (ins a l).Perm (a :: l)
  | [] => .refl _
  | b :: l => by
    unfold ins
    split
    · exact .refl _
    · exact (List.Perm.cons b (ins_perm a l)).trans (List.Perm.swap a b l)
theorem isort_perm : ∀ l : List Int, (isort l).Perm l
  | [] => .refl _
  | a :: l => (ins_perm a _).trans (List.Perm.cons a (isort_perm l))
theorem ins_desc (a : Int) : ∀ {l : List Int}, l.Pairwise (· ≥ ·) → (ins a l).Pairwise (· ≥ ·)
  | [], _ => List.pairwise_singleton _ _
  | b :: l, h => by
    have p := List.pairwise_cons.mp h
    unfold ins
    split
    · rename_i hba
      refine List.pairwise_cons.mpr ⟨fun x hx => ?_, h⟩
      rcases List.mem_cons.mp hx with z | z
      · rw [z]; exact hba
      · exact Int.le_trans (p.1 x z) hba
    · rename_i hba
      refine List.pairwise_cons.mpr ⟨fun x hx => ?_, ins_desc a p.2⟩
      rcases List.mem_cons.mp ((ins_perm a l).mem_iff.mp hx) with z | z
      · rw [z]; show a ≤ b; omega
      · exact p.1 x z
theorem isort_desc : ∀ l : List Int, (isort l).Pairwise (· ≥ ·)
  | [] => List.Pairwise.nil
  | a :: l => ins_desc a (isort_desc l)
/-- the greatest taken again and again are the head of the falling list -/
theorem taken_eq {cs fs rs left : List Int} (h1 : fs.Perm cs) (h2 : fs.Pairwise (· ≥ ·)) (h3 : (rs ++ left).Perm cs) (h4 : rs.Pairwise (· ≥ ·)) (h5 : ∀ x ∈ rs, ∀ y ∈ left, x ≥ y) :
    rs = fs.take rs.length ∧ left.Perm (fs.drop rs.length) := by
  have hp : (rs ++ isort left).Perm fs := ((List.Perm.append_left rs (isort_perm left)).trans h3).trans h1.symm
  have hd : (rs ++ isort left).Pairwise (· ≥ ·) := List.pairwise_append.mpr ⟨h4, isort_desc left, fun x hx y hy => h5 x hx y ((isort_perm left).mem_iff.mp hy)⟩
  have e := desc_eq hd h2 hp
  rw [← e]
  refine ⟨?_, ?_⟩
  · rw [List.take_left]
  · rw [List.drop_left]
    exact (isort_perm left).symm

/-! ### the first place of an item -/
theorem first_at {k : Int} : ∀ {ns : List Int}, k ∈ ns → ∃ j : Nat, ns[j]? = some k ∧ (∀ m : Nat, m < j → ns[m]? ≠ some k) ∧ (k :: ns.eraseIdx j).Perm ns
  | [], h => by cases h
  | a :: ns, h => by
    by_cases e : a = k
    · subst e
      exact ⟨0, rfl, fun m hm => absurd hm (Nat.not_lt_zero m), .refl _⟩
    · have hk : k ∈ ns := (List.mem_cons.mp h).resolve_left fun z => e z.symm
      obtain ⟨j, h1, h2, h3⟩ := first_at hk
      refine ⟨j + 1, h1, fun m hm => ?_, ?_⟩
      · cases m with
        | zero =>
          intro z
          exact e (Option.some.inj z)
        | succ m => exact h2 m (by omega)
      · show (k :: a :: ns.eraseIdx j).Perm (a :: ns)
        exact (List.Perm.swap a k _).trans (List.Perm.cons a h3)
end Z
set_option Elab.async false
set_option linter.all false
set_option maxRecDepth 100000
set_option maxHeartbeats 4000000
/-! LAYHOT: while an exception is handled: the end of a list's and a tuple's iterator, unpacking, a list comprehension over a list, a def that is handed the exception. -/
namespace ZH
open PySem PySem.Spec PyProof.Rows L2 HotX
section
variable {prog : Program} {w : World} {A : Around} {E : Value → Shared → Prop} {s : Shared} {x1 it l : Addr} {i : Nat} {items : Array Value}
theorem list_end {Q : Option Value → Shared → Prop} (hot : HotAt A x1 s.heap) (hit : s.heap.IsListIter it l i) (hl : s.heap.IsList l items) (hx : items[i]? = none)
    (hQ : ∀ h', Heap.ExtBut it s.heap h' → Q none { s with heap := h' }) : wpAny (model prog w) A (pyNext (.ref it)) Q E s := by
  obtain ⟨o, ho, hc, hd⟩ := id hit
  obtain ⟨ol, hol, _, nl, hdl⟩ := hl
  obtain ⟨hh, o1, vs1, g1, d1, c1⟩ := hot
  have nx : x1 ≠ it := fun z => by
    subst z
    rw [ho] at g1
    cases g1
    rw [hd] at d1
    cases d1
    cases c1
  unfold pyNext
  have entry := PySem.entry_listiter_next
  refine wpAny_bind (wpAny_attempt (wpAny_callSpecial?_slot (name := Str.ofString "__next__") hit.typeIs slot_listiter_next (wpAny_call_entry slot_listiter_next hit.typeIs entry ?_ (args_listiter_next _))))
  show wpAny _ _ (field (.ref it) 0 >>= _) _ _ s
  refine wpAny_bind (wpAny_field ho hd (x := .ref l) rfl ?_)
  show wpAny _ _ (if (Value.ref l == Value.none) = true then _ else _) _ _ s
  rw [if_neg (by exact Bool.false_ne_true)]
  show wpAny _ _ (field (.ref it) 1 >>= _) _ _ s
  refine wpAny_bind (wpAny_field ho hd (x := .int i 0) rfl ?_)
  show wpAny _ _ (seqItems? (.ref l) >>= _) _ _ s
  refine wpAny_bind (wpAny_seqItems hol hdl ?_)
  simp only [Int.toNat_natCast, hx]
  refine wpAny_bind (wpAny_rule (wpAny_bind (wpAny_setField ho hd (by simp) ?_)))
  show wpAny _ _ (newExc (.type "StopIteration") [] >>= _) _ _ _
  refine wpAny_bind ?_
  simp only [newExc, newTuple]
  refine wpAny_bind (wpAny_newObj_type ?_ (by size_fits))
  refine wpAny_bind (m := firstArgMember _ _) (wpAny_of_eq (a := Value.none) (by first | rfl | (simp only [firstArgMember]; rfl)) ?_)
  refine wpAny_newObj_type ?_ (by size_fits)
  have gx := (Heap.get?_update_other s.heap (Obj.mapFields (·.setIfInBounds 0 Value.none)) (Ne.symm nx)).trans g1
  refine raiseNew_hot ⟨hh, o1, vs1, Heap.get?_push_of_some _ (Heap.get?_push_of_some _ gx), d1, c1⟩ (Nat.ne_of_lt (Heap.lt_size (Heap.get?_push_of_some _ gx))) (Heap.get?_push_size _ rfl) rfl (by first | (simp; done) | (simp; omega) | (simp only [Array.size_append]; simp; omega)) ?_
  refine wpAny_bind (wpAny_isInstance (T := "StopIteration") (b := true) ⟨_, Heap.get?_update_self _ (Heap.get?_push_size _ rfl) rfl, rfl⟩ isSubtype_stop ?_)
  refine wpAny_pure (hQ _ fun b u hb e => ?_)
  have gb := (Heap.get?_update_other s.heap (Obj.mapFields (·.setIfInBounds 0 Value.none)) (Ne.symm hb)).trans e
  rw [Heap.get?_update_other _ _ (Nat.ne_of_gt (Heap.lt_size (Heap.get?_push_of_some _ gb)))]
  exact Heap.get?_push_of_some _ (Heap.get?_push_of_some _ gb)
theorem tup_end {Q : Option Value → Shared → Prop} {t : Addr} (hot : HotAt A x1 s.heap) (hit : IsTupIter s.heap it t i) (ht : IsTup s.heap t items) (hx : items[i]? = none)
    (hQ : ∀ h', Heap.ExtBut it s.heap h' → Q none { s with heap := h' }) : wpAny (model prog w) A (pyNext (.ref it)) Q E s := by
  obtain ⟨o, ho, hc, hd⟩ := id hit
  obtain ⟨ol, hol, _, nl, hdl⟩ := ht
  obtain ⟨hh, o1, vs1, g1, d1, c1⟩ := hot
  have nx : x1 ≠ it := fun z => by
    subst z
    rw [ho] at g1
    cases g1
    rw [hd] at d1
    cases d1
    cases c1
  unfold pyNext
  refine wpAny_bind (wpAny_attempt (wpAny_callSpecial?_slot (name := Str.ofString "__next__") hit.typeIs slot_tupleiter_next (wpAny_call_entry slot_tupleiter_next hit.typeIs entry_tupleiter_next ?_ (args_tupleiter_next _))))
  show wpAny _ _ (field (.ref it) 0 >>= _) _ _ s
  refine wpAny_bind (wpAny_field ho hd (x := .ref t) rfl ?_)
  show wpAny _ _ (if (Value.ref t == Value.none) = true then _ else _) _ _ s
  rw [if_neg (by exact Bool.false_ne_true)]
  show wpAny _ _ (field (.ref it) 1 >>= _) _ _ s
  refine wpAny_bind (wpAny_field ho hd (x := .int i 0) rfl ?_)
  show wpAny _ _ (seqItems? (.ref t) >>= _) _ _ s
  refine wpAny_bind (wpAny_seqItems hol hdl ?_)
  simp only [Int.toNat_natCast, hx]
  refine wpAny_bind (wpAny_rule (wpAny_bind (wpAny_setField ho hd (by simp) ?_)))
  show wpAny _ _ (newExc (.type "StopIteration") [] >>= _) _ _ _
  refine wpAny_bind ?_
  simp only [newExc, newTuple]
  refine wpAny_bind (wpAny_newObj_type ?_ (by size_fits))
  refine wpAny_bind (m := firstArgMember _ _) (wpAny_of_eq (a := Value.none) (by first | rfl | (simp only [firstArgMember]; rfl)) ?_)
  refine wpAny_newObj_type ?_ (by size_fits)
  have gx := (Heap.get?_update_other s.heap (Obj.mapFields (·.setIfInBounds 0 Value.none)) (Ne.symm nx)).trans g1
  refine raiseNew_hot ⟨hh, o1, vs1, Heap.get?_push_of_some _ (Heap.get?_push_of_some _ gx), d1, c1⟩ (Nat.ne_of_lt (Heap.lt_size (Heap.get?_push_of_some _ gx))) (Heap.get?_push_size _ rfl) rfl (by first | (simp; done) | (simp; omega) | (simp only [Array.size_append]; simp; omega)) ?_
  refine wpAny_bind (wpAny_isInstance (T := "StopIteration") (b := true) ⟨_, Heap.get?_update_self _ (Heap.get?_push_size _ rfl) rfl, rfl⟩ isSubtype_stop ?_)
  refine wpAny_pure (hQ _ fun b u hb e => ?_)
  have gb := (Heap.get?_update_other s.heap (Obj.mapFields (·.setIfInBounds 0 Value.none)) (Ne.symm hb)).trans e
  rw [Heap.get?_update_other _ _ (Nat.ne_of_gt (Heap.lt_size (Heap.get?_push_of_some _ gb)))]
  exact Heap.get?_push_of_some _ (Heap.get?_push_of_some _ gb)
/-- a tuple's items, all of them -/
theorem unpack_all {t : Addr} {Q : List Value → Shared → Prop} (hot : HotAt A x1 s.heap) (ht : IsTup s.heap t items) (hQ : ∀ h', Heap.ExtBut s.heap.objs.size s.heap h' → Q items.toList { s with heap := h' }) :
    wpAny (model prog w) A (unpackItems (.ref t) items.size none) Q E s := by
  have htn : t ≠ s.heap.objs.size := (let ⟨_, q, _⟩ := ht; Nat.ne_of_lt (Heap.lt_size q))
  obtain ⟨hh, o1, vs1, g1, d1, c1⟩ := hot
  have nx : x1 ≠ s.heap.objs.size := Nat.ne_of_lt (Heap.lt_size g1)
  unfold unpackItems
  refine wpAny_bind ?_
  unfold notIterableAtAll
  refine wpAny_bind (wpAny_specialOf ht.typeIs slot_tuple_iter.lookup (wpAny_pure ?_))
  simp only [Bool.false_eq_true, if_false]
  refine wpAny_bind (wpAny_holding (iter_tuple ht (wpAny_bind (wpAny_holding (draw_tuple htn items.size 0 _ _ ⟨_, Heap.get?_push_size _ rfl, rfl, rfl⟩ (ht.push _) (by omega) fun k ki ks => ?_)))))
  have all : List.take items.size (List.drop 0 items.toList) = items.toList := by
    rw [List.drop_zero, List.take_of_length_le (by simp)]
  rw [all, if_neg (by simp)]
  have kt : IsTup k t items := (ht.push _).extBut ks.extBut htn
  have kx : k.get? x1 = some o1 := ks.extBut x1 o1 nx (Heap.get?_push_of_some _ g1)
  refine wpAny_bind (wpAny_holding (tup_end ⟨hh, o1, vs1, kx, d1, c1⟩ ki kt (by simp) fun k2 ke => ?_))
  simp only [Option.isSome_none, Bool.false_eq_true, if_false]
  exact wpAny_pure (hQ k2 fun b u hb e => ke b u hb (ks.extBut b u hb (Heap.get?_push_of_some _ e)))
end
/-- wherever the context stands, an exception is handled whose context is None -/
def Hot (X : Cx) : Prop := ∀ (pins : List (Addr × Obj)) (σ : L2.St) (H : Hp) (s : Shared), Inv X pins σ H s → ∃ x1, HotAt X.A x1 s.heap
theorem hot_of {X : Cx} (c : L2H.HotC X) : Hot X := fun _ _ _ _ I => c.at I
section
variable {X : Cx} {K : PySem.W.Frag} {pos : Pos}
theorem pg_tupH {es : List Expr} {k : Nat} {t : TGs} {n : Nat} (hc : Hot X) (h : PGs X es t) (hn : (assignEach es X.env).length = n := by rfl) (hst : (assignEach es X.env).findIdx? (·.1) = none := by rfl) (hk : X.K = K := by rfl) : PG X (.Tuple es k pos) (gTup K n t) := by
  subst hk
  refine ⟨fun pins s σ H v u Q I r hw => ?_⟩
  obtain ⟨a, xs, rfl, hq, hl, hw⟩ := hw
  cases r
  obtain ⟨x1, hot⟩ := hc pins σ H s I
  obtain ⟨its, rv, ht, hz⟩ := I.tuple hq
  have hsz : (assignEach es X.env).length = its.toArray.size := by simp [hn, ← hl, rv.length]
  rw [assign_Tuple]
  refine wpAny_bind (wpAny_standAt ?_)
  unfold unpack
  rw [hsz, hst]
  refine wpAny_bind (wpAny_holding (unpack_all hot ht fun h' hx => ?_))
  exact h.run pins _ σ H xs _ Q (I.kept (t' := s.toks) fun b o e => hx b o (Nat.ne_of_lt (Heap.lt_size e)) e) (by simpa using rv) hw
/-- a block that starts where the exception is pinned -/
theorem hot_blk {pins : List (Addr × Obj)} {σ : L2.St} {H : Hp} {s : Shared} {scope : Scope} {cenv : Env} {fp : List Addr} (c : L2H.HotC X) (I : Inv X pins σ H s) (hf : ∀ b ∈ fp, FpOk X pins H b) : Hot (X.blk s H scope cenv fp) := fun pins' σ' H' s' J => by
  obtain ⟨p, ⟨hh, vs, d, c2⟩, hp⟩ := c
  obtain ⟨g, n, nl, nf, nc⟩ := I.pin p (List.mem_append_left _ hp)
  have n1 : p.1 ∉ frs X.stack := fun hm => (List.mem_cons.mp (I.stkSub p.1 hm)).elim nl nf
  have n2 : p.1 ∉ fp := fun hm => (hf p.1 hm).2.2.2.2.2 p (List.mem_append_left _ hp) rfl
  exact ⟨p.1, hh, p.2, vs, J.base.keep p.1 p.2 g n n1 n2, d, c2⟩
end
section
variable {X : Cx} {pins : List (Addr × Obj)} {σ : L2.St} {H : Hp} {s : Shared} {E : Value → Shared → Prop} {a it : Addr} {i : Nat} {tg : Expr}
theorem item_hot (I : Inv X pins σ H s) (hf : FpOk X pins H it) (st : s.heap.IsListIter it a i) (go : (Itl X.K a).go i H) :
    wpAny (model X.prog X.w) X.A (pyNext (.ref it)) (fun r s1 => ∃ u, r = some u ∧ wpAny (model X.prog X.w) X.A (letOwnedTupleGo tg (.ref it) u) (fun _ s2 => ∃ x H', Inv X pins σ H' s2 ∧ RelV x u ∧ (Itl X.K a).yld i H x H' ∧ s2.heap.IsListIter it a (i + 1) ∧ H' it = none) E s1) E s := by
  obtain ⟨xs, x, hq, hx⟩ := go
  obtain ⟨its, rv, p, hz⟩ := I.list hq
  obtain ⟨u, hu, ru⟩ := rv.get hx
  obtain ⟨f0, f1, f2, f3, f4, f5⟩ := hf
  refine wpAny_pyNext_list_item st p.isList (x := u) (by simpa using hu) fun k kt sb => ?_
  have J : Inv X pins σ H { s with heap := k } := I.turned (t' := s.toks) (fun b o hb e => (sb.2 b hb).trans e) f0 f1 f3 f4 f5
  obtain ⟨o, e, c, d⟩ := id kt
  exact ⟨u, rfl, go_of (s := { s with heap := k }) e c d (by decide) ⟨x, H, J, ru, ⟨rfl, fun ys hy => by rw [I.list_inj hy hq]; exact hx⟩, kt, f0⟩⟩
theorem done_hot (hc : Hot X) (I : Inv X pins σ H s) (hf : FpOk X pins H it) (st : s.heap.IsListIter it a i) (stop : (Itl X.K a).stop i H) : wpAny (model X.prog X.w) X.A (pyNext (.ref it)) (fun r s1 => r = none ∧ Inv X pins σ H s1) E s := by
  obtain ⟨xs, hq, hx⟩ := stop
  obtain ⟨x1, hot⟩ := hc pins σ H s I
  obtain ⟨its, rv, p, hz⟩ := I.list hq
  obtain ⟨f0, f1, f2, f3, f4, f5⟩ := hf
  have hl := rv.length
  exact list_end hot st p.isList (by simp; omega) fun k eb => ⟨rfl, I.turned (t' := s.toks) (fun b o hb e => eb b o hb e) f0 f1 f3 f4 f5⟩
end
section
variable {X : Cx}
theorem lc_hot {pins : List (Addr × Obj)} {s : Shared} {σ : L2.St} {H : Hp} {Q : VK} {elt tg l : Expr} {ifs : List Expr} {scope : Scope} {own : List (Str × Nat)} {pos pos' : Pos} {tl : TE} {g : TG} {tt : TT} {te : TE} {use : Option (Value → Sem Unit)} {Qf : Value → Shared → Prop}
    (hc : L2H.HotC X) (hN : X.N.Nodup) (I : Inv X pins σ H s) (hl : PE X l tl) (ok : BlkOk X.N X.env.scope scope own)
    (hg : ∀ (s : Shared) (H : Hp) (C : Addr) (cl : List (Str × Addr)) (fp : List Addr), Hot (X.blk s H scope (compEnvC scope cl C X.env) fp) → PG (X.blk s H scope (compEnvC scope cl C X.env) fp) tg g)
    (ht : ∀ (s : Shared) (H : Hp) (C : Addr) (cl : List (Str × Addr)) (fp : List Addr), Hot (X.blk s H scope (compEnvC scope cl C X.env) fp) → PTs (X.blk s H scope (compEnvC scope cl C X.env) fp) ifs tt)
    (he : ∀ (s : Shared) (H : Hp) (C : Addr) (cl : List (Str × Addr)) (fp : List Addr), Hot (X.blk s H scope (compEnvC scope cl C X.env) fp) → PE (X.blk s H scope (compEnvC scope cl C X.env) fp) elt te) (hs : ∀ x, foldedSetIterable l X.env x = pure x)
    (h : tLc (iList X.K tl) g tt te (own.map (·.2)) σ H Q)
    (fin : ∀ D C s' m H', Inv X pins σ H' s' → Q (.ref D) H' → s'.heap.Ns C m → FpOk X pins H' C → compPost (model X.prog X.w) X.A X.xe use Qf (.ref D) C (.ok .next) s') :
    wpAny (model X.prog X.w) X.A (comprehension (.ListComp elt [⟨tg, l, ifs, 0⟩] scope pos) scope X.env pos' (newList []) false (eval l X.env) use) Qf X.xe s := by
  have fr : ∀ y ∈ scope.names, y.2 = .free → ∃ c, X.env.cells.lookup y.1 = some c := fun y hy e => (ok.free y hy e).elim (fun k => I.ok.has _ (.inl k)) (fun k => I.ok.has _ (.inr k))
  refine wpAny_comprehension_free (use := use) rfl hs (closure_ok fr) ok.kind (fun y hy e => by rw [ok.uniq y hy, e]) (thn (hl.run pins s σ H _ I h) fun v s1 hx => ?_)
  obtain ⟨x, H1, I1, r1, a, ex, ⟨xs, hq⟩, q⟩ := hx
  subst ex
  cases r1
  obtain ⟨its, rv, p, hz⟩ := I1.list hq
  refine wpAny_pyIter_list p.isList ?_
  -- the iterator's object
  generalize hit : s1.heap.objs.size = it
  generalize hs2 : ({ s1 with heap := s1.heap.push { cls := .type "list_iterator", data := .fields #[.ref a, .int 0 0] } } : Shared) = s2
  have I2 : Inv X pins σ H1 s2 := by
    rw [← hs2]
    exact I1.kept (t' := s1.toks) fun b o e => Heap.get?_push_of_some _ e
  have h2 : s2.heap = s1.heap.push { cls := .type "list_iterator", data := .fields #[.ref a, .int 0 0] } := by rw [← hs2]
  have st2 : s2.heap.IsListIter it a 0 := by
    rw [h2, ← hit]
    exact ⟨_, Heap.get?_push_size _ rfl, rfl, rfl⟩
  have f2 : FpOk X pins H1 it := I1.fpOk (by rw [hit]; exact Nat.le_refl _) (I1.hok.fresh (by rw [hit]; exact Nat.le_refl _))
  have lt2 : it < s2.heap.objs.size := (let ⟨_, e, _⟩ := st2; Heap.lt_size e)
  show wpAny _ _ _ _ _ s2
  refine wpAny_newObj_type (newEnv_comp ?_) (by show 0 ≤ sizeLine; decide)
  generalize hD : s2.heap.objs.size = D
  have hDn : H1 D = none := I2.hok.fresh (Nat.le_of_eq hD)
  obtain ⟨W, ⟨m0, w0⟩, turn⟩ := q D hDn
  -- the new list's object
  generalize hs3 : ({ s2 with heap := s2.heap.push { cls := .type "list", data := .seq ([] : List Value).toArray } } : Shared) = s3
  have h3 : s3.heap = s2.heap.push { cls := .type "list", data := .seq ([] : List Value).toArray } := by rw [← hs3]
  have I3 : Inv X pins σ (upd H1 D (.lst [])) s3 := by
    rw [← hs3]
    refine I2.laid (t' := s2.toks) (fun b o e => Heap.get?_push_of_some _ e) (Nat.le_of_eq hD) ⟨Nat.zero_le _, [], 0, .nil, ?_⟩
    rw [← hD]
    exact Heap.get?_push_size _ rfl
  have nD : it ≠ D := by rw [← hD]; exact Nat.ne_of_lt lt2
  have f3 : FpOk X pins (upd H1 D (.lst [])) it := ⟨(upd_ne nD).trans f2.1, f2.2⟩
  have f3' : ∀ b ∈ [it], FpOk X pins (upd H1 D (.lst [])) b ∧ b < s3.heap.objs.size := fun b hb => by
    have e : b = it := by simpa using hb
    rw [e]
    exact ⟨f3, by rw [h3, Heap.size_push]; exact Nat.lt_succ_of_lt lt2⟩
  have st3 : s3.heap.IsListIter it a 0 := st2.at fun o e => by rw [h3]; exact Heap.get?_push_of_some _ e
  have I4 := block_start I3 ok hN f3'
  have hotB : ∀ ce, Hot (X.blk s3 (upd H1 D (.lst [])) scope ce [it]) := fun ce => hot_blk hc I3 fun b hb => (f3' b hb).1
  have pg := hg s3 (upd H1 D (.lst [])) s3.heap.objs.size (cellsFrom (s3.heap.objs.size + 1) scope.names (cloFrom X.env.cells scope.names [])) [it] (hotB _)
  have pt := ht s3 (upd H1 D (.lst [])) s3.heap.objs.size (cellsFrom (s3.heap.objs.size + 1) scope.names (cloFrom X.env.cells scope.names [])) [it] (hotB _)
  have pe := he s3 (upd H1 D (.lst [])) s3.heap.objs.size (cellsFrom (s3.heap.objs.size + 1) scope.names (cloFrom X.env.cells scope.names [])) [it] (hotB _)
  show codeAny _ _ (.compStart (.ListComp elt [⟨tg, l, ifs, 0⟩] scope pos) 0 (.ref it) (.ref D) (compEnvC scope (cellsFrom (s3.heap.objs.size + 1) scope.names (cloFrom X.env.cells scope.names [])) s3.heap.objs.size X.env)) (compPost (model X.prog X.w) X.A X.xe use Qf (.ref D) s3.heap.objs.size) { s3 with heap := pushCells (s3.heap.push { cls := .type "dict", data := .dict #[] }) scope.names }
  generalize hce : compEnvC scope (cellsFrom (s3.heap.objs.size + 1) scope.names (cloFrom X.env.cells scope.names [])) s3.heap.objs.size X.env = ce at I4 pg pt pe ⊢
  have hotC := hotB ce
  have cL : ce.locals = s3.heap.objs.size := by subst hce; rfl
  generalize hH3 : upd H1 D (.lst []) = H3 at I3 I4 pg pt pe w0 f3 f3' hotC
  generalize hs4 : ({ s3 with heap := pushCells (s3.heap.push { cls := .type "dict", data := .dict #[] }) scope.names } : Shared) = s4 at I4 ⊢
  have st4 : s4.heap.IsListIter it a 0 := st3.at fun o e => by rw [← hs4]; exact pushCells_keeps _ _ _ _ (Heap.get?_push_of_some _ e)
  have stat : ∀ {σ' : L2.St} {H' : Hp} {s' : Shared}, Inv (X.blk s3 H3 scope ce [it]) [] σ' H' s' → H' it = none → FpOk (X.blk s3 H3 scope ce [it]) [] H' it := fun {σ' H' s'} J hn =>
    ⟨hn, (J.ok.exf it (by simp)).1, J.ok.exfs it (by simp), .inl (by simp), fun x c e => (J.ok.exf it (by simp)).2 x c e, fun p hp => absurd (show p ∈ ([] : List (Addr × Obj)) ++ [] from hp) (by simp)⟩
  have loop : codeAny (model X.prog X.w) X.A (.compLoop (.ListComp elt [⟨tg, l, ifs, 0⟩] scope pos) 0 (.ref it) (.ref D) ce) (compPost (model X.prog X.w) X.A X.xe use Qf (.ref D) s3.heap.objs.size) s4 := by
    refine compLoop_any (fun n s' => ∃ i H', Inv (X.blk s3 H3 scope ce [it]) [] (wipe σ (own.map (·.2))) H' s' ∧ s'.heap.IsListIter it a i ∧ H' it = none ∧ W i n H') ?_ m0 ⟨0, H3, I4, st4, f3.1, w0⟩
    rintro n s5 ⟨i, H5, I5, st5, n5, w5⟩
    rcases turn i n H5 w5 with ⟨stop, qq⟩ | ⟨go, Nx, hNx, step⟩
    · refine thnF (done_hot (X := X.blk s3 H3 scope ce [it]) (E := fun _ _ => False) hotC I5 (stat I5 n5) st5 stop) fun r s6 ⟨hr, I6⟩ => ?_
      subst hr
      have I7 : Inv X pins σ H5 s6 := I3.call' (ch := [it]) I6.os I6.base I6.hok I6.bare fun b hb => (let z := (f3' b hb).1; ⟨z.2.2.2.1, z.2.1, z.2.2.2.2.1, z.2.2.2.2.2⟩)
      have nC : H5 s3.heap.objs.size = none := by
        rw [← cL]
        exact I6.free
      obtain ⟨m, hn, _⟩ := I6.loc
      exact fin D s3.heap.objs.size s6 m H5 I7 qq (by rw [← cL]; exact hn) (I3.fpOk (Nat.le_refl _) nC)
    · refine thnF (item_hot (X := X.blk s3 H3 scope ce [it]) (E := fun _ _ => False) (tg := tg) I5 (stat I5 n5) st5 go) fun r s6 ⟨u, hr, h6⟩ => ?_
      subst hr
      refine thnF h6 fun _ s7 ⟨x, H7, I7, r7, y7, st7, n7⟩ => ?_
      obtain ⟨o7, e7, c7, d7⟩ := id st7
      have ob7 : ∀ b ∈ [it], ∃ o, s7.heap.get? b = some o ∧ ∀ v, o.data ≠ .cell v := fun b hb => by
        have e : b = it := by simpa using hb
        rw [e]
        exact ⟨o7, e7, fun v z => by rw [d7] at z; cases z⟩
      have I7' := I7.pinned (fp := [it]) (fun b hb => by
        have e : b = it := by simpa using hb
        rw [e]
        exact stat I7 n7) ob7
      refine thnF (pg.run _ s7 _ H7 x u _ I7' r7 (step x H7 y7)) fun _ s8 ⟨σ8, H8, I8, hw8, q8⟩ => ?_
      refine thnF (pt.run _ s8 σ8 H8 _ I8 q8) fun b s9 ⟨H9, I9, q9⟩ => ?_
      have again : ∀ {s' : Shared} {H' : Hp}, Inv (X.blk s3 H3 scope ce [it]) ([] ++ pinsAt [it] s7.heap) σ8 H' s' → Nx H' → ∃ m, m < n ∧ ∃ i H', Inv (X.blk s3 H3 scope ce [it]) [] (wipe σ (own.map (·.2))) H' s' ∧ s'.heap.IsListIter it a i ∧ H' it = none ∧ W i m H' := fun {s' H'} J nx => by
        obtain ⟨m', hm, w'⟩ := hNx H' nx
        have pin := J.pin (it, o7) (List.mem_append_right _ (List.mem_append_right _ (mem_pinsAt (by simp) e7)))
        have len : (wipe σ (own.map (·.2))).length = σ8.length := by rw [← hw8, wipe_length]
        exact ⟨m', hm, i + 1, H', (J.unpinned (pins := [])).weak len (fun j v e => by rw [← hw8] at e; exact (wipe_some e).1), ⟨o7, pin.1, c7, d7⟩, pin.2.1, w'⟩
      cases b with
      | false =>
        simp only [Bool.false_eq_true, if_false] at q9 ⊢
        exact again I9 q9
      | true =>
        simp only [if_true] at q9 ⊢
        refine thnF (pe.run _ s9 σ8 H9 _ I9 q9) fun z s10 ⟨yv, H10, I10, r10, acc, hD10, hz10, nx⟩ => ?_
        exact app_ok (X := X.blk s3 H3 scope ce [it]) I10 hD10 hz10 r10 fun s11 I11 => again I11 nx
  exact codeAny_compStart_list loop (wpAny_pyIter_listiter st4 loop)
end
section
variable {X : Cx}
/-- name = [..] over a list, while an exception is handled -/
theorem ps_setLcH {K : PySem.W.Frag} {i : Nat} {y : Str} {py : Pos} {elt tg l : Expr} {ifs : List Expr} {scope : Scope} {own : List (Str × Nat)} {pos spos : Pos} {tl : TE} {g : TG} {tt : TT} {te : TE} (hc : L2H.HotC X) (hN : X.N.Nodup) (hy : X.N[i]? = some y) (hyl : X.env.scope.names.lookup y = some .local)
    (hsw : swapsWith (.ListComp elt [⟨tg, l, ifs, 0⟩] scope pos) (some (.Name y py)) spos.line X.env = pure true) (hl : PE X l tl) (ok : BlkOk X.N X.env.scope scope own)
    (hg : ∀ (s : Shared) (H : Hp) (C : Addr) (cl : List (Str × Addr)) (fp : List Addr), Hot (X.blk s H scope (compEnvC scope cl C X.env) fp) → PG (X.blk s H scope (compEnvC scope cl C X.env) fp) tg g)
    (ht : ∀ (s : Shared) (H : Hp) (C : Addr) (cl : List (Str × Addr)) (fp : List Addr), Hot (X.blk s H scope (compEnvC scope cl C X.env) fp) → PTs (X.blk s H scope (compEnvC scope cl C X.env) fp) ifs tt)
    (he : ∀ (s : Shared) (H : Hp) (C : Addr) (cl : List (Str × Addr)) (fp : List Addr), Hot (X.blk s H scope (compEnvC scope cl C X.env) fp) → PE (X.blk s H scope (compEnvC scope cl C X.env) fp) elt te) (hs : ∀ x, foldedSetIterable l X.env x = pure x := by intro _; rfl) (hk : X.K = K := by rfl) :
    PS X (.Assign [.Name y py] (.ListComp elt [⟨tg, l, ifs, 0⟩] scope pos) spos) (tAsg (tLc (iList K tl) g tt te (own.map (·.2))) (gName i)) := by
  subst hk
  refine ⟨fun pins s σ H D I h => ?_⟩
  rw [exec_Assign_Name_used _ _ _ _ hsw]
  refine wpAny_bind (wpAny_standAt (wpAny_bind ?_))
  have h : tLc (iList X.K tl) g tt te (own.map (·.2)) σ H (fun x H1 => gName i x σ H1 D.nx) := h
  show wpAny _ X.A (do let _ ← comprehension (.ListComp elt [⟨tg, l, ifs, 0⟩] scope pos) scope X.env (firstIterPos [⟨tg, l, ifs, 0⟩] pos) (newList []) false (eval l X.env) (some (assign (.Name y py) X.env))) _ _ s
  refine wpAny_bind (thn (lc_hot (Qf := fun _ s' => SP X pins D .next s') hc hN I hl ok hg ht he hs h fun L C s' m H' I' q hn f => ?_) fun _ s' hq => wpAny_pure (wpAny_pure hq))
  show wpAny _ _ (assign (.Name y py) X.env (.ref L)) _ _ _
  obtain ⟨f0, f1, f2, f3, f4, f5⟩ := f
  refine wpAny_assign_Name (store_ok2 (v := V.ref L) I' hN hy (.inl hyl) rfl (fun s2 I2 ⟨b, sb, hb⟩ => ?_) (.inr hyl))
  have hCb : C ≠ b := hb.elim (fun z => by rw [z]; exact f1) fun z e => f4 y b z e.symm
  exact ⟨m, hn.sameBut sb hCb, fun h3 sb3 => ⟨_, H', I2.turned (t' := s2.toks) (fun b o hb e => (sb3.2 b hb).trans e) f0 f1 f3 f4 f5, q⟩⟩
end
/-! ### a def that is handed the exception: what it promises, told of the exception's class and place -/
structure FnZ (P : Program) (w : World) (K : PySem.W.Frag) (mg : Str → Option Value) (base : Heap) (k : Nat) (f : Addr) (fd : FuncData) (ps : List Str) (sp : Value → Addr → Sp) : Prop where
  len : ∀ c x vs H Q E, sp c x vs H Q E → vs.length = ps.length
  run : ∀ (A : Around) (outer : List Env) (s : Shared) (H : Hp) (args : Args) (us : List Value) (vs : List V) (Q : VK) (E : XK) (p : Addr × Obj) (c : Value), L2H.RoomH k A → L2H.Hot1 A p → Zc c none p.2 → L2H.PinOk outer H s p → Env0 P w K mg base A outer s H → BindsTo s fd args (ps.zip us) → Vals vs us → sp c p.1 vs H Q E →
    codeAny (model P w) A (.call (.ref f) args) (CR CX0 outer P w H s Q E) s
theorem fn_ofZ {P : Program} {w : World} {K : PySem.W.Frag} {mg : Str → Option Value} {base : Heap} {k : Nat} {x qual : Str} {st : Stmt} {f : Addr} {fd : FuncData} {N ps : List Str} {sp : Value → Addr → Sp} (F : Fun K x qual st f fd) (S : FnScope N ps (defScope st)) (len : ∀ c x vs H Q E, sp c x vs H Q E → vs.length = ps.length)
    (body : ∀ (cdv : Value) (A : Around) (outer : List Env) (s : Shared) (H : Hp) (vs : List V) (Q : VK) (E : XK) (p : Addr × Obj) (c : Value), L2H.Hot1 (A.deeper (envOfC qual (defScope st) s.heap.objs.size f cdv)) p → Zc c none p.2 → L2H.RoomH k (A.deeper (envOfC qual (defScope st) s.heap.objs.size f cdv)) → sp c p.1 vs H Q E →
      ∃ t, PSs (L2H.cxH CX0 P w K mg base N qual (defScope st) f cdv A outer s H E p).nox (defBody st) t ∧ t { nx := fun _ H' => Q .non H', rt := Q } (L2.start N vs) H) : FnZ P w K mg base (k + 1) f fd ps sp := by
  obtain ⟨oc, od, kV, doc, pm, an, cdv, ct, osl, rfl, lk, hcd⟩ := F.ex
  refine ⟨len, fun A outer s H args us vs Q E p c hr hot hz hpin e0 hb r hsp => ?_⟩
  have KX : K.In s.heap := e0.mod.kin.keeps fun b o e => (e0.bs b o e).1
  have lim : s.heap.NoLimit := e0.mod.nolimit.keeps fun b o e => (e0.bs b o e).1
  have kinds : ∀ y ∈ ps.zip us, (defScope st).names.lookup y.1 = some .local ∨ ((defScope st).names.lookup y.1 = some .cell ∧ ((cellsFrom (s.heap.objs.size + 1) (defScope st).names []).lookup y.1).isSome = true) := fun ⟨n, v⟩ hy =>
    (S.par n (List.of_mem_zip hy).1).elim .inl fun q => .inr ⟨q, PySem.W.cellsFrom_some _ _ _ (.inl q)⟩
  refine codeAny_call_function hr.depth (KX _ _ lk) rfl S.co S.gen rfl (PySem.W.codeRec_of KX hcd) (hb _ _ _ _ (wpAny_newFunctionEnv_cells S.kind kinds fun env he s1 y => ?_))
  subst he
  refine ⟨lim.keeps y.toInCall.keep, codeAny_func ?_⟩
  obtain ⟨t, ht, hq⟩ := body cdv A outer s H vs Q E p c hot hz (hr.deeper _) hsp
  have I := L2H.inv_startH (CX := CX0) (E := E) S hpin e0 (len _ _ _ _ _ _ hsp) r y
  refine wpAny_mono (ht.nox.run [] s1 (L2.start N vs) H _ I hq) (fun fl s' hs => ?_) fun e s' hs => hs
  have fin : ∀ {σ' : L2.St} {H' : Hp} {v : V} {u : Value}, Inv (L2H.cxH CX0 P w K mg base N qual (defScope st) f cdv A outer s H E p) [] σ' H' s' → RelV v u → Q v H' → CE outer P w H s Q u s' := fun {σ' H' v u} J rv q => ⟨v, H', J.os, J.bare, J.base, J.hok, rv, q⟩
  cases fl with
  | ret u =>
    obtain ⟨v, σ', H', J, rv, q⟩ := hs
    exact fin J rv q
  | next =>
    obtain ⟨σ', H', J, q⟩ := hs
    exact fin (v := V.non) (u := Value.none) J rfl q
  | brk => exact hs.elim fun _ z => z.elim fun _ z => z.2.elim
  | cont => exact hs.elim fun _ z => z.elim fun _ z => z.2.elim
/-- its call in the suite that holds the exception -/
def tCallZ (sp : Value → Addr → Sp) (c : Value) (x : Addr) (t : TA) : TE := fun σ H Q => t σ H fun vs H1 => sp c x vs H1 Q E0
theorem pe_callZ {X : Cx} {k : Nat} {f a : Addr} {oe : Obj} {c : Value} {pn : List (Addr × Obj)} {fd : FuncData} {ps : List Str} {sp : Value → Addr → Sp} {x : Str} {q pos : Pos} {e : Expr} {es : List Expr} {t : TA} (F : FnZ X.prog X.w X.K X.mg X.base k f fd ps sp) (hr : L2H.RoomH k (X.suite a ((a, oe) :: pn)).A)
    (hz : L2N.Zn c none oe) (hf : ∃ vs, oe.data = .fields vs) (hg : Gl (X.suite a ((a, oe) :: pn)) x) (hm : X.mg x = some (.ref f)) (hk : PySem.W.keepIn X.K (.ref f) = true) (hb : Binds X.K fd ps [])
    (ha : PA (X.suite a ((a, oe) :: pn)) (e :: es) t) (hdb : (x == ("__debug__" : Str)) = false := by decide) (he : starEach (e :: es) (X.suite a ((a, oe) :: pn)).env = (false, eval e (X.suite a ((a, oe) :: pn)).env) :: starEach es (X.suite a ((a, oe) :: pn)).env := by rfl) (hpl : (backTo pos (starEach es (X.suite a ((a, oe) :: pn)).env)).any (·.1) = false := by rfl) :
    PE (X.suite a ((a, oe) :: pn)) (.Call (.Name x q) (e :: es) [] pos) (tCallZ sp c a t) := by
  refine ⟨fun pins s σ H Q I h => ?_⟩
  refine wpAny_Call_Name_kw (ld_glob I hg hm ?_ hdb)
  refine PySem.W.callWith_K (h₀ := (X.suite a ((a, oe) :: pn)).base) I.ok.mod.kin hk (thn (ha.run pos pins s σ H _ I h) fun us s1 ⟨vs, H1, I1, r, q1⟩ => ⟨I1.kIn, ?_⟩) he hpl
  obtain ⟨fv, hfv⟩ := hf
  have hot : L2H.Hot1 (X.suite a ((a, oe) :: pn)).A (a, oe) := ⟨rfl, fv, hfv, hz.2.2 fv hfv⟩
  have P1 := I1.pin (a, oe) (List.mem_append_left _ List.mem_cons_self)
  have pin : L2H.PinOk (X.suite a ((a, oe) :: pn)).stack H1 s1 (a, oe) := ⟨P1.1, P1.2.1, fun hm => (List.mem_cons.mp (I1.stkSub a hm)).elim P1.2.2.1 P1.2.2.2.1, P1.2.2.2.2⟩
  have b := hb s1 us I1.kIn (by rw [List.append_nil, ← r.length]; exact F.len _ _ _ _ _ _ q1)
  rw [List.append_nil] at b
  refine wpAny_call (codeAny_mono (F.run _ _ s1 H1 ⟨us, []⟩ us vs Q E0 (a, oe) c hr hot ⟨hz.1, hz.2.1⟩ pin I1.env0 b r q1) fun r s' hq => ?_)
  cases r with
  | error e => exact hq.elim
  | ok fl =>
    cases fl with
    | ret u => exact I1.after hq
    | next => exact hq.elim
    | brk => exact hq.elim
    | cont => exact hq.elim
/-- isinstance of the exception, in such a def -/
theorem call_isZ {X : Cx} {D : Addr} {p : Addr × Obj} {K : PySem.W.Frag} (C : ExcC K D) (hz : Zc (.ref D) none p.2) (hf : ∃ vs, p.2.data = .fields vs) (hp : p ∈ X.pn) (hk : X.K = K := by rfl) : CallR X (.builtin "isinstance") (rIsE K D p.1) := by
  subst hk
  intro pins s σ H xs us Q I r h
  obtain ⟨c, cv, b, rfl, hcv, e, q⟩ := h
  cases r with
  | cons rx rr =>
    cases rr with
    | cons rt rr =>
      cases rr
      cases rx
      cases hcv _ rt
      obtain ⟨hget, _⟩ := I.pin p (List.mem_append_left _ hp)
      obtain ⟨vs, hv⟩ := hf
      have J : PySem.W.InstAt s.heap p.1 p.2 D none := by
        obtain ⟨pa, oc, od, oda, osl⟩ := p
        obtain ⟨h1, h2⟩ := hz
        dsimp only at h1 h2 hv
        subst h1 h2 hv
        exact ⟨hget, rfl, rfl, trivial⟩
      exact PySem.W.kia_one (PySem.W.handS_kitx_exc C.hg C.hk C.hs C.hd C.ha C.hn C.ht C.hm) I.kIn J e (fun z => nomatch z) fun tk => ⟨.bl b, H, I.kept (t' := tk) fun _ _ z => z, rfl, q⟩
/-! ### pairs of a word and a truth -/
open Evl Z
abbrev Prs (K : PySem.W.Frag) (H : Hp) (xs : List V) (ps : List (Str × Bool)) : Prop := PySem.Paired (fun x (p : Str × Bool) => ∃ t, x = V.ref t ∧ SqT K H t [.str p.1, .bl p.2]) xs ps
theorem Prs.ex {K : PySem.W.Frag} {H H' : Hp} {xs : List V} {ps : List (Str × Bool)} (e : Ex H H') (h : Prs K H xs ps) : Prs K H' xs ps := Z.Paired.imp (fun _ _ ⟨t, a, b⟩ => ⟨t, a, ex_t e b⟩) h
def EvP (K : PySem.W.Frag) (te : TE) (σ : L2.St) (H : Hp) (ps : List (Str × Bool)) : Prop := EvG te σ H fun H1 v H2 => ∃ p xs, v = .ref p ∧ H1 p = none ∧ H2 p = some (.lst xs) ∧ Prs K H2 xs ps
section
variable {K : PySem.W.Frag} {σ : L2.St} {H : Hp} {t1 t2 t3 t4 tx tb : TE} {u1 u2 : Str} {b1 b2 : Bool}
theorem ep_two (h1 : Ev t1 σ H (.str u1)) (h2 : Ev t2 σ H (.bl b1)) (h3 : Ev t3 σ H (.str u2)) (h4 : Ev t4 σ H (.bl b2)) : EvP K (tLst (tCons (tTup (tCons t1 (tCons t2 tNil))) (tCons (tTup (tCons t3 (tCons t4 tNil))) tNil))) σ H [(u1, b1), (u2, b2)] := fun H1 e Q q => by
  refine (eu_tup (ea_cons h1 (ea_cons h2 ea_nil)) (by show 2 ≤ 100000; decide)) H1 e (fun x H2 => tTup (tCons t3 (tCons t4 tNil)) σ H2 fun y H3 => [x, y].length ≤ sizeLine ∧ ∀ p, H3 p = none → Q (.ref p) (upd H3 p (.lst [x, y]))) fun x H2 _ e2 a2 => ?_
  refine (eu_tup (ea_cons h3 (ea_cons h4 ea_nil)) (by show 2 ≤ 100000; decide)) H2 (e.trans e2) _ fun y H3 _ e3 a3 => ⟨by show 2 ≤ sizeLine; decide, fun p hp => q (.ref p) _ ((e2.trans e3).trans (Ex.new hp)) ⟨p, [.ref x, .ref y], rfl, fresh_back (e2.trans e3) hp, upd_same, ?_⟩⟩
  exact .cons ⟨x, rfl, ex_t (e3.trans (Ex.new hp)) (SqT.of a2)⟩ (.cons ⟨y, rfl, ex_t (Ex.new hp) (SqT.of a3)⟩ .nil)
theorem ep_cat {p0 : Addr} {xs0 : List V} {ps0 ps1 : List (Str × Bool)} (ha : Ev tx σ H (.ref p0)) (h0 : H p0 = some (.lst xs0)) (P0 : Prs K H xs0 ps0) (hb : EvP K tb σ H ps1) (hz : ps0.length + ps1.length ≤ 1000) : EvP K (tOp rCat tx tb) σ H (ps0 ++ ps1) := fun H1 e Q q =>
  ha H1 e _ fun H2 e2 => hb H2 (e.trans e2) _ fun v H3 e3 hv => by
    obtain ⟨p, xs, rfl, hp, h3, P1⟩ := hv
    have e03 := (e.trans e2).trans e3
    refine ⟨p0, p, xs0, xs, rfl, rfl, e03 _ _ h0, h3, sz_of ?_, fun l hl => q (.ref l) _ ((e2.trans e3).trans (Ex.new hl)) ⟨l, xs0 ++ xs, rfl, fresh_back (e2.trans e3) hl, upd_same, Z.Paired.app (Prs.ex (e03.trans (Ex.new hl)) P0) (Prs.ex (Ex.new hl) P1)⟩⟩
    have l0 := Z.Paired.len P0
    have l1 := Z.Paired.len P1
    omega
theorem ep_lc {i j : Nat} {vs : List Nat} {L : Addr} {xs : List V} {ps : List (Str × Bool)} (hl : Ev tx σ H (.ref L)) (hL : H L = some (.lst xs)) (P0 : Prs K H xs ps) (hz : ps.length ≤ 1000) (hw : ∀ x y, wipe (((wipe σ vs).set i (some x)).set j (some y)) vs = wipe σ vs)
    (hi : ∀ x y : V, (((wipe σ vs).set i (some x)).set j (some y))[i]? = some (some x)) (hj : ∀ x y : V, (((wipe σ vs).set i (some x)).set j (some y))[j]? = some (some y)) :
    EvL (tLc (iList K tx) (gTup K 2 (gCons (gName i) (gCons (gName j) gNil))) (tB (tVar j)) (tVar i) vs) σ H ((ps.filter (·.2)).map fun p => V.str p.1) := fun H1 e Q q => hl H1 e _ fun H2 e2 => by
  have hL2 := (e.trans e2) _ _ hL
  have P2 := Prs.ex (e.trans e2) P0
  have hlen := Z.Paired.len P0
  refine ⟨L, rfl, ⟨xs, SqL.of hL2⟩, fun Dl hD => lc_list (xs := xs) (fun m H' => Ex H2 H' ∧ H' Dl = some (.lst (((ps.take m).filter (·.2)).map fun p => V.str p.1))) ⟨Ex.new hD, upd_same⟩ (fun m H' _ p => SqL.of (p.1 _ _ hL2)) (fun m x H' hx p => ?_) (fun H' p => q Dl H' (fresh_back e2 hD) (e2.trans p.1) ?_)⟩
  · obtain ⟨b, hb, t, rfl, ht⟩ := Z.Paired.at P2 hx
    have tk : ps.take (m + 1) = ps.take m ++ [b] := by
      rw [List.take_add_one, hb]
      rfl
    refine ⟨t, _, rfl, ex_t p.1 ht, rfl, .str b.1, [.bl b.2], rfl, .bl b.2, [], rfl, rfl, hw _ _, .bl b.2, hj _ _, b.2, rfl, ?_⟩
    have flen : ((ps.take m).filter (·.2)).length ≤ 1000 := by
      have h1 := List.length_filter_le (fun p : Str × Bool => p.2) (ps.take m)
      rw [List.length_take] at h1
      omega
    cases hb2 : b.2 with
    | true =>
      refine iteT ⟨.str b.1, hi _ _, _, p.2, sz_lt (by rw [List.length_map]; omega), Ex.mut p.1 hD, ?_⟩
      rw [upd_same, tk, List.filter_append, List.map_append, List.filter_cons, hb2]
      rfl
    | false =>
      refine iteF ⟨p.1, ?_⟩
      rw [p.2, tk, List.filter_append, List.map_append, List.filter_cons, hb2]
      show _ = some (HO.lst (_ ++ []))
      rw [List.append_nil]
  · rw [p.2, hlen, List.take_length]
theorem rc_isE {D x C : Addr} {b : Bool} (h : PySem.W.kitOne K (.ref D) (.ref C) = some b) : RC (rIsE K D x) [.ref x, .ref C] H (.bl b) := fun H1 _ _ q => ⟨.ref C, .ref C, b, rfl, fun _ r => r, h, q H1 (Ex.refl H1)⟩
theorem rc_isT {D x : Addr} {n : String} {b : Bool} (h : PySem.W.kitOne K (.ref D) (.type n) = some b) : RC (rIsE K D x) [.ref x, .ty n] H (.bl b) := fun H1 _ _ q => ⟨.ty n, .type n, b, rfl, fun _ r => r, h, q H1 (Ex.refl H1)⟩
end
end ZH
set_option Elab.async false
set_option linter.all false
set_option maxRecDepth 100000
set_option maxHeartbeats 4000000
/-! LAYD: values compared by what they hold; a comprehension over a tuple. -/
namespace Z
open PySem PySem.Spec PyProof.Rows L2 Evl
theorem canLay_ints : ∀ cs : List Int, PyData.canLayAll0 (cs.map PyData.int) = true
  | [] => rfl
  | c :: cs => by
    rw [List.map_cons, PyData.canLayAll0, canLay_ints cs]
    rfl
theorem depth_ints0 : ∀ cs : List Int, PyData.depthAll (cs.map PyData.int) = 0
  | [] => rfl
  | c :: cs => by
    rw [List.map_cons, PyData.depthAll, depth_ints0 cs]
    rfl
theorem shaped_ints (cs : List Int) : SeqAt.shaped (.list (cs.map PyData.int)) = true := by
  unfold SeqAt.shaped
  rw [PyData.canLay0, canLay_ints, PyData.depth, depth_ints0]
  rfl
theorem eqvAll_ints : ∀ cs : List Int, PyData.eqvAll (cs.map PyData.int) (cs.map PyData.int) = true
  | [] => by rw [List.map_nil, PyData.eqvAll]
  | c :: cs => by
    rw [List.map_cons, PyData.eqvAll, eqvAll_ints cs, PyData.eqv]
    simp
theorem eqv_ints (cs : List Int) : PyData.eqv (.list (cs.map PyData.int)) (.list (cs.map PyData.int)) = true := by
  rw [PyData.eqv, eqvAll_ints]
section
variable {K : PySem.W.Frag} {σ : L2.St} {H : Hp} {ta tb tl te : TE}
theorem dpAll_ints {H : Hp} : ∀ cs : List Int, DpAll K H (cs.map V.int) (cs.map PyData.int)
  | [] => .nil
  | c :: cs => .cons (.int c) (dpAll_ints cs)
theorem dp_ints {p : Addr} {cs : List Int} (h : SqL K H p (cs.map V.int)) : Dp K H (.ref p) (.list (cs.map PyData.int)) := .lst h (dpAll_ints cs)
theorem ev_eqInts {p q : Addr} {cs : List Int} (ha : Ev ta σ H (.ref p)) (hb : Ev tb σ H (.ref q)) (h1 : SqL K H p (cs.map V.int)) (h2 : SqL K H q (cs.map V.int)) : Ev (tOp (rEqD K) ta tb) σ H (.bl true) := by
  have h := rv_eqD (K := K) (dp_ints h1) (dp_ints h2) (shaped_ints cs) (shaped_ints cs)
  rw [eqv_ints] at h
  exact ev_op ha hb h
theorem ev_neInts {p q : Addr} {cs : List Int} (ha : Ev ta σ H (.ref p)) (hb : Ev tb σ H (.ref q)) (h1 : SqL K H p (cs.map V.int)) (h2 : SqL K H q (cs.map V.int)) : Ev (tOp (rNeD K) ta tb) σ H (.bl false) := by
  have h := rv_neD (K := K) (dp_ints h1) (dp_ints h2) (shaped_ints cs) (shaped_ints cs)
  rw [eqv_ints] at h
  exact ev_op ha hb h
theorem shaped_word {u : Str} (hu : PyData.strOk u = true) : SeqAt.shaped (.list [.str u]) = true := by
  unfold SeqAt.shaped
  rw [PyData.canLay0, PyData.canLayAll0, PyData.canLayAll0, PyData.canLay0, hu]
  rfl
theorem eqv_word (u : Str) : PyData.eqv (.list [.str u]) (.list [.str u]) = true := by
  rw [PyData.eqv, PyData.eqvAll, PyData.eqvAll, PyData.eqv]
  simp
theorem dp_word {p : Addr} {u : Str} (h : H p = some (.lst [.str u])) : Dp K H (.ref p) (.list [.str u]) := .lst (SqL.of h) (.cons (.str u) .nil)
theorem ev_eqWord {u : Str} (hu : PyData.strOk u = true) (ha : EvL ta σ H [.str u]) (hb : EvL tb σ H [.str u]) : Ev (tOp (rEqD K) ta tb) σ H (.bl true) := fun H1 e Q q =>
  ha H1 e _ fun p H2 hp e2 h2 => hb H2 (e.trans e2) _ fun r H3 hr e3 h3 => by
    have h := rv_eqD (K := K) (dp_word (e3 _ _ h2)) (dp_word h3) (shaped_word hu) (shaped_word hu)
    rw [eqv_word] at h
    exact h H3 (Ex.refl H3) Q fun H4 e4 => q H4 ((e2.trans e3).trans e4)
theorem ev_neWord {u : Str} (hu : PyData.strOk u = true) (ha : EvL ta σ H [.str u]) (hb : EvL tb σ H [.str u]) : Ev (tOp (rNeD K) ta tb) σ H (.bl false) := fun H1 e Q q =>
  ha H1 e _ fun p H2 hp e2 h2 => hb H2 (e.trans e2) _ fun r H3 hr e3 h3 => by
    have h := rv_neD (K := K) (dp_word (e3 _ _ h2)) (dp_word h3) (shaped_word hu) (shaped_word hu)
    rw [eqv_word] at h
    exact h H3 (Ex.refl H3) Q fun H4 e4 => q H4 ((e2.trans e3).trans e4)
/-- two tuples of two ints -/
theorem shaped_pair (x y : Int) : SeqAt.shaped (.tuple [.int x, .int y]) = true := rfl
theorem eqv_pair (x y : Int) : PyData.eqv (.tuple [.int x, .int y]) (.tuple [.int x, .int y]) = true := by
  rw [PyData.eqv, PyData.eqvAll, PyData.eqvAll, PyData.eqvAll, PyData.eqv, PyData.eqv]
  simp
theorem dp_pair {p : Addr} {x y : Int} (h : SqT K H p [.int x, .int y]) : Dp K H (.ref p) (.tuple [.int x, .int y]) := .tup h (.cons (.int x) (.cons (.int y) .nil))
theorem ev_nePair {p : Addr} {x y : Int} (ha : Ev ta σ H (.ref p)) (hp : SqT K H p [.int x, .int y]) (hb : EvG tb σ H fun _ v H2 => ∃ q, v = .ref q ∧ SqT K H2 q [.int x, .int y]) : Ev (tOp (rNeD K) ta tb) σ H (.bl false) := fun H1 e Q q =>
  ha H1 e _ fun H2 e2 => hb H2 (e.trans e2) _ fun v H3 e3 hv => by
    obtain ⟨r, rfl, hr⟩ := hv
    have h := rv_neD (K := K) (dp_pair (ex_t ((e.trans e2).trans e3) hp)) (dp_pair hr) (shaped_pair x y) (shaped_pair x y)
    rw [eqv_pair] at h
    exact h H3 (Ex.refl H3) Q fun H4 e4 => q H4 ((e2.trans e3).trans e4)
/-- a comprehension over a tuple -/
theorem el_lcT {t : TT} {a : Addr} {xs : List V} {j : Nat} {vs : List Nat} (f : Nat → Bool) (v : Nat → V) (h : Ev tl σ H (.ref a)) (hx : SqT K H a xs) (hz : xs.length ≤ 40000) (hw : ∀ x, wipe ((wipe σ vs).set j (some x)) vs = wipe σ vs)
    (ht : ∀ (i : Nat) (x : V) H1, Ex H H1 → xs[i]? = some x → EvT t ((wipe σ vs).set j (some x)) H1 (f i)) (he : ∀ (i : Nat) (x : V) H1, Ex H H1 → xs[i]? = some x → f i = true → Ev te ((wipe σ vs).set j (some x)) H1 (v i)) :
    EvL (tLc (iTup K tl) (gName j) t te vs) σ H (given xs.length f v) := fun H0 e Q q => h H0 e _ fun H1 e1 => ⟨a, rfl, ⟨xs, ex_t (e.trans e1) hx⟩, fun Dl hD =>
  lc_tup (xs := xs) (Cw H1 f v Dl) ⟨hD, Ex.new hD, upd_same⟩ (fun i H' _ p => ex_t ((e.trans e1).trans p.2.1) hx) (fun i x H' hi p => ⟨hw x, cw_turn p (by have := (List.getElem?_eq_some_iff.mp hi).1; omega) (ht i x H1 (e.trans e1) hi) (fun hf => he i x H1 (e.trans e1) hi hf)⟩)
    (fun H' p => q Dl H' (fresh_back e1 p.1) (e1.trans p.2.1) p.2.2)⟩
/-- all(a new list of truths) -/
theorem ev_allL {bs : List Bool} (ha : EvL ta σ H (bs.map V.bl)) : Ev (tCB (rAll K) (tCons ta tNil)) σ H (.bl (bs.all id)) := fun H1 e Q q =>
  ha H1 e _ fun p H2 _ e2 h2 => ⟨p, bs, rfl, sq_of h2, q H2 e2⟩
end
end Z
set_option Elab.async false
set_option linter.all false
set_option maxRecDepth 100000
set_option maxHeartbeats 4000000
section
local macro_rules | `(tactic| walk_at "ev") => `(tactic| repeat' (first
  | with_reducible exact Evl.ev_c
  | ((with_reducible apply Evl.ev_var); rfl)
  | with_reducible apply Evl.ev_op
  | with_reducible apply Evl.ev_un
  | with_reducible exact Evl.ru_neg
  | with_reducible exact Evl.ea_nil
  | with_reducible apply Evl.ea_cons
  | with_reducible apply Evl.et_test
  | with_reducible apply Evl.et_B
  | with_reducible apply Evl.et_not
  | ((with_reducible apply Evl.et_and); rotate_left 1; intro _; rotate_right 1)
  | ((with_reducible apply Evl.et_or); rotate_left 1; intro _; rotate_right 1)
  | ((with_reducible apply Evl.ev_andV); rotate_left 1; intro _; rotate_right 1)
  | ((with_reducible apply Evl.ev_orV); rotate_left 1; intro _; rotate_right 1)
  | with_reducible apply Evl.ev_notV
  | ((with_reducible apply Z.ev_chain); rotate_left 3; intro _; rotate_left 1; intro _; rotate_right 4)
  | with_reducible exact Evl.rv_I0
  | with_reducible apply Evl.rv_I
  | ((with_reducible apply Evl.rv_eq); rfl)
  | ((with_reducible apply Evl.rv_ne); rfl)
  | with_reducible exact Z.rv_isN
  | with_reducible exact Z.rv_notN
  | ((with_reducible apply Z.rv_eqTy); (first | decide | assumption); (first | decide | assumption))
  | ((with_reducible apply Z.rv_neTy); (first | decide | assumption); (first | decide | assumption))
  | with_reducible apply Evl.ev_cb
  | with_reducible exact Z.rc_max2
  | with_reducible exact Z.rc_min2
  | with_reducible exact Z.rc_intI
  | with_reducible exact Z.rc_intB
  | ((with_reducible apply Z.rc_lenL); first | assumption | (apply L2.SqL.of; assumption))
  | ((with_reducible apply Z.rc_lenT); first | assumption | (apply L2.SqT.of; assumption))
  | with_reducible apply Z.rc_type
  | with_reducible apply Evl.ev_call
  | with_reducible apply Evl.eo_some
  | with_reducible exact Evl.eo_none))

namespace K1
open PySem PySem.Spec PyProof.Rows L2 Evl Z
def topS (i : Nat) : Stmt := PySem.Challenge.pw_tiecount_k01_what_counts_want.main.body.getD i (.Pass ⟨0, 0, 0, 0⟩)
abbrev s_is_whole : Stmt := topS 10
abbrev n_is_whole : List Str := ["thing", "least", "most"]
theorem sc_is_whole : FnScope n_is_whole ["thing", "least", "most"] (defScope s_is_whole) := ⟨rfl, rfl, rfl, by decide +kernel, rfl, by decide +kernel, by decide +kernel⟩
abbrev s_need_counts : Stmt := topS 13
abbrev n_need_counts : List Str := ["thing", "count"]
theorem sc_need_counts : FnScope n_need_counts ["thing"] (defScope s_need_counts) := ⟨rfl, rfl, rfl, by decide +kernel, rfl, by decide +kernel, by decide +kernel⟩
abbrev s_wanted : Stmt := topS 14
abbrev n_wanted : List Str := ["counts", "many", "falling", "among", "beside", "count"]
theorem sc_wanted : FnScope n_wanted ["counts", "many"] (defScope s_wanted) := ⟨rfl, rfl, rfl, by decide +kernel, rfl, by decide +kernel, by decide +kernel⟩
abbrev s__law_cell : Stmt := topS 16
abbrev n__law_cell : List Str := ["_law_script", "_law_k"]
theorem sc__law_cell : FnScope n__law_cell ["_law_script", "_law_k"] (defScope s__law_cell) := ⟨rfl, rfl, rfl, by decide +kernel, rfl, by decide +kernel, by decide +kernel⟩
abbrev s__law_mixed : Stmt := topS 17
abbrev n__law_mixed : List Str := ["_law_cell_here", "_law_k", "_law_number"]
theorem sc__law_mixed : FnScope n__law_mixed ["_law_cell_here", "_law_k"] (defScope s__law_mixed) := ⟨rfl, rfl, rfl, by decide +kernel, rfl, by decide +kernel, by decide +kernel⟩
abbrev s__law_whole : Stmt := topS 18
abbrev n__law_whole : List Str := ["_law_found"]
theorem sc__law_whole : FnScope n__law_whole ["_law_found"] (defScope s__law_whole) := ⟨rfl, rfl, rfl, by decide +kernel, rfl, by decide +kernel, by decide +kernel⟩
abbrev s__law_web : Stmt := topS 19
abbrev n__law_web : List Str := ["_law_script", "_law_first", "_law_most", "_law_cell_here", "_law_size", "_law_ties", "_law_other", "_law_one", "_law_number", "_law_kind_here", "_law_turn"]
theorem sc__law_web : FnScope n__law_web ["_law_script", "_law_first", "_law_most"] (defScope s__law_web) := ⟨rfl, rfl, rfl, by decide +kernel, rfl, by decide +kernel, by decide +kernel⟩
abbrev s__law_counts : Stmt := topS 20
abbrev n__law_counts : List Str := ["_law_size", "_law_ties", "_law_point", "_law_tie"]
theorem sc__law_counts : FnScope n__law_counts ["_law_size", "_law_ties"] (defScope s__law_counts) := ⟨rfl, rfl, rfl, by decide +kernel, rfl, by decide +kernel, by decide +kernel⟩
abbrev s__law_drawn : Stmt := topS 21
abbrev n__law_drawn : List Str := ["_law_script", "_law_first", "_law_most", "_law_size", "_law_ties", "_law_counts_here", "_law_cell_here", "_law_top", "_law_turn", "_law_at", "_law_k"]
theorem sc__law_drawn : FnScope n__law_drawn ["_law_script", "_law_first", "_law_most"] (defScope s__law_drawn) := ⟨rfl, rfl, rfl, by decide +kernel, rfl, by decide +kernel, by decide +kernel⟩
abbrev s__law_wanted : Stmt := topS 22
abbrev n__law_wanted : List Str := ["_law_counts_here", "_law_many", "_law_left", "_law_want", "_law_turn", "_law_greatest", "_law_room", "_law_count"]
theorem sc__law_wanted : FnScope n__law_wanted ["_law_counts_here", "_law_many"] (defScope s__law_wanted) := ⟨rfl, rfl, rfl, by decide +kernel, rfl, by decide +kernel, by decide +kernel⟩
abbrev s__law_kind : Stmt := topS 23
abbrev n__law_kind : List Str := ["_law_error", "_law_found", "_law_word", "_law_is_one"]
theorem sc__law_kind : FnScope n__law_kind ["_law_error"] (defScope s__law_kind) := ⟨rfl, rfl, rfl, by decide +kernel, rfl, by decide +kernel, by decide +kernel⟩
abbrev s__law_no_counts : Stmt := topS 24
abbrev n__law_no_counts : List Str := ["_law_counts_here", "_law_cell_here", "_law_at", "_law_odd"]
theorem sc__law_no_counts : FnScope n__law_no_counts ["_law_counts_here", "_law_cell_here"] (defScope s__law_no_counts) := ⟨rfl, rfl, rfl, by decide +kernel, rfl, by decide +kernel, by decide +kernel⟩
abbrev s__law_told : Stmt := topS 25
abbrev n__law_told : List Str := ["_law_counts_here", "_law_many", "_law_error"]
theorem sc__law_told : FnScope n__law_told ["_law_counts_here", "_law_many"] (defScope s__law_told) := ⟨rfl, rfl, rfl, by decide +kernel, rfl, by decide +kernel, by decide +kernel⟩
abbrev s__law_needed : Stmt := topS 26
abbrev n__law_needed : List Str := ["_law_thing", "_law_error"]
theorem sc__law_needed : FnScope n__law_needed ["_law_thing"] (defScope s__law_needed) := ⟨rfl, rfl, rfl, by decide +kernel, rfl, by decide +kernel, by decide +kernel⟩
abbrev s_law : Stmt := topS 27
abbrev n_law : List Str := ["_law_script", "_law_counts_here", "_law_handed", "_law_many", "_law_found", "_law_cell_here", "_law_wrong", "_law_one"]
theorem sc_law : FnScope n_law ["_law_script"] (defScope s_law) := ⟨rfl, rfl, rfl, by decide +kernel, rfl, by decide +kernel, by decide +kernel⟩
structure Ad where
  a_is_whole : Addr
  d_is_whole : FuncData
  a_need_counts : Addr
  d_need_counts : FuncData
  a_wanted : Addr
  d_wanted : FuncData
  a__law_cell : Addr
  d__law_cell : FuncData
  a__law_mixed : Addr
  d__law_mixed : FuncData
  a__law_whole : Addr
  d__law_whole : FuncData
  a__law_web : Addr
  d__law_web : FuncData
  a__law_counts : Addr
  d__law_counts : FuncData
  a__law_drawn : Addr
  d__law_drawn : FuncData
  a__law_wanted : Addr
  d__law_wanted : FuncData
  a__law_kind : Addr
  d__law_kind : FuncData
  a__law_no_counts : Addr
  d__law_no_counts : FuncData
  a__law_told : Addr
  d__law_told : FuncData
  a__law_needed : Addr
  d__law_needed : FuncData
  a_law : Addr
  d_law : FuncData
  c_TieError : Addr
  c_BadCounts : Addr
  c_BadMany : Addr
  c_BadWeb : Addr
  c_BadExchange : Addr
  c_Unlike : Addr
  c_NoWeb : Addr
  t_MOST_POINTS : Tok
  t_MOST_TIES : Tok
structure Top (K : PySem.W.Frag) (mg : Str → Option Value) (a : Ad) : Prop where
  g_is_whole : mg "is_whole" = some (.ref a.a_is_whole)
  F_is_whole : Fun K "is_whole" "is_whole" s_is_whole a.a_is_whole a.d_is_whole
  b_is_whole : Binds K a.d_is_whole ["thing", "least", "most"] []
  g_need_counts : mg "need_counts" = some (.ref a.a_need_counts)
  F_need_counts : Fun K "need_counts" "need_counts" s_need_counts a.a_need_counts a.d_need_counts
  b_need_counts : Binds K a.d_need_counts ["thing"] []
  g_wanted : mg "wanted" = some (.ref a.a_wanted)
  F_wanted : Fun K "wanted" "wanted" s_wanted a.a_wanted a.d_wanted
  b_wanted : Binds K a.d_wanted ["counts", "many"] []
  g__law_cell : mg "_law_cell" = some (.ref a.a__law_cell)
  F__law_cell : Fun K "_law_cell" "_law_cell" s__law_cell a.a__law_cell a.d__law_cell
  b__law_cell : Binds K a.d__law_cell ["_law_script", "_law_k"] []
  g__law_mixed : mg "_law_mixed" = some (.ref a.a__law_mixed)
  F__law_mixed : Fun K "_law_mixed" "_law_mixed" s__law_mixed a.a__law_mixed a.d__law_mixed
  b__law_mixed : Binds K a.d__law_mixed ["_law_cell_here", "_law_k"] []
  g__law_whole : mg "_law_whole" = some (.ref a.a__law_whole)
  F__law_whole : Fun K "_law_whole" "_law_whole" s__law_whole a.a__law_whole a.d__law_whole
  b__law_whole : Binds K a.d__law_whole ["_law_found"] []
  g__law_web : mg "_law_web" = some (.ref a.a__law_web)
  F__law_web : Fun K "_law_web" "_law_web" s__law_web a.a__law_web a.d__law_web
  b__law_web : Binds K a.d__law_web ["_law_script", "_law_first", "_law_most"] []
  g__law_counts : mg "_law_counts" = some (.ref a.a__law_counts)
  F__law_counts : Fun K "_law_counts" "_law_counts" s__law_counts a.a__law_counts a.d__law_counts
  b__law_counts : Binds K a.d__law_counts ["_law_size", "_law_ties"] []
  g__law_drawn : mg "_law_drawn" = some (.ref a.a__law_drawn)
  F__law_drawn : Fun K "_law_drawn" "_law_drawn" s__law_drawn a.a__law_drawn a.d__law_drawn
  b__law_drawn : Binds K a.d__law_drawn ["_law_script", "_law_first", "_law_most"] []
  g__law_wanted : mg "_law_wanted" = some (.ref a.a__law_wanted)
  F__law_wanted : Fun K "_law_wanted" "_law_wanted" s__law_wanted a.a__law_wanted a.d__law_wanted
  b__law_wanted : Binds K a.d__law_wanted ["_law_counts_here", "_law_many"] []
  g__law_kind : mg "_law_kind" = some (.ref a.a__law_kind)
  F__law_kind : Fun K "_law_kind" "_law_kind" s__law_kind a.a__law_kind a.d__law_kind
  b__law_kind : Binds K a.d__law_kind ["_law_error"] []
  g__law_no_counts : mg "_law_no_counts" = some (.ref a.a__law_no_counts)
  F__law_no_counts : Fun K "_law_no_counts" "_law_no_counts" s__law_no_counts a.a__law_no_counts a.d__law_no_counts
  b__law_no_counts : Binds K a.d__law_no_counts ["_law_counts_here", "_law_cell_here"] []
  g__law_told : mg "_law_told" = some (.ref a.a__law_told)
  F__law_told : Fun K "_law_told" "_law_told" s__law_told a.a__law_told a.d__law_told
  b__law_told : Binds K a.d__law_told ["_law_counts_here", "_law_many"] []
  g__law_needed : mg "_law_needed" = some (.ref a.a__law_needed)
  F__law_needed : Fun K "_law_needed" "_law_needed" s__law_needed a.a__law_needed a.d__law_needed
  b__law_needed : Binds K a.d__law_needed ["_law_thing"] []
  g_law : mg "law" = some (.ref a.a_law)
  F_law : Fun K "law" "law" s_law a.a_law a.d_law
  b_law : Binds K a.d_law ["_law_script"] []
  g_TieError : mg "TieError" = some (.ref a.c_TieError)
  x_TieError : PySem.W.excIn K a.c_TieError [.type "ValueError", .type "Exception", .type "BaseException", .type "object"] "ValueError.__new__" = true
  k_TieError : PySem.W.keepIn K (.ref a.c_TieError) = true
  eb_TieError : PySem.W.subIn K (.ref a.c_TieError) (.type "BaseException") = some true
  et_TieError : PySem.W.typeIn K (.ref a.c_TieError) = some (.type "type")
  g_BadCounts : mg "BadCounts" = some (.ref a.c_BadCounts)
  x_BadCounts : PySem.W.excIn K a.c_BadCounts [.type "ValueError", .type "Exception", .type "BaseException", .type "object"] "ValueError.__new__" = true
  k_BadCounts : PySem.W.keepIn K (.ref a.c_BadCounts) = true
  eb_BadCounts : PySem.W.subIn K (.ref a.c_BadCounts) (.type "BaseException") = some true
  et_BadCounts : PySem.W.typeIn K (.ref a.c_BadCounts) = some (.type "type")
  g_BadMany : mg "BadMany" = some (.ref a.c_BadMany)
  x_BadMany : PySem.W.excIn K a.c_BadMany [.type "ValueError", .type "Exception", .type "BaseException", .type "object"] "ValueError.__new__" = true
  k_BadMany : PySem.W.keepIn K (.ref a.c_BadMany) = true
  eb_BadMany : PySem.W.subIn K (.ref a.c_BadMany) (.type "BaseException") = some true
  et_BadMany : PySem.W.typeIn K (.ref a.c_BadMany) = some (.type "type")
  g_BadWeb : mg "BadWeb" = some (.ref a.c_BadWeb)
  x_BadWeb : PySem.W.excIn K a.c_BadWeb [.type "ValueError", .type "Exception", .type "BaseException", .type "object"] "ValueError.__new__" = true
  k_BadWeb : PySem.W.keepIn K (.ref a.c_BadWeb) = true
  eb_BadWeb : PySem.W.subIn K (.ref a.c_BadWeb) (.type "BaseException") = some true
  et_BadWeb : PySem.W.typeIn K (.ref a.c_BadWeb) = some (.type "type")
  g_BadExchange : mg "BadExchange" = some (.ref a.c_BadExchange)
  x_BadExchange : PySem.W.excIn K a.c_BadExchange [.type "ValueError", .type "Exception", .type "BaseException", .type "object"] "ValueError.__new__" = true
  k_BadExchange : PySem.W.keepIn K (.ref a.c_BadExchange) = true
  eb_BadExchange : PySem.W.subIn K (.ref a.c_BadExchange) (.type "BaseException") = some true
  et_BadExchange : PySem.W.typeIn K (.ref a.c_BadExchange) = some (.type "type")
  g_Unlike : mg "Unlike" = some (.ref a.c_Unlike)
  x_Unlike : PySem.W.excIn K a.c_Unlike [.type "ValueError", .type "Exception", .type "BaseException", .type "object"] "ValueError.__new__" = true
  k_Unlike : PySem.W.keepIn K (.ref a.c_Unlike) = true
  eb_Unlike : PySem.W.subIn K (.ref a.c_Unlike) (.type "BaseException") = some true
  et_Unlike : PySem.W.typeIn K (.ref a.c_Unlike) = some (.type "type")
  g_NoWeb : mg "NoWeb" = some (.ref a.c_NoWeb)
  x_NoWeb : PySem.W.excIn K a.c_NoWeb [.type "ValueError", .type "Exception", .type "BaseException", .type "object"] "ValueError.__new__" = true
  k_NoWeb : PySem.W.keepIn K (.ref a.c_NoWeb) = true
  eb_NoWeb : PySem.W.subIn K (.ref a.c_NoWeb) (.type "BaseException") = some true
  et_NoWeb : PySem.W.typeIn K (.ref a.c_NoWeb) = some (.type "type")
  g_MOST_POINTS : mg "MOST_POINTS" = some (.int 10 a.t_MOST_POINTS)
  g_MOST_TIES : mg "MOST_TIES" = some (.int 20 a.t_MOST_TIES)
  n_ValueError : mg "ValueError" = none
  n_all : mg "all" = none
  n_bool : mg "bool" = none
  n_int : mg "int" = none
  n_isinstance : mg "isinstance" = none
  n_len : mg "len" = none
  n_list : mg "list" = none
  n_max : mg "max" = none
  n_min : mg "min" = none
  n_range : mg "range" = none
  n_sorted : mg "sorted" = none
  n_sum : mg "sum" = none
  n_tuple : mg "tuple" = none
  n_type : mg "type" = none
section
variable {P : Program} {w : World} {K : PySem.W.Frag} {mg : Str → Option Value} {base : Heap} {a : Ad}
/-! ### is_whole -/
def isW (x : V) (lo hi : Int) : Bool := match x with
  | .int i => decide (lo ≤ i) && decide (i ≤ hi)
  | _ => false
def sp_is_whole (K : PySem.W.Frag) : Sp := fun vs H Q _ => ∃ (x : V) (lo hi : Int) (T : String), vs = [x, .int lo, .int hi] ∧ TyB K H x T ∧ T ∈ metaT ∧ ∀ H2, Ex H H2 → Q (.bl (isW x lo hi)) H2
theorem ok_is_whole (T : Top K mg a) : FnOk P w K mg base CX0 1 a.a_is_whole a.d_is_whole ["thing", "least", "most"] (sp_is_whole K) := by
  refine T.F_is_whole.ok sc_is_whole (fun vs H Q E h => ?_) (fun cdv A outer s H vs Q E hr h => ?_)
  · obtain ⟨x, lo, hi, T, rfl, _⟩ := h
    rfl
  · obtain ⟨x, lo, hi, Ty, rfl, hT, hm, q⟩ := h
    refine ⟨_, (pss_one (ps_ret (pe_and (pe_cmpR op_eqTy (pe_callTy (kx_type (K := K)) (by rfl) T.n_type (by decide +kernel) (pa_cons (pv 0) pa_nil)) (pe_bltn (v := .ty "int") rfl T.n_int (by decide +kernel) rfl) (nomark _)) (pe_one (pe_chain op_le op_le (pv 1) (pv 0) (pv 2)))))), ?_⟩
    cases hT with
    | int i => exact s_ret (v := .bl (isW (.int i) lo hi)) (by
        refine ev_andT (ev_is (v := .bl (decide (("int" : String) = "int"))) (by walk_at "ev"; exact .int i) rfl) ?_
        refine ev_is (v := .bl (decide (lo ≤ i) && decide (i ≤ hi))) ?_ rfl
        walk_at "ev") fun H2 e => q H2 e
    | non => exact s_ret (v := .bl false) (ev_andF (ev_is (v := .bl (decide (("NoneType" : String) = "int"))) (by walk_at "ev"; exact .non) rfl)) fun H2 e => q H2 e
    | bl b => exact s_ret (v := .bl false) (ev_andF (ev_is (v := .bl (decide (("bool" : String) = "int"))) (by walk_at "ev"; exact .bl b) rfl)) fun H2 e => q H2 e
    | str b => exact s_ret (v := .bl false) (ev_andF (ev_is (v := .bl (decide (("str" : String) = "int"))) (by walk_at "ev"; exact .str b) rfl)) fun H2 e => q H2 e
    | byt b => exact absurd hm (by decide)
    | lst h => exact s_ret (v := .bl false) (ev_andF (ev_is (v := .bl (decide (("list" : String) = "int"))) (by walk_at "ev"; exact .lst h) rfl)) fun H2 e => q H2 e
    | tup h => exact s_ret (v := .bl false) (ev_andF (ev_is (v := .bl (decide (("tuple" : String) = "int"))) (by walk_at "ev"; exact .tup h) rfl)) fun H2 e => q H2 e
    | dK h => exact s_ret (v := .bl false) (ev_andF (ev_is (v := .bl (decide (("dict" : String) = "int"))) (by walk_at "ev"; exact .dK h) rfl)) fun H2 e => q H2 e

/-! ### the law's own small defs -/
/-- a cell of the script -/
def cell (ns : List Int) (k : Int) : Int := if k < (ns.length : Int) then ns.getD k.toNat 0 else 0
def sp_cell (K : PySem.W.Frag) : Sp := fun vs H Q _ => ∃ (p : Addr) (ns : List Int) (k : Int), vs = [.ref p, .int k] ∧ SqL K H p (ns.map V.int) ∧ 0 ≤ k ∧ ∀ H2, Ex H H2 → Q (.int (cell ns k)) H2
theorem ok__law_cell (T : Top K mg a) : FnOk P w K mg base CX0 1 a.a__law_cell a.d__law_cell ["_law_script", "_law_k"] (sp_cell K) := by
  refine T.F__law_cell.ok sc__law_cell (fun vs H Q E h => ?_) (fun cdv A outer s H vs Q E hr h => ?_)
  · obtain ⟨p, ns, k, rfl, _⟩ := h
    rfl
  · obtain ⟨p, ns, k, rfl, hS, hk, q⟩ := h
    refine ⟨_, (pss_cons (ps_if (pt_cmpR op_lt (pv 1) (pe_callB (kx_len (K := K)) (by rfl) T.n_len (by decide +kernel) (pa_cons (pv 0) pa_nil)) (nomark _)) (pss_one (ps_ret (pe_ix (kx_ixL (K := K)) (pv 0) (pv 1) (fun _ _ => rfl)))) pss_nil)
  (pss_one (ps_ret pe_int))), ?_⟩
    refine q_when (b := decide (k < ((ns.map V.int).length : Int))) (by walk_at "ev") (fun hb H1 e1 => ?_) (fun hb H1 e1 => ?_)
    · have h1 : k < (ns.length : Int) := by simpa using hb
      have h2 : k.toNat < ns.length := by omega
      refine s_ret (v := .int (cell ns k)) ?_ fun H2 e2 => q H2 (e1.trans e2)
      have e : cell ns k = ns[k.toNat] := by
        unfold cell
        rw [if_pos h1, List.getD_eq_getElem?_getD, List.getElem?_eq_getElem h2]
        rfl
      rw [e]
      walk_at "ev"
      refine rv_ixL (ex_l e1 hS) ?_
      refine at_of (j := k.toNat) (by omega) ?_
      rw [List.getElem?_map, List.getElem?_eq_getElem h2]
      rfl
    · have h1 : ¬ k < (ns.length : Int) := by simpa using hb
      refine s_ret (v := .int (cell ns k)) ?_ fun H2 e2 => q H2 (e1.trans e2)
      unfold cell
      rw [if_neg h1]
      walk_at "ev"

/-- the mixed number -/
def mixed (c k : Int) : Int := (c + 7919 * k + 13) * (c + 7919 * k + 13) % 1000000007 * 48271 % 998244353 / 11
theorem mixed_nonneg (c k : Int) : 0 ≤ mixed c k := Int.ediv_nonneg (Int.emod_nonneg _ (by decide)) (by decide)
def sp_mixed : Sp := fun vs H Q _ => ∃ (c k : Int), vs = [.int c, .int k] ∧ Bd 2000000 c ∧ Bd 2000000 k ∧ ∀ H2, Ex H H2 → Q (.int (mixed c k)) H2
theorem ok__law_mixed (T : Top K mg a) : FnOk P w K mg base CX0 1 a.a__law_mixed a.d__law_mixed ["_law_cell_here", "_law_k"] sp_mixed := by
  refine T.F__law_mixed.ok sc__law_mixed (fun vs H Q E h => ?_) (fun cdv A outer s H vs Q E hr h => ?_)
  · obtain ⟨c, k, rfl, _⟩ := h
    rfl
  · obtain ⟨c, k, rfl, hc, hk, q⟩ := h
    refine ⟨_, (pss_cons (ps_set (i := 2) sc__law_mixed.nd rfl (.inl rfl) (pe_op op_add (pe_op op_add (pv 0) (pe_op op_mulB pe_int (pv 1))) pe_int))
  (pss_one (ps_ret (pe_op op_fdiv (pe_op op_mod (pe_op op_mul (pe_op op_mod (pe_op op_mulB (pv 2) (pv 2)) pe_int) pe_int) pe_int) pe_int)))), ?_⟩
    have b1 : Bd 13 (7919 : Int) := Bd.of (by decide)
    have b2 : Bd 2000013 (7919 * k) := (b1.mul hk).mono (by decide)
    have b3 : Bd 2000014 (c + 7919 * k) := Bd.add (hc.mono (by decide)) b2
    have b4 : Bd 2000015 (c + 7919 * k + 13) := Bd.add b3 ((Bd.of (n := 4) (by decide)).mono (by decide))
    refine q_asg (v := .int (c + 7919 * k + 13)) (by
      walk_at "ev"
      exact ⟨13, 2000000, b1, hk, by decide⟩) fun H1 e1 => ?_
    refine s_ret (v := .int (mixed c k)) ?_ fun H2 e2 => q H2 (e1.trans e2)
    unfold mixed
    walk_at "ev"
    · exact ⟨_, _, b4, b4, by decide⟩
    · decide
    · have h1 : 0 ≤ (c + 7919 * k + 13) * (c + 7919 * k + 13) % 1000000007 := Int.emod_nonneg _ (by decide)
      have h2 : (c + 7919 * k + 13) * (c + 7919 * k + 13) % 1000000007 < 1000000007 := Int.emod_lt_of_pos _ (by decide)
      exact .inl ⟨by omega, by omega⟩
    · decide
    · exact ⟨by decide, by decide⟩

/-- isinstance of an int, and of no bool -/
def sp_whole : Sp := fun vs H Q _ => ∃ i : Int, vs = [.int i] ∧ ∀ H2, Ex H H2 → Q (.bl true) H2
theorem ok__law_whole (T : Top K mg a) : FnOk P w K mg base CX0 1 a.a__law_whole a.d__law_whole ["_law_found"] sp_whole := by
  refine T.F__law_whole.ok sc__law_whole (fun vs H Q E h => ?_) (fun cdv A outer s H vs Q E hr h => ?_)
  · obtain ⟨i, rfl, _⟩ := h
    rfl
  · obtain ⟨i, rfl, q⟩ := h
    refine ⟨_, (pss_one (ps_ret (pe_and (pe_callB (kx_isi (K := K)) (by rfl) T.n_isinstance (by decide +kernel) (pa_cons (pv 0) (pa_cons (pe_bltn (v := .ty "int") rfl T.n_int (by decide +kernel) rfl) pa_nil))) (pe_one (pe_not (pe_callB (kx_isi (K := K)) (by rfl) T.n_isinstance (by decide +kernel) (pa_cons (pv 0) (pa_cons (pe_bltn (v := .ty "bool") rfl T.n_bool (by decide +kernel) rfl) pa_nil)))))))), ?_⟩
    refine s_ret (v := .bl true) ?_ fun H2 e2 => q H2 e2
    refine ev_andT ?_ (ev_notV (a := false) ?_)
    · walk_at "ev"
      exact rc_isi (.ty _) (.int i) (kit_ty (by decide +kernel))
    · walk_at "ev"
      exact rc_isi (.ty _) (.int i) (kit_ty (by decide +kernel))

end
end K1
set_option Elab.async false
set_option linter.all false
set_option maxRecDepth 100000
set_option maxHeartbeats 400000
namespace K1
open PySem PySem.Spec PyProof.Rows L2 Evl Z
section
variable {P : Program} {w : World} {K : PySem.W.Frag} {mg : Str → Option Value} {base : Heap} {a : Ad}
/-! ### a web drawn -/
theorem spv_cell {H : Hp} {p : Addr} {ns : List Int} {k : Int} (h : SqL K H p (ns.map V.int)) (hk : 0 ≤ k) : SpV (sp_cell K) [.ref p, .int k] H (.int (cell ns k)) := fun H1 e Q q E => ⟨p, ns, k, rfl, ex_l e h, hk, fun H2 e2 => q H2 e2⟩
theorem spv_mixed {H : Hp} {c k : Int} (h1 : Bd 2000000 c) (h2 : Bd 2000000 k) : SpV sp_mixed [.int c, .int k] H (.int (mixed c k)) := fun H1 e Q q E => ⟨c, k, rfl, h1, h2, fun H2 e2 => q H2 e2⟩
/-- the script: all its numbers have few bits -/
def Scr (ns : List Int) : Prop := ∀ z ∈ ns, Bd 1048576 z
theorem cell_bd {ns : List Int} (h : Scr ns) (k : Int) : Bd 1048576 (cell ns k) := by
  unfold cell
  split
  · rw [List.getD_eq_getElem?_getD]
    cases e : ns[k.toNat]? with
    | none => exact Bd.of (Nat.two_pow_pos _)
    | some z => exact h z (List.mem_of_getElem? e)
  · exact Bd.of (Nat.two_pow_pos _)
def sp_web (K : PySem.W.Frag) : Sp := fun vs H Q _ => ∃ (p : Addr) (ns : List Int) (first most : Int), vs = [.ref p, .int first, .int most] ∧ SqL K H p (ns.map V.int) ∧ Scr ns ∧ 0 ≤ first ∧ 1 ≤ most ∧ most ≤ 10 ∧
  ∀ (n : Nat) (ts : List Tie) (xs : List V) (t l : Addr) H2, WebOk n ts → (n : Int) ≤ most → Ex H H2 → H t = none → H l = none → H2 t = some (.tup [.int (n : Int), .ref l]) → H2 l = some (.lst xs) → Ties K H2 xs ts → Q (.ref t) H2
/-- what stands behind some turns of the two loops -/
structure WebIn (K : PySem.W.Frag) (H : Hp) (L : Addr) (i j : Nat) (H' : Hp) : Prop where
  ex : Ex H H'
  free : H L = none
  own : ∃ xs ts, H' L = some (.lst xs) ∧ Ties K H' xs ts ∧ ts.Nodup ∧ (∀ p ∈ ts, p.1 < p.2 ∧ (p.2 < i ∨ (p.2 = i ∧ p.1 < j))) ∧ ts.length ≤ 10 * i + j
theorem WebIn.next {H H' : Hp} {L : Addr} {i j : Nat} (h : WebIn K H L i j H') : WebIn K H L i (j + 1) H' := by
  obtain ⟨e, f, xs, ts, h1, h2, h3, h4, h5⟩ := h
  exact ⟨e, f, xs, ts, h1, h2, h3, fun p hp => ⟨(h4 p hp).1, (h4 p hp).2.imp id fun z => ⟨z.1, by omega⟩⟩, by omega⟩
theorem WebIn.more {H H' H1 : Hp} {L q : Addr} {i j : Nat} {xs : List V} {ts : List Tie} (h : WebIn K H L i j H') (e1 : Ex H' H1) (hij : j < i) (hL : H' L = some (.lst xs)) (hT : Ties K H' xs ts)
    (h3 : ts.Nodup) (h4 : ∀ p ∈ ts, p.1 < p.2 ∧ (p.2 < i ∨ (p.2 = i ∧ p.1 < j))) (h5 : ts.length ≤ 10 * i + j) (hq : H1 q = some (.tup [.int (j : Int), .int (i : Int)])) : WebIn K H L i (j + 1) (upd H1 L (.lst (xs ++ [.ref q]))) := by
  have hL1 := e1 L _ hL
  refine ⟨Ex.mut (h.ex.trans e1) h.free, h.free, _, ts ++ [(j, i)], upd_same, ?_, ?_, ?_, ?_⟩
  · exact Paired.app (Ties.upd hL1 (Ties.ex e1 hT)) (.cons (TieAt.upd hL1 ⟨q, rfl, SqT.of hq⟩) .nil)
  · rw [List.nodup_append]
    refine ⟨h3, (List.nodup_cons.mpr ⟨by simp, List.nodup_nil⟩), fun a ha b hb => ?_⟩
    have eb : b = (j, i) := by simpa using hb
    rintro rfl
    have := (h4 a ha).2
    rw [eb] at this
    rcases this with z | z
    · exact absurd z (Nat.lt_irrefl _)
    · exact absurd z.2 (Nat.lt_irrefl _)
  · intro p hp
    rcases List.mem_append.mp hp with z | z
    · exact ⟨(h4 p z).1, (h4 p z).2.imp id fun z => ⟨z.1, by omega⟩⟩
    · have eb : p = (j, i) := by simpa using z
      subst eb
      exact ⟨hij, .inr ⟨rfl, by omega⟩⟩
  · rw [List.length_append]
    simp only [List.length_cons, List.length_nil]
    omega
theorem ok__law_web (T : Top K mg a) : FnOk P w K mg base CX0 2 a.a__law_web a.d__law_web ["_law_script", "_law_first", "_law_most"] (sp_web K) := by
  refine T.F__law_web.ok sc__law_web (fun vs H Q E h => ?_) (fun cdv A outer s H vs Q E hr h => ?_)
  · obtain ⟨p, ns, first, most, rfl, _⟩ := h
    rfl
  · obtain ⟨p, ns, first, most, rfl, hS, hb, hf, hm1, hm2, q⟩ := h
    refine ⟨_, (pss_cons (ps_set (i := 3) sc__law_web.nd rfl (.inl rfl) (pe_call (ok__law_cell T) (hr.mono (by decide)) rfl T.g__law_cell T.F__law_cell.kp T.b__law_cell .nil pass0 (pa_cons (pv 0) (pa_cons (pv 1) pa_nil))))
  (pss_cons (ps_set (i := 4) sc__law_web.nd rfl (.inl rfl) (pe_op op_add pe_int (pe_op op_mod (pv 3) (pv 2))))
  (pss_cons (ps_set (i := 5) sc__law_web.nd rfl (.inl rfl) (pe_lst pa_nil))
  (pss_cons (ps_for PassesOwn.never rfl (pi_range1 rfl T.n_range (pa_cons (pv 4) pa_nil)) (pg_name (i := 6) sc__law_web.nd rfl (.inl rfl)) (pss_one (ps_for PassesOwn.never rfl (pi_range1 rfl T.n_range (pa_cons (pv 6) pa_nil)) (pg_name (i := 7) sc__law_web.nd rfl (.inl rfl)) (pss_cons (ps_set (i := 8) sc__law_web.nd rfl (.inl rfl) (pe_call (ok__law_mixed T) (hr.mono (by decide)) rfl T.g__law_mixed T.F__law_mixed.kp T.b__law_mixed .nil pass0 (pa_cons (pe_call (ok__law_cell T) (hr.mono (by decide)) rfl T.g__law_cell T.F__law_cell.kp T.b__law_cell .nil pass0 (pa_cons (pv 0) (pa_cons (pe_op op_add (pe_op op_add (pv 1) pe_int) (pe_op op_mod (pe_op op_add (pv 7) (pe_op op_mul pe_int (pv 6))) pe_int)) pa_nil))) (pa_cons (pe_op op_add (pe_op op_add (pv 7) (pe_op op_mul pe_int (pv 6))) (pe_op op_fdiv (pv 3) pe_int)) pa_nil))))
  (pss_cons (ps_set (i := 9) sc__law_web.nd rfl (.inl rfl) (pe_op op_mod (pe_op op_fdiv (pv 3) pe_int) pe_int))
  (pss_one (ps_if (PW.pt (pw_or (PW.pt (pw_and (pt_cmpR op_lt (pv 9) pe_int (nomark _)) (pw_and1 (pt_cmpR op_eq (pe_op op_mod (pv 8) (pe_ix (kx_ixL (K := K)) (pe_lst (pa_cons pe_int (pa_cons pe_int (pa_cons pe_int (pa_cons pe_int pa_nil))))) (pv 9) (fun _ _ => rfl))) pe_int (nomark _))))) (pw_or1 (PW.pt (pw_and (pt_cmpR op_eq (pv 9) pe_int (nomark _)) (pw_and1 (pt_cmpR op_gt (pe_op op_mod (pv 8) pe_int) pe_int (nomark _)))))))) (pss_one (ps_expr (pe_bm PySem.F.plainAttrs_list PySem.F.slot_list_append PySem.F.type_list_append mt_append (pv 5) (pa_cons (pe_tup (pa_cons (pv 7) (pa_cons (pv 6) pa_nil))) pa_nil)))) (pss_one (ps_if (PW.pt (pw_and (pt_cmpR op_eq (pv 9) pe_int (nomark _)) (pw_and1 (PW.pt (pw_or (pt_cmpR op_eq (pv 6) (pe_op op_add (pv 7) pe_int) (nomark _)) (pw_or1 (pt_cmpR op_eq (pe_op op_mod (pv 8) pe_int) pe_int (nomark _)))))))) (pss_one (ps_expr (pe_bm PySem.F.plainAttrs_list PySem.F.slot_list_append PySem.F.type_list_append mt_append (pv 5) (pa_cons (pe_tup (pa_cons (pv 7) (pa_cons (pv 6) pa_nil))) pa_nil)))) pss_nil)))))))))
  (pss_cons (ps_set (i := 10) sc__law_web.nd rfl (.inl rfl) (pe_op op_mod (pe_op op_fdiv (pv 3) pe_int) (pe_op op_add pe_int (pe_callB (kx_len (K := K)) (by rfl) T.n_len (by decide +kernel) (pa_cons (pv 5) pa_nil)))))
  (pss_one (ps_ret (pe_tup (pa_cons (pv 4) (pa_cons (pe_op op_cat (pe_slice (kx_slL (K := K)) (pv 5) (po_some (pv 10)) po_none) (pe_slice (kx_slL (K := K)) (pv 5) po_none (po_some (pv 10)))) pa_nil)))))))))), ?_⟩
    have bc : ∀ k, Bd 1048576 (cell ns k) := cell_bd hb
    generalize hc : cell ns first = c
    have bC : Bd 1048576 c := hc ▸ bc first
    -- the cell, the size
    refine q_asg (v := .int c) (by
      rw [← hc]
      walk_at "ev"
      exact spv_cell hS hf) fun H1 e1 => ?_
    obtain ⟨n, hn⟩ : ∃ n : Nat, (n : Int) = 1 + c % most := ⟨(1 + c % most).toNat, by have := Int.emod_nonneg c (show most ≠ 0 by omega); omega⟩
    have hn1 : 1 ≤ n := by have := Int.emod_nonneg c (show most ≠ 0 by omega); omega
    have hn2 : (n : Int) ≤ most := by have := Int.emod_lt_of_pos c (show 0 < most by omega); omega
    refine q_asg (v := .int (n : Int)) (by
      rw [hn]
      walk_at "ev"
      omega) fun H2 e2 => ?_
    have eS2 : SqL K H2 p (ns.map V.int) := ex_l (e1.trans e2) hS
    refine q_asgL (xs := []) (el_lst (by walk_at "ev") (by decide)) fun L H3 hL e3 hL3 => ?_
    have fL : H L = none := fresh_back (e1.trans e2) hL
    have e03 : Ex H H3 := (e1.trans e2).trans e3
    -- the kind
    have kk : 0 ≤ c / 10 % 6 ∧ c / 10 % 6 < 6 := ⟨Int.emod_nonneg _ (by decide), Int.emod_lt_of_pos _ (by decide)⟩
    generalize hk : c / 10 % 6 = k at kk
    -- the outer loop
    refine q_forR1 (n := (n : Int)) (by walk_at "ev") (by omega) (fun i σ' H' => ∃ x6 x7 x8 x9, σ' = [some (.ref p), some (.int first), some (.int most), some (.int c), some (.int (n : Int)), some (.ref L), x6, x7, x8, x9, none] ∧ WebIn K H L i 0 H') ?_ ?_ ?_
    · intro H4 e4
      exact ⟨none, none, none, none, rfl, e03.trans e4, fL, [], [], e4 _ _ hL3, .nil, List.nodup_nil, fun p hp => (by cases hp), by simp⟩
    · rintro i σ' H' hi ⟨x6, x7, x8, x9, rfl, w⟩
      -- the inner loop
      refine s_forR1 (n := (i : Int)) (by walk_at "ev") (by omega) (fun j σ2 H2 => ∃ x7 x8 x9, σ2 = [some (.ref p), some (.int first), some (.int most), some (.int c), some (.int (n : Int)), some (.ref L), some (.int (i : Int)), x7, x8, x9, none] ∧ WebIn K H L i j H2) ?_ ?_ ?_
      · intro H4 e4
        obtain ⟨we, wf, xs, ts, w1, w2, w3⟩ := w
        exact ⟨x7, x8, x9, rfl, we.trans e4, wf, xs, ts, e4 _ _ w1, Ties.ex e4 w2, w3⟩
      · rintro j σ2 Ha hj ⟨y7, y8, y9, rfl, wa⟩
        have hS' : SqL K Ha p (ns.map V.int) := ex_l wa.ex hS
        obtain ⟨z, hz, hzb⟩ : ∃ z : Int, z = mixed (cell ns (first + 1 + ((j : Int) + 3 * (i : Int)) % 6)) ((j : Int) + 11 * (i : Int) + c / 64) ∧ True := ⟨_, rfl, trivial⟩
        -- the number
        refine q_asg (v := .int z) (by
          rw [hz]
          walk_at "ev"
          · exact .inl ⟨by decide, by decide⟩
          · decide
          · exact spv_cell hS' (by have := Int.emod_nonneg ((j : Int) + 3 * (i : Int)) (show (6 : Int) ≠ 0 by decide); omega)
          · exact .inl ⟨by decide, by decide⟩
          · exact ⟨by decide, by decide⟩
          · refine spv_mixed ((bc _).mono (by decide)) ?_
            have b1 : Bd 1048576 (c / 64) := bC.div (by decide)
            have b2 : Bd 20 ((j : Int) + 11 * (i : Int)) := Bd.of (Nat.lt_of_lt_of_le (show ((j : Int) + 11 * (i : Int)).natAbs < 1000 by omega) (by decide))
            exact (Bd.add (n := 1048576) (b2.mono (by decide)) b1).mono (by decide)) fun Hb eb => ?_
        refine q_asg (v := .int k) (by
          rw [← hk]
          walk_at "ev"
          · exact ⟨by decide, by decide⟩
          · decide) fun Hc ec => ?_
        have ebc := eb.trans ec
        obtain ⟨we, wf, xs, ts, w1, w2, w3, w4, w5⟩ := id wa
        have w1' := ebc _ _ w1
        have hlen : xs.length < 100000 := by
          have := Paired.len w2
          omega
        generalize hm : ([2, 3, 5, 4] : List Int).getD k.toNat 1 = m
        have hmp : 0 < m := by
          have : k.toNat = 0 ∨ k.toNat = 1 ∨ k.toNat = 2 ∨ k.toNat = 3 ∨ 4 ≤ k.toNat := by omega
          rcases this with h | h | h | h | h
          · rw [h] at hm; subst hm; decide
          · rw [h] at hm; subst hm; decide
          · rw [h] at hm; subst hm; decide
          · rw [h] at hm; subst hm; decide
          · rw [List.getD_eq_getElem?_getD, List.getElem?_eq_none (by simpa using h)] at hm
            subst hm
            decide
        have app : ∀ H4, Ex Hc H4 → ∀ (D : Ends) (σ : L2.St), σ[7]? = some (some (.int (j : Int))) → σ[6]? = some (some (.int (i : Int))) → σ[5]? = some (some (.ref L)) → (∀ q H5, Ex H4 H5 → H5 q = some (.tup [.int (j : Int), .int (i : Int)]) → D.nx σ (upd H5 L (.lst (xs ++ [.ref q])))) →
            tDrop (tBM K "list" rAppend (tVar 5) (tCons (tTup (tCons (tVar 7) (tCons (tVar 6) tNil))) tNil)) D σ H4 := fun H4 e4 D σ s7 s6 s5 kq =>
          s_appU (e4 _ _ w1') (ev_var s5) (eu_tup (ea_cons (ev_var s7) (ea_cons (ev_var s6) ea_nil)) (by show 2 ≤ 100000; decide)) hlen fun q H5 _ e5 hq => kq q H5 e5 hq
        refine s_if (b := (decide (k < 4) && decide ((V.int (z % m)) = V.int 0)) || (decide ((V.int k) = V.int 4) && decide (0 < z % 4))) ?_ (fun _ H4 e4 => ?_) (fun _ H4 e4 => ?_)
        · refine et_or (et_and (by walk_at "ev") fun hk4 => ?_) fun _ => et_and (by walk_at "ev") fun _ => (by
            walk_at "ev"
            decide)
          have hk4' : k < 4 := of_decide_eq_true hk4
          refine et_test (ev_op (x := .int (z % m)) ?_ ev_c (rv_eq rfl))
          refine ev_op (by walk_at "ev") (ev_opL1 (xs := [.int 2, .int 3, .int 5, .int 4]) (y := .int k) (z := .int m) (el_lst (by walk_at "ev") (by decide)) (fun H5 e5 => by walk_at "ev") fun l H5 h5 e5 => rv_ixL (SqL.of h5) ?_) (rv_I hmp)
          refine at_of (j := k.toNat) (by omega) ?_
          have : k.toNat = 0 ∨ k.toNat = 1 ∨ k.toNat = 2 ∨ k.toNat = 3 := by omega
          rcases this with h | h | h | h
          · rw [h] at hm ⊢; subst hm; rfl
          · rw [h] at hm ⊢; subst hm; rfl
          · rw [h] at hm ⊢; subst hm; rfl
          · rw [h] at hm ⊢; subst hm; rfl
        · refine app H4 e4 _ _ rfl rfl rfl fun q H5 e5 hq => ⟨_, _, _, rfl, WebIn.more wa (ebc.trans (e4.trans e5)) (by omega) w1 w2 w3 w4 w5 hq⟩
        · refine s_when (b := decide ((V.int k) = V.int 5) && (decide ((V.int (i : Int)) = V.int ((j : Int) + 1)) || decide ((V.int (z % 6)) = V.int 0))) ?_ (fun _ H5 e5 => ?_) (fun _ H5 e5 => ?_)
          · walk_at "ev"
            decide
          · refine app H5 (e4.trans e5) _ _ rfl rfl rfl fun q H6 e6 hq => ⟨_, _, _, rfl, WebIn.more wa (ebc.trans ((e4.trans e5).trans e6)) (by omega) w1 w2 w3 w4 w5 hq⟩
          · have eall := ebc.trans (e4.trans e5)
            exact ⟨_, _, _, rfl, WebIn.next ⟨we.trans eall, wf, xs, ts, eall _ _ w1, Ties.ex eall w2, w3, w4, w5⟩⟩
      · rintro σ2 Ha ⟨y7, y8, y9, rfl, we, wf, xs, ts, w1, w2, w3, w4, w5⟩
        refine ⟨_, _, _, _, rfl, we, wf, xs, ts, w1, w2, w3, fun p hp => ⟨(w4 p hp).1, .inl ?_⟩, ?_⟩
        · have := (w4 p hp).2
          omega
        · omega
    · rintro σ' H' ⟨x6, x7, x8, x9, rfl, we, wf, xs, ts, w1, w2, w3, w4, w5⟩
      have hlen := Paired.len w2
      have W : WebOk n ts := ⟨⟨hn1, by omega⟩, w3, fun p hp => ⟨(w4 p hp).1, by have := (w4 p hp).2; omega⟩⟩
      have hl45 := W.len
      -- the turn
      obtain ⟨k, hk2⟩ : ∃ k : Nat, (k : Int) = c / 60 % (1 + (xs.length : Int)) := ⟨(c / 60 % (1 + (xs.length : Int))).toNat, by have := Int.emod_nonneg (c / 60) (show (1 + (xs.length : Int)) ≠ 0 by omega); omega⟩
      have hkl : k ≤ xs.length := by have := Int.emod_lt_of_pos (c / 60) (show 0 < (1 + (xs.length : Int)) by omega); omega
      refine q_asg (v := .int (k : Int)) (by
        rw [hk2]
        walk_at "ev"
        · exact ⟨by decide, by decide⟩
        · show (0 : Int) < 1 + (xs.length : Int)
          omega) fun H4 e4 => ?_
      have w1' := e4 _ _ w1
      refine s_retG (eg_tup2 (xs := xs.drop k ++ xs.take k) (x := .int (n : Int)) (by walk_at "ev") (el_cat ?_ ?_ ?_)) fun v H5 e5 hv => ?_
      · rw [← cut_from xs hkl]
        exact el_sl (by walk_at "ev") (by walk_at "ev") (by walk_at "ev") (SqL.of w1')
      · rw [← cut_to xs hkl]
        exact el_sl (by walk_at "ev") (by walk_at "ev") (by walk_at "ev") (SqL.of w1')
      · rw [List.length_drop, List.length_take]
        omega
      · obtain ⟨t, l, rfl, ft, fl, ht, hl⟩ := hv
        have e04 := we.trans e4
        exact q n (ts.drop k ++ ts.take k) _ t l H5 (W.perm (rot_perm ts k)) hn2 (e04.trans e5) (fresh_back e04 ft) (fresh_back e04 fl) ht hl (Paired.app (Paired.drop k (Ties.ex (e4.trans e5) w2)) (Paired.take k (Ties.ex (e4.trans e5) w2)))
def PWeb (K : PySem.W.Frag) (most : Int) : Hp → V → Hp → Prop := fun H1 v H2 => ∃ (n : Nat) (ts : List Tie) (xs : List V) (t l : Addr), v = .ref t ∧ WebOk n ts ∧ (n : Int) ≤ most ∧ H1 t = none ∧ H1 l = none ∧ H2 t = some (.tup [.int (n : Int), .ref l]) ∧ H2 l = some (.lst xs) ∧ Ties K H2 xs ts
theorem eg_web {σ : L2.St} {H : Hp} {p : Addr} {ns : List Int} {first most : Int} {E : XK} {ta : TA} (ha : EvA ta σ H [.ref p, .int first, .int most]) (hS : SqL K H p (ns.map V.int)) (hb : Scr ns) (h0 : 0 ≤ first) (h1 : 1 ≤ most) (h2 : most ≤ 10) : EvG (tCall (sp_web K) [] E ta) σ H (PWeb K most) := fun H1 e Q q =>
  ha H1 e _ fun H2 e2 => ⟨p, ns, first, most, rfl, ex_l (e.trans e2) hS, hb, h0, h1, h2, fun n ts xs t l H3 w1 w2 e3 f1 f2 a1 a2 a3 => q _ H3 (e2.trans e3) ⟨n, ts, xs, t, l, rfl, w1, w2, fresh_back e2 f1, fresh_back e2 f2, a1, a2, a3⟩⟩

end
end K1
set_option Elab.async false
set_option linter.all false
set_option maxRecDepth 100000
set_option maxHeartbeats 4000000
namespace K1
open PySem PySem.Spec PyProof.Rows L2 Evl Z
section
variable {P : Program} {w : World} {K : PySem.W.Frag} {mg : Str → Option Value} {base : Heap} {a : Ad}
/-! ### the counts of a web -/
def sp_counts (K : PySem.W.Frag) : Sp := fun vs H Q _ => ∃ (n : Nat) (l : Addr) (xs : List V) (ts : List Tie), vs = [.int (n : Int), .ref l] ∧ SqL K H l xs ∧ Ties K H xs ts ∧ n ≤ 100 ∧ ts.length ≤ 1000 ∧
  ∀ p H2, H p = none → Ex H H2 → H2 p = some (.lst ((degsI n ts).map V.int)) → Q (.ref p) H2
theorem ok__law_counts (T : Top K mg a) : FnOk P w K mg base CX0 1 a.a__law_counts a.d__law_counts ["_law_size", "_law_ties"] (sp_counts K) := by
  refine T.F__law_counts.ok sc__law_counts (fun vs H Q E h => ?_) (fun cdv A outer s H vs Q E hr h => ?_)
  · obtain ⟨n, l, xs, ts, rfl, _⟩ := h
    rfl
  · obtain ⟨n, l, xs, ts, rfl, hS, hT, hn, hl, q⟩ := h
    refine ⟨_, (pss_one (ps_ret (pe_lc (own := [("_law_point", 2)]) rfl sc__law_counts.nd (pi_range1 rfl T.n_range (pa_cons (pv 0) pa_nil)) (blkOk_by (own := [("_law_point", 2)]) (N := n__law_counts) (sc := defScope s__law_counts) (by decide +kernel)) (fun _ _ _ _ _ => pg_name (i := 2) sc__law_counts.nd rfl (by first | exact Or.inl rfl | exact Or.inr rfl)) (fun _ _ _ _ _ => pts_nil) (fun _ _ _ _ _ => (pe_callB (kx_len (K := K)) (by rfl) T.n_len (by decide +kernel) (pa_cons (pe_lc (own := [("_law_tie", 3)]) rfl sc__law_counts.nd (kx_piL (K := K) (pv 1)) (blkOk_by (own := [("_law_tie", 3)]) (N := n__law_counts) (sc := relS _ (defScope s__law_counts)) (by decide +kernel)) (fun _ _ _ _ _ => pg_name (i := 3) sc__law_counts.nd rfl (by first | exact Or.inl rfl | exact Or.inr rfl)) (fun _ _ _ _ _ => pts_one (pt_cmpR (kx_in (K := K)) (pv 2) (pv 3) (by rfl))) (fun _ _ _ _ _ => pe_int)) pa_nil)))))), ?_⟩
    have hlen := Paired.len hT
    refine s_retL (xs := (degsI n ts).map V.int) ?_ fun p H1 hp e1 h1 => q p H1 hp e1 h1
    refine el_eq (el_lcR1 (n := (n : Int)) (fun _ => true) (fun i => .int (deg ts i : Int)) (by walk_at "ev") (by omega) (fun _ => rfl) (fun _ _ _ _ => et_yes) (fun i H1 e1 hi _ => ?_)) ?_
    · have hS1 := ex_l e1 hS
      have hT1 := Ties.ex e1 hT
      have hd : ((given xs.length (fun m => inTie i (ts.getD m (0, 0))) (fun _ => V.int 1)).length : Int) = (deg ts i : Int) := by
        rw [hlen, range_filter (inTie i) (fun _ => V.int 1) ts (0, 0), List.length_map]
        rfl
      refine ev_is (ev_lenL (el_lcL (xs := xs) (fun m => inTie i (ts.getD m (0, 0))) (fun _ => .int 1) (by walk_at "ev") hS1 (by omega) (fun _ => rfl) (fun m x H2 e2 hx => ?_) (fun _ _ _ _ _ _ => ev_c))) (congrArg V.int hd)
      obtain ⟨b, hb, t, rfl, ht⟩ := Paired.at (Ties.ex e2 hT1) hx
      have hg : ts.getD m (0, 0) = b := by
        rw [List.getD_eq_getElem?_getD, hb]
        rfl
      rw [hg, ← inV_tie]
      exact et_test (ev_op (ev_var rfl) (ev_var rfl) (rv_isT ht rfl rfl))
    · rw [given_all, Int.toNat_natCast]
      unfold degsI
      rw [List.map_map]
      rfl
theorem el_counts {σ : L2.St} {H : Hp} {n : Nat} {l : Addr} {xs : List V} {ts : List Tie} {E : XK} {ta : TA} (ha : EvA ta σ H [.int (n : Int), .ref l]) (hS : SqL K H l xs) (hT : Ties K H xs ts) (hn : n ≤ 100) (hl : ts.length ≤ 1000) : EvL (tCall (sp_counts K) [] E ta) σ H ((degsI n ts).map V.int) := fun H1 e Q q =>
  ha H1 e _ fun H2 e2 => ⟨n, l, xs, ts, rfl, ex_l (e.trans e2) hS, Ties.ex (e.trans e2) hT, hn, hl, fun p H3 hp e3 h3 => q p H3 (fresh_back e2 hp) (e2.trans e3) h3⟩

end
end K1
set_option Elab.async false
set_option linter.all false
set_option maxRecDepth 100000
set_option maxHeartbeats 300000
namespace K1
open PySem PySem.Spec PyProof.Rows L2 Evl Z
section
variable {P : Program} {w : World} {K : PySem.W.Frag} {mg : Str → Option Value} {base : Heap} {a : Ad}
/-! ### counts drawn -/
def sp_drawn (K : PySem.W.Frag) : Sp := fun vs H Q _ => ∃ (p : Addr) (ns : List Int) (first most : Int), vs = [.ref p, .int first, .int most] ∧ SqL K H p (ns.map V.int) ∧ Scr ns ∧ 0 ≤ first ∧ 1 ≤ most ∧ most ≤ 10 ∧
  ∀ (cs : List Int) (l : Addr) H2, CountsOk cs → Ex H H2 → H l = none → H2 l = some (.lst (cs.map V.int)) → Q (.ref l) H2
theorem ok__law_drawn (T : Top K mg a) : FnOk P w K mg base CX0 3 a.a__law_drawn a.d__law_drawn ["_law_script", "_law_first", "_law_most"] (sp_drawn K) := by
  refine T.F__law_drawn.ok sc__law_drawn (fun vs H Q E h => ?_) (fun cdv A outer s H vs Q E hr h => ?_)
  · obtain ⟨p, ns, first, most, rfl, _⟩ := h
    rfl
  · obtain ⟨p, ns, first, most, rfl, hS, hb, hf, hm1, hm2, q⟩ := h
    refine ⟨_, (pss_cons (ps_asg (pe_call (ok__law_web T) (hr.mono (by decide)) rfl T.g__law_web T.F__law_web.kp T.b__law_web .nil pass0 (pa_cons (pv 0) (pa_cons (pv 1) (pa_cons (pv 2) pa_nil)))) (kx_pgT (K := K) rfl (pgs_cons (pg_name (i := 3) sc__law_drawn.nd rfl (.inl rfl)) (pgs_cons (pg_name (i := 4) sc__law_drawn.nd rfl (.inl rfl)) pgs_nil))))
  (pss_cons (ps_set (i := 5) sc__law_drawn.nd rfl (.inl rfl) (pe_call (ok__law_counts T) (hr.mono (by decide)) rfl T.g__law_counts T.F__law_counts.kp T.b__law_counts .nil pass0 (pa_cons (pv 3) (pa_cons (pv 4) pa_nil))))
  (pss_cons (ps_set (i := 6) sc__law_drawn.nd rfl (.inr rfl) (pe_call (ok__law_cell T) (hr.mono (by decide)) rfl T.g__law_cell T.F__law_cell.kp T.b__law_cell .nil pass0 (pa_cons (pv 0) (pa_cons (pe_op op_add (pv 1) pe_int) pa_nil))))
  (pss_cons (ps_if (pt_cmpR op_eq (pe_op op_mod (pv 6) pe_int) pe_int (nomark _)) (pss_one (ps_ret (pv 5))) pss_nil)
  (pss_cons (ps_if (pt_cmpR op_eq (pe_op op_mod (pv 6) pe_int) pe_int (nomark _)) (pss_cons (ps_set (i := 7) sc__law_drawn.nd rfl (.inr rfl) (pe_ix (kx_ixL (K := K)) (pe_lst (pa_cons (pv 3) (pa_cons (pe_op op_add (pv 3) pe_int) (pa_cons pe_int (pa_cons pe_int pa_nil))))) (pe_op op_mod (pe_op op_fdiv (pv 6) pe_int) pe_int) (fun _ _ => rfl)))
  (pss_one (ps_ret (pe_lc (own := [("_law_k", 10)]) rfl sc__law_drawn.nd (pi_range1 rfl T.n_range (pa_cons (pv 3) pa_nil)) (blkOk_by (own := [("_law_k", 10)]) (N := n__law_drawn) (sc := defScope s__law_drawn) (by decide +kernel)) (fun _ _ _ _ _ => pg_name (i := 10) sc__law_drawn.nd rfl (by first | exact Or.inl rfl | exact Or.inr rfl)) (fun _ _ _ _ _ => pts_nil) (fun _ _ _ _ _ => (pe_op op_mod (pe_call (ok__law_mixed T) (hr.mono (by decide)) rfl T.g__law_mixed T.F__law_mixed.kp T.b__law_mixed .nil pass0 (pa_cons (pv 6) (pa_cons (pv 10) pa_nil))) (pv 7))))))) pss_nil)
  (pss_cons (ps_for PassesOwn.never rfl (pi_range1 rfl T.n_range (pa_cons (pe_op op_mod (pv 6) pe_int) pa_nil)) (pg_name (i := 8) sc__law_drawn.nd rfl (.inl rfl)) (pss_cons (ps_set (i := 9) sc__law_drawn.nd rfl (.inl rfl) (pe_op op_mod (pe_op op_fdiv (pv 6) (pe_op op_add pe_int (pv 8))) (pv 3)))
  (pss_one (ps_asg (pe_callB (call_max2 rfl) (by rfl) T.n_max (by decide +kernel) (pa_cons pe_int (pa_cons (pe_callB (call_min2 rfl) (by rfl) T.n_min (by decide +kernel) (pa_cons pe_int (pa_cons (pe_op op_add (pe_ix (kx_ixL (K := K)) (pv 5) (pv 9) (fun _ _ => rfl)) (pe_ix (kx_ixL (K := K)) (pe_lst (pa_cons pe_int (pa_cons (pe_un un_neg pe_int) (pa_cons pe_int (pa_cons pe_int pa_nil))))) (pe_op op_mod (pe_op op_fdiv (pv 6) (pe_op op_add pe_int (pv 8))) pe_int) (fun _ _ => rfl))) pa_nil))) pa_nil))) (pg_sub (pv 5) (pv 9) set_list)))))
  (pss_one (ps_ret (pv 5))))))))), ?_⟩
    refine q_asg2 (eg_web (by walk_at "ev") hS hb hf hm1 hm2) fun v H1 e1 hv => ?_
    obtain ⟨n, ts, xs, t, l, rfl, W, hn, ft, fl, ht, hl, hT⟩ := hv
    refine ⟨t, _, _, rfl, SqT.of ht, ?_⟩
    have hW := W.size
    have hD := degsI_ok W
    refine q_asgL (el_counts (by walk_at "ev") (SqL.of hl) hT (by omega) (by have := W.len; omega)) fun L H2 hL e2 h2 => ?_
    have fL : H L = none := fresh_back e1 hL
    generalize hc : cell ns (first + 7) = c
    have bC : Bd 1048576 c := hc ▸ cell_bd hb _
    refine q_asg (v := .int c) (by
      rw [← hc]
      walk_at "ev"
      exact spv_cell (ex_l (e1.trans e2) hS) (by omega)) fun H3 e3 => ?_
    have e03 := (e1.trans e2).trans e3
    have h3 := e3 _ _ h2
    refine q_when (b := decide (V.int (c % 4) = V.int 0)) (by
      walk_at "ev"
      decide) (fun _ H4 e4 => ?_) (fun _ H4 e4 => ?_)
    · refine s_ret (v := .ref L) (by walk_at "ev") fun H5 e5 => q _ L H5 hD ((e03.trans e4).trans e5) fL ((e4.trans e5) _ _ h3)
    · refine q_when (b := decide (V.int (c % 4) = V.int 3)) (by
        walk_at "ev"
        decide) (fun _ H5 e5 => ?_) (fun _ H5 e5 => ?_)
      · -- any counts
        have kk : 0 ≤ c / 4 % 4 ∧ c / 4 % 4 < 4 := ⟨Int.emod_nonneg _ (by decide), Int.emod_lt_of_pos _ (by decide)⟩
        generalize hk : c / 4 % 4 = k at kk
        generalize hm : ([(n : Int), (n : Int) + 2, 21, 3] : List Int).getD k.toNat 1 = m
        have k4 : k.toNat = 0 ∨ k.toNat = 1 ∨ k.toNat = 2 ∨ k.toNat = 3 := by omega
        have hmp : 0 < m ∧ m ≤ 21 := by
          rcases k4 with h | h | h | h
          · rw [h] at hm; have : (n : Int) = m := hm; omega
          · rw [h] at hm; have : (n : Int) + 2 = m := hm; omega
          · rw [h] at hm; have : (21 : Int) = m := hm; omega
          · rw [h] at hm; have : (3 : Int) = m := hm; omega
        refine q_asg (v := .int m) ?_ fun H6 e6 => ?_
        · refine ev_opL1 (xs := [.int (n : Int), .int ((n : Int) + 2), .int 21, .int 3]) (y := .int k) (el_lst (by walk_at "ev") (by show 4 ≤ 100000; decide)) (fun H6 e6 => ?_) fun l6 H6 h6 e6 => rv_ixL (SqL.of h6) ?_
          · rw [← hk]
            walk_at "ev"
            · exact ⟨by decide, by decide⟩
            · decide
          · refine at_of (j := k.toNat) (by omega) ?_
            rcases k4 with h | h | h | h
            · rw [h] at hm ⊢; subst hm; rfl
            · rw [h] at hm ⊢; subst hm; rfl
            · rw [h] at hm ⊢; subst hm; rfl
            · rw [h] at hm ⊢; subst hm; rfl
        · refine s_retL (el_lcR1 (n := (n : Int)) (fun _ => true) (fun i => .int (mixed c (i : Int) % m)) (by walk_at "ev") (by omega) (fun _ => rfl) (fun _ _ _ _ => et_yes) (fun i H1 e1 hi _ => by
            walk_at "ev"
            · exact spv_mixed (bC.mono (by decide)) (Bd.of (Nat.lt_of_lt_of_le (show ((i : Nat) : Int).natAbs < 2 ^ 8 by omega) (Nat.pow_le_pow_right (by decide) (by decide))))
            · exact hmp.1)) fun L7 H7 hL7 e7 h7 => ?_
          rw [given_all] at h7
          refine q ((List.range n).map fun i : Nat => mixed c (i : Int) % m) L7 H7 ⟨?_, ?_⟩ (((e03.trans (e4.trans e5)).trans e6).trans e7) (fresh_back ((e03.trans (e4.trans e5)).trans e6) hL7) ?_
          · rw [List.length_map, List.length_range]; omega
          · intro z hz
            obtain ⟨i, _, rfl⟩ := List.mem_map.mp hz
            have := Int.emod_nonneg (mixed c (i : Int)) (show m ≠ 0 by omega)
            have := Int.emod_lt_of_pos (mixed c (i : Int)) hmp.1
            omega
          · rw [h7, Int.toNat_natCast, List.map_map]
            rfl
      · -- one or two changed
        have e05 := e03.trans (e4.trans e5)
        have h5 := (e4.trans e5) _ _ h3
        have c4 : 0 ≤ c % 4 ∧ c % 4 < 4 := ⟨Int.emod_nonneg _ (by decide), Int.emod_lt_of_pos _ (by decide)⟩
        refine q_forR1 (n := c % 4) (by
          walk_at "ev"
          decide) (by omega) (fun i σ' H' => ∃ x8 x9 x10 x11, σ' = [some (.ref p), some (.int first), some (.int most), some (.int (n : Int)), some (.ref l), some (.ref L), some (.int c), x8, x9, x10, x11] ∧ Ex H H' ∧ ∃ cs : List Int, H' L = some (.lst (cs.map V.int)) ∧ CountsOk cs ∧ cs.length = n) ?_ ?_ ?_
        · intro H6 e6
          exact ⟨_, _, _, _, rfl, e05.trans e6, degsI n ts, e6 _ _ h5, hD, by unfold degsI; rw [List.length_map, List.length_range]⟩
        · rintro i σ' H' hi ⟨x8, x9, x10, x11, rfl, e6, cs, h6, hC, hlen⟩
          obtain ⟨j, hj⟩ : ∃ j : Nat, (j : Int) = c / (4 + (i : Int)) % (n : Int) := ⟨(c / (4 + (i : Int)) % (n : Int)).toNat, by have := Int.emod_nonneg (c / (4 + (i : Int))) (show (n : Int) ≠ 0 by omega); omega⟩
          have hjn : j < n := by have := Int.emod_lt_of_pos (c / (4 + (i : Int))) (show (0 : Int) < (n : Int) by omega); omega
          refine q_asg (v := .int (j : Int)) (by
            rw [hj]
            walk_at "ev"
            · exact ⟨by omega, by omega⟩
            · omega) fun H7 e7 => ?_
          have kk : 0 ≤ c / (40 + (i : Int)) % 4 ∧ c / (40 + (i : Int)) % 4 < 4 := ⟨Int.emod_nonneg _ (by decide), Int.emod_lt_of_pos _ (by decide)⟩
          generalize hk : c / (40 + (i : Int)) % 4 = k at kk
          have k4 : k.toNat = 0 ∨ k.toNat = 1 ∨ k.toNat = 2 ∨ k.toNat = 3 := by omega
          generalize hm : ([1, -1, 2, 1] : List Int).getD k.toNat 1 = m
          have h7 := e7 _ _ h6
          have hj2 : j < cs.length := by omega
          obtain ⟨y, hy⟩ : ∃ y, y = cs[j] + m := ⟨_, rfl⟩
          obtain ⟨z, hz⟩ : ∃ z, z = (if y < 20 then y else 20) := ⟨_, rfl⟩
          obtain ⟨u, hu⟩ : ∃ u, u = (if z > 0 then z else 0) := ⟨_, rfl⟩
          have hu0 : 0 ≤ u ∧ u ≤ 20 := by
            rw [hu]
            split
            · rw [hz] at *
              split <;> omega
            · omega
          refine s_setL (v := .int u) (j := j) h7 ?_ (by walk_at "ev") (by walk_at "ev") (by rw [List.length_map]; exact hj2) fun H8 e8 => ?_
          · rw [hu]
            refine ev_cb (ea_cons ev_c (ea_cons ?_ ea_nil)) rc_max2
            rw [hz]
            refine ev_cb (ea_cons ev_c (ea_cons ?_ ea_nil)) rc_min2
            rw [hy]
            refine ev_op (x := .int cs[j]) (y := .int m) ?_ ?_ rv_I0
            · walk_at "ev"
              refine rv_ixL (SqL.of h7) (atI_nat ?_)
              rw [List.getElem?_map, List.getElem?_eq_getElem hj2]
              rfl
            · refine ev_opL1 (xs := [.int 1, .int (-1), .int 2, .int 1]) (y := .int k) (el_lst (by walk_at "ev") (by show 4 ≤ 100000; decide)) (fun H6 e6 => ?_) fun l6 H6 h6 e6 => rv_ixL (SqL.of h6) ?_
              · rw [← hk]
                walk_at "ev"
                · exact ⟨by omega, by omega⟩
                · decide
              · refine at_of (j := k.toNat) (by omega) ?_
                rcases k4 with h | h | h | h
                · rw [h] at hm ⊢; subst hm; rfl
                · rw [h] at hm ⊢; subst hm; rfl
                · rw [h] at hm ⊢; subst hm; rfl
                · rw [h] at hm ⊢; subst hm; rfl
          · refine ⟨_, _, _, _, rfl, Ex.mut ((e6.trans e7).trans e8) fL, cs.set j u, ?_, hC.set hu0, by rw [List.length_set]; exact hlen⟩
            rw [upd_same, List.map_set]
        · rintro σ' H' ⟨x8, x9, x10, x11, rfl, e6, cs, h6, hC, hlen⟩
          exact s_ret (v := .ref L) (by walk_at "ev") fun H7 e7 => q cs L H7 hC (e6.trans e7) fL (e7 _ _ h6)

end
end K1
set_option Elab.async false
set_option linter.all false
set_option maxRecDepth 100000
set_option maxHeartbeats 300000
namespace K1
open PySem PySem.Spec PyProof.Rows L2 Evl Z
section
variable {P : Program} {w : World} {K : PySem.W.Frag} {mg : Str → Option Value} {base : Heap} {a : Ad}
/-! ### counts refused or not -/
theorem spv_is_whole {H : Hp} {x : V} {lo hi : Int} {T : String} (h : TyB K H x T) (hm : T ∈ metaT) : SpV (sp_is_whole K) [x, .int lo, .int hi] H (.bl (isW x lo hi)) := fun H1 e Q q E => ⟨x, lo, hi, T, rfl, TyB.ex e h, hm, fun H2 e2 => q H2 e2⟩
def goodL (xs : List V) : Bool := decide (1 ≤ xs.length) && decide (xs.length ≤ 10) && xs.all fun y => isW y 0 20
def sp_need_counts (K : PySem.W.Frag) (C : Addr) : Sp := fun vs H Q E => ∃ x, vs = [x] ∧ ((∃ Ty, TyB K H x Ty ∧ Ty ∈ metaT ∧ Ty ≠ "list" ∧ ∀ H2, Ex H H2 → E (.ref C) none H2) ∨
  ∃ p xs, x = .ref p ∧ SqL K H p xs ∧ (∀ y ∈ xs, Thing K H y) ∧ (goodL xs = true → ∀ H2, Ex H H2 → Q .non H2) ∧ (goodL xs = false → ∀ H2, Ex H H2 → E (.ref C) none H2))
theorem ok_need_counts (T : Top K mg a) : FnOk P w K mg base (L2N.CX P w) 2 a.a_need_counts a.d_need_counts ["thing"] (sp_need_counts K a.c_BadCounts) := by
  refine Z.Fun.okN T.F_need_counts sc_need_counts (fun vs H Q E h => ?_) (fun cdv A outer s H vs Q E hr h => ?_)
  · obtain ⟨x, rfl, _⟩ := h
    rfl
  · obtain ⟨x, rfl, h⟩ := h
    refine ⟨_, (pss_cons (ps_if (pt_cmpR op_neTy (pe_callTy (kx_type (K := K)) (by rfl) T.n_type (by decide +kernel) (pa_cons (pv 0) pa_nil)) (pe_bltn (v := .ty "list") rfl T.n_list (by decide +kernel) rfl) (nomark _)) (pss_one (L2N.ps_raise rfl (L2N.takes_of rfl rfl rfl rfl) (L2N.pmk_own PySem.F.excBase_ValueError T.x_BadCounts T.g_BadCounts T.k_BadCounts (raises_own T.eb_BadCounts T.et_BadCounts) rfl))) pss_nil)
  (pss_cons (ps_if (pt_not (pt_val (pe_call (ok_is_whole (K := K) T) (hr.mono (by decide)) rfl T.g_is_whole T.F_is_whole.kp T.b_is_whole .nil pass0 (pa_cons (pe_callB (kx_len (K := K)) (by rfl) T.n_len (by decide +kernel) (pa_cons (pv 0) pa_nil)) (pa_cons pe_int (pa_cons (pe_glob (v := .int 10) rfl T.g_MOST_POINTS ⟨_, rfl⟩) pa_nil)))))) (pss_one (L2N.ps_raise rfl (L2N.takes_of rfl rfl rfl rfl) (L2N.pmk_own PySem.F.excBase_ValueError T.x_BadCounts T.g_BadCounts T.k_BadCounts (raises_own T.eb_BadCounts T.et_BadCounts) rfl))) pss_nil)
  (pss_one (ps_for (passes_of rfl) rfl (kx_piL (K := K) (pv 0)) (pg_name (i := 1) sc_need_counts.nd rfl (.inl rfl)) (pss_one (ps_if (pt_not (pt_val (pe_call (ok_is_whole (K := K) T) (hr.mono (by decide)) rfl T.g_is_whole T.F_is_whole.kp T.b_is_whole .nil pass0 (pa_cons (pv 1) (pa_cons pe_int (pa_cons (pe_glob (v := .int 20) rfl T.g_MOST_TIES ⟨_, rfl⟩) pa_nil)))))) (pss_one (L2N.ps_raise rfl (L2N.takes_of rfl rfl rfl rfl) (L2N.pmk_own PySem.F.excBase_ValueError T.x_BadCounts T.g_BadCounts T.k_BadCounts (raises_own T.eb_BadCounts T.et_BadCounts) rfl))) pss_nil)))))), ?_⟩
    rcases h with ⟨Ty, hT, hm, hne, he⟩ | ⟨p, xs, rfl, hS, hx, hg, hb⟩
    · refine q_when (b := !decide (Ty = "list")) (by
        walk_at "ev"
        exact hT) (fun _ H1 e1 => he H1 e1) (fun hz => ?_)
      rw [decide_eq_false hne] at hz
      cases hz
    · refine q_when (b := !decide (("list" : String) = "list")) (by
        walk_at "ev"
        exact .lst hS) (fun hz => absurd hz (by decide)) (fun _ H1 e1 => ?_)
      refine q_when (b := !isW (.int (xs.length : Int)) 1 10) (by
        walk_at "ev"
        · exact rc_lenL (ex_l e1 hS)
        · exact spv_is_whole (.int _) (by decide)) (fun hz H2 e2 => ?_) (fun hz H2 e2 => ?_)
      · refine hb ?_ H2 (e1.trans e2)
        have h1 : ¬ (1 ≤ xs.length ∧ xs.length ≤ 10) := fun z => by
          simp only [isW, Bool.not_eq_true', Bool.and_eq_false_iff, decide_eq_false_iff_not] at hz
          omega
        unfold goodL
        by_cases h2 : 1 ≤ xs.length
        · rw [decide_eq_true h2, decide_eq_false (fun z => h1 ⟨h2, z⟩)]
          rfl
        · rw [decide_eq_false h2]
          rfl
      · have h1 : 1 ≤ xs.length ∧ xs.length ≤ 10 := by
          simp only [isW, Bool.not_eq_false', Bool.and_eq_true, decide_eq_true_eq] at hz
          omega
        have e02 := e1.trans e2
        refine s_forLn (by walk_at "ev") (ex_l e02 hS) (fun i σ' H' => ∃ y, σ' = [some (.ref p), y] ∧ Ex H H' ∧ ∀ (m : Nat) z, m < i → xs[m]? = some z → isW z 0 20 = true) ?_ ?_ ?_ ?_
        · exact fun H3 e3 => ⟨none, rfl, e02.trans e3, fun m z hm => absurd hm (Nat.not_lt_zero _)⟩
        · rintro i σ' H' _ ⟨y, rfl, e3, _⟩
          exact ex_l e3 hS
        · rintro i y σ' H' hi ⟨_, rfl, e3, hall⟩
          obtain ⟨Ty, hTy, hTm⟩ := hx y (List.mem_of_getElem? hi)
          refine s_when (b := !isW y 0 20) (by
            walk_at "ev"
            exact spv_is_whole (TyB.ex e3 hTy) hTm) (fun hz2 H4 e4 => ?_) (fun hz2 H4 e4 => ?_)
          · refine hb ?_ H4 (e3.trans e4)
            have h3 : (xs.all fun y => isW y 0 20) = false := by
              rw [Bool.eq_false_iff]
              intro z
              have := List.all_eq_true.mp z y (List.mem_of_getElem? hi)
              rw [this] at hz2
              cases hz2
            unfold goodL
            rw [h3, Bool.and_false]
          · refine ⟨_, rfl, e3.trans e4, fun m z hm hz3 => ?_⟩
            by_cases hmi : m = i
            · subst hmi
              rw [hi] at hz3
              cases hz3
              simpa using hz2
            · exact hall m z (by omega) hz3
        · rintro σ' H' ⟨_, rfl, e3, hall⟩
          refine hg ?_ H' e3
          unfold goodL
          rw [decide_eq_true h1.1, decide_eq_true h1.2, Bool.true_and, Bool.true_and, List.all_eq_true]
          intro z hz4
          obtain ⟨m, hm⟩ := List.getElem?_of_mem hz4
          exact hall m z (List.getElem?_eq_some_iff.mp hm).1 hm

end
end K1
set_option Elab.async false
set_option linter.all false
set_option maxRecDepth 100000
set_option maxHeartbeats 300000
namespace K1
open PySem PySem.Spec PyProof.Rows L2 Evl Z
section
variable {P : Program} {w : World} {K : PySem.W.Frag} {mg : Str → Option Value} {base : Heap} {a : Ad}
/-! ### what the greatest many want, and what there can be -/
def roomF (m : Int) (left : List Int) : Int := m * (m - 1) + (left.map (minI m)).sum
def sp_wanted (K : PySem.W.Frag) (C M : Addr) : Sp := fun vs H Q E => ∃ x y, vs = [x, y] ∧ ((∃ Ty, TyB K H x Ty ∧ Ty ∈ metaT ∧ Ty ≠ "list" ∧ ∀ H2, Ex H H2 → E (.ref C) none H2) ∨
  (∃ p xs, x = .ref p ∧ SqL K H p xs ∧ (∀ y ∈ xs, Thing K H y) ∧ goodL xs = false ∧ ∀ H2, Ex H H2 → E (.ref C) none H2) ∨
  ∃ p cs, x = .ref p ∧ SqL K H p (cs.map V.int) ∧ CountsOk cs ∧ Thing K H y ∧ (isW y 0 (cs.length : Int) = false → ∀ H2, Ex H H2 → E (.ref M) none H2) ∧
    ∀ (m : Nat) (fs : List Int) (t : Addr) H2, y = .int (m : Int) → m ≤ cs.length → fs.Perm cs → fs.Pairwise (· ≥ ·) → Ex H H2 → H t = none → H2 t = some (.tup [.int (fs.take m).sum, .int (roomF (m : Int) (fs.drop m))]) → Q (.ref t) H2)
theorem goodL_of {cs : List Int} (h : CountsOk cs) : goodL (cs.map V.int) = true := by
  unfold goodL
  rw [List.length_map, decide_eq_true h.len.1, decide_eq_true h.len.2, Bool.true_and, Bool.true_and, List.all_eq_true]
  intro z hz
  obtain ⟨c, hc, rfl⟩ := List.mem_map.mp hz
  have := h.ok c hc
  show (decide (0 ≤ c) && decide (c ≤ 20)) = true
  rw [decide_eq_true this.1, decide_eq_true this.2]
  rfl
theorem ok_wanted (T : Top K mg a) : FnOk P w K mg base (L2N.CX P w) 3 a.a_wanted a.d_wanted ["counts", "many"] (sp_wanted K a.c_BadCounts a.c_BadMany) := by
  refine Z.Fun.okN T.F_wanted sc_wanted (fun vs H Q E h => ?_) (fun cdv A outer s H vs Q E hr h => ?_)
  · obtain ⟨x, y, rfl, _⟩ := h
    rfl
  · obtain ⟨x, y, rfl, h⟩ := h
    refine ⟨_, (pss_cons (ps_expr (pe_call (E := E) (ok_need_counts (K := K) T) (hr.mono (by decide)) rfl T.g_need_counts T.F_need_counts.kp T.b_need_counts .nil (L2N.passes_call (L2N.takes_of rfl rfl rfl rfl) (fun _ _ _ _ h => h)) (pa_cons (pv 0) pa_nil)))
  (pss_cons (ps_if (pt_not (pt_val (pe_call (ok_is_whole (K := K) T) (hr.mono (by decide)) rfl T.g_is_whole T.F_is_whole.kp T.b_is_whole .nil pass0 (pa_cons (pv 1) (pa_cons pe_int (pa_cons (pe_callB (kx_len (K := K)) (by rfl) T.n_len (by decide +kernel) (pa_cons (pv 0) pa_nil)) pa_nil)))))) (pss_one (L2N.ps_raise rfl (L2N.takes_of rfl rfl rfl rfl) (L2N.pmk_own PySem.F.excBase_ValueError T.x_BadMany T.g_BadMany T.k_BadMany (raises_own T.eb_BadMany T.et_BadMany) rfl))) pss_nil)
  (pss_cons (ps_set (i := 2) sc_wanted.nd rfl (.inl rfl) (pe_callBK (kx_sortedRev (K := K) (b := true)) (by rfl) T.n_sorted (by decide +kernel) (pa_cons (pv 0) pa_nil) (pk_cons pe_bl pk_nil)))
  (pss_cons (ps_set (i := 3) sc_wanted.nd rfl (.inl rfl) (pe_op op_mul (pv 1) (pe_op op_sub (pv 1) pe_int)))
  (pss_cons (ps_set (i := 4) sc_wanted.nd rfl (.inl rfl) (pe_callB (kx_sum (K := K) rfl) (by rfl) T.n_sum (by decide +kernel) (pa_cons (pe_lc (own := [("count", 5)]) rfl sc_wanted.nd (kx_piL (K := K) (pe_slice (kx_slL (K := K)) (pv 2) (po_some (pv 1)) po_none)) (blkOk_by (own := [("count", 5)]) (N := n_wanted) (sc := defScope s_wanted) (by decide +kernel)) (fun _ _ _ _ _ => pg_name (i := 5) sc_wanted.nd rfl (by first | exact Or.inl rfl | exact Or.inr rfl)) (fun _ _ _ _ _ => pts_nil) (fun _ _ _ _ _ => (pe_callB (call_min2 rfl) (by rfl) T.n_min (by decide +kernel) (pa_cons (pv 5) (pa_cons (pv 1) pa_nil))))) pa_nil)))
  (pss_one (ps_ret (pe_tup (pa_cons (pe_callB (kx_sum (K := K) rfl) (by rfl) T.n_sum (by decide +kernel) (pa_cons (pe_slice (kx_slL (K := K)) (pv 2) po_none (po_some (pv 1))) pa_nil)) (pa_cons (pe_op op_add (pv 3) (pv 4)) pa_nil)))))))))), ?_⟩
    refine q_dropC ?_
    rcases h with ⟨Ty, hT, hm, hne, he⟩ | ⟨p, xs, rfl, hS, hx, hg, he⟩ | ⟨p, cs, rfl, hS, hC, hy, he, hq⟩
    · exact ⟨x, rfl, x, rfl, .inl ⟨Ty, hT, hm, hne, he⟩⟩
    · exact ⟨.ref p, rfl, .ref p, rfl, .inr ⟨p, xs, rfl, hS, hx, fun z => (by rw [hg] at z; cases z), fun _ => he⟩⟩
    · refine ⟨.ref p, rfl, .ref p, rfl, .inr ⟨p, _, rfl, hS, fun z hz => ?_, fun _ H1 e1 => ?_, fun z => (by rw [goodL_of hC] at z; cases z)⟩⟩
      · obtain ⟨c, _, rfl⟩ := List.mem_map.mp hz
        exact Thing.int c
      · obtain ⟨Ty, hTy, hTm⟩ := hy
        refine q_when (b := !isW y 0 ((cs.map V.int).length : Int)) (by
          walk_at "ev"
          · exact rc_lenL (ex_l e1 hS)
          · exact spv_is_whole (TyB.ex e1 hTy) hTm) (fun hz H2 e2 => ?_) (fun hz H2 e2 => ?_)
        · refine he ?_ H2 (e1.trans e2)
          rw [List.length_map] at hz
          simpa using hz
        · rw [List.length_map] at hz
          have hw : isW y 0 (cs.length : Int) = true := by simpa using hz
          obtain ⟨m, rfl, hml⟩ : ∃ m : Nat, y = .int (m : Int) ∧ m ≤ cs.length := by
            cases y with
            | int i =>
              simp only [isW, Bool.and_eq_true, decide_eq_true_eq] at hw
              exact ⟨i.toNat, by rw [Int.toNat_of_nonneg hw.1], by omega⟩
            | _ => cases hw
          have e02 := e1.trans e2
          refine q_asgG (eg_sortedRev (by walk_at "ev") (ex_l e02 hS)) fun v H3 e3 hv => ?_
          obtain ⟨fs, l, rfl, fl, hp, hd, hl⟩ := hv
          have hfl : fs.length = cs.length := hp.length_eq
          refine q_asg (v := .int ((m : Int) * ((m : Int) - 1))) (by
            walk_at "ev"
            have := hC.len
            exact .inl ⟨by omega, by omega⟩) fun H4 e4 => ?_
          have hl4 := e4 _ _ hl
          refine q_asg (v := .int ((fs.drop m).map (minI (m : Int))).sum) ?_ fun H5 e5 => ?_
          · refine ev_sumL (el_eq (el_lcNL (xs := (fs.drop m).map V.int) (fun _ => true) (fun i => .int (minI (m : Int) ((fs.drop m).getD i 0))) ?_ ?_ (fun _ => rfl) (fun _ _ _ _ _ => et_yes) (fun i x H6 e6 hx _ => ?_)) ?_)
            · rw [List.map_drop, ← cut_from (fs.map V.int) (n := m) (by rw [List.length_map]; omega)]
              exact el_sl (by walk_at "ev") (by walk_at "ev") (by walk_at "ev") (SqL.of hl4)
            · rw [List.length_map, List.length_drop]
              have := hC.len
              omega
            · rw [List.getElem?_map] at hx
              cases hxi : (fs.drop m)[i]? with
              | none => rw [hxi] at hx; cases hx
              | some c =>
                rw [hxi] at hx
                have ex : x = .int c := (Option.some.inj hx).symm
                subst ex
                have hg : (fs.drop m).getD i 0 = c := by
                  rw [List.getD_eq_getElem?_getD, hxi]
                  rfl
                rw [hg]
                refine ev_is (v := .int (if (m : Int) < c then (m : Int) else c)) ?_ rfl
                walk_at "ev"
            · rw [List.length_map, range_map (fun c => V.int (minI (m : Int) c)) (fs.drop m) 0, List.map_map]
              rfl
          · have hl5 := e5 _ _ hl4
            have hroom : Ev (tOp (rI0 fun i j => .int (i + j)) (tVar 3) (tVar 4)) [some (.ref p), some (.int (m : Int)), some (.ref l), some (.int ((m : Int) * ((m : Int) - 1))), some (.int ((fs.drop m).map (minI (m : Int))).sum), none] H5 (.int (roomF (m : Int) (fs.drop m))) := by
              unfold roomF
              walk_at "ev"
            refine s_retU (xs := [.int (fs.take m).sum, .int (roomF (m : Int) (fs.drop m))]) (eu_tup (ea_cons (ev_sumL ?_) (ea_cons hroom ea_nil)) (by show 2 ≤ 100000; decide)) fun t H6 ht e6 h6 => ?_
            · rw [List.map_take, ← cut_to (fs.map V.int) (n := m) (by rw [List.length_map]; omega)]
              exact el_sl (by walk_at "ev") (by walk_at "ev") (by walk_at "ev") (SqL.of hl5)
            · have e05 := ((e02.trans e3).trans e4).trans e5
              exact hq m fs t H6 rfl hml hp hd (e05.trans e6) (fresh_back e05 ht) h6

end
end K1
set_option Elab.async false
set_option linter.all false
set_option maxRecDepth 100000
set_option maxHeartbeats 300000
namespace K1
open PySem PySem.Spec PyProof.Rows L2 Evl Z
section
variable {P : Program} {w : World} {K : PySem.W.Frag} {mg : Str → Option Value} {base : Heap} {a : Ad}
/-! ### the law's own reckoning -/
structure Taken (cs rs left : List Int) : Prop where
  perm : (rs ++ left).Perm cs
  desc : rs.Pairwise (· ≥ ·)
  over : ∀ x ∈ rs, ∀ y ∈ left, x ≥ y
theorem Taken.more {cs rs left : List Int} (h : Taken cs rs left) {g : Int} {j : Nat} (hg : g ∈ left) (hm : ∀ y ∈ left, y ≤ g) (hp : (g :: left.eraseIdx j).Perm left) : Taken cs (rs ++ [g]) (left.eraseIdx j) := by
  refine ⟨?_, ?_, ?_⟩
  · rw [List.append_assoc]
    exact (List.Perm.append_left rs hp).trans h.perm
  · refine List.pairwise_append.mpr ⟨h.desc, List.pairwise_singleton _ _, fun x hx y hy => ?_⟩
    have e : y = g := by simpa using hy
    rw [e]
    exact h.over x hx g hg
  · intro x hx y hy
    have hy' : y ∈ left := hp.mem_iff.mp (List.mem_cons_of_mem _ hy)
    rcases List.mem_append.mp hx with z | z
    · exact h.over x z y hy'
    · have e : x = g := by simpa using z
      rw [e]
      exact hm y hy'
def sp_law_wanted (K : PySem.W.Frag) : Sp := fun vs H Q _ => ∃ (p : Addr) (cs : List Int) (m : Nat), vs = [.ref p, .int (m : Int)] ∧ SqL K H p (cs.map V.int) ∧ cs.length ≤ 100 ∧ m ≤ cs.length ∧
  ∀ (rs left : List Int) (t : Addr) H2, Taken cs rs left → rs.length = m → Ex H H2 → H t = none → H2 t = some (.tup [.int rs.sum, .int (roomF (m : Int) left)]) → Q (.ref t) H2
theorem ok__law_wanted (T : Top K mg a) : FnOk P w K mg base CX0 1 a.a__law_wanted a.d__law_wanted ["_law_counts_here", "_law_many"] (sp_law_wanted K) := by
  refine T.F__law_wanted.ok sc__law_wanted (fun vs H Q E h => ?_) (fun cdv A outer s H vs Q E hr h => ?_)
  · obtain ⟨p, cs, m, rfl, _⟩ := h
    rfl
  · obtain ⟨p, cs, m, rfl, hS, hc, hm, q⟩ := h
    refine ⟨_, (pss_cons (ps_set (i := 2) sc__law_wanted.nd rfl (.inl rfl) (pe_callTy (kx_list (K := K)) (by rfl) T.n_list (by decide +kernel) (pa_cons (pv 0) pa_nil)))
  (pss_cons (ps_set (i := 3) sc__law_wanted.nd rfl (.inl rfl) pe_int)
  (pss_cons (ps_for PassesOwn.never rfl (pi_range1 rfl T.n_range (pa_cons (pv 1) pa_nil)) (pg_name (i := 4) sc__law_wanted.nd rfl (.inl rfl)) (pss_cons (ps_set (i := 5) sc__law_wanted.nd rfl (.inl rfl) (pe_callB (kx_max (K := K) rfl) (by rfl) T.n_max (by decide +kernel) (pa_cons (pv 2) pa_nil)))
  (pss_cons (ps_set (i := 3) sc__law_wanted.nd rfl (.inl rfl) (pe_op op_add (pv 3) (pv 5)))
  (pss_one (ps_expr (pe_bm PySem.F.plainAttrs_list PySem.F.slot_list_remove PySem.F.type_list_remove mt_remove (pv 2) (pa_cons (pv 5) pa_nil)))))))
  (pss_cons (ps_set (i := 6) sc__law_wanted.nd rfl (.inl rfl) (pe_op op_mul (pv 1) (pe_op op_sub (pv 1) pe_int)))
  (pss_cons (ps_for PassesOwn.never rfl (kx_piL (K := K) (pv 2)) (pg_name (i := 7) sc__law_wanted.nd rfl (.inl rfl)) (pss_one (ps_set (i := 6) sc__law_wanted.nd rfl (.inl rfl) (pe_op op_add (pv 6) (pe_ix (kx_ixL (K := K)) (pe_lst (pa_cons (pv 1) (pa_cons (pv 7) pa_nil))) (pe_callTy call_int1 (by rfl) T.n_int (by decide +kernel) (pa_cons (pe_cmpR op_lt (pv 7) (pv 1) (nomark _)) pa_nil)) (fun _ _ => rfl))))))
  (pss_one (ps_ret (pe_tup (pa_cons (pv 3) (pa_cons (pv 6) pa_nil)))))))))), ?_⟩
    refine q_asgL (el_listQ (by walk_at "ev") hS) fun L H1 hL e1 h1 => ?_
    refine q_asg (v := .int 0) (by walk_at "ev") fun H2 e2 => ?_
    have h2 := e2 _ _ h1
    refine q_forR1 (n := (m : Int)) (by walk_at "ev") (by omega) (fun i σ' H' => ∃ rs left x4 x5, σ' = [some (.ref p), some (.int (m : Int)), some (.ref L), some (.int rs.sum), x4, x5, none, none] ∧ Ex H H' ∧ H' L = some (.lst (left.map V.int)) ∧ Taken cs rs left ∧ rs.length = i) ?_ ?_ ?_
    · intro H3 e3
      exact ⟨[], cs, none, none, rfl, (e1.trans e2).trans e3, e3 _ _ h2, ⟨.refl _, List.Pairwise.nil, fun x hx => (by cases hx)⟩, rfl⟩
    · rintro i σ' H' hi ⟨rs, left, x4, x5, rfl, e3, h3, hT, hl⟩
      have hlen := hT.perm.length_eq
      rw [List.length_append] at hlen
      refine q_asgG (eg_max (by walk_at "ev") (SqL.of h3) (by omega)) fun v H4 e4 hv => ?_
      obtain ⟨g, rfl, hg, hmax⟩ := hv
      refine q_asg (v := .int (rs.sum + g)) (by walk_at "ev") fun H5 e5 => ?_
      have h5 := (e4.trans e5) _ _ h3
      obtain ⟨j, j1, j2, j3⟩ := first_at hg
      refine s_rem h5 (by walk_at "ev") (by walk_at "ev") j1 j2 fun H6 e6 => ?_
      have es : (rs ++ [g]).sum = rs.sum + g := by simp [List.sum_append]
      exact ⟨rs ++ [g], left.eraseIdx j, some (.int (i : Int)), some (.int g), by rw [es]; rfl, Ex.mut (((e3.trans e4).trans e5).trans e6) hL, upd_same, hT.more hg hmax j3, by rw [List.length_append, hl]; rfl⟩
    · rintro σ' H' ⟨rs, left, x4, x5, rfl, e3, h3, hT, hl⟩
      refine q_asg (v := .int ((m : Int) * ((m : Int) - 1))) (by
        walk_at "ev"
        exact .inl ⟨by omega, by omega⟩) fun H4 e4 => ?_
      have h4 := e4 _ _ h3
      have e04 := e3.trans e4
      refine q_forLn (xs := left.map V.int) (by walk_at "ev") (SqL.of h4) (fun i σ' H' => ∃ x7, σ' = [some (.ref p), some (.int (m : Int)), some (.ref L), some (.int rs.sum), x4, x5, some (.int ((m : Int) * ((m : Int) - 1) + ((left.take i).map (minI (m : Int))).sum)), x7] ∧ Ex H H' ∧ H' L = some (.lst (left.map V.int))) ?_ ?_ ?_ ?_
      · exact fun H5 e5 => ⟨none, by simp [List.set], e04.trans e5, e5 _ _ h4⟩
      · rintro i σ' H' _ ⟨x7, rfl, _, h5⟩
        exact SqL.of h5
      · rintro i x σ' H' hx ⟨x7, rfl, e5, h5⟩
        rw [List.getElem?_map] at hx
        cases hxi : left[i]? with
        | none => rw [hxi] at hx; cases hx
        | some c =>
          rw [hxi] at hx
          have ex : x = .int c := (Option.some.inj hx).symm
          subst ex
          have es : ((left.take (i + 1)).map (minI (m : Int))).sum = ((left.take i).map (minI (m : Int))).sum + minI (m : Int) c := by
            rw [List.take_add_one, hxi]
            simp [List.sum_append]
          refine s_asg (v := .int ((m : Int) * ((m : Int) - 1) + ((left.take i).map (minI (m : Int))).sum + minI (m : Int) c)) ?_ fun H6 e6 => ⟨some (.int c), by rw [es, ← Int.add_assoc]; rfl, e5.trans e6, e6 _ _ h5⟩
          refine ev_op (by walk_at "ev") (y := .int (minI (m : Int) c)) ?_ rv_I0
          refine ev_opL1 (xs := [.int (m : Int), .int c]) (y := .int (if decide (c < (m : Int)) then 1 else 0)) (el_lst (by walk_at "ev") (by show 2 ≤ 100000; decide)) (fun H6 e6 => ?_) fun l6 H6 h6 e6 => rv_ixL (SqL.of h6) ?_
          · walk_at "ev"
          · unfold minI
            by_cases hcm : c < (m : Int)
            · rw [decide_eq_true hcm, if_pos rfl, if_neg (by omega)]
              exact atI_nat (j := 1) rfl
            · rw [decide_eq_false hcm, if_neg (by decide)]
              by_cases hmc : (m : Int) < c
              · rw [if_pos hmc]
                exact atI_nat (j := 0) rfl
              · have : c = (m : Int) := by omega
                rw [if_neg hmc, this]
                exact atI_nat (j := 0) rfl
      · rintro σ' H' ⟨x7, rfl, e5, h5⟩
        rw [List.length_map, List.take_length]
        refine s_retU (xs := [.int rs.sum, .int (roomF (m : Int) left)]) (eu_tup (by unfold roomF; walk_at "ev") (by show 2 ≤ 100000; decide)) fun t H6 ht e6 h6 => q rs left t H6 hT hl (e5.trans e6) (fresh_back e5 ht) h6

end
end K1
set_option Elab.async false
set_option linter.all false
set_option maxRecDepth 100000
set_option maxHeartbeats 300000
namespace K1
open PySem PySem.Spec PyProof.Rows L2 Evl Z
section
variable {P : Program} {w : World} {K : PySem.W.Frag} {mg : Str → Option Value} {base : Heap} {a : Ad}
/-! ### what is no counts -/
def OddV (K : PySem.W.Frag) (x : V) (H : Hp) : Prop := Thing K H x ∧ isW x 0 20 = false
def NoC (K : PySem.W.Frag) (x : V) (H : Hp) : Prop := (∃ Ty, TyB K H x Ty ∧ Ty ∈ metaT ∧ Ty ≠ "list") ∨ ∃ p xs, x = .ref p ∧ SqL K H p xs ∧ (∀ y ∈ xs, Thing K H y) ∧ goodL xs = false
theorem OddV.ex : ∀ (x : V) (H1 H2 : Hp), Ex H1 H2 → OddV K x H1 → OddV K x H2 := fun _ _ _ e h => ⟨h.1.ex e, h.2⟩
theorem NoC.ex : ∀ (x : V) (H1 H2 : Hp), Ex H1 H2 → NoC K x H1 → NoC K x H2 := fun _ _ _ e h => by
  rcases h with ⟨Ty, a, b, c⟩ | ⟨p, xs, a, b, c, d⟩
  · exact .inl ⟨Ty, TyB.ex e a, b, c⟩
  · exact .inr ⟨p, xs, a, ex_l e b, fun y hy => (c y hy).ex e, d⟩
def sp_no_counts (K : PySem.W.Frag) : Sp := fun vs H Q _ => ∃ (p : Addr) (cs : List Int) (c : Int), vs = [.ref p, .int c] ∧ H p = some (.lst (cs.map V.int)) ∧ CountsOk cs ∧ ∀ v H2, Ex H H2 → NoC K v H2 → Q v H2
theorem things {H : Hp} (ns : List Int) : ∀ y ∈ ns.map V.int, Thing K H y := fun y hy => by
  obtain ⟨c, _, rfl⟩ := List.mem_map.mp hy
  exact Thing.int c
theorem ok__law_no_counts (T : Top K mg a) : FnOk P w K mg base CX0 1 a.a__law_no_counts a.d__law_no_counts ["_law_counts_here", "_law_cell_here"] (sp_no_counts K) := by
  refine T.F__law_no_counts.ok sc__law_no_counts (fun vs H Q E h => ?_) (fun cdv A outer s H vs Q E hr h => ?_)
  · obtain ⟨p, cs, c, rfl, _⟩ := h
    rfl
  · obtain ⟨p, cs, c, rfl, hp, hC, q⟩ := h
    refine ⟨_, (pss_cons (ps_set (i := 2) sc__law_no_counts.nd rfl (.inl rfl) (pe_op op_mod (pe_op op_fdiv (pv 1) pe_int) (pe_callB (kx_len (K := K)) (by rfl) T.n_len (by decide +kernel) (pa_cons (pv 0) pa_nil))))
  (pss_cons (ps_set (i := 3) sc__law_no_counts.nd rfl (.inl rfl) (pe_ix (kx_ixL (K := K)) (pe_lst (pa_cons (pe_un un_neg pe_int) (pa_cons pe_int (pa_cons pe_bl (pa_cons pe_non (pa_cons pe_str (pa_cons (pe_lst (pa_cons pe_int pa_nil)) (pa_cons (pe_op op_add pe_int (pe_op op_mod (pe_op op_fdiv (pv 1) pe_int) (pe_op op_pow pe_int pe_int))) (pa_cons pe_bl (pa_cons (pe_tup (pa_cons pe_int pa_nil)) (pa_cons pe_dnewK pa_nil))))))))))) (pe_op op_mod (pe_op op_mod (pv 1) pe_int) pe_int) (fun _ _ => rfl)))
  (pss_cons (ps_if (pt_cmpR op_lt (pe_op op_mod (pv 1) pe_int) pe_int (nomark _)) (pss_one (ps_ret (pe_op op_cat (pe_op op_cat (pe_slice (kx_slL (K := K)) (pv 0) po_none (po_some (pv 2))) (pe_lst (pa_cons (pv 3) pa_nil))) (pe_slice (kx_slL (K := K)) (pv 0) (po_some (pe_op op_add (pv 2) pe_int)) po_none)))) pss_nil)
  (pss_one (ps_ret (pe_ix (kx_ixL (K := K)) (pe_lst (pa_cons (pe_lst pa_nil) (pa_cons (pe_op op_rep (pv 0) pe_int) (pa_cons (pe_callTy (kx_tuple (K := K)) (by rfl) T.n_tuple (by decide +kernel) (pa_cons (pv 0) pa_nil)) (pa_cons pe_non (pa_cons pe_int (pa_cons pe_str pa_nil))))))) (pe_op op_sub (pe_op op_mod (pv 1) pe_int) pe_int) (fun _ _ => rfl))))))), ?_⟩
    have hlen := hC.len
    obtain ⟨j, hj⟩ : ∃ j : Nat, (j : Int) = c / 16 % (cs.length : Int) := ⟨(c / 16 % (cs.length : Int)).toNat, by have := Int.emod_nonneg (c / 16) (show (cs.length : Int) ≠ 0 by omega); omega⟩
    have hjn : j < cs.length := by have := Int.emod_lt_of_pos (c / 16) (show (0 : Int) < (cs.length : Int) by omega); omega
    refine q_asg (v := .int (j : Int)) (by
      rw [hj, ← List.length_map (f := V.int) (as := cs)]
      walk_at "ev"
      · exact ⟨by decide, by decide⟩
      · rw [List.length_map]
        omega) fun H1 e1 => ?_
    -- the odd thing
    have m10 : 0 ≤ c % 16 % 10 ∧ c % 16 % 10 < 10 := ⟨Int.emod_nonneg _ (by decide), Int.emod_lt_of_pos _ (by decide)⟩
    have m16 : 0 ≤ c % 16 ∧ c % 16 < 16 := ⟨Int.emod_nonneg _ (by decide), Int.emod_lt_of_pos _ (by decide)⟩
    refine q_asgG (gx_menu (G := OddV K) (n := 10) (i := c % 16 % 10) OddV.ex ?_ (by
      walk_at "ev"
      · decide
      · decide) m10.1 m10.2 (by decide)) fun v H2 e2 hv => ?_
    · refine ga_cons OddV.ex (gx_ev (v := .int (-1)) (by walk_at "ev") fun _ _ => ⟨Thing.int _, rfl⟩) ?_
      refine ga_cons OddV.ex (gx_ev (v := .int 21) (by walk_at "ev") fun _ _ => ⟨Thing.int _, rfl⟩) ?_
      refine ga_cons OddV.ex (gx_ev (v := .bl true) (by walk_at "ev") fun _ _ => ⟨⟨_, .bl _, by decide⟩, rfl⟩) ?_
      refine ga_cons OddV.ex (gx_ev (v := .non) (by walk_at "ev") fun _ _ => ⟨⟨_, .non, by decide⟩, rfl⟩) ?_
      refine ga_cons OddV.ex (gx_ev ev_c fun _ _ => ⟨⟨_, .str _, by decide⟩, rfl⟩) ?_
      refine ga_cons OddV.ex (gx_L (xs := [.int 1]) (el_lst (by walk_at "ev") (by show 1 ≤ 100000; decide)) fun l _ _ hl => ⟨⟨_, .lst (SqL.of hl), by decide⟩, rfl⟩) ?_
      refine ga_cons OddV.ex (gx_ev (v := .int (21 + c / 160 % 10 ^ (20 : Int).toNat)) (by
        walk_at "ev"
        · exact ⟨by decide, by decide⟩
        · exact ⟨by decide, by decide, by decide⟩
        · decide) fun _ _ => ⟨Thing.int _, ?_⟩) ?_
      · have : 0 ≤ c / 160 % 10 ^ (20 : Int).toNat := Int.emod_nonneg _ (by decide)
        show (decide (0 ≤ 21 + c / 160 % 10 ^ (20 : Int).toNat) && decide (21 + c / 160 % 10 ^ (20 : Int).toNat ≤ 20)) = false
        rw [decide_eq_false (p := 21 + c / 160 % 10 ^ (20 : Int).toNat ≤ 20) (by omega), Bool.and_false]
      refine ga_cons OddV.ex (gx_ev (v := .bl false) (by walk_at "ev") fun _ _ => ⟨⟨_, .bl _, by decide⟩, rfl⟩) ?_
      refine ga_cons OddV.ex (gx_U (xs := [.int 1]) (eu_tup (by walk_at "ev") (by show 1 ≤ 100000; decide)) fun l _ _ hl => ⟨⟨_, .tup (SqT.of hl), by decide⟩, rfl⟩) ?_
      exact ga_cons OddV.ex (gx_dict fun l _ _ hl => ⟨⟨_, .dK hl, by decide⟩, rfl⟩) ga_nil
    · have e12 := e1.trans e2
      have hp2 := e12 _ _ hp
      refine q_when (b := decide (c % 16 < 10)) (by
        walk_at "ev"
        decide) (fun _ H3 e3 => ?_) (fun hz H3 e3 => ?_)
      · have hp3 := e3 _ _ hp2
        refine s_retL (xs := ((cs.take j).map V.int ++ [v]) ++ (cs.drop (j + 1)).map V.int) (el_cat (el_cat ?_ (el_lst (by walk_at "ev") (by show 1 ≤ 100000; decide)) ?_) ?_ ?_) fun l H4 hl e4 h4 => ?_
        · rw [List.map_take, ← cut_to (cs.map V.int) (n := j) (by rw [List.length_map]; omega)]
          exact el_sl (by walk_at "ev") (by walk_at "ev") (by walk_at "ev") (SqL.of hp3)
        · simp only [List.length_map, List.length_take, List.length_cons, List.length_nil]
          omega
        · rw [List.map_drop, ← cut_from (cs.map V.int) (n := j + 1) (by rw [List.length_map]; omega)]
          refine el_sl (by walk_at "ev") (eo_some (i := ((j + 1 : Nat) : Int)) ?_) (by walk_at "ev") (SqL.of hp3)
          refine ev_is (v := .int ((j : Int) + 1)) (by walk_at "ev") ?_
          rfl
        · simp only [List.length_map, List.length_take, List.length_append, List.length_drop, List.length_cons, List.length_nil]
          omega
        · have ho : OddV K v H4 := OddV.ex _ _ _ (e3.trans e4) hv
          refine q _ H4 ((e12.trans e3).trans e4) (.inr ⟨l, _, rfl, SqL.of h4, fun y hy => ?_, ?_⟩)
          · rcases List.mem_append.mp hy with z | z
            · rcases List.mem_append.mp z with z | z
              · exact things _ y z
              · have e : y = v := by simpa using z
                rw [e]
                exact ho.1
            · exact things _ y z
          · unfold goodL
            have hall : (((cs.take j).map V.int ++ [v]) ++ (cs.drop (j + 1)).map V.int).all (fun y => isW y 0 20) = false := by
              rw [Bool.eq_false_iff]
              intro z
              have := List.all_eq_true.mp z v (by simp)
              rw [ho.2] at this
              cases this
            rw [hall, Bool.and_false]
      · have hge : 10 ≤ c % 16 := by
          have := of_decide_eq_false hz
          omega
        have hp3 := e3 _ _ hp2
        refine s_retG (gx_menu (G := NoC K) (n := 6) (i := c % 16 - 10) NoC.ex ?_ (by
          walk_at "ev"
          decide) (by omega) (by omega) (by decide)) fun u H4 e4 hu => q u H4 ((e12.trans e3).trans e4) hu
        refine ga_cons NoC.ex (gx_L (xs := []) (el_lst (by walk_at "ev") (by show 0 ≤ 100000; decide)) fun l _ _ hl => .inr ⟨l, _, rfl, SqL.of hl, fun y hy => (by cases hy), rfl⟩) ?_
        refine ga_cons NoC.ex (gx_L (el_rep (k := 11) (by walk_at "ev") (by walk_at "ev") hp3 (by decide) (by rw [List.length_map]; show cs.length * 11 ≤ 100000; omega)) fun l _ _ hl => .inr ⟨l, _, rfl, SqL.of hl, fun y hy => ?_, ?_⟩) ?_
        · obtain ⟨l2, h1, h2⟩ := List.mem_flatten.mp hy
          rw [List.eq_of_mem_replicate h1] at h2
          exact things _ y h2
        · unfold goodL
          have hl11 : (List.replicate (11 : Int).toNat (cs.map V.int)).flatten.length = 11 * cs.length := by
            rw [List.length_flatten, List.map_replicate, List.sum_replicate_nat, List.length_map]
            rfl
          rw [hl11, decide_eq_false (p := 11 * cs.length ≤ 10) (by omega), Bool.and_false, Bool.false_and]
        refine ga_cons NoC.ex (gx_U (eu_tuple (by walk_at "ev") (SqL.of hp3)) fun l _ _ hl => .inl ⟨_, .tup (SqT.of hl), by decide, by decide⟩) ?_
        refine ga_cons NoC.ex (gx_ev (v := .non) (by walk_at "ev") fun _ _ => .inl ⟨_, .non, by decide, by decide⟩) ?_
        refine ga_cons NoC.ex (gx_ev (v := .int 5) (by walk_at "ev") fun _ _ => .inl ⟨_, .int _, by decide, by decide⟩) ?_
        exact ga_cons NoC.ex (gx_ev ev_c fun _ _ => .inl ⟨_, .str _, by decide, by decide⟩) ga_nil

end
end K1
set_option Elab.async false
set_option linter.all false
set_option maxRecDepth 100000
set_option maxHeartbeats 300000
namespace K1
open PySem PySem.Spec PyProof.Rows L2 Evl Z
section
variable {P : Program} {w : World} {K : PySem.W.Frag} {mg : Str → Option Value} {base : Heap} {a : Ad}
/-! ### the class of a refusal -/
def word (d : Nat) : Str := (["counts", "many", "web", "exchange", "unlike", "none"] : List Str).getD d "counts"
/-- D is the class whose word is the d-th -/
structure KindC (K : PySem.W.Frag) (a : Ad) (D : Addr) (d : Nat) : Prop where
  ec : ExcC K D
  k0 : PySem.W.kitOne K (.ref D) (.ref a.c_BadCounts) = some (d == 0)
  k1 : PySem.W.kitOne K (.ref D) (.ref a.c_BadMany) = some (d == 1)
  k2 : PySem.W.kitOne K (.ref D) (.ref a.c_BadWeb) = some (d == 2)
  k3 : PySem.W.kitOne K (.ref D) (.ref a.c_BadExchange) = some (d == 3)
  k4 : PySem.W.kitOne K (.ref D) (.ref a.c_Unlike) = some (d == 4)
  k5 : PySem.W.kitOne K (.ref D) (.ref a.c_NoWeb) = some (d == 5)
  kv : PySem.W.kitOne K (.ref D) (.type "ValueError") = some true
  lt : d < 6
def sp_kind (K : PySem.W.Frag) (a : Ad) : Value → Addr → Sp := fun c x vs H Q _ => ∃ D d, c = .ref D ∧ KindC K a D d ∧ vs = [.ref x] ∧ ∀ l H2, H l = none → Ex H H2 → H2 l = some (.lst [.str (word d)]) → Q (.ref l) H2
theorem ok__law_kind (T : Top K mg a) : ZH.FnZ P w K mg base 1 a.a__law_kind a.d__law_kind ["_law_error"] (sp_kind K a) := by
  refine ZH.fn_ofZ T.F__law_kind sc__law_kind (fun c x vs H Q E h => ?_) (fun cdv A outer s H vs Q E p c hot hz hr h => ?_)
  · obtain ⟨D, d, _, _, rfl, _⟩ := h
    rfl
  · obtain ⟨D, d, rfl, KC, rfl, q⟩ := h
    obtain ⟨x, oe⟩ := p
    have hf : ∃ vs, oe.data = .fields vs := (let ⟨_, vs, e, _⟩ := hot; ⟨vs, e⟩)
    have ec := KC.ec
    have hotc : L2H.HotC (L2H.cxH CX0 P w K mg base n__law_kind "_law_kind" (defScope s__law_kind) a.a__law_kind cdv A outer s H E (x, oe)).nox := ⟨(x, oe), hot, List.mem_cons_self⟩
    refine ⟨_, (pss_cons (ps_set (i := 1) sc__law_kind.nd rfl (.inl rfl) (pe_lst (pa_cons (pe_tup (pa_cons pe_str (pa_cons (pe_callB (ZH.call_isZ (K := K) ec hz hf List.mem_cons_self) (by rfl) T.n_isinstance (by decide +kernel) (pa_cons (pv 0) (pa_cons (pe_glob (v := .ref a.c_BadCounts) rfl T.g_BadCounts rfl) pa_nil))) pa_nil))) (pa_cons (pe_tup (pa_cons pe_str (pa_cons (pe_callB (ZH.call_isZ (K := K) ec hz hf List.mem_cons_self) (by rfl) T.n_isinstance (by decide +kernel) (pa_cons (pv 0) (pa_cons (pe_glob (v := .ref a.c_BadMany) rfl T.g_BadMany rfl) pa_nil))) pa_nil))) pa_nil))))
  (pss_cons (ps_set (i := 1) sc__law_kind.nd rfl (.inl rfl) (pe_op op_cat (pv 1) (pe_lst (pa_cons (pe_tup (pa_cons pe_str (pa_cons (pe_callB (ZH.call_isZ (K := K) ec hz hf List.mem_cons_self) (by rfl) T.n_isinstance (by decide +kernel) (pa_cons (pv 0) (pa_cons (pe_glob (v := .ref a.c_BadWeb) rfl T.g_BadWeb rfl) pa_nil))) pa_nil))) (pa_cons (pe_tup (pa_cons pe_str (pa_cons (pe_callB (ZH.call_isZ (K := K) ec hz hf List.mem_cons_self) (by rfl) T.n_isinstance (by decide +kernel) (pa_cons (pv 0) (pa_cons (pe_glob (v := .ref a.c_BadExchange) rfl T.g_BadExchange rfl) pa_nil))) pa_nil))) pa_nil)))))
  (pss_cons (ps_set (i := 1) sc__law_kind.nd rfl (.inl rfl) (pe_op op_cat (pv 1) (pe_lst (pa_cons (pe_tup (pa_cons pe_str (pa_cons (pe_callB (ZH.call_isZ (K := K) ec hz hf List.mem_cons_self) (by rfl) T.n_isinstance (by decide +kernel) (pa_cons (pv 0) (pa_cons (pe_glob (v := .ref a.c_Unlike) rfl T.g_Unlike rfl) pa_nil))) pa_nil))) (pa_cons (pe_tup (pa_cons pe_str (pa_cons (pe_callB (ZH.call_isZ (K := K) ec hz hf List.mem_cons_self) (by rfl) T.n_isinstance (by decide +kernel) (pa_cons (pv 0) (pa_cons (pe_glob (v := .ref a.c_NoWeb) rfl T.g_NoWeb rfl) pa_nil))) pa_nil))) pa_nil)))))
  (pss_cons (ZH.ps_setLcH (K := K) (i := 1) (own := [("_law_word", 2), ("_law_is_one", 3)]) hotc sc__law_kind.nd rfl rfl (sw_true rfl rfl rfl (by decide +kernel)) (pv 1) (blkOk_by (own := [("_law_word", 2), ("_law_is_one", 3)]) (N := n__law_kind) (sc := defScope s__law_kind) (by decide +kernel)) (fun _ _ _ _ _ hh => ZH.pg_tupH (K := K) (n := 2) hh (pgs_cons (pg_name (i := 2) sc__law_kind.nd rfl (by first | exact Or.inl rfl | exact Or.inr rfl)) (pgs_cons (pg_name (i := 3) sc__law_kind.nd rfl (by first | exact Or.inl rfl | exact Or.inr rfl)) pgs_nil))) (fun _ _ _ _ _ _ => pts_one (pt_val (pv 3))) (fun _ _ _ _ _ _ => (pv 2)))
  (pss_one (ps_ret (pe_op op_rep (pv 1) (pe_callTy call_int1 (by rfl) T.n_int (by decide +kernel) (pa_cons (pe_and (pe_cmpR op_eq (pe_callB (kx_len (K := K)) (by rfl) T.n_len (by decide +kernel) (pa_cons (pv 1) pa_nil)) pe_int (nomark _)) (pe_one (pe_callB (ZH.call_isZ (K := K) ec hz hf List.mem_cons_self) (by rfl) T.n_isinstance (by decide +kernel) (pa_cons (pv 0) (pa_cons (pe_bltn (v := .ty "ValueError") rfl T.n_ValueError (by decide +kernel) rfl) pa_nil))))) pa_nil))))))))), ?_⟩
    have iC : ∀ {σ : L2.St} {H1 : Hp} {C : Addr} {b : Bool}, σ[0]? = some (some (.ref x)) → PySem.W.kitOne K (.ref D) (.ref C) = some b → Ev (tCB (rIsE K D x) (tCons (tVar 0) (tCons (tC (.ref C)) tNil))) σ H1 (.bl b) := fun s0 k => ev_cb (ea_cons (ev_var s0) (ea_cons ev_c ea_nil)) (ZH.rc_isE k)
    refine q_asgG (ZH.ep_two (K := K) ev_c (iC rfl KC.k0) ev_c (iC rfl KC.k1)) fun v H1 e1 hv => ?_
    obtain ⟨p1, xs1, rfl, f1, h1, P1⟩ := hv
    refine q_asgG (ZH.ep_cat (K := K) (ev_var rfl) h1 P1 (ZH.ep_two ev_c (iC rfl KC.k2) ev_c (iC rfl KC.k3)) (by show 2 + 2 ≤ 1000; decide)) fun v H2 e2 hv => ?_
    obtain ⟨p2, xs2, rfl, f2, h2, P2⟩ := hv
    refine q_asgG (ZH.ep_cat (K := K) (ev_var rfl) h2 P2 (ZH.ep_two ev_c (iC rfl KC.k4) ev_c (iC rfl KC.k5)) (by show 4 + 2 ≤ 1000; decide)) fun v H3 e3 hv => ?_
    obtain ⟨p3, xs3, rfl, f3, h3, P3⟩ := hv
    refine q_asgL (ZH.ep_lc (ev_var rfl) h3 P3 (by show 6 ≤ 1000; decide) (fun _ _ => rfl) (fun _ _ => rfl) (fun _ _ => rfl)) fun p4 H4 f4 e4 h4 => ?_
    have hw : ((([(("counts" : Str), d == 0), (("many" : Str), d == 1)] ++ [(("web" : Str), d == 2), (("exchange" : Str), d == 3)] ++ [(("unlike" : Str), d == 4), (("none" : Str), d == 5)]).filter (·.2)).map fun p => V.str p.1) = [V.str (word d)] := by
      have hd := KC.lt
      have : d = 0 ∨ d = 1 ∨ d = 2 ∨ d = 3 ∨ d = 4 ∨ d = 5 := by omega
      rcases this with rfl | rfl | rfl | rfl | rfl | rfl <;> rfl
    rw [hw] at h4
    have e04 := ((e1.trans e2).trans e3).trans e4
    refine s_retL (xs := [.str (word d)]) (el_eq (el_rep (k := 1) (xs := [.str (word d)]) (by walk_at "ev") ?_ h4 (by decide) (by show 1 * 1 ≤ 100000; decide)) rfl) fun l H5 f5 e5 h5 => q l H5 (fresh_back e04 f5) (e04.trans e5) h5
    refine ev_cb (ea_cons (ev_andT (ev_op (ev_cb (ea_cons (ev_var rfl) ea_nil) (rc_lenL (SqL.of h4))) ev_c (rv_eq rfl)) (ev_cb (ea_cons (ev_var rfl) (ea_cons ev_c ea_nil)) (ZH.rc_isT KC.kv))) ea_nil) ?_
    exact rc_intB (k := true)

end
end K1
set_option Elab.async false
set_option linter.all false
set_option maxRecDepth 100000
set_option maxHeartbeats 300000
namespace K1
open PySem PySem.Spec PyProof.Rows L2 Evl Z
section
variable {P : Program} {w : World} {K : PySem.W.Frag} {mg : Str → Option Value} {base : Heap} {a : Ad}
/-! ### an answer, or the word of the refusal -/
theorem takes0N {X : Cx} : L2N.Takes X (fun _ _ _ _ => False) := fun _ _ x => by
  obtain ⟨_, _, _, _, _, _, _, _, _, _, _, _, _, _, _, _, z⟩ := x
  exact z.elim
theorem pss_none {X : Cx} {b : List Stmt} {t : TS} {d : Option Addr} (h : d = none → PSs X b t) : PSs X b (fun D σ H => d = none ∧ t D σ H) := ⟨fun pins s σ H D I hh => (h hh.1).run pins s σ H D I hh.2⟩
theorem roomH_mark {k : Nat} {A : Around} {v : Option Value} (r : Room k A) : L2H.RoomH k (A.mark v) := ⟨r.dp, r.un⟩
structure Cls (K : PySem.W.Frag) (a : Ad) : Prop where
  kc0 : KindC K a a.c_BadCounts 0
  kc1 : KindC K a a.c_BadMany 1
  ex0 : PySem.W.exmOne K (.ref a.c_BadCounts) (.ref a.c_TieError) = some true
  ex1 : PySem.W.exmOne K (.ref a.c_BadMany) (.ref a.c_TieError) = some true
def tSuite (K : PySem.W.Frag) (ad : Ad) (i : Nat) : Addr → Value → Option Addr → TS := fun x c d D σ H => d = none ∧ tRet (ZH.tCallZ (sp_kind K ad) c x (tCons (tVar i) tNil)) D σ H
/-- an error of class D is caught, and its word told -/
theorem caught {σ : L2.St} {H : Hp} {i d : Nat} {D : Addr} {E : Ends} (KC : KindC K a D d) (hx : PySem.W.exmOne K (.ref D) (.ref a.c_TieError) = some true) (hi : ∀ v : V, (σ.set i (some v))[i]? = some (some v)) (q : ∀ l H2, Ex H H2 → H l = none → H2 l = some (.lst [.str (word d)]) → E.rt (.ref l) H2) :
    wAs K (.ref a.c_TieError) i (tSuite K a i) (fun _ _ _ _ => False) E (.ref D) none σ H := by
  refine ⟨true, hx, fun _ x _ => ⟨rfl, ?_⟩, fun z => (by cases z)⟩
  exact ⟨.ref x, hi (.ref x), D, d, rfl, KC, rfl, fun l H2 hl e h2 => q l H2 e hl h2⟩
def sp_told (K : PySem.W.Frag) : Sp := fun vs H Q _ => ∃ x y, vs = [x, y] ∧ ((NoC K x H ∧ ∀ l H2, Ex H H2 → H l = none → H2 l = some (.lst [.str "counts"]) → Q (.ref l) H2) ∨
  ∃ p cs, x = .ref p ∧ SqL K H p (cs.map V.int) ∧ CountsOk cs ∧ Thing K H y ∧ (isW y 0 (cs.length : Int) = false → ∀ l H2, Ex H H2 → H l = none → H2 l = some (.lst [.str "many"]) → Q (.ref l) H2) ∧
    ∀ (m : Nat) (fs : List Int) (t : Addr) H2, y = .int (m : Int) → m ≤ cs.length → fs.Perm cs → fs.Pairwise (· ≥ ·) → Ex H H2 → H t = none → H2 t = some (.tup [.int (fs.take m).sum, .int (roomF (m : Int) (fs.drop m))]) → Q (.ref t) H2)
theorem ok__law_told (T : Top K mg a) (C : Cls K a) : FnOk P w K mg base CX0 4 a.a__law_told a.d__law_told ["_law_counts_here", "_law_many"] (sp_told K) := by
  refine T.F__law_told.ok sc__law_told (fun vs H Q E h => ?_) (fun cdv A outer s H vs Q E hr h => ?_)
  · obtain ⟨x, y, rfl, _⟩ := h
    rfl
  · obtain ⟨x, y, rfl, h⟩ := h
    refine ⟨_, (pss_one (L2N.ps_try_as (i := 2) (tb := fun W => tRet (tCallS (sp_wanted K a.c_BadCounts a.c_BadMany) (L2.WE W) (tCons (tVar 0) (tCons (tVar 1) tNil)))) (ts := tSuite K a 2) (Wout := fun _ _ _ _ => False) rfl rfl sc__law_told.nd rfl rfl ⟨rfl, by decide, Or.inl T.g_TieError⟩ takes0N
      (fun W pn xe tk _ => pss_one (ps_ret (by exact (pe_callS (ok_wanted (K := K) T) (hr.mono (by decide)) rfl T.g_wanted T.F_wanted.kp T.b_wanted (fun σ => L2N.passAt tk σ) (by exact (pa_cons (pv 0) (pa_cons (pv 1) pa_nil)))))))
      (fun e oe cls d pn hz hf => pss_none fun hd => by
        subst hd
        exact pss_one (ps_ret (by exact (ZH.pe_callZ (ok__law_kind (K := K) T) (roomH_mark (hr.mono (show 1 ≤ 3 by decide))) hz hf rfl T.g__law_kind T.F__law_kind.kp T.b__law_kind (by exact (pa_cons (pv 2) pa_nil))))))) ), ?_⟩
    refine ⟨x, rfl, y, rfl, x, y, rfl, ?_⟩
    rcases h with ⟨hx, q⟩ | ⟨p, cs, rfl, hS, hC, hy, he, hq⟩
    · rcases hx with ⟨Ty, h1, h2, h3⟩ | ⟨p, xs, rfl, h1, h2, h3⟩
      · exact .inl ⟨Ty, h1, h2, h3, fun H2 e2 => caught C.kc0 C.ex0 (fun _ => rfl) fun l H3 e3 hl h3 => q l H3 (e2.trans e3) (fresh_back e2 hl) h3⟩
      · exact .inr (.inl ⟨p, xs, rfl, h1, h2, h3, fun H2 e2 => caught C.kc0 C.ex0 (fun _ => rfl) fun l H3 e3 hl h3 => q l H3 (e2.trans e3) (fresh_back e2 hl) h3⟩)
    · exact .inr (.inr ⟨p, cs, rfl, hS, hC, hy, fun hw H2 e2 => caught C.kc1 C.ex1 (fun _ => rfl) fun l H3 e3 hl h3 => he hw l H3 (e2.trans e3) (fresh_back e2 hl) h3, hq⟩)
def sp_needed (K : PySem.W.Frag) : Sp := fun vs H Q _ => ∃ x, vs = [x] ∧ ((NoC K x H ∧ ∀ l H2, Ex H H2 → H l = none → H2 l = some (.lst [.str "counts"]) → Q (.ref l) H2) ∨
  ∃ p cs, x = .ref p ∧ SqL K H p (cs.map V.int) ∧ CountsOk cs ∧ ∀ H2, Ex H H2 → Q .non H2)
theorem ok__law_needed (T : Top K mg a) (C : Cls K a) : FnOk P w K mg base CX0 3 a.a__law_needed a.d__law_needed ["_law_thing"] (sp_needed K) := by
  refine T.F__law_needed.ok sc__law_needed (fun vs H Q E h => ?_) (fun cdv A outer s H vs Q E hr h => ?_)
  · obtain ⟨x, rfl, _⟩ := h
    rfl
  · obtain ⟨x, rfl, h⟩ := h
    refine ⟨_, (pss_one (L2N.ps_try_as (i := 1) (tb := fun W => tRet (tCallS (sp_need_counts K a.c_BadCounts) (L2.WE W) (tCons (tVar 0) tNil))) (ts := tSuite K a 1) (Wout := fun _ _ _ _ => False) rfl rfl sc__law_needed.nd rfl rfl ⟨rfl, by decide, Or.inl T.g_TieError⟩ takes0N
      (fun W pn xe tk _ => pss_one (ps_ret (by exact (pe_callS (ok_need_counts (K := K) T) (hr.mono (by decide)) rfl T.g_need_counts T.F_need_counts.kp T.b_need_counts (fun σ => L2N.passAt tk σ) (by exact (pa_cons (pv 0) pa_nil))))))
      (fun e oe cls d pn hz hf => pss_none fun hd => by
        subst hd
        exact pss_one (ps_ret (by exact (ZH.pe_callZ (ok__law_kind (K := K) T) (roomH_mark (hr.mono (show 1 ≤ 2 by decide))) hz hf rfl T.g__law_kind T.F__law_kind.kp T.b__law_kind (by exact (pa_cons (pv 1) pa_nil))))))) ), ?_⟩
    refine ⟨x, rfl, x, rfl, ?_⟩
    rcases h with ⟨hx, q⟩ | ⟨p, cs, rfl, hS, hC, hq⟩
    · rcases hx with ⟨Ty, h1, h2, h3⟩ | ⟨p, xs, rfl, h1, h2, h3⟩
      · exact .inl ⟨Ty, h1, h2, h3, fun H2 e2 => caught C.kc0 C.ex0 (fun _ => rfl) fun l H3 e3 hl h3 => q l H3 (e2.trans e3) (fresh_back e2 hl) h3⟩
      · exact .inr ⟨p, xs, rfl, h1, h2, fun z => (by rw [h3] at z; cases z), fun _ H2 e2 => caught C.kc0 C.ex0 (fun _ => rfl) fun l H3 e3 hl h3 => q l H3 (e2.trans e3) (fresh_back e2 hl) h3⟩
    · exact .inr ⟨p, _, rfl, hS, things cs, fun _ H2 e2 => hq H2 e2, fun z => (by rw [goodL_of hC] at z; cases z)⟩

end
end K1
set_option Elab.async false
set_option linter.all false
set_option maxRecDepth 100000
set_option maxHeartbeats 300000
namespace K1
open PySem PySem.Spec PyProof.Rows L2 Evl Z
section
variable {P : Program} {w : World} {K : PySem.W.Frag} {mg : Str → Option Value} {base : Heap} {a : Ad}
/-! ### the law -/
theorem el_call {σ : L2.St} {H : Hp} {sp : Sp} {dvs vs : List V} {E : XK} {ta : TA} {xs : List V} (h : EvA ta σ H vs) (hs : ∀ H1, Ex H H1 → ∀ Q : VK, (∀ l H2, Ex H1 H2 → H1 l = none → H2 l = some (.lst xs) → Q (.ref l) H2) → ∀ E : XK, sp (vs ++ dvs) H1 Q E) : EvL (tCall sp dvs E ta) σ H xs := fun H1 e Q q =>
  h H1 e _ fun H2 e2 => hs H2 (e.trans e2) Q (fun l H3 e3 hl h3 => q l H3 (fresh_back e2 hl) (e2.trans e3) h3) E
/-- what is no many -/
def NoM (K : PySem.W.Frag) (n : Nat) (x : V) (H : Hp) : Prop := Thing K H x ∧ isW x 0 (n : Int) = false
theorem NoM.ex (n : Nat) : ∀ (x : V) (H1 H2 : Hp), Ex H1 H2 → NoM K n x H1 → NoM K n x H2 := fun _ _ _ e h => ⟨h.1.ex e, h.2⟩
def sp_law (K : PySem.W.Frag) : Sp := fun vs H Q _ => ∃ (p : Addr) (ns : List Int), vs = [.ref p] ∧ SqL K H p (ns.map V.int) ∧ Scr ns ∧ ∀ H2, Ex H H2 → Q (.bl true) H2
theorem ok_law (T : Top K mg a) (C : Cls K a) : FnOk P w K mg base CX0 5 a.a_law a.d_law ["_law_script"] (sp_law K) := by
  refine T.F_law.ok sc_law (fun vs H Q E h => ?_) (fun cdv A outer s H vs Q E hr h => ?_)
  · obtain ⟨p, ns, rfl, _⟩ := h
    rfl
  · obtain ⟨p, ns, rfl, hS, hb, q⟩ := h
    refine ⟨_, (pss_cons (ps_set (i := 1) sc_law.nd rfl (.inl rfl) (pe_call (ok__law_drawn (K := K) T) (hr.mono (by decide)) rfl T.g__law_drawn T.F__law_drawn.kp T.b__law_drawn .nil pass0 (pa_cons (pv 0) (pa_cons pe_int (pa_cons pe_int pa_nil)))))
  (pss_cons (ps_set (i := 2) sc_law.nd rfl (.inl rfl) (pe_callTy (kx_list (K := K)) (by rfl) T.n_list (by decide +kernel) (pa_cons (pv 1) pa_nil)))
  (pss_cons (ps_for PassesOwn.never rfl (pi_range1 rfl T.n_range (pa_cons (pe_op op_add (pe_callB (kx_len (K := K)) (by rfl) T.n_len (by decide +kernel) (pa_cons (pv 1) pa_nil)) pe_int) pa_nil)) (pg_name (i := 3) sc_law.nd rfl (.inl rfl)) (pss_cons (ps_set (i := 4) sc_law.nd rfl (.inl rfl) (pe_call (ok__law_told (K := K) T C) (hr.mono (by decide)) rfl T.g__law_told T.F__law_told.kp T.b__law_told .nil pass0 (pa_cons (pv 2) (pa_cons (pv 3) pa_nil))))
  (pss_cons (ps_if (PW.pt (pw_or (pt_not (pt_val (pe_callB (kx_isi (K := K)) (by rfl) T.n_isinstance (by decide +kernel) (pa_cons (pv 4) (pa_cons (pe_bltn (v := .ty "tuple") rfl T.n_tuple (by decide +kernel) rfl) pa_nil))))) (pw_or (pt_not (pt_val (pe_callB (kx_all (K := K) rfl) (by rfl) T.n_all (by decide +kernel) (pa_cons (pe_lc (own := [("_law_one", 7)]) rfl sc_law.nd (kx_piT (K := K) (pv 4)) (blkOk_by (own := [("_law_one", 7)]) (N := n_law) (sc := defScope s_law) (by decide +kernel)) (fun _ _ _ _ _ => pg_name (i := 7) sc_law.nd rfl (by first | exact Or.inl rfl | exact Or.inr rfl)) (fun _ _ _ _ _ => pts_nil) (fun _ _ _ _ _ => (pe_call (ok__law_whole (K := K) T) (hr.mono (by decide)) rfl T.g__law_whole T.F__law_whole.kp T.b__law_whole .nil pass0 (pa_cons (pv 7) pa_nil)))) pa_nil)))) (pw_or1 (pt_cmpR (kx_neD (K := K) hr.units) (pv 2) (pv 1) (nomark _)))))) (pss_one (ps_ret pe_bl)) pss_nil)
  (pss_one (ps_if (pt_cmpR (kx_neD (K := K) hr.units) (pv 4) (pe_call (ok__law_wanted (K := K) T) (hr.mono (by decide)) rfl T.g__law_wanted T.F__law_wanted.kp T.b__law_wanted .nil pass0 (pa_cons (pv 1) (pa_cons (pv 3) pa_nil))) (nomark _)) (pss_one (ps_ret pe_bl)) pss_nil)))))
  (pss_cons (ps_set (i := 5) sc_law.nd rfl (.inl rfl) (pe_call (ok__law_mixed (K := K) T) (hr.mono (by decide)) rfl T.g__law_mixed T.F__law_mixed.kp T.b__law_mixed .nil pass0 (pa_cons (pe_call (ok__law_cell (K := K) T) (hr.mono (by decide)) rfl T.g__law_cell T.F__law_cell.kp T.b__law_cell .nil pass0 (pa_cons (pv 0) (pa_cons pe_int pa_nil))) (pa_cons pe_int pa_nil))))
  (pss_cons (ps_set (i := 3) sc_law.nd rfl (.inl rfl) (pe_ix (kx_ixL (K := K)) (pe_lst (pa_cons (pe_un un_neg pe_int) (pa_cons (pe_op op_add (pe_callB (kx_len (K := K)) (by rfl) T.n_len (by decide +kernel) (pa_cons (pv 1) pa_nil)) pe_int) (pa_cons pe_bl (pa_cons pe_non (pa_cons pe_str (pa_cons (pe_lst (pa_cons pe_int pa_nil)) (pa_cons (pe_op op_add (pe_op op_add (pe_callB (kx_len (K := K)) (by rfl) T.n_len (by decide +kernel) (pa_cons (pv 1) pa_nil)) (pe_op op_mod (pe_op op_fdiv (pv 5) pe_int) (pe_op op_pow pe_int pe_int))) pe_int) (pa_cons pe_bl pa_nil))))))))) (pe_op op_mod (pe_op op_fdiv (pv 5) pe_int) pe_int) (fun _ _ => rfl)))
  (pss_cons (ps_set (i := 6) sc_law.nd rfl (.inl rfl) (pe_call (ok__law_no_counts (K := K) T) (hr.mono (by decide)) rfl T.g__law_no_counts T.F__law_no_counts.kp T.b__law_no_counts .nil pass0 (pa_cons (pv 1) (pa_cons (pe_op op_fdiv (pv 5) pe_int) pa_nil))))
  (pss_cons (ps_if (PW.pt (pw_or (pt_cmpR (kx_neD (K := K) hr.units) (pe_call (ok__law_told (K := K) T C) (hr.mono (by decide)) rfl T.g__law_told T.F__law_told.kp T.b__law_told .nil pass0 (pa_cons (pv 2) (pa_cons (pv 3) pa_nil))) (pe_lst (pa_cons pe_str pa_nil)) (nomark _)) (pw_or1 (pt_cmpR (kx_neD (K := K) hr.units) (pe_call (ok__law_told (K := K) T C) (hr.mono (by decide)) rfl T.g__law_told T.F__law_told.kp T.b__law_told .nil pass0 (pa_cons (pv 6) (pa_cons (pv 3) pa_nil))) (pe_lst (pa_cons pe_str pa_nil)) (nomark _))))) (pss_one (ps_ret pe_bl)) pss_nil)
  (pss_one (ps_ret (pe_and (pe_cmpR op_isN (pe_call (ok__law_needed (K := K) T C) (hr.mono (by decide)) rfl T.g__law_needed T.F__law_needed.kp T.b__law_needed .nil pass0 (pa_cons (pv 1) pa_nil)) pe_non (nomark _)) (pe_and (pe_cmpR (kx_eqD (K := K) hr.units) (pe_call (ok__law_needed (K := K) T C) (hr.mono (by decide)) rfl T.g__law_needed T.F__law_needed.kp T.b__law_needed .nil pass0 (pa_cons (pv 6) pa_nil)) (pe_lst (pa_cons pe_str pa_nil)) (nomark _)) (pe_one (pe_cmpR (kx_eqD (K := K) hr.units) (pv 2) (pv 1) (nomark _)))))))))))))), ?_⟩
    refine q_asgG (eg_call (P := fun H1 v H2 => ∃ (cs : List Int) (l : Addr), v = .ref l ∧ CountsOk cs ∧ H2 l = some (.lst (cs.map V.int))) (by walk_at "ev") (fun H1 e Q q E => ⟨p, ns, 1, 10, rfl, ex_l e hS, hb, by decide, by decide, by decide, fun cs l H2 hC e2 hl h2 => q _ H2 e2 ⟨cs, l, rfl, hC, h2⟩⟩) (fun H0 H1 v H2 e h => h)) fun v H1 e1 hv => ?_
    obtain ⟨cs, l, rfl, hC, hl1⟩ := hv
    have hlen := hC.len
    refine q_asgL (el_listQ (by walk_at "ev") (SqL.of hl1)) fun h H2 _ e2 hh2 => ?_
    have hl2 := e2 _ _ hl1
    refine q_forR1 (n := (cs.length : Int) + 1) (by
      rw [← List.length_map (f := V.int) (as := cs)]
      walk_at "ev") (by omega) (fun i σ' H' => ∃ x3 x4, σ' = [some (.ref p), some (.ref l), some (.ref h), x3, x4, none, none, none] ∧ Ex H2 H') ?_ ?_ ?_
    · exact fun H3 e3 => ⟨none, none, rfl, e3⟩
    · rintro i σ' H' hi ⟨x3, x4, rfl, e3⟩
      have hl3 := e3 _ _ hl2
      have hh3 := e3 _ _ hh2
      refine q_asgG (eg_call (P := fun H1 v H2 => ∃ (fs : List Int) (t : Addr), v = .ref t ∧ fs.Perm cs ∧ fs.Pairwise (· ≥ ·) ∧ H2 t = some (.tup [.int (fs.take i).sum, .int (roomF (i : Int) (fs.drop i))])) (vs := [.ref h, .int (i : Int)]) (by walk_at "ev") (fun H1 e Q q E => ?_) (fun H0 H1 v H2 e h => h)) fun v H4 e4 hv => ?_
      · refine ⟨_, _, rfl, .inr ⟨h, cs, rfl, ex_l e (SqL.of hh3), hC, Thing.int _, fun hw => ?_, fun m fs t H2 hm _ hp hd e2 _ h2 => ?_⟩⟩
        · simp only [isW, Bool.and_eq_false_iff, decide_eq_false_iff_not] at hw
          omega
        · have em : m = i := by
            have := V.int.inj hm
            omega
          subst em
          exact q _ H2 e2 ⟨fs, t, rfl, hp, hd, h2⟩
      · obtain ⟨fs, t, rfl, hp, hd, ht4⟩ := hv
        have hl4 := e4 _ _ hl3
        have hh4 := e4 _ _ hh3
        refine q_when (b := false) (et_orF (et_not (a := true) (et_B (ev_cb (ea_cons (ev_var rfl) (ea_cons ev_c ea_nil)) (rc_isi (.ty _) (.tup ht4) (kit_ty (by decide +kernel))))))
          (et_orF (et_not (a := true) (et_B (ev_allL (bs := [true, true]) (el_eq (el_lcT (xs := [.int (fs.take i).sum, .int (roomF (i : Int) (fs.drop i))]) (fun _ => true) (fun _ => .bl true) (ev_var rfl) (SqT.of ht4) (by show 2 ≤ 40000; decide) (fun _ => rfl) (fun _ _ _ _ _ => et_yes) (fun j x H5 e5 hx _ => ?_)) rfl))))
            (et_test (ev_neInts (cs := cs) (ev_var rfl) (ev_var rfl) (SqL.of hh4) (SqL.of hl4))))) (fun hz => (by cases hz)) fun _ H5 e5 => ?_
        · obtain ⟨z, rfl⟩ : ∃ z : Int, x = .int z := by
            match j, hx with
            | 0, hx => exact ⟨_, (Option.some.inj hx).symm⟩
            | 1, hx => exact ⟨_, (Option.some.inj hx).symm⟩
            | j + 2, hx => cases hx
          exact ev_call (ea_cons (ev_var rfl) ea_nil) (fun H6 e6 Q q E => ⟨z, rfl, fun H7 e7 => q H7 e7⟩)
        · have ht5 := e5 _ _ ht4
          have hl5 := e5 _ _ hl4
          refine s_when (b := false) (et_test (ev_nePair (ev_var rfl) (SqT.of ht5) (eg_call (vs := [.ref l, .int (i : Int)]) (by walk_at "ev") (fun H1 e Q q E => ⟨l, cs, i, rfl, ex_l e (SqL.of hl5), by omega, by omega, fun rs left u H2 hT hlr e2 _ h2 => q _ H2 e2 ⟨u, rfl, ?_⟩⟩) (fun H0 H1 v H2 e h => h)))) (fun hz => (by cases hz)) fun _ H6 e6 => ⟨some (.int (i : Int)), some (.ref t), rfl, ((e3.trans e4).trans e5).trans e6⟩
          have tk := taken_eq hp hd hT.perm hT.desc hT.over
          rw [hlr] at tk
          rw [← tk.1]
          have er : roomF (i : Int) (fs.drop i) = roomF (i : Int) left := by
            unfold roomF
            rw [sum_perm (tk.2.map (minI (i : Int)))]
          rw [er]
          exact SqT.of h2
    · rintro σ' H' ⟨x3, x4, rfl, e3⟩
      have hl3 := e3 _ _ hl2
      have hh3 := e3 _ _ hh2
      have hS3 := ex_l ((e1.trans e2).trans e3) hS
      generalize hc : mixed (cell ns 0) 1 = c
      refine q_asg (v := .int c) (by
        rw [← hc]
        walk_at "ev"
        · exact spv_cell hS3 (by omega)
        · exact spv_mixed ((cell_bd hb 0).mono (by decide)) (Bd.mono (n := 1) (Bd.of (by decide)) (by decide))) fun H4 e4 => ?_
      have hl4 := e4 _ _ hl3
      have hh4 := e4 _ _ hh3
      have m8 : 0 ≤ c / 8 % 8 ∧ c / 8 % 8 < 8 := ⟨Int.emod_nonneg _ (by decide), Int.emod_lt_of_pos _ (by decide)⟩
      refine q_asgG (gx_menu (G := NoM K cs.length) (n := 8) (i := c / 8 % 8) (NoM.ex _) ?_ (by
        walk_at "ev"
        · exact ⟨by decide, by decide⟩
        · decide) m8.1 m8.2 (by decide)) fun v H5 e5 hv => ?_
      · refine ga_cons (NoM.ex _) (gx_ev (v := .int (-1)) (by walk_at "ev") fun _ _ => ⟨Thing.int _, rfl⟩) ?_
        refine ga_cons (NoM.ex _) (gx_ev (v := .int ((cs.length : Int) + 1)) (by
          rw [← List.length_map (f := V.int) (as := cs)]
          walk_at "ev") fun _ _ => ⟨Thing.int _, ?_⟩) ?_
        · show (decide (0 ≤ (cs.length : Int) + 1) && decide ((cs.length : Int) + 1 ≤ (cs.length : Int))) = false
          rw [decide_eq_false (p := (cs.length : Int) + 1 ≤ (cs.length : Int)) (by omega), Bool.and_false]
        refine ga_cons (NoM.ex _) (gx_ev (v := .bl true) (by walk_at "ev") fun _ _ => ⟨⟨_, .bl _, by decide⟩, rfl⟩) ?_
        refine ga_cons (NoM.ex _) (gx_ev (v := .non) (by walk_at "ev") fun _ _ => ⟨⟨_, .non, by decide⟩, rfl⟩) ?_
        refine ga_cons (NoM.ex _) (gx_ev ev_c fun _ _ => ⟨⟨_, .str _, by decide⟩, rfl⟩) ?_
        refine ga_cons (NoM.ex _) (gx_L (xs := [.int 1]) (el_lst (by walk_at "ev") (by show 1 ≤ 100000; decide)) fun l _ _ hl => ⟨⟨_, .lst (SqL.of hl), by decide⟩, rfl⟩) ?_
        refine ga_cons (NoM.ex _) (gx_ev (v := .int ((cs.length : Int) + c / 64 % 10 ^ (9 : Int).toNat + 1)) (by
          rw [← List.length_map (f := V.int) (as := cs)]
          walk_at "ev"
          · exact ⟨by decide, by decide⟩
          · exact ⟨by decide, by decide, by decide⟩
          · decide) fun _ _ => ⟨Thing.int _, ?_⟩) ?_
        · have : 0 ≤ c / 64 % 10 ^ (9 : Int).toNat := Int.emod_nonneg _ (by decide)
          show (decide (0 ≤ (cs.length : Int) + c / 64 % 10 ^ (9 : Int).toNat + 1) && decide ((cs.length : Int) + c / 64 % 10 ^ (9 : Int).toNat + 1 ≤ (cs.length : Int))) = false
          rw [decide_eq_false (p := (cs.length : Int) + c / 64 % 10 ^ (9 : Int).toNat + 1 ≤ (cs.length : Int)) (by omega), Bool.and_false]
        exact ga_cons (NoM.ex _) (gx_ev (v := .bl false) (by walk_at "ev") fun _ _ => ⟨⟨_, .bl _, by decide⟩, rfl⟩) ga_nil
      · have hl5 := e5 _ _ hl4
        have hh5 := e5 _ _ hh4
        refine q_asgG (eg_call (P := fun _ v H2 => NoC K v H2) (vs := [.ref l, .int (c / 64)]) (by
          walk_at "ev"
          exact ⟨by decide, by decide⟩) (fun H1 e Q q E => ⟨l, cs, c / 64, rfl, e _ _ hl5, hC, fun v H2 e2 hv => q v H2 e2 hv⟩) (fun H0 H1 v H2 e h => h)) fun u H6 e6 hu => ?_
        have hl6 := e6 _ _ hl5
        have hh6 := e6 _ _ hh5
        have hv6 := NoM.ex _ _ _ _ e6 hv
        refine q_when (b := false) (et_orF (et_test (ev_neWord (u := ("many" : Str)) (by decide +kernel) (el_call (vs := [.ref h, v]) (ea_cons (ev_var rfl) (ea_cons (ev_var rfl) ea_nil)) (fun H1 e Q q E => ⟨_, _, rfl, .inr ⟨h, cs, rfl, SqL.of (e _ _ hh6), hC, hv6.1.ex e, fun _ l H2 e2 hl h2 => q l H2 e2 hl h2, fun m fs t H2 hm hle => ?_⟩⟩)) (el_lst (ea_cons ev_c ea_nil) (by show 1 ≤ 100000; decide))))
          (et_test (ev_neWord (u := ("counts" : Str)) (by decide +kernel) (el_call (vs := [u, v]) (ea_cons (ev_var rfl) (ea_cons (ev_var rfl) ea_nil)) (fun H1 e Q q E => ⟨_, _, rfl, .inl ⟨NoC.ex _ _ _ e hu, fun l H2 e2 hl h2 => q l H2 e2 hl h2⟩⟩)) (el_lst (ea_cons ev_c ea_nil) (by show 1 ≤ 100000; decide))))) (fun hz => (by cases hz)) fun _ H7 e7 => ?_
        · have hw := hv6.2
          rw [hm] at hw
          simp only [isW, Bool.and_eq_false_iff, decide_eq_false_iff_not] at hw
          omega
        · have hl7 := e7 _ _ hl6
          have hh7 := e7 _ _ hh6
          have hu7 := NoC.ex _ _ _ e7 hu
          refine s_ret (v := .bl true) (ev_andT (ev_is (ev_op (x := .non) (ev_call (ea_cons (ev_var rfl) ea_nil) (fun H1 e Q q E => ⟨_, rfl, .inr ⟨l, cs, rfl, SqL.of (e _ _ hl7), hC, fun H2 e2 => q H2 e2⟩⟩)) ev_c rv_isN) (by rfl))
            (ev_andT (ev_eqWord (u := ("counts" : Str)) (by decide +kernel) (el_call (vs := [u]) (ea_cons (ev_var rfl) ea_nil) (fun H1 e Q q E => ⟨_, rfl, .inl ⟨NoC.ex _ _ _ e hu7, fun l H2 e2 hl h2 => q l H2 e2 hl h2⟩⟩)) (el_lst (ea_cons ev_c ea_nil) (by show 1 ≤ 100000; decide)))
              (ev_eqInts (cs := cs) (ev_var rfl) (ev_var rfl) (SqL.of hh7) (SqL.of hl7)))) fun H8 e8 => q H8 (((((((e1.trans e2).trans e3).trans e4).trans e5).trans e6).trans e7).trans e8)

end
end K1
set_option Elab.async false
set_option linter.all false
set_option maxRecDepth 100000
set_option maxHeartbeats 4000000
namespace K1
open PySem PySem.Spec PyProof.Rows L2 Evl Z
theorem all_mk {P : Program} {w : World} {K : PySem.W.Frag} {h : Heap} {mg : Str → Option Value} {fa : Addr} (X : K.In h) (G : h.Ns mainGlobals mg) (hfa : mg "law" = some (.ref fa))
    {f0 : Addr} {od0 an0 : Option Addr} {sl0 : Array (Option Value)} {oc0 kV0 dc0 pm0 cd0 ct0 : Value}
    (a0 : PySem.W.nsIn K mainGlobals "is_whole" = some (some (.ref f0)))
    (l0 : K.lookup f0 = some ⟨oc0, od0, .func (PySem.W.fnOf "is_whole" "is_whole" (defArgs s_is_whole) (defBody s_is_whole) (defScope s_is_whole) .none kV0 dc0 pm0 an0 cd0 ct0), sl0⟩)
    (c0 : PySem.W.codeIn K cd0 "is_whole" = true) (k0 : PySem.W.keepIn K (.ref f0) = true)
    {f1 : Addr} {od1 an1 : Option Addr} {sl1 : Array (Option Value)} {oc1 kV1 dc1 pm1 cd1 ct1 : Value}
    (a1 : PySem.W.nsIn K mainGlobals "need_counts" = some (some (.ref f1)))
    (l1 : K.lookup f1 = some ⟨oc1, od1, .func (PySem.W.fnOf "need_counts" "need_counts" (defArgs s_need_counts) (defBody s_need_counts) (defScope s_need_counts) .none kV1 dc1 pm1 an1 cd1 ct1), sl1⟩)
    (c1 : PySem.W.codeIn K cd1 "need_counts" = true) (k1 : PySem.W.keepIn K (.ref f1) = true)
    {f2 : Addr} {od2 an2 : Option Addr} {sl2 : Array (Option Value)} {oc2 kV2 dc2 pm2 cd2 ct2 : Value}
    (a2 : PySem.W.nsIn K mainGlobals "wanted" = some (some (.ref f2)))
    (l2 : K.lookup f2 = some ⟨oc2, od2, .func (PySem.W.fnOf "wanted" "wanted" (defArgs s_wanted) (defBody s_wanted) (defScope s_wanted) .none kV2 dc2 pm2 an2 cd2 ct2), sl2⟩)
    (c2 : PySem.W.codeIn K cd2 "wanted" = true) (k2 : PySem.W.keepIn K (.ref f2) = true)
    {f3 : Addr} {od3 an3 : Option Addr} {sl3 : Array (Option Value)} {oc3 kV3 dc3 pm3 cd3 ct3 : Value}
    (a3 : PySem.W.nsIn K mainGlobals "_law_cell" = some (some (.ref f3)))
    (l3 : K.lookup f3 = some ⟨oc3, od3, .func (PySem.W.fnOf "_law_cell" "_law_cell" (defArgs s__law_cell) (defBody s__law_cell) (defScope s__law_cell) .none kV3 dc3 pm3 an3 cd3 ct3), sl3⟩)
    (c3 : PySem.W.codeIn K cd3 "_law_cell" = true) (k3 : PySem.W.keepIn K (.ref f3) = true)
    {f4 : Addr} {od4 an4 : Option Addr} {sl4 : Array (Option Value)} {oc4 kV4 dc4 pm4 cd4 ct4 : Value}
    (a4 : PySem.W.nsIn K mainGlobals "_law_mixed" = some (some (.ref f4)))
    (l4 : K.lookup f4 = some ⟨oc4, od4, .func (PySem.W.fnOf "_law_mixed" "_law_mixed" (defArgs s__law_mixed) (defBody s__law_mixed) (defScope s__law_mixed) .none kV4 dc4 pm4 an4 cd4 ct4), sl4⟩)
    (c4 : PySem.W.codeIn K cd4 "_law_mixed" = true) (k4 : PySem.W.keepIn K (.ref f4) = true)
    {f5 : Addr} {od5 an5 : Option Addr} {sl5 : Array (Option Value)} {oc5 kV5 dc5 pm5 cd5 ct5 : Value}
    (a5 : PySem.W.nsIn K mainGlobals "_law_whole" = some (some (.ref f5)))
    (l5 : K.lookup f5 = some ⟨oc5, od5, .func (PySem.W.fnOf "_law_whole" "_law_whole" (defArgs s__law_whole) (defBody s__law_whole) (defScope s__law_whole) .none kV5 dc5 pm5 an5 cd5 ct5), sl5⟩)
    (c5 : PySem.W.codeIn K cd5 "_law_whole" = true) (k5 : PySem.W.keepIn K (.ref f5) = true)
    {f6 : Addr} {od6 an6 : Option Addr} {sl6 : Array (Option Value)} {oc6 kV6 dc6 pm6 cd6 ct6 : Value}
    (a6 : PySem.W.nsIn K mainGlobals "_law_web" = some (some (.ref f6)))
    (l6 : K.lookup f6 = some ⟨oc6, od6, .func (PySem.W.fnOf "_law_web" "_law_web" (defArgs s__law_web) (defBody s__law_web) (defScope s__law_web) .none kV6 dc6 pm6 an6 cd6 ct6), sl6⟩)
    (c6 : PySem.W.codeIn K cd6 "_law_web" = true) (k6 : PySem.W.keepIn K (.ref f6) = true)
    {f7 : Addr} {od7 an7 : Option Addr} {sl7 : Array (Option Value)} {oc7 kV7 dc7 pm7 cd7 ct7 : Value}
    (a7 : PySem.W.nsIn K mainGlobals "_law_counts" = some (some (.ref f7)))
    (l7 : K.lookup f7 = some ⟨oc7, od7, .func (PySem.W.fnOf "_law_counts" "_law_counts" (defArgs s__law_counts) (defBody s__law_counts) (defScope s__law_counts) .none kV7 dc7 pm7 an7 cd7 ct7), sl7⟩)
    (c7 : PySem.W.codeIn K cd7 "_law_counts" = true) (k7 : PySem.W.keepIn K (.ref f7) = true)
    {f8 : Addr} {od8 an8 : Option Addr} {sl8 : Array (Option Value)} {oc8 kV8 dc8 pm8 cd8 ct8 : Value}
    (a8 : PySem.W.nsIn K mainGlobals "_law_drawn" = some (some (.ref f8)))
    (l8 : K.lookup f8 = some ⟨oc8, od8, .func (PySem.W.fnOf "_law_drawn" "_law_drawn" (defArgs s__law_drawn) (defBody s__law_drawn) (defScope s__law_drawn) .none kV8 dc8 pm8 an8 cd8 ct8), sl8⟩)
    (c8 : PySem.W.codeIn K cd8 "_law_drawn" = true) (k8 : PySem.W.keepIn K (.ref f8) = true)
    {f9 : Addr} {od9 an9 : Option Addr} {sl9 : Array (Option Value)} {oc9 kV9 dc9 pm9 cd9 ct9 : Value}
    (a9 : PySem.W.nsIn K mainGlobals "_law_wanted" = some (some (.ref f9)))
    (l9 : K.lookup f9 = some ⟨oc9, od9, .func (PySem.W.fnOf "_law_wanted" "_law_wanted" (defArgs s__law_wanted) (defBody s__law_wanted) (defScope s__law_wanted) .none kV9 dc9 pm9 an9 cd9 ct9), sl9⟩)
    (c9 : PySem.W.codeIn K cd9 "_law_wanted" = true) (k9 : PySem.W.keepIn K (.ref f9) = true)
    {f10 : Addr} {od10 an10 : Option Addr} {sl10 : Array (Option Value)} {oc10 kV10 dc10 pm10 cd10 ct10 : Value}
    (a10 : PySem.W.nsIn K mainGlobals "_law_kind" = some (some (.ref f10)))
    (l10 : K.lookup f10 = some ⟨oc10, od10, .func (PySem.W.fnOf "_law_kind" "_law_kind" (defArgs s__law_kind) (defBody s__law_kind) (defScope s__law_kind) .none kV10 dc10 pm10 an10 cd10 ct10), sl10⟩)
    (c10 : PySem.W.codeIn K cd10 "_law_kind" = true) (k10 : PySem.W.keepIn K (.ref f10) = true)
    {f11 : Addr} {od11 an11 : Option Addr} {sl11 : Array (Option Value)} {oc11 kV11 dc11 pm11 cd11 ct11 : Value}
    (a11 : PySem.W.nsIn K mainGlobals "_law_no_counts" = some (some (.ref f11)))
    (l11 : K.lookup f11 = some ⟨oc11, od11, .func (PySem.W.fnOf "_law_no_counts" "_law_no_counts" (defArgs s__law_no_counts) (defBody s__law_no_counts) (defScope s__law_no_counts) .none kV11 dc11 pm11 an11 cd11 ct11), sl11⟩)
    (c11 : PySem.W.codeIn K cd11 "_law_no_counts" = true) (k11 : PySem.W.keepIn K (.ref f11) = true)
    {f12 : Addr} {od12 an12 : Option Addr} {sl12 : Array (Option Value)} {oc12 kV12 dc12 pm12 cd12 ct12 : Value}
    (a12 : PySem.W.nsIn K mainGlobals "_law_told" = some (some (.ref f12)))
    (l12 : K.lookup f12 = some ⟨oc12, od12, .func (PySem.W.fnOf "_law_told" "_law_told" (defArgs s__law_told) (defBody s__law_told) (defScope s__law_told) .none kV12 dc12 pm12 an12 cd12 ct12), sl12⟩)
    (c12 : PySem.W.codeIn K cd12 "_law_told" = true) (k12 : PySem.W.keepIn K (.ref f12) = true)
    {f13 : Addr} {od13 an13 : Option Addr} {sl13 : Array (Option Value)} {oc13 kV13 dc13 pm13 cd13 ct13 : Value}
    (a13 : PySem.W.nsIn K mainGlobals "_law_needed" = some (some (.ref f13)))
    (l13 : K.lookup f13 = some ⟨oc13, od13, .func (PySem.W.fnOf "_law_needed" "_law_needed" (defArgs s__law_needed) (defBody s__law_needed) (defScope s__law_needed) .none kV13 dc13 pm13 an13 cd13 ct13), sl13⟩)
    (c13 : PySem.W.codeIn K cd13 "_law_needed" = true) (k13 : PySem.W.keepIn K (.ref f13) = true)
    {f14 : Addr} {od14 an14 : Option Addr} {sl14 : Array (Option Value)} {oc14 kV14 dc14 pm14 cd14 ct14 : Value}
    (a14 : PySem.W.nsIn K mainGlobals "law" = some (some (.ref f14)))
    (l14 : K.lookup f14 = some ⟨oc14, od14, .func (PySem.W.fnOf "law" "law" (defArgs s_law) (defBody s_law) (defScope s_law) .none kV14 dc14 pm14 an14 cd14 ct14), sl14⟩)
    (c14 : PySem.W.codeIn K cd14 "law" = true) (k14 : PySem.W.keepIn K (.ref f14) = true)
    {C0 : Addr} (ca0 : PySem.W.nsIn K mainGlobals "TieError" = some (some (.ref C0))) (cx0 : PySem.W.excIn K C0 [.type "ValueError", .type "Exception", .type "BaseException", .type "object"] "ValueError.__new__" = true) (ck0 : PySem.W.keepIn K (.ref C0) = true)
    (cb0 : PySem.W.subIn K (.ref C0) (.type "BaseException") = some true) (ct_0 : PySem.W.typeIn K (.ref C0) = some (.type "type"))
    {C1 : Addr} (ca1 : PySem.W.nsIn K mainGlobals "BadCounts" = some (some (.ref C1))) (cx1 : PySem.W.excIn K C1 [.type "ValueError", .type "Exception", .type "BaseException", .type "object"] "ValueError.__new__" = true) (ck1 : PySem.W.keepIn K (.ref C1) = true)
    (cb1 : PySem.W.subIn K (.ref C1) (.type "BaseException") = some true) (ct_1 : PySem.W.typeIn K (.ref C1) = some (.type "type"))
    {C2 : Addr} (ca2 : PySem.W.nsIn K mainGlobals "BadMany" = some (some (.ref C2))) (cx2 : PySem.W.excIn K C2 [.type "ValueError", .type "Exception", .type "BaseException", .type "object"] "ValueError.__new__" = true) (ck2 : PySem.W.keepIn K (.ref C2) = true)
    (cb2 : PySem.W.subIn K (.ref C2) (.type "BaseException") = some true) (ct_2 : PySem.W.typeIn K (.ref C2) = some (.type "type"))
    {C3 : Addr} (ca3 : PySem.W.nsIn K mainGlobals "BadWeb" = some (some (.ref C3))) (cx3 : PySem.W.excIn K C3 [.type "ValueError", .type "Exception", .type "BaseException", .type "object"] "ValueError.__new__" = true) (ck3 : PySem.W.keepIn K (.ref C3) = true)
    (cb3 : PySem.W.subIn K (.ref C3) (.type "BaseException") = some true) (ct_3 : PySem.W.typeIn K (.ref C3) = some (.type "type"))
    {C4 : Addr} (ca4 : PySem.W.nsIn K mainGlobals "BadExchange" = some (some (.ref C4))) (cx4 : PySem.W.excIn K C4 [.type "ValueError", .type "Exception", .type "BaseException", .type "object"] "ValueError.__new__" = true) (ck4 : PySem.W.keepIn K (.ref C4) = true)
    (cb4 : PySem.W.subIn K (.ref C4) (.type "BaseException") = some true) (ct_4 : PySem.W.typeIn K (.ref C4) = some (.type "type"))
    {C5 : Addr} (ca5 : PySem.W.nsIn K mainGlobals "Unlike" = some (some (.ref C5))) (cx5 : PySem.W.excIn K C5 [.type "ValueError", .type "Exception", .type "BaseException", .type "object"] "ValueError.__new__" = true) (ck5 : PySem.W.keepIn K (.ref C5) = true)
    (cb5 : PySem.W.subIn K (.ref C5) (.type "BaseException") = some true) (ct_5 : PySem.W.typeIn K (.ref C5) = some (.type "type"))
    {C6 : Addr} (ca6 : PySem.W.nsIn K mainGlobals "NoWeb" = some (some (.ref C6))) (cx6 : PySem.W.excIn K C6 [.type "ValueError", .type "Exception", .type "BaseException", .type "object"] "ValueError.__new__" = true) (ck6 : PySem.W.keepIn K (.ref C6) = true)
    (cb6 : PySem.W.subIn K (.ref C6) (.type "BaseException") = some true) (ct_6 : PySem.W.typeIn K (.ref C6) = some (.type "type"))
    {t0 : Tok} (m0 : PySem.W.nsIn K mainGlobals "MOST_POINTS" = some (some (.int 10 t0)))
    {t1 : Tok} (m1 : PySem.W.nsIn K mainGlobals "MOST_TIES" = some (some (.int 20 t1)))
    (z0 : PySem.W.nsIn K mainGlobals "ValueError" = some none)
    (z1 : PySem.W.nsIn K mainGlobals "all" = some none)
    (z2 : PySem.W.nsIn K mainGlobals "bool" = some none)
    (z3 : PySem.W.nsIn K mainGlobals "int" = some none)
    (z4 : PySem.W.nsIn K mainGlobals "isinstance" = some none)
    (z5 : PySem.W.nsIn K mainGlobals "len" = some none)
    (z6 : PySem.W.nsIn K mainGlobals "list" = some none)
    (z7 : PySem.W.nsIn K mainGlobals "max" = some none)
    (z8 : PySem.W.nsIn K mainGlobals "min" = some none)
    (z9 : PySem.W.nsIn K mainGlobals "range" = some none)
    (z10 : PySem.W.nsIn K mainGlobals "sorted" = some none)
    (z11 : PySem.W.nsIn K mainGlobals "sum" = some none)
    (z12 : PySem.W.nsIn K mainGlobals "tuple" = some none)
    (z13 : PySem.W.nsIn K mainGlobals "type" = some none)
    (tb : PySem.W.hasDictIn K C0 = true)
    (en : PySem.W.specialIn K (.builtin "object.__class__") "__get__" = some (some (.builtin "getset_descriptor.__get__"))) (et : PySem.W.takesIn K (.builtin "object.__class__") = some true)
    (eg0 : PySem.W.findIn K (.ref C1) "__getattribute__" = some (some (.builtin "BaseException.__getattribute__"))) (ek0 : PySem.W.findIn K (.ref C1) "__getattr__" = some none) (ed0 : PySem.W.hasDictIn K C1 = true) (ea0 : PySem.W.findIn K (.ref C1) "__class__" = some (some (.builtin "object.__class__"))) (em0 : PySem.W.mroIn K C1 (.type "object") = some true) (es0 : PySem.W.subIn K (.ref C1) (.ref C0) = some true)
    (kk0_0 : PySem.W.kitOne K (.ref C1) (.ref C1) = some true)
    (kk0_1 : PySem.W.kitOne K (.ref C1) (.ref C2) = some false)
    (kk0_2 : PySem.W.kitOne K (.ref C1) (.ref C3) = some false)
    (kk0_3 : PySem.W.kitOne K (.ref C1) (.ref C4) = some false)
    (kk0_4 : PySem.W.kitOne K (.ref C1) (.ref C5) = some false)
    (kk0_5 : PySem.W.kitOne K (.ref C1) (.ref C6) = some false)
    (kv0 : PySem.W.kitOne K (.ref C1) (.type "ValueError") = some true)
    (eg1 : PySem.W.findIn K (.ref C2) "__getattribute__" = some (some (.builtin "BaseException.__getattribute__"))) (ek1 : PySem.W.findIn K (.ref C2) "__getattr__" = some none) (ed1 : PySem.W.hasDictIn K C2 = true) (ea1 : PySem.W.findIn K (.ref C2) "__class__" = some (some (.builtin "object.__class__"))) (em1 : PySem.W.mroIn K C2 (.type "object") = some true) (es1 : PySem.W.subIn K (.ref C2) (.ref C0) = some true)
    (kk1_0 : PySem.W.kitOne K (.ref C2) (.ref C1) = some false)
    (kk1_1 : PySem.W.kitOne K (.ref C2) (.ref C2) = some true)
    (kk1_2 : PySem.W.kitOne K (.ref C2) (.ref C3) = some false)
    (kk1_3 : PySem.W.kitOne K (.ref C2) (.ref C4) = some false)
    (kk1_4 : PySem.W.kitOne K (.ref C2) (.ref C5) = some false)
    (kk1_5 : PySem.W.kitOne K (.ref C2) (.ref C6) = some false)
    (kv1 : PySem.W.kitOne K (.ref C2) (.type "ValueError") = some true) :
    ∃ fd : FuncData, (∀ (s : Shared) (v : Value), BindsTo s fd ⟨[v], []⟩ [("_law_script", v)]) ∧ ∀ base : Heap, K.In base → base.Ns mainGlobals mg → FnOk P w K mg base CX0 5 fa fd ["_law_script"] (sp_law K) := by
  have e := hfa.symm.trans (PySem.W.mg_of X G a14)
  cases e
  let a : Ad := { a_is_whole := f0, d_is_whole := PySem.W.fnOf "is_whole" "is_whole" (defArgs s_is_whole) (defBody s_is_whole) (defScope s_is_whole) .none kV0 dc0 pm0 an0 cd0 ct0, a_need_counts := f1, d_need_counts := PySem.W.fnOf "need_counts" "need_counts" (defArgs s_need_counts) (defBody s_need_counts) (defScope s_need_counts) .none kV1 dc1 pm1 an1 cd1 ct1, a_wanted := f2, d_wanted := PySem.W.fnOf "wanted" "wanted" (defArgs s_wanted) (defBody s_wanted) (defScope s_wanted) .none kV2 dc2 pm2 an2 cd2 ct2, a__law_cell := f3, d__law_cell := PySem.W.fnOf "_law_cell" "_law_cell" (defArgs s__law_cell) (defBody s__law_cell) (defScope s__law_cell) .none kV3 dc3 pm3 an3 cd3 ct3, a__law_mixed := f4, d__law_mixed := PySem.W.fnOf "_law_mixed" "_law_mixed" (defArgs s__law_mixed) (defBody s__law_mixed) (defScope s__law_mixed) .none kV4 dc4 pm4 an4 cd4 ct4, a__law_whole := f5, d__law_whole := PySem.W.fnOf "_law_whole" "_law_whole" (defArgs s__law_whole) (defBody s__law_whole) (defScope s__law_whole) .none kV5 dc5 pm5 an5 cd5 ct5, a__law_web := f6, d__law_web := PySem.W.fnOf "_law_web" "_law_web" (defArgs s__law_web) (defBody s__law_web) (defScope s__law_web) .none kV6 dc6 pm6 an6 cd6 ct6, a__law_counts := f7, d__law_counts := PySem.W.fnOf "_law_counts" "_law_counts" (defArgs s__law_counts) (defBody s__law_counts) (defScope s__law_counts) .none kV7 dc7 pm7 an7 cd7 ct7, a__law_drawn := f8, d__law_drawn := PySem.W.fnOf "_law_drawn" "_law_drawn" (defArgs s__law_drawn) (defBody s__law_drawn) (defScope s__law_drawn) .none kV8 dc8 pm8 an8 cd8 ct8, a__law_wanted := f9, d__law_wanted := PySem.W.fnOf "_law_wanted" "_law_wanted" (defArgs s__law_wanted) (defBody s__law_wanted) (defScope s__law_wanted) .none kV9 dc9 pm9 an9 cd9 ct9, a__law_kind := f10, d__law_kind := PySem.W.fnOf "_law_kind" "_law_kind" (defArgs s__law_kind) (defBody s__law_kind) (defScope s__law_kind) .none kV10 dc10 pm10 an10 cd10 ct10, a__law_no_counts := f11, d__law_no_counts := PySem.W.fnOf "_law_no_counts" "_law_no_counts" (defArgs s__law_no_counts) (defBody s__law_no_counts) (defScope s__law_no_counts) .none kV11 dc11 pm11 an11 cd11 ct11, a__law_told := f12, d__law_told := PySem.W.fnOf "_law_told" "_law_told" (defArgs s__law_told) (defBody s__law_told) (defScope s__law_told) .none kV12 dc12 pm12 an12 cd12 ct12, a__law_needed := f13, d__law_needed := PySem.W.fnOf "_law_needed" "_law_needed" (defArgs s__law_needed) (defBody s__law_needed) (defScope s__law_needed) .none kV13 dc13 pm13 an13 cd13 ct13, a_law := fa, d_law := PySem.W.fnOf "law" "law" (defArgs s_law) (defBody s_law) (defScope s_law) .none kV14 dc14 pm14 an14 cd14 ct14, c_TieError := C0, c_BadCounts := C1, c_BadMany := C2, c_BadWeb := C3, c_BadExchange := C4, c_Unlike := C5, c_NoWeb := C6, t_MOST_POINTS := t0, t_MOST_TIES := t1 }
  have T : Top K mg a := { g_is_whole := PySem.W.mg_of X G a0, F_is_whole := fun_mk (st := s_is_whole) l0 c0 k0, b_is_whole := (fun_mk (st := s_is_whole) l0 c0 k0).binds (ps := ["thing", "least", "most"]) fun _ _ _ _ _ _ us hl => match us, hl with | [_, _, _], _ => rfl, g_need_counts := PySem.W.mg_of X G a1, F_need_counts := fun_mk (st := s_need_counts) l1 c1 k1, b_need_counts := (fun_mk (st := s_need_counts) l1 c1 k1).binds (ps := ["thing"]) fun _ _ _ _ _ _ us hl => match us, hl with | [_], _ => rfl, g_wanted := PySem.W.mg_of X G a2, F_wanted := fun_mk (st := s_wanted) l2 c2 k2, b_wanted := (fun_mk (st := s_wanted) l2 c2 k2).binds (ps := ["counts", "many"]) fun _ _ _ _ _ _ us hl => match us, hl with | [_, _], _ => rfl, g__law_cell := PySem.W.mg_of X G a3, F__law_cell := fun_mk (st := s__law_cell) l3 c3 k3, b__law_cell := (fun_mk (st := s__law_cell) l3 c3 k3).binds (ps := ["_law_script", "_law_k"]) fun _ _ _ _ _ _ us hl => match us, hl with | [_, _], _ => rfl, g__law_mixed := PySem.W.mg_of X G a4, F__law_mixed := fun_mk (st := s__law_mixed) l4 c4 k4, b__law_mixed := (fun_mk (st := s__law_mixed) l4 c4 k4).binds (ps := ["_law_cell_here", "_law_k"]) fun _ _ _ _ _ _ us hl => match us, hl with | [_, _], _ => rfl, g__law_whole := PySem.W.mg_of X G a5, F__law_whole := fun_mk (st := s__law_whole) l5 c5 k5, b__law_whole := (fun_mk (st := s__law_whole) l5 c5 k5).binds (ps := ["_law_found"]) fun _ _ _ _ _ _ us hl => match us, hl with | [_], _ => rfl, g__law_web := PySem.W.mg_of X G a6, F__law_web := fun_mk (st := s__law_web) l6 c6 k6, b__law_web := (fun_mk (st := s__law_web) l6 c6 k6).binds (ps := ["_law_script", "_law_first", "_law_most"]) fun _ _ _ _ _ _ us hl => match us, hl with | [_, _, _], _ => rfl, g__law_counts := PySem.W.mg_of X G a7, F__law_counts := fun_mk (st := s__law_counts) l7 c7 k7, b__law_counts := (fun_mk (st := s__law_counts) l7 c7 k7).binds (ps := ["_law_size", "_law_ties"]) fun _ _ _ _ _ _ us hl => match us, hl with | [_, _], _ => rfl, g__law_drawn := PySem.W.mg_of X G a8, F__law_drawn := fun_mk (st := s__law_drawn) l8 c8 k8, b__law_drawn := (fun_mk (st := s__law_drawn) l8 c8 k8).binds (ps := ["_law_script", "_law_first", "_law_most"]) fun _ _ _ _ _ _ us hl => match us, hl with | [_, _, _], _ => rfl, g__law_wanted := PySem.W.mg_of X G a9, F__law_wanted := fun_mk (st := s__law_wanted) l9 c9 k9, b__law_wanted := (fun_mk (st := s__law_wanted) l9 c9 k9).binds (ps := ["_law_counts_here", "_law_many"]) fun _ _ _ _ _ _ us hl => match us, hl with | [_, _], _ => rfl, g__law_kind := PySem.W.mg_of X G a10, F__law_kind := fun_mk (st := s__law_kind) l10 c10 k10, b__law_kind := (fun_mk (st := s__law_kind) l10 c10 k10).binds (ps := ["_law_error"]) fun _ _ _ _ _ _ us hl => match us, hl with | [_], _ => rfl, g__law_no_counts := PySem.W.mg_of X G a11, F__law_no_counts := fun_mk (st := s__law_no_counts) l11 c11 k11, b__law_no_counts := (fun_mk (st := s__law_no_counts) l11 c11 k11).binds (ps := ["_law_counts_here", "_law_cell_here"]) fun _ _ _ _ _ _ us hl => match us, hl with | [_, _], _ => rfl, g__law_told := PySem.W.mg_of X G a12, F__law_told := fun_mk (st := s__law_told) l12 c12 k12, b__law_told := (fun_mk (st := s__law_told) l12 c12 k12).binds (ps := ["_law_counts_here", "_law_many"]) fun _ _ _ _ _ _ us hl => match us, hl with | [_, _], _ => rfl, g__law_needed := PySem.W.mg_of X G a13, F__law_needed := fun_mk (st := s__law_needed) l13 c13 k13, b__law_needed := (fun_mk (st := s__law_needed) l13 c13 k13).binds (ps := ["_law_thing"]) fun _ _ _ _ _ _ us hl => match us, hl with | [_], _ => rfl, g_law := PySem.W.mg_of X G a14, F_law := fun_mk (st := s_law) l14 c14 k14, b_law := (fun_mk (st := s_law) l14 c14 k14).binds (ps := ["_law_script"]) fun _ _ _ _ _ _ us hl => match us, hl with | [_], _ => rfl, g_TieError := PySem.W.mg_of X G ca0, x_TieError := cx0, k_TieError := ck0, eb_TieError := cb0, et_TieError := ct_0, g_BadCounts := PySem.W.mg_of X G ca1, x_BadCounts := cx1, k_BadCounts := ck1, eb_BadCounts := cb1, et_BadCounts := ct_1, g_BadMany := PySem.W.mg_of X G ca2, x_BadMany := cx2, k_BadMany := ck2, eb_BadMany := cb2, et_BadMany := ct_2, g_BadWeb := PySem.W.mg_of X G ca3, x_BadWeb := cx3, k_BadWeb := ck3, eb_BadWeb := cb3, et_BadWeb := ct_3, g_BadExchange := PySem.W.mg_of X G ca4, x_BadExchange := cx4, k_BadExchange := ck4, eb_BadExchange := cb4, et_BadExchange := ct_4, g_Unlike := PySem.W.mg_of X G ca5, x_Unlike := cx5, k_Unlike := ck5, eb_Unlike := cb5, et_Unlike := ct_5, g_NoWeb := PySem.W.mg_of X G ca6, x_NoWeb := cx6, k_NoWeb := ck6, eb_NoWeb := cb6, et_NoWeb := ct_6, g_MOST_POINTS := PySem.W.mg_of X G m0, g_MOST_TIES := PySem.W.mg_of X G m1, n_ValueError := PySem.W.mg_none_of X G z0, n_all := PySem.W.mg_none_of X G z1, n_bool := PySem.W.mg_none_of X G z2, n_int := PySem.W.mg_none_of X G z3, n_isinstance := PySem.W.mg_none_of X G z4, n_len := PySem.W.mg_none_of X G z5, n_list := PySem.W.mg_none_of X G z6, n_max := PySem.W.mg_none_of X G z7, n_min := PySem.W.mg_none_of X G z8, n_range := PySem.W.mg_none_of X G z9, n_sorted := PySem.W.mg_none_of X G z10, n_sum := PySem.W.mg_none_of X G z11, n_tuple := PySem.W.mg_none_of X G z12, n_type := PySem.W.mg_none_of X G z13 }
  have C : Cls K a := { kc0 := ⟨⟨eg0, ek0, cb1, ed0, ea0, en, et, em0⟩, kk0_0, kk0_1, kk0_2, kk0_3, kk0_4, kk0_5, kv0, by decide⟩, ex0 := PySem.W.exm_ref cb0 tb ct_0 es0, kc1 := ⟨⟨eg1, ek1, cb2, ed1, ea1, en, et, em1⟩, kk1_0, kk1_1, kk1_2, kk1_3, kk1_4, kk1_5, kv1, by decide⟩, ex1 := PySem.W.exm_ref cb0 tb ct_0 es1 }
  exact ⟨a.d_law, fun s v => .of_eq rfl, fun base _ _ => ok_law T C⟩
end K1
end
set_option Elab.async false
set_option linter.all false
set_option maxRecDepth 100000
set_option maxHeartbeats 0
open PySem PySem.W PyProof.Rows
theorem PySem.Challenge.cw_tiecount_k01_what_counts_want_holds : PySem.Challenge.rw_tiecount_k01_what_counts_want.Holds := by
  w_on; o_law; k_head; (case hw => w_witness2)
  k_fill
  refine L2.walk_ofB (l := PySem.Challenge.rw_tiecount_k01_what_counts_want) (n := 63) (k := 5) (x := "_law_script") (CX := fun _ => L2.CX0) (sp := fun w => K1.sp_law _) rfl (by decide) rfl ⟨rfl, by decide, by decide⟩ (fun w h Y => PySem.W.kIn_of Y) ?F (fun _ _ a ns hl hb _ hS => ⟨a, ns, rfl, hS, fun z hz => Z.bd_of (hb z hz), fun _ _ => rfl⟩) (fun _ _ _ _ _ h => h)
  case F =>
    intro w mg fa h KX G hmg
    refine' K1.all_mk KX G hmg ?a0 ?l0 ?c0 ?k0 ?a1 ?l1 ?c1 ?k1 ?a2 ?l2 ?c2 ?k2 ?a3 ?l3 ?c3 ?k3 ?a4 ?l4 ?c4 ?k4 ?a5 ?l5 ?c5 ?k5 ?a6 ?l6 ?c6 ?k6 ?a7 ?l7 ?c7 ?k7 ?a8 ?l8 ?c8 ?k8 ?a9 ?l9 ?c9 ?k9 ?a10 ?l10 ?c10 ?k10 ?a11 ?l11 ?c11 ?k11 ?a12 ?l12 ?c12 ?k12 ?a13 ?l13 ?c13 ?k13 ?a14 ?l14 ?c14 ?k14 ?ca0 ?cx0 ?ck0 ?cb0 ?ct_0 ?ca1 ?cx1 ?ck1 ?cb1 ?ct_1 ?ca2 ?cx2 ?ck2 ?cb2 ?ct_2 ?ca3 ?cx3 ?ck3 ?cb3 ?ct_3 ?ca4 ?cx4 ?ck4 ?cb4 ?ct_4 ?ca5 ?cx5 ?ck5 ?cb5 ?ct_5 ?ca6 ?cx6 ?ck6 ?cb6 ?ct_6 ?m0 ?m1 ?z0 ?z1 ?z2 ?z3 ?z4 ?z5 ?z6 ?z7 ?z8 ?z9 ?z10 ?z11 ?z12 ?z13 ?tb ?en ?et ?eg0 ?ek0 ?ed0 ?ea0 ?em0 ?es0 ?kk0_0 ?kk0_1 ?kk0_2 ?kk0_3 ?kk0_4 ?kk0_5 ?kv0 ?eg1 ?ek1 ?ed1 ?ea1 ?em1 ?es1 ?kk1_0 ?kk1_1 ?kk1_2 ?kk1_3 ?kk1_4 ?kk1_5 ?kv1
    (case a0 => first | k_is | k_exc | kernel_rfl)
    (case l0 => first | k_is | k_exc | kernel_rfl)
    (case c0 => first | k_is | k_exc | kernel_rfl)
    (case k0 => first | k_is | k_exc | kernel_rfl)
    (case a1 => first | k_is | k_exc | kernel_rfl)
    (case l1 => first | k_is | k_exc | kernel_rfl)
    (case c1 => first | k_is | k_exc | kernel_rfl)
    (case k1 => first | k_is | k_exc | kernel_rfl)
    (case a2 => first | k_is | k_exc | kernel_rfl)
    (case l2 => first | k_is | k_exc | kernel_rfl)
    (case c2 => first | k_is | k_exc | kernel_rfl)
    (case k2 => first | k_is | k_exc | kernel_rfl)
    (case a3 => first | k_is | k_exc | kernel_rfl)
    (case l3 => first | k_is | k_exc | kernel_rfl)
    (case c3 => first | k_is | k_exc | kernel_rfl)
    (case k3 => first | k_is | k_exc | kernel_rfl)
    (case a4 => first | k_is | k_exc | kernel_rfl)
    (case l4 => first | k_is | k_exc | kernel_rfl)
    (case c4 => first | k_is | k_exc | kernel_rfl)
    (case k4 => first | k_is | k_exc | kernel_rfl)
    (case a5 => first | k_is | k_exc | kernel_rfl)
    (case l5 => first | k_is | k_exc | kernel_rfl)
    (case c5 => first | k_is | k_exc | kernel_rfl)
    (case k5 => first | k_is | k_exc | kernel_rfl)
    (case a6 => first | k_is | k_exc | kernel_rfl)
    (case l6 => first | k_is | k_exc | kernel_rfl)
    (case c6 => first | k_is | k_exc | kernel_rfl)
    (case k6 => first | k_is | k_exc | kernel_rfl)
    (case a7 => first | k_is | k_exc | kernel_rfl)
    (case l7 => first | k_is | k_exc | kernel_rfl)
    (case c7 => first | k_is | k_exc | kernel_rfl)
    (case k7 => first | k_is | k_exc | kernel_rfl)
    (case a8 => first | k_is | k_exc | kernel_rfl)
    (case l8 => first | k_is | k_exc | kernel_rfl)
    (case c8 => first | k_is | k_exc | kernel_rfl)
    (case k8 => first | k_is | k_exc | kernel_rfl)
    (case a9 => first | k_is | k_exc | kernel_rfl)
    (case l9 => first | k_is | k_exc | kernel_rfl)
    (case c9 => first | k_is | k_exc | kernel_rfl)
    (case k9 => first | k_is | k_exc | kernel_rfl)
    (case a10 => first | k_is | k_exc | kernel_rfl)
    (case l10 => first | k_is | k_exc | kernel_rfl)
    (case c10 => first | k_is | k_exc | kernel_rfl)
    (case k10 => first | k_is | k_exc | kernel_rfl)
    (case a11 => first | k_is | k_exc | kernel_rfl)
    (case l11 => first | k_is | k_exc | kernel_rfl)
    (case c11 => first | k_is | k_exc | kernel_rfl)
    (case k11 => first | k_is | k_exc | kernel_rfl)
    (case a12 => first | k_is | k_exc | kernel_rfl)
    (case l12 => first | k_is | k_exc | kernel_rfl)
    (case c12 => first | k_is | k_exc | kernel_rfl)
    (case k12 => first | k_is | k_exc | kernel_rfl)
    (case a13 => first | k_is | k_exc | kernel_rfl)
    (case l13 => first | k_is | k_exc | kernel_rfl)
    (case c13 => first | k_is | k_exc | kernel_rfl)
    (case k13 => first | k_is | k_exc | kernel_rfl)
    (case a14 => first | k_is | k_exc | kernel_rfl)
    (case l14 => first | k_is | k_exc | kernel_rfl)
    (case c14 => first | k_is | k_exc | kernel_rfl)
    (case k14 => first | k_is | k_exc | kernel_rfl)
    (case ca0 => first | k_is | k_exc | kernel_rfl)
    (case cx0 => first | k_is | k_exc | kernel_rfl)
    (case ck0 => first | k_is | k_exc | kernel_rfl)
    (case cb0 => first | k_is | k_exc | kernel_rfl)
    (case ct_0 => first | k_is | k_exc | kernel_rfl)
    (case ca1 => first | k_is | k_exc | kernel_rfl)
    (case cx1 => first | k_is | k_exc | kernel_rfl)
    (case ck1 => first | k_is | k_exc | kernel_rfl)
    (case cb1 => first | k_is | k_exc | kernel_rfl)
    (case ct_1 => first | k_is | k_exc | kernel_rfl)
    (case ca2 => first | k_is | k_exc | kernel_rfl)
    (case cx2 => first | k_is | k_exc | kernel_rfl)
    (case ck2 => first | k_is | k_exc | kernel_rfl)
    (case cb2 => first | k_is | k_exc | kernel_rfl)
    (case ct_2 => first | k_is | k_exc | kernel_rfl)
    (case ca3 => first | k_is | k_exc | kernel_rfl)
    (case cx3 => first | k_is | k_exc | kernel_rfl)
    (case ck3 => first | k_is | k_exc | kernel_rfl)
    (case cb3 => first | k_is | k_exc | kernel_rfl)
    (case ct_3 => first | k_is | k_exc | kernel_rfl)
    (case ca4 => first | k_is | k_exc | kernel_rfl)
    (case cx4 => first | k_is | k_exc | kernel_rfl)
    (case ck4 => first | k_is | k_exc | kernel_rfl)
    (case cb4 => first | k_is | k_exc | kernel_rfl)
    (case ct_4 => first | k_is | k_exc | kernel_rfl)
    (case ca5 => first | k_is | k_exc | kernel_rfl)
    (case cx5 => first | k_is | k_exc | kernel_rfl)
    (case ck5 => first | k_is | k_exc | kernel_rfl)
    (case cb5 => first | k_is | k_exc | kernel_rfl)
    (case ct_5 => first | k_is | k_exc | kernel_rfl)
    (case ca6 => first | k_is | k_exc | kernel_rfl)
    (case cx6 => first | k_is | k_exc | kernel_rfl)
    (case ck6 => first | k_is | k_exc | kernel_rfl)
    (case cb6 => first | k_is | k_exc | kernel_rfl)
    (case ct_6 => first | k_is | k_exc | kernel_rfl)
    (case m0 => first | k_is | k_exc | kernel_rfl)
    (case m1 => first | k_is | k_exc | kernel_rfl)
    (case z0 => first | k_is | k_exc | kernel_rfl)
    (case z1 => first | k_is | k_exc | kernel_rfl)
    (case z2 => first | k_is | k_exc | kernel_rfl)
    (case z3 => first | k_is | k_exc | kernel_rfl)
    (case z4 => first | k_is | k_exc | kernel_rfl)
    (case z5 => first | k_is | k_exc | kernel_rfl)
    (case z6 => first | k_is | k_exc | kernel_rfl)
    (case z7 => first | k_is | k_exc | kernel_rfl)
    (case z8 => first | k_is | k_exc | kernel_rfl)
    (case z9 => first | k_is | k_exc | kernel_rfl)
    (case z10 => first | k_is | k_exc | kernel_rfl)
    (case z11 => first | k_is | k_exc | kernel_rfl)
    (case z12 => first | k_is | k_exc | kernel_rfl)
    (case z13 => first | k_is | k_exc | kernel_rfl)
    (case tb => first | k_is | k_exc | kernel_rfl)
    (case en => first | k_is | k_exc | kernel_rfl)
    (case et => first | k_is | k_exc | kernel_rfl)
    (case eg0 => first | k_is | k_exc | kernel_rfl)
    (case ek0 => first | k_is | k_exc | kernel_rfl)
    (case ed0 => first | k_is | k_exc | kernel_rfl)
    (case ea0 => first | k_is | k_exc | kernel_rfl)
    (case em0 => first | k_is | k_exc | kernel_rfl)
    (case es0 => first | k_is | k_exc | kernel_rfl)
    (case kk0_0 => first | k_is | k_exc | kernel_rfl)
    (case kk0_1 => first | k_is | k_exc | kernel_rfl)
    (case kk0_2 => first | k_is | k_exc | kernel_rfl)
    (case kk0_3 => first | k_is | k_exc | kernel_rfl)
    (case kk0_4 => first | k_is | k_exc | kernel_rfl)
    (case kk0_5 => first | k_is | k_exc | kernel_rfl)
    (case kv0 => first | k_is | k_exc | kernel_rfl)
    (case eg1 => first | k_is | k_exc | kernel_rfl)
    (case ek1 => first | k_is | k_exc | kernel_rfl)
    (case ed1 => first | k_is | k_exc | kernel_rfl)
    (case ea1 => first | k_is | k_exc | kernel_rfl)
    (case em1 => first | k_is | k_exc | kernel_rfl)
    (case es1 => first | k_is | k_exc | kernel_rfl)
    (case kk1_0 => first | k_is | k_exc | kernel_rfl)
    (case kk1_1 => first | k_is | k_exc | kernel_rfl)
    (case kk1_2 => first | k_is | k_exc | kernel_rfl)
    (case kk1_3 => first | k_is | k_exc | kernel_rfl)
    (case kk1_4 => first | k_is | k_exc | kernel_rfl)
    (case kk1_5 => first | k_is | k_exc | kernel_rfl)
    (case kv1 => first | k_is | k_exc | kernel_rfl)
