import PyProof.Rows.All
import Wide.All
import OpenK.AllK
import Wide.FinOn
import PyProof.TypeEq
import HandS.ForMost
import HandS.Exc
import HandS.TryOnly
import HandS.ExcOwn
import HandS.WordsExc
import HandS.Evl
import HandS.More
import HandS.IsInst
import HandS.ExcIs
import HandS.SortKw
import HandS.SetFor
import HandS.HotCalls
import HandS.EndBits
import HandS.Deep
import HandS.Sort
import HandS.SortRule
import HandS.SortInts
import HandS.Conv
import HandS.TupSets
import HandS.Hot
import PyProof.Rows.TupIter
import PySem.Challenge.RW_tiecount_k02_webs_and_pieces
set_option Elab.async false
set_option linter.all false
set_option maxRecDepth 100000
set_option maxHeartbeats 4000000
/-! LAY: our own layer over the hand layer: types compared, great products, what a reading hands on (Ev and kin) told by one tactic. -/
namespace Z
open PySem PySem.Spec PyProof.Rows L2 Evl

/-! ### values' own rules -/
def metaT : List String := ["int", "str", "bool", "NoneType", "list", "tuple", "dict"]
theorem meta_of {T : String} (h : T ∈ metaT) : ∀ s : Shared, s.TypeIs (.type T) "type" := by
  intro s
  simp only [metaT, List.mem_cons, List.not_mem_nil, or_false] at h
  rcases h with rfl | rfl | rfl | rfl | rfl | rfl | rfl
  · exact TypeEq.meta_int s
  · exact TypeEq.meta_str s
  · exact TypeEq.meta_bool s
  · exact TypeEq.meta_NoneType s
  · exact TypeEq.meta_list s
  · exact TypeEq.meta_tuple s
  · exact TypeEq.meta_dict s
def rEqTy : R2 := fun x y H Q => ∃ s t, x = .ty s ∧ y = .ty t ∧ s ∈ metaT ∧ t ∈ metaT ∧ Q (.bl (decide (s = t))) H
section
variable {X : Cx}
theorem op_eqTy : OpR X (compareOp .Is) rEqTy := by
  intro pins s σ H x y v u Q I rx ry h
  obtain ⟨a, b, ea, eb, _, _, q⟩ := h
  exact L2.op_isTyB pins s σ H x y v u Q I rx ry ⟨a, b, ea, eb, q⟩
end
/-! types, != -/
section
variable {prog : Program} {w : World} {A : Around} {E : Value → Shared → Prop} {s : Shared}
theorem slot_ty_ne : Slot "type" (cmpInfo .NotEq).2.1 "object.__ne__" :=
  .of (owner := "object") (n := "__ne__") (by rw [typeLookup_type, builtinLookup_eq_fast]; kernel_rfl) (by decide +kernel) (by decide +kernel) (by decide +kernel) (by first | exact .inl (by decide +kernel) | exact .inr (by decide +kernel)) (by rw [isSubtype_type]; kernel_rfl)
theorem slot_ty_ne_r : Slot "type" (cmpInfo .NotEq).2.2 "object.__ne__" :=
  .of (owner := "object") (n := "__ne__") (by rw [typeLookup_type, builtinLookup_eq_fast]; kernel_rfl) (by decide +kernel) (by decide +kernel) (by decide +kernel) (by first | exact .inl (by decide +kernel) | exact .inr (by decide +kernel)) (by rw [isSubtype_type]; kernel_rfl)
theorem slot_ty_eq2 : Slot "type" "__eq__" "object.__eq__" :=
  .of (owner := "object") (n := "__eq__") (by rw [typeLookup_type, builtinLookup_eq_fast]; kernel_rfl) (by decide +kernel) (by decide +kernel) (by decide +kernel) (by first | exact .inl (by decide +kernel) | exact .inr (by decide +kernel)) (by rw [isSubtype_type]; kernel_rfl)
/-- object.__ne__ of two classes, by object.__eq__ -/
theorem one_ne {a b : String} {r : Value} {Q : Value → Shared → Prop} (ha : ∀ t : Shared, t.TypeIs (.type a) "type") (hr : Gives (Builtin.«object.__eq__» ⟨[.type a, .type b], []⟩) (.val r))
    (k : (r = .notImplemented ∧ Q .notImplemented s) ∨ ∃ v, r = .bool v ∧ Q (.bool (!v)) s) : wpAny (model prog w) A (call (.builtin "object.__ne__") [.type a, .type b]) Q E s := by
  refine wpAny_call_entry (T := "type") slot_ty_ne (ha s) F.cmpEntry_ne ?_ (F.cmpArgs_ne _ _)
  unfold Builtin.«object.__ne__»
  refine wpAny_bind (wpAny_of_eq (a := ((Value.type a : Value), [Value.type b])) (by first | rfl | (simp only [slotArgs]; rfl)) ?_)
  refine wpAny_bind (wpAny_cRoomFor_byValue rfl ?_)
  refine wpAny_bind (wpAny_callSpecialIfBound?_slot (ha s) slot_ty_eq2 (call_gives slot_ty_eq2 (ha s) F.cmpEntry_eq (F.cmpArgs_eq _ _) hr ?_))
  rcases k with ⟨rfl, q⟩ | ⟨v, rfl, q⟩
  · exact wpAny_pure ⟨_, rfl, q⟩
  · refine wpAny_bind (wpAny_truthy_bool ?_)
    exact wpAny_pure ⟨_, rfl, q⟩
theorem ne_types {a b : String} {Q : Value → Shared → Prop} (ha : ∀ t : Shared, t.TypeIs (.type a) "type") (hb : ∀ t : Shared, t.TypeIs (.type b) "type") (q : Q (.bool (!decide (a = b))) s) :
    wpAny (model prog w) A (compareOp .NotEq (.type a) (.type b)) Q E s := by
  show wpAny _ A (richCompare .NotEq _ _) Q E s
  by_cases e : a = b
  · subst e
    rw [decide_eq_true (p := a = a) rfl] at q
    exact wpAny_richCompare_same (T := "type") (ha s) (ha s) slot_ty_ne (one_ne ha (TypeEq.object_eq_same rfl (by simp)) (.inr ⟨true, rfl, (by intro z; cases z), q⟩))
  · rw [decide_eq_false e] at q
    have h1 : (Value.type a == Value.type b) = false := (ty_beq a b).trans (decide_eq_false e)
    have h2 : (Value.type b == Value.type a) = false := (ty_beq b a).trans (decide_eq_false fun z => e z.symm)
    rcases hi : cmpInfo CmpOp.NotEq with ⟨sym, f, r⟩
    have s1 := slot_ty_ne
    have s2 := slot_ty_ne_r
    rw [hi] at s1 s2
    simp only [richCompare, hi, (ha s).oneThing_none]
    try with_reducible refine wpAny_holding ?_
    refine wpAny_bind (wpAny_cRoomFor_byValue rfl ?_)
    refine wpAny_bind (wpAny_typeOf (ha s) (wpAny_bind (wpAny_typeOf (hb s) ?_)))
    simp only [bne_self_eq_false, Bool.false_eq_true, if_false, pure_bind, Bool.not_false, if_true]
    refine wpAny_bind (m := tryCompare (.type a) _ (.type b)) (wpAny_tryCompare_declines (ha s) s1 (one_ne ha (TypeEq.object_eq_other rfl h1) (.inl ⟨rfl, rfl, ?_⟩)))
    refine wpAny_bind (m := tryCompare (.type b) _ (.type a)) (wpAny_tryCompare_declines (hb s) s2 (one_ne hb (TypeEq.object_eq_other rfl h2) (.inl ⟨rfl, rfl, ?_⟩)))
    refine wpAny_bind (wpAny_rule (wpAny_bind (wpAny_of_eq (a := false) (by rw [isSame_plain rfl, h1]) (wpAny_pure q))))
end
def rNeTy : R2 := fun x y H Q => ∃ s t, x = .ty s ∧ y = .ty t ∧ s ∈ metaT ∧ t ∈ metaT ∧ Q (.bl (!decide (s = t))) H
theorem op_neTy {X : Cx} : OpR X (compareOp .IsNot) rNeTy := by
  intro pins s σ H x y v u Q I rx ry h
  obtain ⟨a, b, ea, eb, _, _, q⟩ := h
  exact L2.op_notTyB pins s σ H x y v u Q I rx ry ⟨a, b, ea, eb, q⟩

/-! ### great numbers: Bd n z says that z has at most n bits -/
def Bd (n : Nat) (z : Int) : Prop := z.natAbs < 2 ^ n
theorem Bd.mono {n m : Nat} {z : Int} (h : Bd n z) (l : n ≤ m) : Bd m z := Nat.lt_of_lt_of_le h (Nat.pow_le_pow_right (by decide) l)
theorem Bd.add {n : Nat} {x y : Int} (h : Bd n x) (k : Bd n y) : Bd (n + 1) (x + y) := by
  have a : x.natAbs < 2 ^ n := h
  have b : y.natAbs < 2 ^ n := k
  show (x + y).natAbs < 2 ^ (n + 1)
  rw [Nat.pow_succ]
  omega
theorem Bd.mul {n m : Nat} {x y : Int} (h : Bd n x) (k : Bd m y) : Bd (n + m) (x * y) := by
  have a : x.natAbs < 2 ^ n := h
  have b : y.natAbs < 2 ^ m := k
  show (x * y).natAbs < 2 ^ (n + m)
  rw [Int.natAbs_mul, Nat.pow_add]
  exact Nat.mul_lt_mul'' a b
theorem Bd.of {n : Nat} {z : Int} (h : z.natAbs < 2 ^ n) : Bd n z := h
theorem Bd.div {n : Nat} {x d : Int} (h : Bd n x) (hd : 0 < d) : Bd n (x / d) := by
  have a : x.natAbs < 2 ^ n := h
  refine Nat.lt_of_le_of_lt ?_ a
  by_cases hx : 0 ≤ x
  · have h1 : 0 ≤ x / d := Int.ediv_nonneg hx (Int.le_of_lt hd)
    have h2 : x / d ≤ x := Int.ediv_le_self d hx
    omega
  · have h1 : x / d < 0 := Int.ediv_neg_of_neg_of_pos (by omega) hd
    have h2 : x ≤ x / d := by
      refine (Int.le_ediv_iff_mul_le hd).mpr ?_
      have h3 : x * d ≤ x * 1 := Int.mul_le_mul_of_nonpos_left (by omega) (by omega)
      omega
    omega
theorem bits_of {n : Nat} {z : Int} (h : Bd n z) : Builtin.Int.intBits z ≤ n := by
  have h' : z.natAbs < 2 ^ n := h
  unfold Builtin.Int.intBits
  by_cases hz : z.natAbs = 0
  · have z0 : z = 0 := by omega
    subst z0
    simp
  · have : z.natAbs.log2 < n := (Nat.log2_lt hz).mpr h'
    split <;> omega
theorem bd_of {n : Nat} {z : Int} (h : Builtin.Int.intBits z ≤ n) : Bd n z := by
  show z.natAbs < 2 ^ n
  by_cases hz : z.natAbs = 0
  · rw [hz]
    exact Nat.two_pow_pos n
  · refine (Nat.log2_lt hz).mp ?_
    unfold Builtin.Int.intBits at h
    split at h
    · rename_i q
      have : z.natAbs = 0 := by simp_all
      exact absurd this hz
    · omega
/-- * of factors of together at most a hundred million bits -/
def CMulB (i j : Int) : Prop := ∃ n m, Bd n i ∧ Bd m j ∧ n + m ≤ 100000000
theorem op_mulB {X : Cx} : OpR X (binaryOp .Mult) (rI CMulB fun i j => .int (i * j)) := opI fun i j _ _ _ _ _ hc q => by
  obtain ⟨n, m, h1, h2, h3⟩ := hc
  refine mul_int q ?_
  have b1 := bits_of h1
  have b2 := bits_of h2
  have e : bitsLine = 134217728 := by decide
  unfold IntMulOk
  intro z
  rw [Bool.and_eq_true] at z
  have z2 := z.2
  unfold Builtin.Int.intTooBig at z2
  have z3 := of_decide_eq_true z2
  rw [e] at z3
  omega

/-! ### what a reading hands on: P is told of the heap ahead, the value, the heap behind -/
def EvG (te : TE) (σ : L2.St) (H : Hp) (P : Hp → V → Hp → Prop) : Prop := ∀ H1, Ex H H1 → ∀ Q : VK, (∀ v H2, Ex H1 H2 → P H1 v H2 → Q v H2) → te σ H1 Q
def SpG (sp : Sp) (vs : List V) (H : Hp) (P : Hp → V → Hp → Prop) : Prop := ∀ H1, Ex H H1 → ∀ Q : VK, (∀ v H2, Ex H1 H2 → P H1 v H2 → Q v H2) → ∀ E : XK, sp vs H1 Q E
section
variable {K : PySem.W.Frag} {σ : L2.St} {H H' : Hp} {ta tb te tx : TE} {t u : TT} {x y z v : V} {r : R2} {P P' : Hp → V → Hp → Prop} {D : Ends} {tz : TS}
theorem EvG.mono (e : Ex H H') (h : EvG te σ H P) : EvG te σ H' P := fun H1 a Q q => h H1 (e.trans a) Q q
theorem EvG.post (h : EvG te σ H P) (w : ∀ H1 v H2, Ex H H1 → Ex H1 H2 → P H1 v H2 → P' H1 v H2) : EvG te σ H P' := fun H1 a Q q => h H1 a Q fun v H2 e p => q v H2 e (w H1 v H2 a e p)
theorem eg_ev (h : Ev te σ H v) : EvG te σ H fun _ x _ => x = v := fun H1 e Q q => h H1 e Q fun H2 e2 => q v H2 e2 rfl
theorem eg_L {xs : List V} (h : EvL te σ H xs) : EvG te σ H fun H1 x H2 => ∃ p, x = .ref p ∧ H1 p = none ∧ H2 p = some (.lst xs) := fun H1 e Q q => h H1 e Q fun p H2 hp e2 h2 => q _ H2 e2 ⟨p, rfl, hp, h2⟩
theorem eg_U {xs : List V} (h : EvU te σ H xs) : EvG te σ H fun H1 x H2 => ∃ p, x = .ref p ∧ H1 p = none ∧ H2 p = some (.tup xs) := fun H1 e Q q => h H1 e Q fun p H2 hp e2 h2 => q _ H2 e2 ⟨p, rfl, hp, h2⟩
theorem eg_call {sp : Sp} {dvs vs : List V} {E : XK} {ta : TA} (h : EvA ta σ H vs) (hs : SpG sp (vs ++ dvs) H P) (k : ∀ H0 H1 v H2, Ex H0 H1 → P H1 v H2 → P H0 v H2) : EvG (tCall sp dvs E ta) σ H P := fun H1 e Q q =>
  h H1 e _ fun H2 e2 => hs H2 (e.trans e2) Q (fun v H3 e3 p => q v H3 (e2.trans e3) (k H1 H2 v H3 e2 p)) E
theorem q_asgG {i : Nat} (h : EvG te σ H P) (k : ∀ v H1, Ex H H1 → P H v H1 → tz D (σ.set i (some v)) H1) : tSeq (tAsg te (gName i)) tz D σ H := h H (Ex.refl H) _ fun v H1 e p => k v H1 e p
theorem s_retG (h : EvG te σ H P) (k : ∀ v H1, Ex H H1 → P H v H1 → D.rt v H1) : tRet te D σ H := h H (Ex.refl H) _ k
theorem s_asgG {i : Nat} (h : EvG te σ H P) (k : ∀ v H1, Ex H H1 → P H v H1 → D.nx (σ.set i (some v)) H1) : tAsg te (gName i) D σ H := h H (Ex.refl H) _ fun v H1 e p => k v H1 e p
/-- operations -/
theorem rv_eqTy {a b : String} (ha : a ∈ metaT) (hb : b ∈ metaT) : RV rEqTy (.ty a) (.ty b) H (.bl (decide (a = b))) := fun H1 _ _ q => ⟨a, b, rfl, rfl, ha, hb, q H1 (Ex.refl H1)⟩
theorem rv_neTy {a b : String} (ha : a ∈ metaT) (hb : b ∈ metaT) : RV rNeTy (.ty a) (.ty b) H (.bl (!decide (a = b))) := fun H1 _ _ q => ⟨a, b, rfl, rfl, ha, hb, q H1 (Ex.refl H1)⟩
theorem rv_isN : RV (fun x y H Q => y = .non ∧ Q (.bl (decide (x = .non))) H) x .non H (.bl (decide (x = .non))) := fun H1 _ _ q => ⟨rfl, q H1 (Ex.refl H1)⟩
theorem rv_notN : RV (fun x y H Q => y = .non ∧ Q (.bl (!decide (x = .non))) H) x .non H (.bl (!decide (x = .non))) := fun H1 _ _ q => ⟨rfl, q H1 (Ex.refl H1)⟩
mutual
theorem Dp.ex (e : Ex H H') : ∀ {d : PyData} {v : V}, Dp K H v d → Dp K H' v d
  | .none, _, h => by cases h; exact .non
  | .bool b, _, h => by cases h; exact .bl b
  | .int i, _, h => by cases h; exact .int i
  | .str x, _, h => by cases h; exact .str x
  | .list ds, _, h => by
    cases h with
    | lst hs ha => exact .lst (ex_l e hs) (DpAll.ex e ha)
  | .tuple ds, _, h => by
    cases h with
    | tup hs ha => exact .tup (ex_t e hs) (DpAll.ex e ha)
  | .dict _, _, h => nomatch h
theorem DpAll.ex (e : Ex H H') : ∀ {ds : List PyData} {vs : List V}, DpAll K H vs ds → DpAll K H' vs ds
  | [], _, h => by cases h; exact .nil
  | d :: ds, _, h => by
    cases h with
    | cons h1 h2 => exact .cons (Dp.ex e h1) (DpAll.ex e h2)
end

theorem TyB.ex (e : Ex H H') {T : String} (h : TyB K H x T) : TyB K H' x T := by
  cases h with
  | non => exact .non
  | bl b => exact .bl b
  | int i => exact .int i
  | str s => exact .str s
  | byt b => exact .byt b
  | lst h => exact .lst (ex_l e h)
  | tup h => exact .tup (ex_t e h)
  | dK h => exact .dK (e _ _ h)
theorem rv_eqD {d e : PyData} (h1 : Dp K H x d) (h2 : Dp K H y e) (s1 : SeqAt.shaped d = true) (s2 : SeqAt.shaped e = true) : RV (rEqD K) x y H (.bl (PyData.eqv d e)) := fun H1 a _ q => ⟨d, e, Dp.ex a h1, Dp.ex a h2, s1, s2, q H1 (Ex.refl H1)⟩
theorem rv_neD {d e : PyData} (h1 : Dp K H x d) (h2 : Dp K H y e) (s1 : SeqAt.shaped d = true) (s2 : SeqAt.shaped e = true) : RV (rNeD K) x y H (.bl (!PyData.eqv d e)) := fun H1 a _ q => ⟨d, e, Dp.ex a h1, Dp.ex a h2, s1, s2, q H1 (Ex.refl H1)⟩
/-- calls by values -/
abbrev rLenQ (K : PySem.W.Frag) : List V → Hp → VK → Prop := fun xs H Q => ∃ p ys, xs = [.ref p] ∧ (SqL K H p ys ∨ SqT K H p ys) ∧ Q (.int ys.length) H
theorem rc_lenL {p : Addr} {xs : List V} (h : SqL K H p xs) : RC (fun xs H Q => ∃ p ys, xs = [.ref p] ∧ (SqL K H p ys ∨ SqT K H p ys) ∧ Q (.int ys.length) H) [.ref p] H (.int (xs.length : Int)) := fun H1 e _ q => ⟨p, xs, rfl, .inl (ex_l e h), q H1 (Ex.refl H1)⟩
theorem rc_lenT {p : Addr} {xs : List V} (h : SqT K H p xs) : RC (fun xs H Q => ∃ p ys, xs = [.ref p] ∧ (SqL K H p ys ∨ SqT K H p ys) ∧ Q (.int ys.length) H) [.ref p] H (.int (xs.length : Int)) := fun H1 e _ q => ⟨p, xs, rfl, .inr (ex_t e h), q H1 (Ex.refl H1)⟩
theorem rc_max2 {i j : Int} : RC (fun xs H Q => ∃ i j, xs = [.int i, .int j] ∧ Q (.int (if j > i then j else i)) H) [.int i, .int j] H (.int (if j > i then j else i)) := fun H1 _ _ q => ⟨i, j, rfl, q H1 (Ex.refl H1)⟩
theorem rc_min2 {i j : Int} : RC (fun xs H Q => ∃ i j, xs = [.int i, .int j] ∧ Q (.int (if j < i then j else i)) H) [.int i, .int j] H (.int (if j < i then j else i)) := fun H1 _ _ q => ⟨i, j, rfl, q H1 (Ex.refl H1)⟩
theorem rc_intI {i : Int} : RC (fun xs H Q => (∃ i, xs = [.int i] ∧ Q (.int i) H) ∨ ∃ k : Bool, xs = [.bl k] ∧ Q (.int (if k then 1 else 0)) H) [.int i] H (.int i) := fun H1 _ _ q => .inl ⟨i, rfl, q H1 (Ex.refl H1)⟩
theorem rc_intB {k : Bool} : RC (fun xs H Q => (∃ i, xs = [.int i] ∧ Q (.int i) H) ∨ ∃ k : Bool, xs = [.bl k] ∧ Q (.int (if k then 1 else 0)) H) [.bl k] H (.int (if k then 1 else 0)) := fun H1 _ _ q => .inr ⟨k, rfl, q H1 (Ex.refl H1)⟩
theorem rc_type {T : String} (h : TyB K H x T) : RC (rTyp K) [x] H (.ty T) := fun H1 e _ q => ⟨x, T, rfl, TyB.ex e h, q H1 (Ex.refl H1)⟩
theorem rc_sum {p : Addr} {ns : List Int} (h : SqL K H p (ns.map V.int)) : RC (rSum K) [.ref p] H (.int ns.sum) := fun H1 e _ q => ⟨p, ns, rfl, ex_l e h, q H1 (Ex.refl H1)⟩
theorem rc_all {p : Addr} {bs : List Bool} (h : SqL K H p (bs.map V.bl)) : RC (rAll K) [.ref p] H (.bl (bs.all id)) := fun H1 e _ q => ⟨p, bs, rfl, ex_l e h, q H1 (Ex.refl H1)⟩
theorem rcl_list {p : Addr} {xs : List V} (h : SqL K H p xs) : RCL (fun xs H Q => ∃ p ys, xs = [.ref p] ∧ (SqL K H p ys ∨ SqT K H p ys) ∧ ∀ l, H l = none → Q (.ref l) (upd H l (.lst ys))) [.ref p] H xs := fun H1 e _ q => ⟨p, xs, rfl, .inl (ex_l e h), fun l hl => q l _ hl (Ex.new hl) upd_same⟩
theorem TyOf.ex (e : Ex H H') {t : Value} (h : TyOf K H x t) : TyOf K H' x t := by
  cases h with
  | non => exact .non
  | bl b => exact .bl b
  | int i => exact .int i
  | str s => exact .str s
  | flt s => exact .flt s
  | lst h => exact .lst (e _ _ h)
  | frz h => exact .frz (e _ _ h)
  | tup h => exact .tup (e _ _ h)
  | dK h => exact .dK (e _ _ h)
  | dT h => exact .dT (e _ _ h)
  | ins h a b c d f => exact .ins (e _ _ h) a b c d f
theorem rc_isi {c : V} {tv cv : Value} {b : Bool} (kc : ClsV c cv) (ht : TyOf K H x tv) (hk : PySem.W.kitOne K tv cv = some b) : RC (rIsi K) [x, c] H (.bl b) := fun H1 e _ q => ⟨x, c, tv, cv, b, rfl, kc, .base (TyOf.ex e ht), hk, q H1 (Ex.refl H1)⟩
theorem ev_len' {p : Addr} {xs : List V} (ha : Ev ta σ H (.ref p)) (h : SqL K H p xs) : Ev (tCB (rLenQ K) (tCons ta tNil)) σ H (.int (xs.length : Int)) := ev_cb (ea_cons ha ea_nil) (rc_lenL h)

theorem ev_chain {r' : R2} {tc : TE} {b1 b2 : Bool} (ha : Ev ta σ H x) (hb : Ev tb σ H y) (h1 : RV r x y H (.bl b1)) (hc : b1 = true → Ev tc σ H z) (h2 : b1 = true → RV r' y z H (.bl b2)) : Ev (tChain r r' ta tb tc) σ H (.bl (b1 && b2)) := fun H1 e Q q =>
  ha H1 e _ fun H2 e2 => hb H2 (e.trans e2) _ fun H3 e3 => h1 H3 ((e.trans e2).trans e3) _ fun H4 e4 => ⟨b1, rfl, by
    have a4 := ((e.trans e2).trans e3).trans e4
    cases b1 with
    | true =>
      show tc σ H4 _
      exact hc rfl H4 a4 _ fun H5 e5 => h2 rfl H5 (a4.trans e5) Q fun H6 e6 => q H6 ((((e2.trans e3).trans e4).trans e5).trans e6)
    | false =>
      show Q (.bl false) H4
      exact q H4 ((e2.trans e3).trans e4)⟩
theorem ev_andF (h1 : Ev ta σ H (.bl false)) : Ev (tAndV ta tb) σ H (.bl false) := ev_andV (b := true) h1 fun h => Bool.noConfusion h
theorem ev_andT {b : Bool} (h1 : Ev ta σ H (.bl true)) (h2 : Ev tb σ H (.bl b)) : Ev (tAndV ta tb) σ H (.bl b) := ev_andV (a := true) h1 fun _ => h2
theorem ev_orT (h1 : Ev ta σ H (.bl true)) : Ev (tOrV ta tb) σ H (.bl true) := ev_orV (b := true) h1 fun h => Bool.noConfusion h
theorem ev_orF {b : Bool} (h1 : Ev ta σ H (.bl false)) (h2 : Ev tb σ H (.bl b)) : Ev (tOrV ta tb) σ H (.bl b) := ev_orV (a := false) h1 fun _ => h2
theorem et_andF (h1 : EvT t σ H false) : EvT (tAnd t u) σ H false := et_and (b := true) h1 fun h => Bool.noConfusion h
theorem et_andT {b : Bool} (h1 : EvT t σ H true) (h2 : EvT u σ H b) : EvT (tAnd t u) σ H b := et_and (a := true) h1 fun _ => h2
theorem et_orT (h1 : EvT t σ H true) : EvT (tOr t u) σ H true := et_or (b := true) h1 fun h => Bool.noConfusion h
theorem et_orF {b : Bool} (h1 : EvT t σ H false) (h2 : EvT u σ H b) : EvT (tOr t u) σ H b := et_or (a := false) h1 fun _ => h2
end

/-! ### the rules with the written part named -/
section
variable {X : Cx} {K : PySem.W.Frag}
theorem kx_in (h : X.K = K := by rfl) : OpR X (compareOp .In) (rIn K false) := by subst h; exact op_in_seq
theorem kx_notIn (h : X.K = K := by rfl) : OpR X (compareOp .NotIn) (rIn K true) := by subst h; exact op_notIn_seq
theorem kx_ixL (h : X.K = K := by rfl) : IxR X (rIxL K) := by subst h; exact ix_list
theorem kx_ixT (h : X.K = K := by rfl) : IxR X (rIxT K) := by subst h; exact ix_tup
theorem kx_len (h : X.K = K := by rfl) : CallR X (.builtin "len") (rLenQ K) := by subst h; exact call_len_seq
theorem kx_eqD (hu : X.A.units + 64 < cLine) (h : X.K = K := by rfl) : OpR X (compareOp .Eq) (rEqD K) := by subst h; exact op_eqD hu
theorem kx_neD (hu : X.A.units + 64 < cLine) (h : X.K = K := by rfl) : OpR X (compareOp .NotEq) (rNeD K) := by subst h; exact op_neD hu
theorem kx_type (h : X.K = K := by rfl) : CallR X (.type "type") (rTyp K) := by subst h; exact call_type1
theorem kx_isi (h : X.K = K := by rfl) : CallR X (.builtin "isinstance") (rIsi K) := by subst h; exact call_isi
theorem kx_sum (hc : X.calm = true) (h : X.K = K := by rfl) : CallR X (.builtin "sum") (rSum K) := by subst h; exact cr_sum hc
theorem kx_all (hc : X.calm = true) (h : X.K = K := by rfl) : CallR X (.builtin "all") (rAll K) := by subst h; exact cr_all hc
theorem kx_max (hc : X.calm = true) (h : X.K = K := by rfl) : CallR X (.builtin "max") (rMax K) := by subst h; exact cr_max hc
theorem kx_min (hc : X.calm = true) (h : X.K = K := by rfl) : CallR X (.builtin "min") (rMin K) := by subst h; exact cr_min hc
theorem kx_sorted (h : X.K = K := by rfl) : CallR X (.builtin "sorted") (rSorted K) := by subst h; exact cr_sorted
theorem kx_sortedRev {b : Bool} (h : X.K = K := by rfl) : CallRK X (.builtin "sorted") [Str.ofString "reverse"] (rSortedKw K b [.bl b]) := by subst h; exact cr_sortedRev
abbrev rListQ (K : PySem.W.Frag) : List V → Hp → VK → Prop := fun xs H Q => ∃ p ys, xs = [.ref p] ∧ (SqL K H p ys ∨ SqT K H p ys) ∧ ∀ l, H l = none → Q (.ref l) (upd H l (.lst ys))
abbrev rTupQ (K : PySem.W.Frag) : List V → Hp → VK → Prop := fun xs H Q => ∃ p ys, xs = [.ref p] ∧ ((SqL K H p ys ∧ ∀ l, H l = none → Q (.ref l) (upd H l (.tup ys))) ∨ (SqT K H p ys ∧ Q (.ref p) H))
theorem kx_list (h : X.K = K := by rfl) : CallR X (.type "list") (rListQ K) := by subst h; exact call_list_of
theorem kx_tuple (h : X.K = K := by rfl) : CallR X (.type "tuple") (rTupQ K) := by subst h; exact call_tuple_of
theorem kx_slL (h : X.K = K := by rfl) : SlR X (rSlL K) := by subst h; exact sl_list
theorem kx_piL {tg l : Expr} {tl : TE} (hl : PE X l tl) (h : X.K = K := by rfl) : PI X tg l (iList K tl) := by subst h; exact pi_list hl
theorem kx_piT {tg l : Expr} {tl : TE} (hl : PE X l tl) (h : X.K = K := by rfl) : PI X tg l (iTup K tl) := by subst h; exact pi_tup hl
theorem kx_pgT {es : List Expr} {k : Nat} {t : TGs} {n : Nat} {pos : Pos} (hc : X.calm = true) (h : PGs X es t) (hn : (assignEach es X.env).length = n := by rfl) (hst : (assignEach es X.env).findIdx? (·.1) = none := by rfl) (hk : X.K = K := by rfl) : PG X (.Tuple es k pos) (gTup K n t) := by subst hk; exact pg_tup hc h hn hst
end
end Z
set_option Elab.async false
set_option linter.all false
set_option maxRecDepth 100000
set_option maxHeartbeats 4000000
/-! LAYT: lists of ties, counts, slices, comprehensions told as maps and filters. -/
namespace Z
open PySem PySem.Spec PyProof.Rows L2 Evl
/-! ### ties -/
abbrev Tie := Nat × Nat
def tieV (p : Tie) : List V := [.int (p.1 : Int), .int (p.2 : Int)]
def tieD (p : Tie) : PyData := .tuple [.int (p.1 : Int), .int (p.2 : Int)]
def TieAt (K : PySem.W.Frag) (H : Hp) (x : V) (p : Tie) : Prop := ∃ t, x = .ref t ∧ SqT K H t (tieV p)
abbrev Ties (K : PySem.W.Frag) (H : Hp) (xs : List V) (ts : List Tie) : Prop := PySem.Paired (TieAt K H) xs ts
section
variable {K : PySem.W.Frag} {H H' : Hp} {x : V} {p : Tie} {xs ys : List V} {ts us : List Tie} {l : Addr}
theorem TieAt.ex (e : Ex H H') (h : TieAt K H x p) : TieAt K H' x p := by
  obtain ⟨t, rfl, s⟩ := h
  exact ⟨t, rfl, ex_t e s⟩
/-- a list may change: tuples stay -/
theorem sqt_upd {t : Addr} {zs vs ws : List V} (hl : H l = some (.lst vs)) (s : SqT K H t zs) : SqT K (upd H l (.lst ws)) t zs := by
  rcases s with (s | ⟨o, s⟩) | s
  · exact .inl (.inl ((upd_ne (ne_of s hl (by intro z; cases z))).trans s))
  · exact .inl (.inr ⟨o, (upd_ne (ne_of s hl (by intro z; cases z))).trans s⟩)
  · exact .inr s
theorem TieAt.upd {vs ws : List V} (hl : H l = some (.lst vs)) (h : TieAt K H x p) : TieAt K (L2.upd H l (.lst ws)) x p := by
  obtain ⟨t, rfl, s⟩ := h
  exact ⟨t, rfl, sqt_upd hl s⟩
theorem Paired.imp {α β : Type} {F G : α → β → Prop} (f : ∀ a b, F a b → G a b) : ∀ {l : List α} {m : List β}, PySem.Paired F l m → PySem.Paired G l m
  | _, _, .nil => .nil
  | _, _, .cons r t => .cons (f _ _ r) (Paired.imp f t)
theorem Ties.ex (e : Ex H H') (h : Ties K H xs ts) : Ties K H' xs ts := Paired.imp (fun _ _ => TieAt.ex e) h
theorem Ties.upd {vs ws : List V} (hl : H l = some (.lst vs)) (h : Ties K H xs ts) : Ties K (L2.upd H l (.lst ws)) xs ts := Paired.imp (fun _ _ => TieAt.upd hl) h
theorem Paired.app {α β : Type} {F : α → β → Prop} : ∀ {l l' : List α} {m m' : List β}, PySem.Paired F l m → PySem.Paired F l' m' → PySem.Paired F (l ++ l') (m ++ m')
  | _, _, _, _, .nil, h => h
  | _, _, _, _, .cons r t, h => .cons r (Paired.app t h)
theorem Paired.take {α β : Type} {F : α → β → Prop} : ∀ (n : Nat) {l : List α} {m : List β}, PySem.Paired F l m → PySem.Paired F (l.take n) (m.take n)
  | 0, _, _, _ => .nil
  | n + 1, _, _, .nil => .nil
  | n + 1, _, _, .cons r t => .cons r (Paired.take n t)
theorem Paired.drop {α β : Type} {F : α → β → Prop} : ∀ (n : Nat) {l : List α} {m : List β}, PySem.Paired F l m → PySem.Paired F (l.drop n) (m.drop n)
  | 0, _, _, h => h
  | n + 1, _, _, .nil => .nil
  | n + 1, _, _, .cons _ t => Paired.drop n t
theorem Paired.len {α β : Type} {F : α → β → Prop} : ∀ {l : List α} {m : List β}, PySem.Paired F l m → l.length = m.length
  | _, _, .nil => rfl
  | _, _, .cons _ t => congrArg (· + 1) (Paired.len t)
theorem Paired.at {α β : Type} {F : α → β → Prop} : ∀ {l : List α} {m : List β} {i : Nat} {a : α}, PySem.Paired F l m → l[i]? = some a → ∃ b, m[i]? = some b ∧ F a b
  | _, _, i, _, .nil, h => by simp at h
  | _, _, 0, a, .cons r _, h => by
    have e := Option.some.inj h
    subst e
    exact ⟨_, rfl, r⟩
  | _, _, i + 1, a, .cons _ t, h => Paired.at (i := i) t h
theorem Paired.at' {α β : Type} {F : α → β → Prop} : ∀ {l : List α} {m : List β} {i : Nat} {b : β}, PySem.Paired F l m → m[i]? = some b → ∃ a, l[i]? = some a ∧ F a b
  | _, _, i, _, .nil, h => by simp at h
  | _, _, 0, a, .cons r _, h => by
    have e := Option.some.inj h
    subst e
    exact ⟨_, rfl, r⟩
  | _, _, i + 1, a, .cons _ t, h => Paired.at' (i := i) t h
theorem tie_dp (h : TieAt K H x p) : Dp K H x (tieD p) := by
  obtain ⟨t, rfl, s⟩ := h
  exact .tup s (.cons (.int _) (.cons (.int _) .nil))
theorem ties_dp : ∀ {xs : List V} {ts : List Tie}, Ties K H xs ts → DpAll K H xs (ts.map tieD)
  | _, _, .nil => .nil
  | _, _, .cons r t => .cons (tie_dp r) (ties_dp t)
theorem dp_tie (h : Dp K H x (tieD p)) : TieAt K H x p := by
  cases h with
  | tup s a =>
    cases a with
    | cons h1 a =>
      cases a with
      | cons h2 a =>
        cases a
        cases h1
        cases h2
        exact ⟨_, rfl, s⟩
theorem dp_ties : ∀ {ts : List Tie} {xs : List V}, DpAll K H xs (ts.map tieD) → Ties K H xs ts
  | [], _, h => by cases h; exact .nil
  | p :: ts, _, h => by
    cases h with
    | cons h1 h2 => exact .cons (dp_tie h1) (dp_ties h2)
end
/-! ### a web -/
structure WebOk (n : Nat) (ts : List Tie) : Prop where
  size : 1 ≤ n ∧ n ≤ 10
  nodup : ts.Nodup
  ok : ∀ p ∈ ts, p.1 < p.2 ∧ p.2 < n
def allTies (n : Nat) : List Tie := (List.range n).flatMap fun j => (List.range j).map fun i => (i, j)
theorem mem_allTies {n : Nat} {p : Tie} : p ∈ allTies n ↔ p.1 < p.2 ∧ p.2 < n := by
  obtain ⟨i, j⟩ := p
  simp only [allTies, List.mem_flatMap, List.mem_map, List.mem_range, Prod.mk.injEq]
  constructor
  · rintro ⟨a, ha, b, hb, rfl, rfl⟩
    exact ⟨hb, ha⟩
  · rintro ⟨h1, h2⟩
    exact ⟨j, h2, i, h1, rfl, rfl⟩
theorem sub_len {α : Type} [DecidableEq α] : ∀ {l m : List α}, l.Nodup → (∀ x ∈ l, x ∈ m) → l.length ≤ m.length
  | [], _, _, _ => Nat.zero_le _
  | a :: l, m, hn, hs => by
    have ha : a ∈ m := hs a List.mem_cons_self
    have hn' := List.nodup_cons.mp hn
    have h : l.length ≤ (m.erase a).length := sub_len hn'.2 fun x hx => by
      have hxa : x ≠ a := fun z => hn'.1 (z ▸ hx)
      exact (List.mem_erase_of_ne hxa).mpr (hs x (List.mem_cons_of_mem _ hx))
    rw [List.length_erase_of_mem ha] at h
    have : 0 < m.length := List.length_pos_of_mem ha
    simp only [List.length_cons]
    omega
theorem WebOk.len {n : Nat} {ts : List Tie} (h : WebOk n ts) : ts.length ≤ 45 := by
  have h1 : ts.length ≤ (allTies n).length := sub_len h.nodup fun p hp => mem_allTies.mpr (h.ok p hp)
  have h2 : (allTies n).length ≤ 45 := by
    have h3 : ∀ m ∈ List.range 11, (allTies m).length ≤ 45 := by decide
    exact h3 n (List.mem_range.mpr (by have := h.size; omega))
  omega
theorem WebOk.perm {n : Nat} {ts us : List Tie} (h : WebOk n ts) (p : us.Perm ts) : WebOk n us := ⟨h.size, p.nodup_iff.mpr h.nodup, fun x hx => h.ok x (p.mem_iff.mp hx)⟩
theorem rot_perm {α : Type} (l : List α) (k : Nat) : (l.drop k ++ l.take k).Perm l := by
  have h := List.perm_append_comm (l₁ := l.drop k) (l₂ := l.take k)
  rw [List.take_append_drop] at h
  exact h
/-- how many ties a point is in -/
def inTie (q : Nat) (p : Tie) : Bool := decide (p.1 = q) || decide (p.2 = q)
def deg (ts : List Tie) (q : Nat) : Nat := (ts.filter (inTie q)).length
def degs (n : Nat) (ts : List Tie) : List Nat := (List.range n).map (deg ts)
def degsI (n : Nat) (ts : List Tie) : List Int := (List.range n).map fun q => (deg ts q : Int)
theorem deg_le {n : Nat} {ts : List Tie} (h : WebOk n ts) (q : Nat) : deg ts q ≤ 9 := by
  have h3 : ∀ m ∈ List.range 11, ∀ q ∈ List.range 10, ((allTies m).filter (inTie q)).length ≤ 9 := by decide
  have h1 : deg ts q ≤ ((allTies n).filter (inTie q)).length := sub_len (h.nodup.filter _) fun p hp => by
    obtain ⟨a, b⟩ := List.mem_filter.mp hp
    exact List.mem_filter.mpr ⟨mem_allTies.mpr (h.ok p a), b⟩
  by_cases hq : q < 10
  · exact Nat.le_trans h1 (h3 n (List.mem_range.mpr (by have := h.size; omega)) q (List.mem_range.mpr hq))
  · have e : ts.filter (inTie q) = [] := by
      rw [List.filter_eq_nil_iff]
      intro p hp z
      have h4 := h.ok p hp
      have h5 := h.size
      unfold inTie at z
      simp only [Bool.or_eq_true, decide_eq_true_eq] at z
      omega
    unfold deg
    rw [e]
    exact Nat.zero_le _
/-- counts -/
structure CountsOk (cs : List Int) : Prop where
  len : 1 ≤ cs.length ∧ cs.length ≤ 10
  ok : ∀ c ∈ cs, 0 ≤ c ∧ c ≤ 20
theorem degsI_ok {n : Nat} {ts : List Tie} (h : WebOk n ts) : CountsOk (degsI n ts) := by
  refine ⟨?_, fun c hc => ?_⟩
  · unfold degsI
    rw [List.length_map, List.length_range]
    exact h.size
  · unfold degsI at hc
    obtain ⟨q, _, rfl⟩ := List.mem_map.mp hc
    have := deg_le h q
    omega
theorem CountsOk.set {cs : List Int} (h : CountsOk cs) {j : Nat} {c : Int} (hc : 0 ≤ c ∧ c ≤ 20) : CountsOk (cs.set j c) := by
  refine ⟨by rw [List.length_set]; exact h.len, fun x hx => ?_⟩
  rcases List.mem_or_eq_of_mem_set hx with z | z
  · exact h.ok x z
  · rw [z]
    exact hc
/-! ### slices -/
theorem cut_from (xs : List V) {n : Nat} (h : n ≤ xs.length) : cutV xs (some (n : Int)) none = xs.drop n := by
  unfold cutV
  rw [HT.sIx_nat, HT.sIx_none, Nat.min_eq_left h]
  exact List.take_of_length_le (by rw [List.length_drop]; exact Nat.le_refl _)
theorem cut_to (xs : List V) {n : Nat} (h : n ≤ xs.length) : cutV xs none (some (n : Int)) = xs.take n := by
  unfold cutV
  rw [HT.sIx_nat, HT.sIx_none, Nat.min_eq_left h, List.drop_zero, Nat.sub_zero]
section
variable {K : PySem.W.Frag} {σ : L2.St} {H H' : Hp} {ta tb te tl : TE} {t : TT} {x y v : V} {D : Ends} {tz : TS}
/-- new lists: one behind the other -/
theorem el_cat {xs ys : List V} (ha : EvL ta σ H xs) (hb : EvL tb σ H ys) (hz : xs.length + ys.length ≤ 100000) : EvL (tOp rCat ta tb) σ H (xs ++ ys) := fun H1 e Q q =>
  ha H1 e _ fun p H2 hp e2 h2 => hb H2 (e.trans e2) _ fun u H3 hu e3 h3 => ⟨p, u, xs, ys, rfl, rfl, e3 p _ h2, h3, sz_of hz, fun l hl => q l _ (fresh_back (e2.trans e3) hl) ((e2.trans e3).trans (Ex.new hl)) upd_same⟩
/-- (x, a new list) -/
theorem eg_tup2 {xs : List V} (ha : Ev ta σ H x) (hb : EvL tb σ H xs) : EvG (tTup (tCons ta (tCons tb tNil))) σ H fun H1 w H2 => ∃ q p, w = .ref q ∧ H1 q = none ∧ H1 p = none ∧ H2 q = some (.tup [x, .ref p]) ∧ H2 p = some (.lst xs) := fun H1 e Q q =>
  ha H1 e _ fun H2 e2 => hb H2 (e.trans e2) _ fun p H3 hp e3 h3 => ⟨by show 2 ≤ sizeLine; decide, fun u hu => q (.ref u) _ ((e2.trans e3).trans (Ex.new hu)) ⟨u, p, rfl, fresh_back (e2.trans e3) hu, fresh_back e2 hp, upd_same, by rw [upd_ne (ne_of_none h3 hu)]; exact h3⟩⟩
/-- comprehensions -/
theorem et_yes : EvT tYes σ H true := fun H1 _ _ q => q H1 (Ex.refl H1)
theorem given_all (n : Nat) (v : Nat → V) : given n (fun _ => true) v = (List.range n).map v := by
  unfold given
  rw [List.filter_eq_self.mpr (fun _ _ => rfl)]
theorem range_filter {α : Type} (g : α → Bool) (f : α → V) : ∀ (l : List α) (d : α), given l.length (fun i => g (l.getD i d)) (fun i => f (l.getD i d)) = (l.filter g).map f := by
  intro l d
  unfold given
  induction l with
  | nil => rfl
  | cons a l ih =>
    rw [List.length_cons, List.range_succ_eq_map, List.filter_cons, List.filter_map]
    have e0 : ((a :: l).getD 0 d) = a := rfl
    have e1 : ((fun i => g ((a :: l).getD i d)) ∘ Nat.succ) = fun i => g (l.getD i d) := rfl
    have e2 : ∀ is : List Nat, (is.map Nat.succ).map (fun i => f ((a :: l).getD i d)) = is.map (fun i => f (l.getD i d)) := fun is => by
      rw [List.map_map]
      rfl
    rw [e0, e1, List.filter_cons]
    cases hg : g a with
    | true =>
      rw [if_pos rfl, if_pos rfl, List.map_cons, List.map_cons, e2, ih]
      rfl
    | false =>
      rw [if_neg (by decide), if_neg (by decide), e2, ih]

theorem ev_lenL {xs : List V} (ha : EvL ta σ H xs) : Ev (tCB (rLenQ K) (tCons ta tNil)) σ H (.int (xs.length : Int)) := fun H1 e Q q =>
  ha H1 e _ fun p H2 _ e2 h2 => ⟨p, xs, rfl, .inl (sq_of h2), q H2 e2⟩
/-- a, b = a tuple of two -/
theorem q_asg2 {i j : Nat} {P : Hp → V → Hp → Prop} (h : EvG te σ H P) (k : ∀ v H1, Ex H H1 → P H v H1 → ∃ t x y, v = .ref t ∧ SqT K H1 t [x, y] ∧ tz D ((σ.set i (some x)).set j (some y)) H1) : tSeq (tAsg te (gTup K 2 (gCons (gName i) (gCons (gName j) gNil)))) tz D σ H :=
  h H (Ex.refl H) _ fun v H1 e p => by
    obtain ⟨t, x, y, rfl, hs, hk⟩ := k v H1 e p
    exact ⟨t, [x, y], rfl, hs, rfl, x, [y], rfl, y, [], rfl, rfl, hk⟩
theorem range_map {α : Type} (f : α → V) (l : List α) (d : α) : given l.length (fun _ => true) (fun i => f (l.getD i d)) = l.map f := by
  have h := range_filter (fun _ => true) f l d
  rw [List.filter_eq_self.mpr (fun _ _ => rfl)] at h
  exact h
/-- sorted(.., reverse=True) -/
theorem eg_sortedRev {p : Addr} {ns : List Int} (ha : Ev ta σ H (.ref p)) (hS : SqL K H p (ns.map V.int)) : EvG (tCKw (rSortedKw K true [.bl true]) (tCons ta tNil) (tCons (tC (.bl true)) tNil)) σ H
    fun H1 v H2 => ∃ (fs : List Int) (q : Addr), v = .ref q ∧ H1 q = none ∧ fs.Perm ns ∧ fs.Pairwise (· ≥ ·) ∧ H2 q = some (.lst (fs.map V.int)) := fun H1 e Q q =>
  ha H1 e _ fun H2 e2 => ⟨p, ns, rfl, rfl, ex_l (e.trans e2) hS, fun fs u h1 h2 hu => q _ _ (e2.trans (Ex.new hu)) ⟨fs, u, rfl, fresh_back e2 hu, h1, h2, upd_same⟩⟩
/-- sum(a new list) -/
theorem ev_sumL {ns : List Int} (ha : EvL ta σ H (ns.map V.int)) : Ev (tCB (rSum K) (tCons ta tNil)) σ H (.int ns.sum) := fun H1 e Q q =>
  ha H1 e _ fun p H2 _ e2 h2 => ⟨p, ns, rfl, sq_of h2, q H2 e2⟩
/-- an expression statement, by its reading -/
theorem q_dropC (h : te σ H fun _ H1 => tz D σ H1) : tSeq (tDrop te) tz D σ H := h
/-- max(a list of ints) -/
theorem eg_max {p : Addr} {ns : List Int} (ha : Ev ta σ H (.ref p)) (hS : SqL K H p (ns.map V.int)) (h0 : 0 < ns.length) : EvG (tCB (rMax K) (tCons ta tNil)) σ H fun _ v _ => ∃ g, v = .int g ∧ g ∈ ns ∧ ∀ y ∈ ns, y ≤ g := fun H1 e Q q =>
  ha H1 e _ fun H2 e2 => ⟨p, ns, rfl, ex_l (e.trans e2) hS, h0, fun m h1 h2 => q _ H2 e2 ⟨m, rfl, h1, h2⟩⟩
/-- xs.remove(k) -/
theorem s_rem {l : Addr} {ns : List Int} {k : Int} {j : Nat} (hl : H l = some (.lst (ns.map V.int))) (ha : Ev ta σ H (.ref l)) (h : Ev te σ H (.int k)) (hj : ns[j]? = some k) (hn : ∀ m : Nat, m < j → ns[m]? ≠ some k) (kk : ∀ H1, Ex H H1 → D.nx σ (upd H1 l (.lst ((ns.eraseIdx j).map V.int)))) :
    tDrop (tBM K "list" rRemI ta (tCons te tNil)) D σ H := ha H (Ex.refl H) _ fun H1 e1 =>
  ⟨Or.inl ⟨rfl, _, sq_of (e1 l _ hl)⟩, h H1 e1 _ fun H2 e2 => ⟨l, ns, k, j, rfl, rfl, e2 l _ (e1 l _ hl), hj, hn, kk H2 (e1.trans e2)⟩⟩
/-! a display whose items all are of one kind -/
def EvGA (ta : TA) (σ : L2.St) (H : Hp) (n : Nat) (G : V → Hp → Prop) : Prop := ∀ H1, Ex H H1 → ∀ Q : List V → Hp → Prop, (∀ vs H2, Ex H1 H2 → vs.length = n → (∀ x ∈ vs, G x H2) → Q vs H2) → ta σ H1 Q
abbrev EvGX (te : TE) (σ : L2.St) (H : Hp) (G : V → Hp → Prop) : Prop := EvG te σ H fun _ x H2 => G x H2
theorem ga_nil {G : V → Hp → Prop} : EvGA tNil σ H 0 G := fun H1 _ _ q => q [] H1 (Ex.refl H1) rfl fun _ h => (by cases h)
theorem ga_cons {G : V → Hp → Prop} {n : Nat} {tr : TA} (mono : ∀ x H1 H2, Ex H1 H2 → G x H1 → G x H2) (h : EvGX te σ H G) (hr : EvGA tr σ H n G) : EvGA (tCons te tr) σ H (n + 1) G := fun H1 e Q q =>
  h H1 e _ fun x H2 e2 hx => hr H2 (e.trans e2) _ fun vs H3 e3 hl hv => q (x :: vs) H3 (e2.trans e3) (by rw [List.length_cons, hl]) fun y hy => by
    rcases List.mem_cons.mp hy with z | z
    · rw [z]
      exact mono x H2 H3 e3 hx
    · exact hv y z
theorem gx_ev {G : V → Hp → Prop} (h : Ev te σ H v) (g : ∀ H1, Ex H H1 → G v H1) : EvGX te σ H G := fun H1 e Q q => h H1 e Q fun H2 e2 => q v H2 e2 (g H2 (e.trans e2))
theorem gx_L {G : V → Hp → Prop} {xs : List V} (h : EvL te σ H xs) (g : ∀ p H1, Ex H H1 → H1 p = some (.lst xs) → G (.ref p) H1) : EvGX te σ H G := fun H1 e Q q => h H1 e Q fun p H2 _ e2 h2 => q (.ref p) H2 e2 (g p H2 (e.trans e2) h2)
theorem gx_U {G : V → Hp → Prop} {xs : List V} (h : EvU te σ H xs) (g : ∀ p H1, Ex H H1 → H1 p = some (.tup xs) → G (.ref p) H1) : EvGX te σ H G := fun H1 e Q q => h H1 e Q fun p H2 _ e2 h2 => q (.ref p) H2 e2 (g p H2 (e.trans e2) h2)
theorem gx_dict {G : V → Hp → Prop} (g : ∀ p H1, Ex H H1 → H1 p = some (.dK []) → G (.ref p) H1) : EvGX tDNewK σ H G := fun H1 e Q q p hp => q (.ref p) _ (Ex.new hp) (g p _ (e.trans (Ex.new hp)) upd_same)
/-- one of them, by an index in bounds -/
theorem gx_menu {G : V → Hp → Prop} {n : Nat} {i : Int} {ta : TA} (mono : ∀ x H1 H2, Ex H1 H2 → G x H1 → G x H2) (h : EvGA ta σ H n G) (hi : Ev tb σ H (.int i)) (h0 : 0 ≤ i) (hn : i < (n : Int)) (hz : n ≤ 1000) : EvGX (tOp (rIxL K) (tLst ta) tb) σ H G := fun H1 e Q q =>
  h H1 e _ fun vs H2 e2 hl hv => ⟨by rw [hl]; exact sz_of (by omega), fun p hp => hi _ ((e.trans e2).trans (Ex.new hp)) _ fun H3 e3 => by
    have hlt : i.toNat < vs.length := by omega
    have h3 := e3 p _ (upd_same (H := H2) (a := p) (o := .lst vs))
    exact ⟨p, vs, i, vs[i.toNat], rfl, rfl, SqL.of h3, at_of (j := i.toNat) (by omega) (List.getElem?_eq_getElem hlt), q _ H3 ((e2.trans (Ex.new hp)).trans e3) (mono _ H2 H3 ((Ex.new hp).trans e3) (hv _ (List.getElem_mem hlt)))⟩⟩
/-- xs * k -/
theorem el_rep {p : Addr} {xs : List V} {k : Int} (ha : Ev ta σ H (.ref p)) (hb : Ev tb σ H (.int k)) (hp : H p = some (.lst xs)) (h0 : 0 ≤ k ∧ k < 1000) (hz : xs.length * k.toNat ≤ 100000) : EvL (tOp rRep ta tb) σ H (List.replicate k.toNat xs).flatten := fun H1 e Q q =>
  ha H1 e _ fun H2 e2 => hb H2 (e.trans e2) _ fun H3 e3 => ⟨p, k, xs, rfl, rfl, ((e.trans e2).trans e3) _ _ hp, by omega, by omega, sz_of hz, fun l hl => q l _ (fresh_back (e2.trans e3) hl) ((e2.trans e3).trans (Ex.new hl)) upd_same⟩
/-- tuple(a list) -/
theorem eu_tuple {p : Addr} {xs : List V} (ha : Ev ta σ H (.ref p)) (hS : SqL K H p xs) : EvU (tCB (rTupQ K) (tCons ta tNil)) σ H xs := fun H1 e Q q =>
  ha H1 e _ fun H2 e2 => ⟨p, xs, rfl, .inl ⟨ex_l (e.trans e2) hS, fun l hl => q l _ (fresh_back e2 hl) (e2.trans (Ex.new hl)) upd_same⟩⟩
/-- list(a list) -/
theorem el_listQ {p : Addr} {xs : List V} (ha : Ev ta σ H (.ref p)) (hS : SqL K H p xs) : EvL (tCB (rListQ K) (tCons ta tNil)) σ H xs := fun H1 e Q q =>
  ha H1 e _ fun H2 e2 => ⟨p, xs, rfl, .inl (ex_l (e.trans e2) hS), fun l hl => q l _ (fresh_back e2 hl) (e2.trans (Ex.new hl)) upd_same⟩
theorem el_eq {xs ys : List V} (h : EvL te σ H xs) (e : xs = ys) : EvL te σ H ys := e ▸ h
end
theorem inV_tie (q : Nat) (p : Tie) : inV (.int (q : Int)) (tieV p) = inTie q p := by
  obtain ⟨a, b⟩ := p
  show ((((a : Nat) : Int) == (q : Int)) || ((((b : Nat) : Int) == (q : Int)) || false)) = (decide (a = q) || decide (b = q))
  have e1 : (((a : Nat) : Int) == (q : Int)) = decide (a = q) := by
    by_cases h : a = q
    · rw [decide_eq_true h, h]; simp
    · rw [decide_eq_false h]; exact beq_eq_false_iff_ne.mpr (by omega)
  have e2 : (((b : Nat) : Int) == (q : Int)) = decide (b = q) := by
    by_cases h : b = q
    · rw [decide_eq_true h, h]; simp
    · rw [decide_eq_false h]; exact beq_eq_false_iff_ne.mpr (by omega)
  rw [e1, e2, Bool.or_false]

/-! ### defs that raise (the exception's context None) -/
theorem Fun.okN {P : Program} {w : World} {K : PySem.W.Frag} {mg : Str → Option Value} {base : Heap} {x qual : Str} {st : Stmt} {f : Addr} {fd : FuncData} {N ps : List Str} {k : Nat} {sp : Sp} (F : Fun K x qual st f fd) (S : FnScope N ps (defScope st)) (len : ∀ vs H Q E, sp vs H Q E → vs.length = ps.length)
    (hbody : ∀ (cdv : Value) (A : Around) (outer : List Env) (s : Shared) (H : Hp) (vs : List V) (Q : VK) (E : XK), Room k (A.deeper (envOfC qual (defScope st) s.heap.objs.size f cdv)) → sp vs H Q E →
      ∃ t, PSs (cxOf (L2N.CX P w) P w K mg base N qual (defScope st) f cdv A outer s H E) (defBody st) t ∧ t { nx := fun _ H' => Q .non H', rt := Q } (start N vs) H) : FnOk P w K mg base (L2N.CX P w) (k + 1) f fd ps sp := by
  obtain ⟨oc, od, kV, doc, pm, an, cdv, ct, osl, rfl, lk, hcd⟩ := F.ex
  exact fn_of lk hcd S len (fun A outer s H vs Q E hr hsp => hbody cdv A outer s H vs Q E hr hsp)
/-- a thing of a known kind -/
def Thing (K : PySem.W.Frag) (H : Hp) (x : V) : Prop := ∃ T, TyB K H x T ∧ T ∈ metaT
theorem Thing.ex {K : PySem.W.Frag} {H H' : Hp} {x : V} (e : Ex H H') (h : Thing K H x) : Thing K H' x := let ⟨T, a, b⟩ := h; ⟨T, TyB.ex e a, b⟩
theorem Thing.int {K : PySem.W.Frag} {H : Hp} (i : Int) : Thing K H (.int i) := ⟨"int", .int i, by decide⟩
theorem TyB.ix {K : PySem.W.Frag} {H : Hp} {x : V} {T : String} (h : TyB K H x T) : x = x := rfl

/-! ### falling lists -/
def minI (m c : Int) : Int := if m < c then m else c
theorem desc_eq : ∀ {l m : List Int}, l.Pairwise (· ≥ ·) → m.Pairwise (· ≥ ·) → l.Perm m → l = m
  | [], m, _, _, h => (List.Perm.nil_eq h)
  | a :: l, [], _, _, h => absurd h.length_eq (by simp)
  | a :: l, b :: m, h1, h2, h => by
    have p1 := List.pairwise_cons.mp h1
    have p2 := List.pairwise_cons.mp h2
    have ha : a ∈ b :: m := h.mem_iff.mp List.mem_cons_self
    have hb : b ∈ a :: l := h.mem_iff.mpr List.mem_cons_self
    have e : a = b := by
      rcases List.mem_cons.mp ha with z | z
      · exact z
      · rcases List.mem_cons.mp hb with y | y
        · exact y.symm
        · have k1 := p2.1 a z
          have k2 := p1.1 b y
          omega
    subst e
    rw [desc_eq p1.2 p2.2 (List.Perm.cons_inv h)]
theorem sum_perm : ∀ {l m : List Int}, l.Perm m → l.sum = m.sum := fun h => by
  induction h with
  | nil => rfl
  | cons x _ ih => rw [List.sum_cons, List.sum_cons, ih]
  | swap x y l =>
    rw [List.sum_cons, List.sum_cons, List.sum_cons, List.sum_cons]
    omega
  | trans _ _ h1 h2 => rw [h1, h2]
def ins (a : Int) : List Int → List Int
  | [] => [a]
  | b :: l => if b ≤ a then a :: b :: l else b :: ins a l
def isort : List Int → List Int
  | [] => []
  | a :: l => ins a (isort l)
theorem ins_perm (a : Int) : ∀ l : List Int, (ins a l).Perm (a :: l)
  | [] => .refl _
  | b :: l => by
    unfold ins
    split
    · exact .refl _
    · exact (List.Perm.cons b (ins_perm a l)).trans (List.Perm.swap a b l)
theorem isort_perm : ∀ l : List Int, (isort l).Perm l
  | [] => .refl _
  | a :: l => (ins_perm a _).trans (List.Perm.cons a (isort_perm l))
theorem ins_desc (a : Int) : ∀ {l : List Int}, l.Pairwise (· ≥ ·) → (ins a l).Pairwise (· ≥ ·)
  | [], _ => List.pairwise_singleton _ _
  | b :: l, h => by
    have p := List.pairwise_cons.mp h
    unfold ins
    split
    · rename_i hba
      refine List.pairwise_cons.mpr ⟨fun x hx => ?_, h⟩
      rcases List.mem_cons.mp hx with z | z
      · rw [z]; exact hba
      · exact Int.le_trans (p.1 x z) hba
    · rename_i hba
      refine List.pairwise_cons.mpr ⟨fun x hx => ?_, ins_desc a p.2⟩
      rcases List.mem_cons.mp ((ins_perm a l).mem_iff.mp hx) with z | z
      · rw [z]; show a ≤ b; omega
      · exact p.1 x z
theorem isort_desc : ∀ l : List Int, (isort l).Pairwise (· ≥ ·)
  | [] => List.Pairwise.nil
  | a :: l => ins_desc a (isort_desc l)
/-- the greatest taken again and again are the head of the falling list -/
theorem taken_eq {cs fs rs left : List Int} (h1 : fs.Perm cs) (h2 : fs.Pairwise (· ≥ ·)) (h3 : (rs ++ left).Perm cs) (h4 : rs.Pairwise (· ≥ ·)) (h5 : ∀ x ∈ rs, ∀ y ∈ left, x ≥ y) :
    rs = fs.take rs.length ∧ left.Perm (fs.drop rs.length) := by
  have hp : (rs ++ isort left).Perm fs := ((List.Perm.append_left rs (isort_perm left)).trans h3).trans h1.symm
  have hd : (rs ++ isort left).Pairwise (· ≥ ·) := List.pairwise_append.mpr ⟨h4, isort_desc left, fun x hx y hy => h5 x hx y ((isort_perm left).mem_iff.mp hy)⟩
  have e := desc_eq hd h2 hp
  rw [← e]
  refine ⟨?_, ?_⟩
  · rw [List.take_left]
  · rw [List.drop_left]
    exact (isort_perm left).symm

/-! ### the first place of an item -/
theorem first_at {k : Int} : ∀ {ns : List Int}, k ∈ ns → ∃ j : Nat, ns[j]? = some k ∧ (∀ m : Nat, m < j → ns[m]? ≠ some k) ∧ (k :: ns.eraseIdx j).Perm ns
  | [], h => by cases h
  | a :: ns, h => by
    by_cases e : a = k
    · subst e
      exact ⟨0, rfl, fun m hm => absurd hm (Nat.not_lt_zero m), .refl _⟩
    · have hk : k ∈ ns := (List.mem_cons.mp h).resolve_left fun z => e z.symm
      obtain ⟨j, h1, h2, h3⟩ := first_at hk
      refine ⟨j + 1, h1, fun m hm => ?_, ?_⟩
      · cases m with
        | zero =>
          intro z
          exact e (Option.some.inj z)
        | succ m => exact h2 m (by omega)
      · show (k :: a :: ns.eraseIdx j).Perm (a :: ns)
        exact (List.Perm.swap a k _).trans (List.Perm.cons a h3)
end Z
set_option Elab.async false
set_option linter.all false
set_option maxRecDepth 100000
set_option maxHeartbeats 4000000
/-! LAYHOT: while an exception is handled: the end of a list's and a tuple's iterator, unpacking, a list comprehension over a list, a def that is handed the exception. -/
namespace ZH
open PySem PySem.Spec PyProof.Rows L2 HotX
section
variable {prog : Program} {w : World} {A : Around} {E : Value → Shared → Prop} {s : Shared} {x1 it l : Addr} {i : Nat} {items : Array Value}
theorem list_end {Q : Option Value → Shared → Prop} (hot : HotAt A x1 s.heap) (hit : s.heap.IsListIter it l i) (hl : s.heap.IsList l items) (hx : items[i]? = none)
    (hQ : ∀ h', Heap.ExtBut it s.heap h' → Q none { s with heap := h' }) : wpAny (model prog w) A (pyNext (.ref it)) Q E s := by
  obtain ⟨o, ho, hc, hd⟩ := id hit
  obtain ⟨ol, hol, _, nl, hdl⟩ := hl
  obtain ⟨hh, o1, vs1, g1, d1, c1⟩ := hot
  have nx : x1 ≠ it := fun z => by
    subst z
    rw [ho] at g1
    cases g1
    rw [hd] at d1
    cases d1
    cases c1
  unfold pyNext
  have entry := PySem.entry_listiter_next
  refine wpAny_bind (wpAny_attempt (wpAny_callSpecial?_slot (name := Str.ofString "__next__") hit.typeIs slot_listiter_next (wpAny_call_entry slot_listiter_next hit.typeIs entry ?_ (args_listiter_next _))))
  show wpAny _ _ (field (.ref it) 0 >>= _) _ _ s
  refine wpAny_bind (wpAny_field ho hd (x := .ref l) rfl ?_)
  show wpAny _ _ (if (Value.ref l == Value.none) = true then _ else _) _ _ s
  rw [if_neg (by exact Bool.false_ne_true)]
  show wpAny _ _ (field (.ref it) 1 >>= _) _ _ s
  refine wpAny_bind (wpAny_field ho hd (x := .int i 0) rfl ?_)
  show wpAny _ _ (seqItems? (.ref l) >>= _) _ _ s
  refine wpAny_bind (wpAny_seqItems hol hdl ?_)
  simp only [Int.toNat_natCast, hx]
  refine wpAny_bind (wpAny_rule (wpAny_bind (wpAny_setField ho hd (by simp) ?_)))
  show wpAny _ _ (newExc (.type "StopIteration") [] >>= _) _ _ _
  refine wpAny_bind ?_
  simp only [newExc, newTuple]
  refine wpAny_bind (wpAny_newObj_type ?_ (by size_fits))
  refine wpAny_bind (m := firstArgMember _ _) (wpAny_of_eq (a := Value.none) (by first | rfl | (simp only [firstArgMember]; rfl)) ?_)
  refine wpAny_newObj_type ?_ (by size_fits)
  have gx := (Heap.get?_update_other s.heap (Obj.mapFields (·.setIfInBounds 0 Value.none)) (Ne.symm nx)).trans g1
  refine raiseNew_hot ⟨hh, o1, vs1, Heap.get?_push_of_some _ (Heap.get?_push_of_some _ gx), d1, c1⟩ (Nat.ne_of_lt (Heap.lt_size (Heap.get?_push_of_some _ gx))) (Heap.get?_push_size _ rfl) rfl (by first | (simp; done) | (simp; omega) | (simp only [Array.size_append]; simp; omega)) ?_
  refine wpAny_bind (wpAny_isInstance (T := "StopIteration") (b := true) ⟨_, Heap.get?_update_self _ (Heap.get?_push_size _ rfl) rfl, rfl⟩ isSubtype_stop ?_)
  refine wpAny_pure (hQ _ fun b u hb e => ?_)
  have gb := (Heap.get?_update_other s.heap (Obj.mapFields (·.setIfInBounds 0 Value.none)) (Ne.symm hb)).trans e
  rw [Heap.get?_update_other _ _ (Nat.ne_of_gt (Heap.lt_size (Heap.get?_push_of_some _ gb)))]
  exact Heap.get?_push_of_some _ (Heap.get?_push_of_some _ gb)
theorem tup_end {Q : Option Value → Shared → Prop} {t : Addr} (hot : HotAt A x1 s.heap) (hit : IsTupIter s.heap it t i) (ht : IsTup s.heap t items) (hx : items[i]? = none)
    (hQ : ∀ h', Heap.ExtBut it s.heap h' → Q none { s with heap := h' }) : wpAny (model prog w) A (pyNext (.ref it)) Q E s := by
  obtain ⟨o, ho, hc, hd⟩ := id hit
  obtain ⟨ol, hol, _, nl, hdl⟩ := ht
  obtain ⟨hh, o1, vs1, g1, d1, c1⟩ := hot
  have nx : x1 ≠ it := fun z => by
    subst z
    rw [ho] at g1
    cases g1
    rw [hd] at d1
    cases d1
    cases c1
  unfold pyNext
  refine wpAny_bind (wpAny_attempt (wpAny_callSpecial?_slot (name := Str.ofString "__next__") hit.typeIs slot_tupleiter_next (wpAny_call_entry slot_tupleiter_next hit.typeIs entry_tupleiter_next ?_ (args_tupleiter_next _))))
  show wpAny _ _ (field (.ref it) 0 >>= _) _ _ s
  refine wpAny_bind (wpAny_field ho hd (x := .ref t) rfl ?_)
  show wpAny _ _ (if (Value.ref t == Value.none) = true then _ else _) _ _ s
  rw [if_neg (by exact Bool.false_ne_true)]
  show wpAny _ _ (field (.ref it) 1 >>= _) _ _ s
  refine wpAny_bind (wpAny_field ho hd (x := .int i 0) rfl ?_)
  show wpAny _ _ (seqItems? (.ref t) >>= _) _ _ s
  refine wpAny_bind (wpAny_seqItems hol hdl ?_)
  simp only [Int.toNat_natCast, hx]
  refine wpAny_bind (wpAny_rule (wpAny_bind (wpAny_setField ho hd (by simp) ?_)))
  show wpAny _ _ (newExc (.type "StopIteration") [] >>= _) _ _ _
  refine wpAny_bind ?_
  simp only [newExc, newTuple]
  refine wpAny_bind (wpAny_newObj_type ?_ (by size_fits))
  refine wpAny_bind (m := firstArgMember _ _) (wpAny_of_eq (a := Value.none) (by first | rfl | (simp only [firstArgMember]; rfl)) ?_)
  refine wpAny_newObj_type ?_ (by size_fits)
  have gx := (Heap.get?_update_other s.heap (Obj.mapFields (·.setIfInBounds 0 Value.none)) (Ne.symm nx)).trans g1
  refine raiseNew_hot ⟨hh, o1, vs1, Heap.get?_push_of_some _ (Heap.get?_push_of_some _ gx), d1, c1⟩ (Nat.ne_of_lt (Heap.lt_size (Heap.get?_push_of_some _ gx))) (Heap.get?_push_size _ rfl) rfl (by first | (simp; done) | (simp; omega) | (simp only [Array.size_append]; simp; omega)) ?_
  refine wpAny_bind (wpAny_isInstance (T := "StopIteration") (b := true) ⟨_, Heap.get?_update_self _ (Heap.get?_push_size _ rfl) rfl, rfl⟩ isSubtype_stop ?_)
  refine wpAny_pure (hQ _ fun b u hb e => ?_)
  have gb := (Heap.get?_update_other s.heap (Obj.mapFields (·.setIfInBounds 0 Value.none)) (Ne.symm hb)).trans e
  rw [Heap.get?_update_other _ _ (Nat.ne_of_gt (Heap.lt_size (Heap.get?_push_of_some _ gb)))]
  exact Heap.get?_push_of_some _ (Heap.get?_push_of_some _ gb)
/-- a tuple's items, all of them -/
theorem unpack_all {t : Addr} {Q : List Value → Shared → Prop} (hot : HotAt A x1 s.heap) (ht : IsTup s.heap t items) (hQ : ∀ h', Heap.ExtBut s.heap.objs.size s.heap h' → Q items.toList { s with heap := h' }) :
    wpAny (model prog w) A (unpackItems (.ref t) items.size none) Q E s := by
  have htn : t ≠ s.heap.objs.size := (let ⟨_, q, _⟩ := ht; Nat.ne_of_lt (Heap.lt_size q))
  obtain ⟨hh, o1, vs1, g1, d1, c1⟩ := hot
  have nx : x1 ≠ s.heap.objs.size := Nat.ne_of_lt (Heap.lt_size g1)
  unfold unpackItems
  refine wpAny_bind ?_
  unfold notIterableAtAll
  refine wpAny_bind (wpAny_specialOf ht.typeIs slot_tuple_iter.lookup (wpAny_pure ?_))
  simp only [Bool.false_eq_true, if_false]
  refine wpAny_bind (wpAny_holding (iter_tuple ht (wpAny_bind (wpAny_holding (draw_tuple htn items.size 0 _ _ ⟨_, Heap.get?_push_size _ rfl, rfl, rfl⟩ (ht.push _) (by omega) fun k ki ks => ?_)))))
  have all : List.take items.size (List.drop 0 items.toList) = items.toList := by
    rw [List.drop_zero, List.take_of_length_le (by simp)]
  rw [all, if_neg (by simp)]
  have kt : IsTup k t items := (ht.push _).extBut ks.extBut htn
  have kx : k.get? x1 = some o1 := ks.extBut x1 o1 nx (Heap.get?_push_of_some _ g1)
  refine wpAny_bind (wpAny_holding (tup_end ⟨hh, o1, vs1, kx, d1, c1⟩ ki kt (by simp) fun k2 ke => ?_))
  simp only [Option.isSome_none, Bool.false_eq_true, if_false]
  exact wpAny_pure (hQ k2 fun b u hb e => ke b u hb (ks.extBut b u hb (Heap.get?_push_of_some _ e)))
end
/-- wherever the context stands, an exception is handled whose context is None -/
def Hot (X : Cx) : Prop := ∀ (pins : List (Addr × Obj)) (σ : L2.St) (H : Hp) (s : Shared), Inv X pins σ H s → ∃ x1, HotAt X.A x1 s.heap
theorem hot_of {X : Cx} (c : L2H.HotC X) : Hot X := fun _ _ _ _ I => c.at I
section
variable {X : Cx} {K : PySem.W.Frag} {pos : Pos}
theorem pg_tupH {es : List Expr} {k : Nat} {t : TGs} {n : Nat} (hc : Hot X) (h : PGs X es t) (hn : (assignEach es X.env).length = n := by rfl) (hst : (assignEach es X.env).findIdx? (·.1) = none := by rfl) (hk : X.K = K := by rfl) : PG X (.Tuple es k pos) (gTup K n t) := by
  subst hk
  refine ⟨fun pins s σ H v u Q I r hw => ?_⟩
  obtain ⟨a, xs, rfl, hq, hl, hw⟩ := hw
  cases r
  obtain ⟨x1, hot⟩ := hc pins σ H s I
  obtain ⟨its, rv, ht, hz⟩ := I.tuple hq
  have hsz : (assignEach es X.env).length = its.toArray.size := by simp [hn, ← hl, rv.length]
  rw [assign_Tuple]
  refine wpAny_bind (wpAny_standAt ?_)
  unfold unpack
  rw [hsz, hst]
  refine wpAny_bind (wpAny_holding (unpack_all hot ht fun h' hx => ?_))
  exact h.run pins _ σ H xs _ Q (I.kept (t' := s.toks) fun b o e => hx b o (Nat.ne_of_lt (Heap.lt_size e)) e) (by simpa using rv) hw
/-- a block that starts where the exception is pinned -/
theorem hot_blk {pins : List (Addr × Obj)} {σ : L2.St} {H : Hp} {s : Shared} {scope : Scope} {cenv : Env} {fp : List Addr} (c : L2H.HotC X) (I : Inv X pins σ H s) (hf : ∀ b ∈ fp, FpOk X pins H b) : Hot (X.blk s H scope cenv fp) := fun pins' σ' H' s' J => by
  obtain ⟨p, ⟨hh, vs, d, c2⟩, hp⟩ := c
  obtain ⟨g, n, nl, nf, nc⟩ := I.pin p (List.mem_append_left _ hp)
  have n1 : p.1 ∉ frs X.stack := fun hm => (List.mem_cons.mp (I.stkSub p.1 hm)).elim nl nf
  have n2 : p.1 ∉ fp := fun hm => (hf p.1 hm).2.2.2.2.2 p (List.mem_append_left _ hp) rfl
  exact ⟨p.1, hh, p.2, vs, J.base.keep p.1 p.2 g n n1 n2, d, c2⟩
end
section
variable {X : Cx} {pins : List (Addr × Obj)} {σ : L2.St} {H : Hp} {s : Shared} {E : Value → Shared → Prop} {a it : Addr} {i : Nat} {tg : Expr}
theorem item_hot (I : Inv X pins σ H s) (hf : FpOk X pins H it) (st : s.heap.IsListIter it a i) (go : (Itl X.K a).go i H) :
    wpAny (model X.prog X.w) X.A (pyNext (.ref it)) (fun r s1 => ∃ u, r = some u ∧ wpAny (model X.prog X.w) X.A (letOwnedTupleGo tg (.ref it) u) (fun _ s2 => ∃ x H', Inv X pins σ H' s2 ∧ RelV x u ∧ (Itl X.K a).yld i H x H' ∧ s2.heap.IsListIter it a (i + 1) ∧ H' it = none) E s1) E s := by
  obtain ⟨xs, x, hq, hx⟩ := go
  obtain ⟨its, rv, p, hz⟩ := I.list hq
  obtain ⟨u, hu, ru⟩ := rv.get hx
  obtain ⟨f0, f1, f2, f3, f4, f5⟩ := hf
  refine wpAny_pyNext_list_item st p.isList (x := u) (by simpa using hu) fun k kt sb => ?_
  have J : Inv X pins σ H { s with heap := k } := I.turned (t' := s.toks) (fun b o hb e => (sb.2 b hb).trans e) f0 f1 f3 f4 f5
  obtain ⟨o, e, c, d⟩ := id kt
  exact ⟨u, rfl, go_of (s := { s with heap := k }) e c d (by decide) ⟨x, H, J, ru, ⟨rfl, fun ys hy => by rw [I.list_inj hy hq]; exact hx⟩, kt, f0⟩⟩
theorem done_hot (hc : Hot X) (I : Inv X pins σ H s) (hf : FpOk X pins H it) (st : s.heap.IsListIter it a i) (stop : (Itl X.K a).stop i H) : wpAny (model X.prog X.w) X.A (pyNext (.ref it)) (fun r s1 => r = none ∧ Inv X pins σ H s1) E s := by
  obtain ⟨xs, hq, hx⟩ := stop
  obtain ⟨x1, hot⟩ := hc pins σ H s I
  obtain ⟨its, rv, p, hz⟩ := I.list hq
  obtain ⟨f0, f1, f2, f3, f4, f5⟩ := hf
  have hl := rv.length
  exact list_end hot st p.isList (by simp; omega) fun k eb => ⟨rfl, I.turned (t' := s.toks) (fun b o hb e => eb b o hb e) f0 f1 f3 f4 f5⟩
end
section
variable {X : Cx}
theorem lc_hot {pins : List (Addr × Obj)} {s : Shared} {σ : L2.St} {H : Hp} {Q : VK} {elt tg l : Expr} {ifs : List Expr} {scope : Scope} {own : List (Str × Nat)} {pos pos' : Pos} {tl : TE} {g : TG} {tt : TT} {te : TE} {use : Option (Value → Sem Unit)} {Qf : Value → Shared → Prop}
    (hc : L2H.HotC X) (hN : X.N.Nodup) (I : Inv X pins σ H s) (hl : PE X l tl) (ok : BlkOk X.N X.env.scope scope own)
    (hg : ∀ (s : Shared) (H : Hp) (C : Addr) (cl : List (Str × Addr)) (fp : List Addr), Hot (X.blk s H scope (compEnvC scope cl C X.env) fp) → PG (X.blk s H scope (compEnvC scope cl C X.env) fp) tg g)
    (ht : ∀ (s : Shared) (H : Hp) (C : Addr) (cl : List (Str × Addr)) (fp : List Addr), Hot (X.blk s H scope (compEnvC scope cl C X.env) fp) → PTs (X.blk s H scope (compEnvC scope cl C X.env) fp) ifs tt)
    (he : ∀ (s : Shared) (H : Hp) (C : Addr) (cl : List (Str × Addr)) (fp : List Addr), Hot (X.blk s H scope (compEnvC scope cl C X.env) fp) → PE (X.blk s H scope (compEnvC scope cl C X.env) fp) elt te) (hs : ∀ x, foldedSetIterable l X.env x = pure x)
    (h : tLc (iList X.K tl) g tt te (own.map (·.2)) σ H Q)
    (fin : ∀ D C s' m H', Inv X pins σ H' s' → Q (.ref D) H' → s'.heap.Ns C m → FpOk X pins H' C → compPost (model X.prog X.w) X.A X.xe use Qf (.ref D) C (.ok .next) s') :
    wpAny (model X.prog X.w) X.A (comprehension (.ListComp elt [⟨tg, l, ifs, 0⟩] scope pos) scope X.env pos' (newList []) false (eval l X.env) use) Qf X.xe s := by
  have fr : ∀ y ∈ scope.names, y.2 = .free → ∃ c, X.env.cells.lookup y.1 = some c := fun y hy e => (ok.free y hy e).elim (fun k => I.ok.has _ (.inl k)) (fun k => I.ok.has _ (.inr k))
  refine wpAny_comprehension_free (use := use) rfl hs (closure_ok fr) ok.kind (fun y hy e => by rw [ok.uniq y hy, e]) (thn (hl.run pins s σ H _ I h) fun v s1 hx => ?_)
  obtain ⟨x, H1, I1, r1, a, ex, ⟨xs, hq⟩, q⟩ := hx
  subst ex
  cases r1
  obtain ⟨its, rv, p, hz⟩ := I1.list hq
  refine wpAny_pyIter_list p.isList ?_
  -- the iterator's object
  generalize hit : s1.heap.objs.size = it
  generalize hs2 : ({ s1 with heap := s1.heap.push { cls := .type "list_iterator", data := .fields #[.ref a, .int 0 0] } } : Shared) = s2
  have I2 : Inv X pins σ H1 s2 := by
    rw [← hs2]
    exact I1.kept (t' := s1.toks) fun b o e => Heap.get?_push_of_some _ e
  have h2 : s2.heap = s1.heap.push { cls := .type "list_iterator", data := .fields #[.ref a, .int 0 0] } := by rw [← hs2]
  have st2 : s2.heap.IsListIter it a 0 := by
    rw [h2, ← hit]
    exact ⟨_, Heap.get?_push_size _ rfl, rfl, rfl⟩
  have f2 : FpOk X pins H1 it := I1.fpOk (by rw [hit]; exact Nat.le_refl _) (I1.hok.fresh (by rw [hit]; exact Nat.le_refl _))
  have lt2 : it < s2.heap.objs.size := (let ⟨_, e, _⟩ := st2; Heap.lt_size e)
  show wpAny _ _ _ _ _ s2
  refine wpAny_newObj_type (newEnv_comp ?_) (by show 0 ≤ sizeLine; decide)
  generalize hD : s2.heap.objs.size = D
  have hDn : H1 D = none := I2.hok.fresh (Nat.le_of_eq hD)
  obtain ⟨W, ⟨m0, w0⟩, turn⟩ := q D hDn
  -- the new list's object
  generalize hs3 : ({ s2 with heap := s2.heap.push { cls := .type "list", data := .seq ([] : List Value).toArray } } : Shared) = s3
  have h3 : s3.heap = s2.heap.push { cls := .type "list", data := .seq ([] : List Value).toArray } := by rw [← hs3]
  have I3 : Inv X pins σ (upd H1 D (.lst [])) s3 := by
    rw [← hs3]
    refine I2.laid (t' := s2.toks) (fun b o e => Heap.get?_push_of_some _ e) (Nat.le_of_eq hD) ⟨Nat.zero_le _, [], 0, .nil, ?_⟩
    rw [← hD]
    exact Heap.get?_push_size _ rfl
  have nD : it ≠ D := by rw [← hD]; exact Nat.ne_of_lt lt2
  have f3 : FpOk X pins (upd H1 D (.lst [])) it := ⟨(upd_ne nD).trans f2.1, f2.2⟩
  have f3' : ∀ b ∈ [it], FpOk X pins (upd H1 D (.lst [])) b ∧ b < s3.heap.objs.size := fun b hb => by
    have e : b = it := by simpa using hb
    rw [e]
    exact ⟨f3, by rw [h3, Heap.size_push]; exact Nat.lt_succ_of_lt lt2⟩
  have st3 : s3.heap.IsListIter it a 0 := st2.at fun o e => by rw [h3]; exact Heap.get?_push_of_some _ e
  have I4 := block_start I3 ok hN f3'
  have hotB : ∀ ce, Hot (X.blk s3 (upd H1 D (.lst [])) scope ce [it]) := fun ce => hot_blk hc I3 fun b hb => (f3' b hb).1
  have pg := hg s3 (upd H1 D (.lst [])) s3.heap.objs.size (cellsFrom (s3.heap.objs.size + 1) scope.names (cloFrom X.env.cells scope.names [])) [it] (hotB _)
  have pt := ht s3 (upd H1 D (.lst [])) s3.heap.objs.size (cellsFrom (s3.heap.objs.size + 1) scope.names (cloFrom X.env.cells scope.names [])) [it] (hotB _)
  have pe := he s3 (upd H1 D (.lst [])) s3.heap.objs.size (cellsFrom (s3.heap.objs.size + 1) scope.names (cloFrom X.env.cells scope.names [])) [it] (hotB _)
  show codeAny _ _ (.compStart (.ListComp elt [⟨tg, l, ifs, 0⟩] scope pos) 0 (.ref it) (.ref D) (compEnvC scope (cellsFrom (s3.heap.objs.size + 1) scope.names (cloFrom X.env.cells scope.names [])) s3.heap.objs.size X.env)) (compPost (model X.prog X.w) X.A X.xe use Qf (.ref D) s3.heap.objs.size) { s3 with heap := pushCells (s3.heap.push { cls := .type "dict", data := .dict #[] }) scope.names }
  generalize hce : compEnvC scope (cellsFrom (s3.heap.objs.size + 1) scope.names (cloFrom X.env.cells scope.names [])) s3.heap.objs.size X.env = ce at I4 pg pt pe ⊢
  have hotC := hotB ce
  have cL : ce.locals = s3.heap.objs.size := by subst hce; rfl
  generalize hH3 : upd H1 D (.lst []) = H3 at I3 I4 pg pt pe w0 f3 f3' hotC
  generalize hs4 : ({ s3 with heap := pushCells (s3.heap.push { cls := .type "dict", data := .dict #[] }) scope.names } : Shared) = s4 at I4 ⊢
  have st4 : s4.heap.IsListIter it a 0 := st3.at fun o e => by rw [← hs4]; exact pushCells_keeps _ _ _ _ (Heap.get?_push_of_some _ e)
  have stat : ∀ {σ' : L2.St} {H' : Hp} {s' : Shared}, Inv (X.blk s3 H3 scope ce [it]) [] σ' H' s' → H' it = none → FpOk (X.blk s3 H3 scope ce [it]) [] H' it := fun {σ' H' s'} J hn =>
    ⟨hn, (J.ok.exf it (by simp)).1, J.ok.exfs it (by simp), .inl (by simp), fun x c e => (J.ok.exf it (by simp)).2 x c e, fun p hp => absurd (show p ∈ ([] : List (Addr × Obj)) ++ [] from hp) (by simp)⟩
  have loop : codeAny (model X.prog X.w) X.A (.compLoop (.ListComp elt [⟨tg, l, ifs, 0⟩] scope pos) 0 (.ref it) (.ref D) ce) (compPost (model X.prog X.w) X.A X.xe use Qf (.ref D) s3.heap.objs.size) s4 := by
    refine compLoop_any (fun n s' => ∃ i H', Inv (X.blk s3 H3 scope ce [it]) [] (wipe σ (own.map (·.2))) H' s' ∧ s'.heap.IsListIter it a i ∧ H' it = none ∧ W i n H') ?_ m0 ⟨0, H3, I4, st4, f3.1, w0⟩
    rintro n s5 ⟨i, H5, I5, st5, n5, w5⟩
    rcases turn i n H5 w5 with ⟨stop, qq⟩ | ⟨go, Nx, hNx, step⟩
    · refine thnF (done_hot (X := X.blk s3 H3 scope ce [it]) (E := fun _ _ => False) hotC I5 (stat I5 n5) st5 stop) fun r s6 ⟨hr, I6⟩ => ?_
      subst hr
      have I7 : Inv X pins σ H5 s6 := I3.call' (ch := [it]) I6.os I6.base I6.hok I6.bare fun b hb => (let z := (f3' b hb).1; ⟨z.2.2.2.1, z.2.1, z.2.2.2.2.1, z.2.2.2.2.2⟩)
      have nC : H5 s3.heap.objs.size = none := by
        rw [← cL]
        exact I6.free
      obtain ⟨m, hn, _⟩ := I6.loc
      exact fin D s3.heap.objs.size s6 m H5 I7 qq (by rw [← cL]; exact hn) (I3.fpOk (Nat.le_refl _) nC)
    · refine thnF (item_hot (X := X.blk s3 H3 scope ce [it]) (E := fun _ _ => False) (tg := tg) I5 (stat I5 n5) st5 go) fun r s6 ⟨u, hr, h6⟩ => ?_
      subst hr
      refine thnF h6 fun _ s7 ⟨x, H7, I7, r7, y7, st7, n7⟩ => ?_
      obtain ⟨o7, e7, c7, d7⟩ := id st7
      have ob7 : ∀ b ∈ [it], ∃ o, s7.heap.get? b = some o ∧ ∀ v, o.data ≠ .cell v := fun b hb => by
        have e : b = it := by simpa using hb
        rw [e]
        exact ⟨o7, e7, fun v z => by rw [d7] at z; cases z⟩
      have I7' := I7.pinned (fp := [it]) (fun b hb => by
        have e : b = it := by simpa using hb
        rw [e]
        exact stat I7 n7) ob7
      refine thnF (pg.run _ s7 _ H7 x u _ I7' r7 (step x H7 y7)) fun _ s8 ⟨σ8, H8, I8, hw8, q8⟩ => ?_
      refine thnF (pt.run _ s8 σ8 H8 _ I8 q8) fun b s9 ⟨H9, I9, q9⟩ => ?_
      have again : ∀ {s' : Shared} {H' : Hp}, Inv (X.blk s3 H3 scope ce [it]) ([] ++ pinsAt [it] s7.heap) σ8 H' s' → Nx H' → ∃ m, m < n ∧ ∃ i H', Inv (X.blk s3 H3 scope ce [it]) [] (wipe σ (own.map (·.2))) H' s' ∧ s'.heap.IsListIter it a i ∧ H' it = none ∧ W i m H' := fun {s' H'} J nx => by
        obtain ⟨m', hm, w'⟩ := hNx H' nx
        have pin := J.pin (it, o7) (List.mem_append_right _ (List.mem_append_right _ (mem_pinsAt (by simp) e7)))
        have len : (wipe σ (own.map (·.2))).length = σ8.length := by rw [← hw8, wipe_length]
        exact ⟨m', hm, i + 1, H', (J.unpinned (pins := [])).weak len (fun j v e => by rw [← hw8] at e; exact (wipe_some e).1), ⟨o7, pin.1, c7, d7⟩, pin.2.1, w'⟩
      cases b with
      | false =>
        simp only [Bool.false_eq_true, if_false] at q9 ⊢
        exact again I9 q9
      | true =>
        simp only [if_true] at q9 ⊢
        refine thnF (pe.run _ s9 σ8 H9 _ I9 q9) fun z s10 ⟨yv, H10, I10, r10, acc, hD10, hz10, nx⟩ => ?_
        exact app_ok (X := X.blk s3 H3 scope ce [it]) I10 hD10 hz10 r10 fun s11 I11 => again I11 nx
  exact codeAny_compStart_list loop (wpAny_pyIter_listiter st4 loop)
end
section
variable {X : Cx}
/-- name = [..] over a list, while an exception is handled -/
theorem ps_setLcH {K : PySem.W.Frag} {i : Nat} {y : Str} {py : Pos} {elt tg l : Expr} {ifs : List Expr} {scope : Scope} {own : List (Str × Nat)} {pos spos : Pos} {tl : TE} {g : TG} {tt : TT} {te : TE} (hc : L2H.HotC X) (hN : X.N.Nodup) (hy : X.N[i]? = some y) (hyl : X.env.scope.names.lookup y = some .local)
    (hsw : swapsWith (.ListComp elt [⟨tg, l, ifs, 0⟩] scope pos) (some (.Name y py)) spos.line X.env = pure true) (hl : PE X l tl) (ok : BlkOk X.N X.env.scope scope own)
    (hg : ∀ (s : Shared) (H : Hp) (C : Addr) (cl : List (Str × Addr)) (fp : List Addr), Hot (X.blk s H scope (compEnvC scope cl C X.env) fp) → PG (X.blk s H scope (compEnvC scope cl C X.env) fp) tg g)
    (ht : ∀ (s : Shared) (H : Hp) (C : Addr) (cl : List (Str × Addr)) (fp : List Addr), Hot (X.blk s H scope (compEnvC scope cl C X.env) fp) → PTs (X.blk s H scope (compEnvC scope cl C X.env) fp) ifs tt)
    (he : ∀ (s : Shared) (H : Hp) (C : Addr) (cl : List (Str × Addr)) (fp : List Addr), Hot (X.blk s H scope (compEnvC scope cl C X.env) fp) → PE (X.blk s H scope (compEnvC scope cl C X.env) fp) elt te) (hs : ∀ x, foldedSetIterable l X.env x = pure x := by intro _; rfl) (hk : X.K = K := by rfl) :
    PS X (.Assign [.Name y py] (.ListComp elt [⟨tg, l, ifs, 0⟩] scope pos) spos) (tAsg (tLc (iList K tl) g tt te (own.map (·.2))) (gName i)) := by
  subst hk
  refine ⟨fun pins s σ H D I h => ?_⟩
  rw [exec_Assign_Name_used _ _ _ _ hsw]
  refine wpAny_bind (wpAny_standAt (wpAny_bind ?_))
  have h : tLc (iList X.K tl) g tt te (own.map (·.2)) σ H (fun x H1 => gName i x σ H1 D.nx) := h
  show wpAny _ X.A (do let _ ← comprehension (.ListComp elt [⟨tg, l, ifs, 0⟩] scope pos) scope X.env (firstIterPos [⟨tg, l, ifs, 0⟩] pos) (newList []) false (eval l X.env) (some (assign (.Name y py) X.env))) _ _ s
  refine wpAny_bind (thn (lc_hot (Qf := fun _ s' => SP X pins D .next s') hc hN I hl ok hg ht he hs h fun L C s' m H' I' q hn f => ?_) fun _ s' hq => wpAny_pure (wpAny_pure hq))
  show wpAny _ _ (assign (.Name y py) X.env (.ref L)) _ _ _
  obtain ⟨f0, f1, f2, f3, f4, f5⟩ := f
  refine wpAny_assign_Name (store_ok2 (v := V.ref L) I' hN hy (.inl hyl) rfl (fun s2 I2 ⟨b, sb, hb⟩ => ?_) (.inr hyl))
  have hCb : C ≠ b := hb.elim (fun z => by rw [z]; exact f1) fun z e => f4 y b z e.symm
  exact ⟨m, hn.sameBut sb hCb, fun h3 sb3 => ⟨_, H', I2.turned (t' := s2.toks) (fun b o hb e => (sb3.2 b hb).trans e) f0 f1 f3 f4 f5, q⟩⟩
end
/-! ### a def that is handed the exception: what it promises, told of the exception's class and place -/
structure FnZ (P : Program) (w : World) (K : PySem.W.Frag) (mg : Str → Option Value) (base : Heap) (k : Nat) (f : Addr) (fd : FuncData) (ps : List Str) (sp : Value → Addr → Sp) : Prop where
  len : ∀ c x vs H Q E, sp c x vs H Q E → vs.length = ps.length
  run : ∀ (A : Around) (outer : List Env) (s : Shared) (H : Hp) (args : Args) (us : List Value) (vs : List V) (Q : VK) (E : XK) (p : Addr × Obj) (c : Value), L2H.RoomH k A → L2H.Hot1 A p → Zc c none p.2 → L2H.PinOk outer H s p → Env0 P w K mg base A outer s H → BindsTo s fd args (ps.zip us) → Vals vs us → sp c p.1 vs H Q E →
    codeAny (model P w) A (.call (.ref f) args) (CR CX0 outer P w H s Q E) s
theorem fn_ofZ {P : Program} {w : World} {K : PySem.W.Frag} {mg : Str → Option Value} {base : Heap} {k : Nat} {x qual : Str} {st : Stmt} {f : Addr} {fd : FuncData} {N ps : List Str} {sp : Value → Addr → Sp} (F : Fun K x qual st f fd) (S : FnScope N ps (defScope st)) (len : ∀ c x vs H Q E, sp c x vs H Q E → vs.length = ps.length)
    (body : ∀ (cdv : Value) (A : Around) (outer : List Env) (s : Shared) (H : Hp) (vs : List V) (Q : VK) (E : XK) (p : Addr × Obj) (c : Value), L2H.Hot1 (A.deeper (envOfC qual (defScope st) s.heap.objs.size f cdv)) p → Zc c none p.2 → L2H.RoomH k (A.deeper (envOfC qual (defScope st) s.heap.objs.size f cdv)) → sp c p.1 vs H Q E →
      ∃ t, PSs (L2H.cxH CX0 P w K mg base N qual (defScope st) f cdv A outer s H E p).nox (defBody st) t ∧ t { nx := fun _ H' => Q .non H', rt := Q } (L2.start N vs) H) : FnZ P w K mg base (k + 1) f fd ps sp := by
  obtain ⟨oc, od, kV, doc, pm, an, cdv, ct, osl, rfl, lk, hcd⟩ := F.ex
  refine ⟨len, fun A outer s H args us vs Q E p c hr hot hz hpin e0 hb r hsp => ?_⟩
  have KX : K.In s.heap := e0.mod.kin.keeps fun b o e => (e0.bs b o e).1
  have lim : s.heap.NoLimit := e0.mod.nolimit.keeps fun b o e => (e0.bs b o e).1
  have kinds : ∀ y ∈ ps.zip us, (defScope st).names.lookup y.1 = some .local ∨ ((defScope st).names.lookup y.1 = some .cell ∧ ((cellsFrom (s.heap.objs.size + 1) (defScope st).names []).lookup y.1).isSome = true) := fun ⟨n, v⟩ hy =>
    (S.par n (List.of_mem_zip hy).1).elim .inl fun q => .inr ⟨q, PySem.W.cellsFrom_some _ _ _ (.inl q)⟩
  refine codeAny_call_function hr.depth (KX _ _ lk) rfl S.co S.gen rfl (PySem.W.codeRec_of KX hcd) (hb _ _ _ _ (wpAny_newFunctionEnv_cells S.kind kinds fun env he s1 y => ?_))
  subst he
  refine ⟨lim.keeps y.toInCall.keep, codeAny_func ?_⟩
  obtain ⟨t, ht, hq⟩ := body cdv A outer s H vs Q E p c hot hz (hr.deeper _) hsp
  have I := L2H.inv_startH (CX := CX0) (E := E) S hpin e0 (len _ _ _ _ _ _ hsp) r y
  refine wpAny_mono (ht.nox.run [] s1 (L2.start N vs) H _ I hq) (fun fl s' hs => ?_) fun e s' hs => hs
  have fin : ∀ {σ' : L2.St} {H' : Hp} {v : V} {u : Value}, Inv (L2H.cxH CX0 P w K mg base N qual (defScope st) f cdv A outer s H E p) [] σ' H' s' → RelV v u → Q v H' → CE outer P w H s Q u s' := fun {σ' H' v u} J rv q => ⟨v, H', J.os, J.bare, J.base, J.hok, rv, q⟩
  cases fl with
  | ret u =>
    obtain ⟨v, σ', H', J, rv, q⟩ := hs
    exact fin J rv q
  | next =>
    obtain ⟨σ', H', J, q⟩ := hs
    exact fin (v := V.non) (u := Value.none) J rfl q
  | brk => exact hs.elim fun _ z => z.elim fun _ z => z.2.elim
  | cont => exact hs.elim fun _ z => z.elim fun _ z => z.2.elim
/-- its call in the suite that holds the exception -/
def tCallZ (sp : Value → Addr → Sp) (c : Value) (x : Addr) (t : TA) : TE := fun σ H Q => t σ H fun vs H1 => sp c x vs H1 Q E0
theorem pe_callZ {X : Cx} {k : Nat} {f a : Addr} {oe : Obj} {c : Value} {pn : List (Addr × Obj)} {fd : FuncData} {ps : List Str} {sp : Value → Addr → Sp} {x : Str} {q pos : Pos} {e : Expr} {es : List Expr} {t : TA} (F : FnZ X.prog X.w X.K X.mg X.base k f fd ps sp) (hr : L2H.RoomH k (X.suite a ((a, oe) :: pn)).A)
    (hz : L2N.Zn c none oe) (hf : ∃ vs, oe.data = .fields vs) (hg : Gl (X.suite a ((a, oe) :: pn)) x) (hm : X.mg x = some (.ref f)) (hk : PySem.W.keepIn X.K (.ref f) = true) (hb : Binds X.K fd ps [])
    (ha : PA (X.suite a ((a, oe) :: pn)) (e :: es) t) (hdb : (x == ("__debug__" : Str)) = false := by decide) (he : starEach (e :: es) (X.suite a ((a, oe) :: pn)).env = (false, eval e (X.suite a ((a, oe) :: pn)).env) :: starEach es (X.suite a ((a, oe) :: pn)).env := by rfl) (hpl : (backTo pos (starEach es (X.suite a ((a, oe) :: pn)).env)).any (·.1) = false := by rfl) :
    PE (X.suite a ((a, oe) :: pn)) (.Call (.Name x q) (e :: es) [] pos) (tCallZ sp c a t) := by
  refine ⟨fun pins s σ H Q I h => ?_⟩
  refine wpAny_Call_Name_kw (ld_glob I hg hm ?_ hdb)
  refine PySem.W.callWith_K (h₀ := (X.suite a ((a, oe) :: pn)).base) I.ok.mod.kin hk (thn (ha.run pos pins s σ H _ I h) fun us s1 ⟨vs, H1, I1, r, q1⟩ => ⟨I1.kIn, ?_⟩) he hpl
  obtain ⟨fv, hfv⟩ := hf
  have hot : L2H.Hot1 (X.suite a ((a, oe) :: pn)).A (a, oe) := ⟨rfl, fv, hfv, hz.2.2 fv hfv⟩
  have P1 := I1.pin (a, oe) (List.mem_append_left _ List.mem_cons_self)
  have pin : L2H.PinOk (X.suite a ((a, oe) :: pn)).stack H1 s1 (a, oe) := ⟨P1.1, P1.2.1, fun hm => (List.mem_cons.mp (I1.stkSub a hm)).elim P1.2.2.1 P1.2.2.2.1, P1.2.2.2.2⟩
  have b := hb s1 us I1.kIn (by rw [List.append_nil, ← r.length]; exact F.len _ _ _ _ _ _ q1)
  rw [List.append_nil] at b
  refine wpAny_call (codeAny_mono (F.run _ _ s1 H1 ⟨us, []⟩ us vs Q E0 (a, oe) c hr hot ⟨hz.1, hz.2.1⟩ pin I1.env0 b r q1) fun r s' hq => ?_)
  cases r with
  | error e => exact hq.elim
  | ok fl =>
    cases fl with
    | ret u => exact I1.after hq
    | next => exact hq.elim
    | brk => exact hq.elim
    | cont => exact hq.elim
/-- isinstance of the exception, in such a def -/
theorem call_isZ {X : Cx} {D : Addr} {p : Addr × Obj} {K : PySem.W.Frag} (C : ExcC K D) (hz : Zc (.ref D) none p.2) (hf : ∃ vs, p.2.data = .fields vs) (hp : p ∈ X.pn) (hk : X.K = K := by rfl) : CallR X (.builtin "isinstance") (rIsE K D p.1) := by
  subst hk
  intro pins s σ H xs us Q I r h
  obtain ⟨c, cv, b, rfl, hcv, e, q⟩ := h
  cases r with
  | cons rx rr =>
    cases rr with
    | cons rt rr =>
      cases rr
      cases rx
      cases hcv _ rt
      obtain ⟨hget, _⟩ := I.pin p (List.mem_append_left _ hp)
      obtain ⟨vs, hv⟩ := hf
      have J : PySem.W.InstAt s.heap p.1 p.2 D none := by
        obtain ⟨pa, oc, od, oda, osl⟩ := p
        obtain ⟨h1, h2⟩ := hz
        dsimp only at h1 h2 hv
        subst h1 h2 hv
        exact ⟨hget, rfl, rfl, trivial⟩
      exact PySem.W.kia_one (PySem.W.handS_kitx_exc C.hg C.hk C.hs C.hd C.ha C.hn C.ht C.hm) I.kIn J e (fun z => nomatch z) fun tk => ⟨.bl b, H, I.kept (t' := tk) fun _ _ z => z, rfl, q⟩
/-! ### pairs of a word and a truth -/
open Evl Z
abbrev Prs (K : PySem.W.Frag) (H : Hp) (xs : List V) (ps : List (Str × Bool)) : Prop := PySem.Paired (fun x (p : Str × Bool) => ∃ t, x = V.ref t ∧ SqT K H t [.str p.1, .bl p.2]) xs ps
theorem Prs.ex {K : PySem.W.Frag} {H H' : Hp} {xs : List V} {ps : List (Str × Bool)} (e : Ex H H') (h : Prs K H xs ps) : Prs K H' xs ps := Z.Paired.imp (fun _ _ ⟨t, a, b⟩ => ⟨t, a, ex_t e b⟩) h
def EvP (K : PySem.W.Frag) (te : TE) (σ : L2.St) (H : Hp) (ps : List (Str × Bool)) : Prop := EvG te σ H fun H1 v H2 => ∃ p xs, v = .ref p ∧ H1 p = none ∧ H2 p = some (.lst xs) ∧ Prs K H2 xs ps
section
variable {K : PySem.W.Frag} {σ : L2.St} {H : Hp} {t1 t2 t3 t4 tx tb : TE} {u1 u2 : Str} {b1 b2 : Bool}
theorem ep_two (h1 : Ev t1 σ H (.str u1)) (h2 : Ev t2 σ H (.bl b1)) (h3 : Ev t3 σ H (.str u2)) (h4 : Ev t4 σ H (.bl b2)) : EvP K (tLst (tCons (tTup (tCons t1 (tCons t2 tNil))) (tCons (tTup (tCons t3 (tCons t4 tNil))) tNil))) σ H [(u1, b1), (u2, b2)] := fun H1 e Q q => by
  refine (eu_tup (ea_cons h1 (ea_cons h2 ea_nil)) (by show 2 ≤ 100000; decide)) H1 e (fun x H2 => tTup (tCons t3 (tCons t4 tNil)) σ H2 fun y H3 => [x, y].length ≤ sizeLine ∧ ∀ p, H3 p = none → Q (.ref p) (upd H3 p (.lst [x, y]))) fun x H2 _ e2 a2 => ?_
  refine (eu_tup (ea_cons h3 (ea_cons h4 ea_nil)) (by show 2 ≤ 100000; decide)) H2 (e.trans e2) _ fun y H3 _ e3 a3 => ⟨by show 2 ≤ sizeLine; decide, fun p hp => q (.ref p) _ ((e2.trans e3).trans (Ex.new hp)) ⟨p, [.ref x, .ref y], rfl, fresh_back (e2.trans e3) hp, upd_same, ?_⟩⟩
  exact .cons ⟨x, rfl, ex_t (e3.trans (Ex.new hp)) (SqT.of a2)⟩ (.cons ⟨y, rfl, ex_t (Ex.new hp) (SqT.of a3)⟩ .nil)
theorem ep_cat {p0 : Addr} {xs0 : List V} {ps0 ps1 : List (Str × Bool)} (ha : Ev tx σ H (.ref p0)) (h0 : H p0 = some (.lst xs0)) (P0 : Prs K H xs0 ps0) (hb : EvP K tb σ H ps1) (hz : ps0.length + ps1.length ≤ 1000) : EvP K (tOp rCat tx tb) σ H (ps0 ++ ps1) := fun H1 e Q q =>
  ha H1 e _ fun H2 e2 => hb H2 (e.trans e2) _ fun v H3 e3 hv => by
    obtain ⟨p, xs, rfl, hp, h3, P1⟩ := hv
    have e03 := (e.trans e2).trans e3
    refine ⟨p0, p, xs0, xs, rfl, rfl, e03 _ _ h0, h3, sz_of ?_, fun l hl => q (.ref l) _ ((e2.trans e3).trans (Ex.new hl)) ⟨l, xs0 ++ xs, rfl, fresh_back (e2.trans e3) hl, upd_same, Z.Paired.app (Prs.ex (e03.trans (Ex.new hl)) P0) (Prs.ex (Ex.new hl) P1)⟩⟩
    have l0 := Z.Paired.len P0
    have l1 := Z.Paired.len P1
    omega
theorem ep_lc {i j : Nat} {vs : List Nat} {L : Addr} {xs : List V} {ps : List (Str × Bool)} (hl : Ev tx σ H (.ref L)) (hL : H L = some (.lst xs)) (P0 : Prs K H xs ps) (hz : ps.length ≤ 1000) (hw : ∀ x y, wipe (((wipe σ vs).set i (some x)).set j (some y)) vs = wipe σ vs)
    (hi : ∀ x y : V, (((wipe σ vs).set i (some x)).set j (some y))[i]? = some (some x)) (hj : ∀ x y : V, (((wipe σ vs).set i (some x)).set j (some y))[j]? = some (some y)) :
    EvL (tLc (iList K tx) (gTup K 2 (gCons (gName i) (gCons (gName j) gNil))) (tB (tVar j)) (tVar i) vs) σ H ((ps.filter (·.2)).map fun p => V.str p.1) := fun H1 e Q q => hl H1 e _ fun H2 e2 => by
  have hL2 := (e.trans e2) _ _ hL
  have P2 := Prs.ex (e.trans e2) P0
  have hlen := Z.Paired.len P0
  refine ⟨L, rfl, ⟨xs, SqL.of hL2⟩, fun Dl hD => lc_list (xs := xs) (fun m H' => Ex H2 H' ∧ H' Dl = some (.lst (((ps.take m).filter (·.2)).map fun p => V.str p.1))) ⟨Ex.new hD, upd_same⟩ (fun m H' _ p => SqL.of (p.1 _ _ hL2)) (fun m x H' hx p => ?_) (fun H' p => q Dl H' (fresh_back e2 hD) (e2.trans p.1) ?_)⟩
  · obtain ⟨b, hb, t, rfl, ht⟩ := Z.Paired.at P2 hx
    have tk : ps.take (m + 1) = ps.take m ++ [b] := by
      rw [List.take_add_one, hb]
      rfl
    refine ⟨t, _, rfl, ex_t p.1 ht, rfl, .str b.1, [.bl b.2], rfl, .bl b.2, [], rfl, rfl, hw _ _, .bl b.2, hj _ _, b.2, rfl, ?_⟩
    have flen : ((ps.take m).filter (·.2)).length ≤ 1000 := by
      have h1 := List.length_filter_le (fun p : Str × Bool => p.2) (ps.take m)
      rw [List.length_take] at h1
      omega
    cases hb2 : b.2 with
    | true =>
      refine iteT ⟨.str b.1, hi _ _, _, p.2, sz_lt (by rw [List.length_map]; omega), Ex.mut p.1 hD, ?_⟩
      rw [upd_same, tk, List.filter_append, List.map_append, List.filter_cons, hb2]
      rfl
    | false =>
      refine iteF ⟨p.1, ?_⟩
      rw [p.2, tk, List.filter_append, List.map_append, List.filter_cons, hb2]
      show _ = some (HO.lst (_ ++ []))
      rw [List.append_nil]
  · rw [p.2, hlen, List.take_length]
theorem rc_isE {D x C : Addr} {b : Bool} (h : PySem.W.kitOne K (.ref D) (.ref C) = some b) : RC (rIsE K D x) [.ref x, .ref C] H (.bl b) := fun H1 _ _ q => ⟨.ref C, .ref C, b, rfl, fun _ r => r, h, q H1 (Ex.refl H1)⟩
theorem rc_isT {D x : Addr} {n : String} {b : Bool} (h : PySem.W.kitOne K (.ref D) (.type n) = some b) : RC (rIsE K D x) [.ref x, .ty n] H (.bl b) := fun H1 _ _ q => ⟨.ty n, .type n, b, rfl, fun _ r => r, h, q H1 (Ex.refl H1)⟩
end
end ZH
set_option Elab.async false
set_option linter.all false
set_option maxRecDepth 100000
set_option maxHeartbeats 4000000
/-! LAYD: values compared by what they hold; a comprehension over a tuple. -/
namespace Z
open PySem PySem.Spec PyProof.Rows L2 Evl
theorem canLay_ints : ∀ cs : List Int, PyData.canLayAll0 (cs.map PyData.int) = true
  | [] => rfl
  | c :: cs => by
    rw [List.map_cons, PyData.canLayAll0, canLay_ints cs]
    rfl
theorem depth_ints0 : ∀ cs : List Int, PyData.depthAll (cs.map PyData.int) = 0
  | [] => rfl
  | c :: cs => by
    rw [List.map_cons, PyData.depthAll, depth_ints0 cs]
    rfl
theorem shaped_ints (cs : List Int) : SeqAt.shaped (.list (cs.map PyData.int)) = true := by
  unfold SeqAt.shaped
  rw [PyData.canLay0, canLay_ints, PyData.depth, depth_ints0]
  rfl
theorem eqvAll_ints : ∀ cs : List Int, PyData.eqvAll (cs.map PyData.int) (cs.map PyData.int) = true
  | [] => by rw [List.map_nil, PyData.eqvAll]
  | c :: cs => by
    rw [List.map_cons, PyData.eqvAll, eqvAll_ints cs, PyData.eqv]
    simp
theorem eqv_ints (cs : List Int) : PyData.eqv (.list (cs.map PyData.int)) (.list (cs.map PyData.int)) = true := by
  rw [PyData.eqv, eqvAll_ints]
section
variable {K : PySem.W.Frag} {σ : L2.St} {H : Hp} {ta tb tl te : TE}
theorem dpAll_ints {H : Hp} : ∀ cs : List Int, DpAll K H (cs.map V.int) (cs.map PyData.int)
  | [] => .nil
  | c :: cs => .cons (.int c) (dpAll_ints cs)
theorem dp_ints {p : Addr} {cs : List Int} (h : SqL K H p (cs.map V.int)) : Dp K H (.ref p) (.list (cs.map PyData.int)) := .lst h (dpAll_ints cs)
theorem ev_eqInts {p q : Addr} {cs : List Int} (ha : Ev ta σ H (.ref p)) (hb : Ev tb σ H (.ref q)) (h1 : SqL K H p (cs.map V.int)) (h2 : SqL K H q (cs.map V.int)) : Ev (tOp (rEqD K) ta tb) σ H (.bl true) := by
  have h := rv_eqD (K := K) (dp_ints h1) (dp_ints h2) (shaped_ints cs) (shaped_ints cs)
  rw [eqv_ints] at h
  exact ev_op ha hb h
theorem ev_neInts {p q : Addr} {cs : List Int} (ha : Ev ta σ H (.ref p)) (hb : Ev tb σ H (.ref q)) (h1 : SqL K H p (cs.map V.int)) (h2 : SqL K H q (cs.map V.int)) : Ev (tOp (rNeD K) ta tb) σ H (.bl false) := by
  have h := rv_neD (K := K) (dp_ints h1) (dp_ints h2) (shaped_ints cs) (shaped_ints cs)
  rw [eqv_ints] at h
  exact ev_op ha hb h
theorem shaped_word {u : Str} (hu : PyData.strOk u = true) : SeqAt.shaped (.list [.str u]) = true := by
  unfold SeqAt.shaped
  rw [PyData.canLay0, PyData.canLayAll0, PyData.canLayAll0, PyData.canLay0, hu]
  rfl
theorem eqv_word (u : Str) : PyData.eqv (.list [.str u]) (.list [.str u]) = true := by
  rw [PyData.eqv, PyData.eqvAll, PyData.eqvAll, PyData.eqv]
  simp
theorem dp_word {p : Addr} {u : Str} (h : H p = some (.lst [.str u])) : Dp K H (.ref p) (.list [.str u]) := .lst (SqL.of h) (.cons (.str u) .nil)
theorem ev_eqWord {u : Str} (hu : PyData.strOk u = true) (ha : EvL ta σ H [.str u]) (hb : EvL tb σ H [.str u]) : Ev (tOp (rEqD K) ta tb) σ H (.bl true) := fun H1 e Q q =>
  ha H1 e _ fun p H2 hp e2 h2 => hb H2 (e.trans e2) _ fun r H3 hr e3 h3 => by
    have h := rv_eqD (K := K) (dp_word (e3 _ _ h2)) (dp_word h3) (shaped_word hu) (shaped_word hu)
    rw [eqv_word] at h
    exact h H3 (Ex.refl H3) Q fun H4 e4 => q H4 ((e2.trans e3).trans e4)
theorem ev_neWord {u : Str} (hu : PyData.strOk u = true) (ha : EvL ta σ H [.str u]) (hb : EvL tb σ H [.str u]) : Ev (tOp (rNeD K) ta tb) σ H (.bl false) := fun H1 e Q q =>
  ha H1 e _ fun p H2 hp e2 h2 => hb H2 (e.trans e2) _ fun r H3 hr e3 h3 => by
    have h := rv_neD (K := K) (dp_word (e3 _ _ h2)) (dp_word h3) (shaped_word hu) (shaped_word hu)
    rw [eqv_word] at h
    exact h H3 (Ex.refl H3) Q fun H4 e4 => q H4 ((e2.trans e3).trans e4)
/-- two tuples of two ints -/
theorem shaped_pair (x y : Int) : SeqAt.shaped (.tuple [.int x, .int y]) = true := rfl
theorem eqv_pair (x y : Int) : PyData.eqv (.tuple [.int x, .int y]) (.tuple [.int x, .int y]) = true := by
  rw [PyData.eqv, PyData.eqvAll, PyData.eqvAll, PyData.eqvAll, PyData.eqv, PyData.eqv]
  simp
theorem dp_pair {p : Addr} {x y : Int} (h : SqT K H p [.int x, .int y]) : Dp K H (.ref p) (.tuple [.int x, .int y]) := .tup h (.cons (.int x) (.cons (.int y) .nil))
theorem ev_nePair {p : Addr} {x y : Int} (ha : Ev ta σ H (.ref p)) (hp : SqT K H p [.int x, .int y]) (hb : EvG tb σ H fun _ v H2 => ∃ q, v = .ref q ∧ SqT K H2 q [.int x, .int y]) : Ev (tOp (rNeD K) ta tb) σ H (.bl false) := fun H1 e Q q =>
  ha H1 e _ fun H2 e2 => hb H2 (e.trans e2) _ fun v H3 e3 hv => by
    obtain ⟨r, rfl, hr⟩ := hv
    have h := rv_neD (K := K) (dp_pair (ex_t ((e.trans e2).trans e3) hp)) (dp_pair hr) (shaped_pair x y) (shaped_pair x y)
    rw [eqv_pair] at h
    exact h H3 (Ex.refl H3) Q fun H4 e4 => q H4 ((e2.trans e3).trans e4)
/-- a comprehension over a tuple -/
theorem el_lcT {t : TT} {a : Addr} {xs : List V} {j : Nat} {vs : List Nat} (f : Nat → Bool) (v : Nat → V) (h : Ev tl σ H (.ref a)) (hx : SqT K H a xs) (hz : xs.length ≤ 40000) (hw : ∀ x, wipe ((wipe σ vs).set j (some x)) vs = wipe σ vs)
    (ht : ∀ (i : Nat) (x : V) H1, Ex H H1 → xs[i]? = some x → EvT t ((wipe σ vs).set j (some x)) H1 (f i)) (he : ∀ (i : Nat) (x : V) H1, Ex H H1 → xs[i]? = some x → f i = true → Ev te ((wipe σ vs).set j (some x)) H1 (v i)) :
    EvL (tLc (iTup K tl) (gName j) t te vs) σ H (given xs.length f v) := fun H0 e Q q => h H0 e _ fun H1 e1 => ⟨a, rfl, ⟨xs, ex_t (e.trans e1) hx⟩, fun Dl hD =>
  lc_tup (xs := xs) (Cw H1 f v Dl) ⟨hD, Ex.new hD, upd_same⟩ (fun i H' _ p => ex_t ((e.trans e1).trans p.2.1) hx) (fun i x H' hi p => ⟨hw x, cw_turn p (by have := (List.getElem?_eq_some_iff.mp hi).1; omega) (ht i x H1 (e.trans e1) hi) (fun hf => he i x H1 (e.trans e1) hi hf)⟩)
    (fun H' p => q Dl H' (fresh_back e1 p.1) (e1.trans p.2.1) p.2.2)⟩
/-- all(a new list of truths) -/
theorem ev_allL {bs : List Bool} (ha : EvL ta σ H (bs.map V.bl)) : Ev (tCB (rAll K) (tCons ta tNil)) σ H (.bl (bs.all id)) := fun H1 e Q q =>
  ha H1 e _ fun p H2 _ e2 h2 => ⟨p, bs, rfl, sq_of h2, q H2 e2⟩
theorem el_call {sp : Sp} {dvs vs : List V} {E : XK} {ta : TA} {xs : List V} (h : EvA ta σ H vs) (hs : ∀ H1, Ex H H1 → ∀ Q : VK, (∀ l H2, Ex H1 H2 → H1 l = none → H2 l = some (.lst xs) → Q (.ref l) H2) → ∀ E : XK, sp (vs ++ dvs) H1 Q E) : EvL (tCall sp dvs E ta) σ H xs := fun H1 e Q q =>
  h H1 e _ fun H2 e2 => hs H2 (e.trans e2) Q (fun l H3 e3 hl h3 => q l H3 (fresh_back e2 hl) (e2.trans e3) h3) E
end
end Z
set_option Elab.async false
set_option linter.all false
set_option maxRecDepth 100000
set_option maxHeartbeats 4000000
/-! LAYS: a set that tuples of ints are put into one by one, and asked for. -/
namespace ZS
open PySem PySem.Spec PyProof.Rows L2
/-- the probe behind c steps -/
abbrev prb (m : Nat) (h : Int) (c : Nat) : SetTable.Probe := nth m (runAt m (SetTable.bits h % (m + 1)) (SetTable.bits h)) c
theorem prb_add (m : Nat) (h : Int) (c q : Nat) : nth m (prb m h c) q = prb m h (c + q) := (nth_add m c _ q).symm
theorem nth_clean (m : Nat) : ∀ (n : Nat) (p : SetTable.Probe), p.dummy = none → (nth m p n).dummy = none
  | 0, _, h => h
  | n + 1, p, h => nth_clean m n (adv m p) (by
    unfold adv
    split
    · exact h
    · exact h)
section
variable {P : Program} {w : World} {A : Around} {E : Value → Shared → Prop} {s : Shared} {S : Addr} {L : List (Addr × List Int)} {es : Array (Int × Value)} {ep : Nat} {t : SetTable}
theorem hash_row (R : SetTR P w s.heap S L es ep t) {i : Nat} {p : Addr × List Int} (h : L[i]? = some p) : (es[i]?.map (·.1)).getD 0 = thash P w p.2 := by
  rw [R.entry h]
  rfl
theorem place_row (R : SetTR P w s.heap S L es ep t) {i j : Nat} (h : t.place.toList[i]? = some j) : ∃ p, L[i]? = some p ∧ p ∈ L := by
  have a := (List.getElem?_eq_some_iff.mp h).1
  have b := R.tab.sz
  rw [List.length_map] at b
  rw [Array.length_toList] at a
  exact ⟨L[i]'(by omega), List.getElem?_eq_getElem _, List.getElem_mem _⟩
/-- asked for a tuple: the search from the c-th step on -/
theorem look_on (R : SetTR P w s.heap S L es ep t) {x : Addr} {k : List Int} (hx : IsT P w s.heap k x) (hu : A.units < cLine) {H : Int} (eH : thash P w k = H) {K : Nat} (k1 : K < 10 * SetTable.turns t.mask)
    (k2 : way t.mask H K ∉ t.place.toList) (k3 : ∀ c, c < K → way t.mask H c ∈ t.place.toList) {Q : SetFound → Shared → Prop} (yes : k ∈ L.map (·.2) → ∀ i, Q (.there (some i)) s) (no : k ∉ L.map (·.2) → ∀ j b, Q (.free j b) s) :
    ∀ (f c : Nat) (stand : Option SetTable.Probe), stand.getD (t.probeStart H) = prb t.mask H c → c ≤ K → K - c < f → (∀ (i : Nat) p, L[i]? = some p → p.2 = k → ∃ d, c ≤ d ∧ d < K ∧ t.place.toList[i]? = some (way t.mask H d)) →
      wpAny (model P w) A (setSearchFrom S (.ref x) H false f stand) Q E s := by
  intro f
  induction f with
  | zero => exact fun c _ _ _ hf => absurd hf (Nat.not_lt_zero _)
  | succ f ih =>
    intro c stand e1 hc hf ahead
    obtain ⟨ob, hob, _, hdat⟩ := R.ob
    have state : ∀ {α : Type} {g : Array (Int × Value) × Nat × SetTable → Sem α} {Q' : α → Shared → Prop}, wpAny (model P w) A (g (es, ep, t)) Q' E s → wpAny (model P w) A (setState S >>= g) Q' E s := fun h => wpAny_bind (wpAny_setState_of hob hdat R.fits h)
    have stepj : ∀ q, (nth t.mask (prb t.mask H c) q).j = way t.mask H (c + q) := fun q => congrArg SetTable.Probe.j (prb_add t.mask H c q)
    have spec := go_spec t R.tab.ris R.tab.dm (fun i => (es[i]?.map (·.1)).getD 0) H (10 * SetTable.turns t.mask) (K - c) (prb t.mask H c) (nth_clean t.mask c _ rfl) (by omega)
      (fun q hq => by
        rw [stepj]
        exact k3 _ (by omega)) (by
        rw [stepj, Nat.add_sub_cancel' hc]
        exact k2)
    rw [setSearchFrom_succ]
    refine state ?_
    dsimp only
    refine wp_if_neg R.gw ?_
    try refine wpAny_bind (wpAny_pure ?_)
    rw [e1]
    rcases spec with ⟨q, i, hq, hi, hh, none_yet, found⟩ | ⟨none_at, found⟩
    · rw [show t.probe (fun i => (es[i]?.map (·.1)).getD 0) H (prb t.mask H c) = _ from found]
      dsimp only
      rw [stepj] at hi ⊢
      rw [prb_add]
      obtain ⟨p, hp, hm⟩ := place_row R hi
      have pt := R.tup p hm
      have live : t.slot (way t.mask H (c + q)) = .live i := slot_live R.tab.ris hi
      have rest : wpAny (model P w) A (searchRest S (.ref x) H false f es t (way t.mask H (c + q)) i (prb t.mask H (c + (q + 1)))) Q E s := by
        unfold searchRest
        rw [R.entry hp]
        dsimp only
        refine wpAny_bind (wpAny_holding (wpAny_eqBool_tuple hu pt hx (state ?_)))
        dsimp only
        refine wp_if_neg (by rw [Bool.false_and]; decide) ?_
        try refine wpAny_bind (wpAny_pure ?_)
        rw [sameMem]
        dsimp only
        simp only [if_true, live, R.entry hp]
        refine wpAny_bind (wpAny_isSame_ref_self (wpAny_bind (wpAny_pure ?_)))
        simp only [if_true]
        by_cases same : p.2 = k
        · refine wp_if_pos (by simp [same]) ?_
          exact wpAny_pure (yes (List.mem_map.mpr ⟨p, hm, same⟩) i)
        · refine wp_if_neg (by simp [same]) ?_
          refine ih (c + (q + 1)) _ rfl (by omega) (by omega) fun i0 p0 h0 w0 => ?_
          obtain ⟨d, d1, d2, d3⟩ := ahead i0 p0 h0 w0
          have d4 : d ≠ c + q := fun z => by
            subst z
            have a := slot_live R.tab.ris d3
            rw [live] at a
            injection a with a
            subst a
            rw [hp] at h0
            exact same (by rw [Option.some.inj h0]; exact w0)
          have d5 : ¬ d < c + q := fun z => by
            refine none_yet (d - c) i0 (by omega) ?_ ?_
            · rw [stepj, Nat.add_sub_cancel' d1]
              exact d3
            · show (es[i0]?.map (·.1)).getD 0 = H
              rw [hash_row R h0, w0, eH]
          exact ⟨d, by omega, d2, d3⟩
      by_cases led : t.led = true
      · refine wp_if_neg (by simp [led]) ?_
        try refine wpAny_bind (wpAny_pure ?_)
        exact rest
      · refine wp_if_pos (by simp [led]) (wpAny_bind (seen_tup hx (fun y hy => ?_) ?_))
        · obtain ⟨e, he, ee⟩ := List.mem_map.mp hy
          have h1 : e ∈ es.toList := by
            have h2 : e ∈ es ∧ e.1 = H := by simpa using he
            simpa using h2.1
          rw [R.rows] at h1
          obtain ⟨p2, m2, e2⟩ := List.mem_map.mp h1
          exact ⟨p2.2, p2.1, by rw [← ee, ← e2], R.tup p2 m2⟩
        · refine wp_if_neg (by decide) ?_
          try refine wpAny_bind (wpAny_pure ?_)
          exact rest
    · rw [show t.probe (fun i => (es[i]?.map (·.1)).getD 0) H (prb t.mask H c) = _ from found]
      dsimp only
      refine wpAny_pure (no (fun hm => ?_) _ _)
      obtain ⟨p0, m0, w0⟩ := List.mem_map.mp hm
      obtain ⟨i0, h0⟩ := List.getElem?_of_mem m0
      obtain ⟨d, d1, d2, d3⟩ := ahead i0 p0 h0 w0
      refine none_at (d - c) i0 (by omega) ?_ ?_
      · rw [stepj, Nat.add_sub_cancel' d1]
        exact d3
      · show (es[i0]?.map (·.1)).getD 0 = H
        rw [hash_row R h0, w0, eH]
theorem look (R : SetTR P w s.heap S L es ep t) {x : Addr} {k : List Int} (hx : IsT P w s.heap k x) (hu : A.units < cLine) {Q : SetFound → Shared → Prop} (yes : k ∈ L.map (·.2) → ∀ i, Q (.there (some i)) s) (no : k ∉ L.map (·.2) → ∀ j b, Q (.free j b) s) :
    wpAny (model P w) A (setSearch S (.ref x) (thash P w k)) Q E s := by
  have room := R.room
  obtain ⟨K, k1, k2, k3⟩ := R.tab.first (by rw [List.length_map]; omega) (thash P w k)
  have few : 10 * SetTable.turns t.mask ≤ 1420 := by
    unfold SetTable.turns
    rcases R.tab.mok with e | e | e <;> omega
  unfold setSearch
  refine look_on R hx hu rfl k1 k2 k3 yes no 100000 0 none rfl (Nat.zero_le _) (by omega) fun i p hp hk => ?_
  have h1 : (L.map fun p => thash P w p.2)[i]? = some (thash P w k) := by
    rw [List.getElem?_map, hp, ← hk]
    rfl
  have h2 : i < t.place.toList.length := by
    have a := (List.getElem?_eq_some_iff.mp hp).1
    have b := R.tab.sz
    rw [List.length_map] at b
    rw [Array.length_toList]
    omega
  have h3 := List.getElem?_eq_getElem h2
  obtain ⟨d, d1, d2⟩ := R.tab.before k2 h1 h3
  exact ⟨d, Nat.zero_le _, d1, by rw [h3, d2]⟩
theorem find_tup (R : SetTR P w s.heap S L es ep t) {x : Addr} {k : List Int} (hx : IsT P w s.heap k x) (hu : A.units < cLine) {Q : Option Nat → Shared → Prop} (q : ∀ r : Option Nat, r.isSome = decide (k ∈ L.map (·.2)) → Q r s) :
    wpAny (model P w) A (setFind S (.ref x) (thash P w k)) Q E s := by
  obtain ⟨ob, hob, _, hdat⟩ := R.ob
  unfold setFind
  rw [show (100000 : Nat) = 99999 + 1 from rfl, setFindIn]
  refine wpAny_bind (wpAny_setState_of hob hdat R.fits ?_)
  dsimp only
  refine wp_if_neg (by simp [byScan, Value.scannable]) ?_
  try refine wpAny_bind (wpAny_pure ?_)
  refine wpAny_bind (look R hx hu (fun hm i => ?_) (fun hm j b => ?_))
  · exact wpAny_pure (q _ (by rw [decide_eq_true hm]; rfl))
  · exact wpAny_pure (q _ (by rw [decide_eq_false hm]; rfl))
end
section
variable {P : Program} {w : World} {A : Around} {E : Value → Shared → Prop} {s : Shared} {S : Addr} {L : List (Addr × List Int)} {es : Array (Int × Value)} {ep : Nat} {t : SetTable}
theorem is_set (R : SetTR P w s.heap S L es ep t) : s.TypeIs (.ref S) "set" := by
  obtain ⟨o, ho, hc, _⟩ := R.ob
  exact ⟨o, ho, hc.1⟩
theorem no_dict (R : SetTR P w s.heap S L es ep t) : ∀ b, Value.ref S = .ref b → ∃ ob, s.heap.get? b = some ob ∧ ob.dict = none := by
  obtain ⟨o, ho, hc, _⟩ := R.ob
  intro b e
  cases e
  exact ⟨o, ho, hc.2.1⟩
/-- x in the set -/
theorem in_tup (R : SetTR P w s.heap S L es ep t) {x : Addr} {k : List Int} (hx : IsT P w s.heap k x) (hu : A.units + 64 < cLine) {Q : Value → Shared → Prop} (q : ∀ tk, Q (.bool (decide (k ∈ L.map (·.2)))) { s with toks := tk }) :
    wpAny (model P w) A (compareOp .In (.ref x) (.ref S)) Q E s := by
  show wpAny _ _ (do return .bool (← contains (.ref S) (.ref x))) Q E s
  refine wpAny_bind ?_
  unfold contains
  try with_reducible refine wpAny_holding ?_
  have cls := is_set R
  refine wpAny_bind (wpAny_specialOf cls F.slot_set_contains.lookup ?_)
  have no_none : ¬ (some (Value.builtin "set.__contains__") == some Value.none) = true := by
    rw [beq_builtin_none]
    exact Bool.false_ne_true
  refine wp_if_neg no_none ?_
  refine wpAny_bind (wpAny_callSpecialUnlessNone?_slot (name := Str.ofString "__contains__") cls F.slot_set_contains (wpAny_call_entry F.slot_set_contains cls entry_set_contains ?_ (F.args_set_contains_2 _ _)))
  unfold Builtin.«frozenset.__contains__» Builtin.Frozenset.oneOther
  simp only [List.isEmpty_nil, bind_assoc]
  unfold Builtin.Frozenset.addrOf Builtin.Frozenset.withSetAsKey setContains
  refine wpAny_bind (wpAny_pure ?_)
  try dsimp only
  refine wpAny_bind (wpAny_pure ?_)
  try dsimp only
  refine wpAny_bind (wpAny_tryCatch (wpAny_holding (wpAny_bind (wpAny_pyHash_tuple ?_ hx ?_))))
  · show A.units + 1 < cLine
    omega
  refine wpAny_bind (find_tup (s := { s with toks := s.toks + (k.length + 1) }) R hx ?_ fun r hr => ?_)
  · show A.units + 1 < cLine
    omega
  refine wpAny_pure ?_
  show wpAny _ _ (ret (Value.bool r.isSome)) _ _ _
  rw [hr]
  exact wpAny_pure ⟨_, rfl, wpAny_truthy_bool (wpAny_pure (q _))⟩
/-- seen.add(x) -/
theorem add_tup (R : SetTR P w s.heap S L es ep t) {x : Addr} {k : List Int} (hx : IsT P w s.heap k x) (hu : A.units + 64 < cLine) (few : L.length + 1 < 64) {Q : Value → Shared → Prop}
    (q : ∀ h' tk L' es' ep' t', Heap.SameBut S s.heap h' → SetTR P w h' S L' es' ep' t' → (k ∈ L.map (·.2) → L' = L) → (k ∉ L.map (·.2) → L'.Perm ((x, k) :: L)) → Q .none { s with heap := h', toks := tk }) :
    wpAny (model P w) A (call (.builtin "set.add") [.ref S, .ref x]) Q E s := by
  have cls := is_set R
  refine wpAny_call_entry F.slot_set_add cls F.entry_set_add ?_ (F.args_set_add_2 _ _)
  unfold Builtin.«set.add» Builtin.Frozenset.oneOther
  simp only [List.isEmpty_nil, bind_assoc]
  unfold Builtin.Frozenset.addrOf setAdd
  refine wpAny_bind (wpAny_pure ?_)
  try dsimp only
  refine wpAny_bind (wpAny_pure ?_)
  try dsimp only
  refine wpAny_bind (wpAny_holding (wpAny_bind (wpAny_pyHash_tuple ?_ hx ?_)))
  · show A.units + 1 < cLine
    omega
  refine add_at (s := { s with toks := s.toks + (k.length + 1) }) R hx ?_ few fun b h' L' es' ep' t' sb R' c1 c2 => ?_
  · show A.units + 1 < cLine
    omega
  show wpAny _ _ (ret Value.none) _ _ _
  exact wpAny_pure ⟨_, rfl, q h' _ L' es' ep' t' sb R' c1 c2⟩
end
/-! ### the rules of the hand layer -/
section
variable {X : Cx} {K : PySem.W.Frag} {P : Program} {w : World}
/-- the set at S holds the tuples of L -/
abbrev HasT (K : PySem.W.Frag) (P : Program) (w : World) (H : Hp) (S : Addr) (L : List (Addr × List Int)) : Prop := H S = some (SetTO P w S L) ∧ ∀ p ∈ L, SqT K H p.1 (p.2.map V.int)
theorem full_of {pins : List (Addr × Obj)} {σ : L2.St} {H : Hp} {s : Shared} {S : Addr} {L : List (Addr × List Int)} (I : Inv X pins σ H s) (h : HasT X.K X.prog X.w H S L) : ∃ es ep t, SetTR X.prog X.w s.heap S L es ep t :=
  SetT0.full (I.hok S _ h.1).1 fun p hp => I.isT (h.2 p hp)
def rSet0T (P : Program) (w : World) : List V → Hp → VK → Prop := fun xs H Q => xs = [] ∧ ∀ p, H p = none → Q (.ref p) (upd H p (SetTO P w p []))
theorem kx_set0T (h1 : X.prog = P := by rfl) (h2 : X.w = w := by rfl) : CallR X (.type "set") (rSet0T P w) := by
  subst h1 h2
  intro pins s σ H xs us Q I r h
  obtain ⟨rfl, q⟩ := h
  cases r
  refine setR_new fun _ => ?_
  refine ⟨.ref _, upd H s.heap.objs.size (SetTO X.prog X.w s.heap.objs.size []), I.laid (t' := s.toks) (fun b u e => Heap.get?_push_of_some _ e) (Nat.le_refl _) (setTO_new (SetTR.t0 (setTR_fresh (Heap.get?_push_size _ rfl)))), rfl, q _ (I.hok.fresh (Nat.le_refl _))⟩
def rInT (K : PySem.W.Frag) (P : Program) (w : World) : R2 := fun x y H Q => ∃ (b : Addr) (k : List Int) (S : Addr) (L : List (Addr × List Int)), x = .ref b ∧ y = .ref S ∧ SqT K H b (k.map V.int) ∧ HasT K P w H S L ∧ Q (.bl (decide (k ∈ L.map (·.2)))) H
theorem kx_inT (hu : X.A.units + 64 < cLine) (h0 : X.K = K := by rfl) (h1 : X.prog = P := by rfl) (h2 : X.w = w := by rfl) : OpR X (compareOp .In) (rInT K P w) := by
  subst h0 h1 h2
  intro pins s σ H x y v u Q I rx ry h
  obtain ⟨b, k, S, L, rfl, rfl, hb, hS, q⟩ := h
  cases rx
  cases ry
  obtain ⟨es, ep, t, R⟩ := full_of I hS
  exact in_tup R (I.isT hb) hu fun tk => ⟨.bl _, H, I.tok _, rfl, q⟩
def rAddT (K : PySem.W.Frag) (P : Program) (w : World) : V → List V → Hp → VK → Prop := fun x xs H Q => ∃ (b : Addr) (k : List Int) (S : Addr) (L : List (Addr × List Int)), x = .ref S ∧ xs = [.ref b] ∧ SqT K H b (k.map V.int) ∧ HasT K P w H S L ∧ L.length + 1 < 64 ∧
  ∀ L', (k ∈ L.map (·.2) → L' = L) → (k ∉ L.map (·.2) → L'.Perm ((b, k) :: L)) → Q .non (upd H S (SetTO P w S L'))
theorem mt_addT (hu : X.A.units + 64 < cLine) : MtR X "set.add" (rAddT X.K X.prog X.w) := by
  intro pins s σ H x xs v us Q I rx rxs h
  obtain ⟨b, k, S, L, rfl, rfl, hb, hS, few, q⟩ := h
  cases rx
  cases rxs with
  | cons ry rt =>
    cases rt
    cases ry
    obtain ⟨es, ep, t, R⟩ := full_of I hS
    refine add_tup R (I.isT hb) hu few fun h' tk L' es' ep' t' sb R' c1 c2 => ?_
    have there : ∃ u, h'.get? S = some u := by
      obtain ⟨o, ho, _⟩ := R'.ob
      exact ⟨o, ho⟩
    exact ⟨.non, upd H S (SetTO X.prog X.w S L'), I.write (e := S) (t' := tk) (by rw [hS.1]; trivial) (.inl rfl) (fun b u hb hu => (sb.2 b hb).trans hu) there (setTO_new R'.t0), rfl, q L' c1 c2⟩
def tAddT (K : PySem.W.Frag) (P : Program) (w : World) (to : TE) (t : TA) : TE := fun σ H Q => to σ H fun x H1 => (∃ S L, x = V.ref S ∧ HasT K P w H1 S L) ∧ t σ H1 fun xs H2 => rAddT K P w x xs H2 Q
theorem kx_addT {o e : Expr} {es : List Expr} {to : TE} {t : TA} {apos cpos : Pos} (hu : X.A.units + 64 < cLine) (ho : PE X o to) (ha : PA X (e :: es) t) (h0 : X.K = K := by rfl) (h1 : X.prog = P := by rfl) (h2 : X.w = w := by rfl)
    (b1 : attributeBase o "add" X.env (eval o X.env) = eval o X.env := by rfl) (b2 : ((backTo cpos (starEach (e :: es) X.env)).all (fun x => !x.1) && (backToKw cpos (keywordEach [] X.env)).all (fun x => x.1.isSome) && decide ((e :: es).length + ([] : List Keyword).length + (if ([] : List Keyword).isEmpty then 0 else 1) < 30)) = true := by rfl)
    (b3 : (apos.endLine == cpos.line) = true := by rfl) (b4 : starEach (e :: es) X.env = (false, eval e X.env) :: starEach es X.env := by rfl) (b5 : (backTo cpos (starEach es X.env)).any (·.1) = false := by rfl) : PE X (.Call (.Attribute o "add" apos) (e :: es) [] cpos) (tAddT K P w to t) := by
  subst h0 h1 h2
  refine ⟨fun pins s σ H Q I h => ?_⟩
  refine wpAny_Call_method_late b1 b2 b3 rfl (thn (ho.run pins s σ H _ I h) fun v s1 ⟨x, H1, I1, r1, ty, q1⟩ => ?_)
  obtain ⟨S, L, rfl, hS⟩ := ty
  obtain ⟨tes, tep, tt, R⟩ := full_of I1 hS
  cases r1
  refine ⟨"set", "set.add", F.plainAttrs_set, F.slot_set_add, F.type_set_add, is_set R, no_dict R, ?_⟩
  have hA := ha.run cpos pins s1 σ H1 _ I1 q1
  rw [b4] at hA ⊢
  refine Calls.callWith_builtin (by
    show (false || (backTo cpos (starEach es X.env)).any (·.1)) = false
    rw [b5]
    rfl) (Calls.evalArgs_plain (thn hA fun us s2 ⟨vs, H2, I2, r2, q2⟩ => mt_addT hu pins s2 σ H2 (.ref S) vs (.ref S) us Q I2 rfl r2 q2))
end
end ZS
set_option Elab.async false
set_option linter.all false
set_option maxRecDepth 100000
set_option maxHeartbeats 4000000
/-! LAYG: xs[i] += e. -/
namespace Z
open PySem PySem.Spec PyProof.Rows L2 Evl
def rGetL (K : PySem.W.Frag) : V → V → Hp → VK → Prop := fun o i H Q => ∃ (p : Addr) (xs : List V) (j : Nat) (v : V), o = .ref p ∧ i = .int (j : Int) ∧ SqL K H p xs ∧ xs[j]? = some v ∧ Q v H
theorem kx_getL {X : Cx} {K : PySem.W.Frag} (h : X.K = K := by rfl) : PGet X (rGetL K) := by
  subst h
  intro pins s σ H o i ov iv Q I ro ri hh
  obtain ⟨p, xs, j, v, rfl, rfl, hS, hj, q⟩ := hh
  cases ro
  obtain ⟨tk, rfl⟩ := ri
  obtain ⟨its, r, pl, hz⟩ := I.list hS
  obtain ⟨u, hu, ru⟩ := r.get hj
  have hlt : j < xs.length := (List.getElem?_eq_some_iff.mp hj).1
  have hl := r.length
  have hn := line63
  exact wpAny_getItem_list pl.isList (by omega) (by omega) (by rw [Int.toNat_natCast]; simpa using hu) ⟨v, H, I, ru, q⟩
section
variable {K : PySem.W.Frag} {σ : L2.St} {H : Hp} {D : Ends} {to ti te ta tb tl : TE} {tz tu : TS} {l : Addr} {ns : List Int} {j : Nat} {c d : Int}
theorem ixN_at {n j : Nat} (hj : j < n) : ixN n (j : Int) = some j := ixN_nat hj
/-- xs[j] += d -/
theorem s_augL (hl : H l = some (.lst (ns.map V.int))) (ho : Ev to σ H (.ref l)) (hi : Ev ti σ H (.int (j : Int))) (hj : ns[j]? = some c) (he : Ev te σ H (.int d)) (k : ∀ H1, Ex H H1 → D.nx σ (upd H1 l (.lst ((ns.set j (c + d)).map V.int)))) :
    tAugS to ti te (rGetL K) (ipI fun i j => i + j) rSetL D σ H := ho H (Ex.refl H) _ fun H1 e1 => hi H1 e1 _ fun H2 e2 => by
  have h2 := (e1.trans e2) _ _ hl
  refine ⟨l, ns.map V.int, j, .int c, rfl, rfl, SqL.of h2, by rw [List.getElem?_map, hj]; rfl, ?_⟩
  refine he H2 (e1.trans e2) _ fun H3 e3 => ⟨c, d, rfl, rfl, l, ns.map V.int, (j : Int), j, rfl, rfl, e3 _ _ h2, ixN_at (by rw [List.length_map]; exact (List.getElem?_eq_some_iff.mp hj).1), ?_⟩
  rw [← List.map_set]
  exact k H3 ((e1.trans e2).trans e3)
theorem q_augL (hl : H l = some (.lst (ns.map V.int))) (ho : Ev to σ H (.ref l)) (hi : Ev ti σ H (.int (j : Int))) (hj : ns[j]? = some c) (he : Ev te σ H (.int d)) (k : ∀ H1, Ex H H1 → tz D σ (upd H1 l (.lst ((ns.set j (c + d)).map V.int)))) :
    tSeq (tAugS to ti te (rGetL K) (ipI fun i j => i + j) rSetL) tz D σ H := s_augL (D := { D with nx := tz D }) hl ho hi hj he k
/-- for a, b in ties -/
theorem s_forTies {i j : Nat} {xs : List V} {ts : List Tie} (h : Ev tl σ H (.ref l)) (hS : SqL K H l xs) (hT : xs.length = ts.length) (Pv : Nat → L2.St → Hp → Prop) (h0 : ∀ H1, Ex H H1 → Pv 0 σ H1) (hex : ∀ m σ' H', Pv m σ' H' → SqL K H' l xs ∧ Ties K H' xs ts)
    (hs : ∀ m p σ' H', ts[m]? = some p → Pv m σ' H' → tu { D with nx := Pv (m + 1), ct := Pv (m + 1), bk := D.nx } ((σ'.set i (some (.int (p.1 : Int)))).set j (some (.int (p.2 : Int)))) H') (hd : ∀ σ' H', Pv ts.length σ' H' → D.nx σ' H') :
    tFor (iList K tl) (gTup K 2 (gCons (gName i) (gCons (gName j) gNil))) tu D σ H := by
  refine s_forL h hS Pv h0 (fun m σ' H' _ p => (hex m σ' H' p).1) (fun m x σ' H' hx p => ?_) (fun σ' H' p => hd σ' H' (by rw [← hT]; exact p))
  obtain ⟨q, hq, t, rfl, ht⟩ := Paired.at (hex m σ' H' p).2 hx
  exact ⟨t, _, rfl, ht, rfl, _, _, rfl, _, _, rfl, rfl, hs m q σ' H' hq p⟩
theorem q_forTies {i j : Nat} {xs : List V} {ts : List Tie} (h : Ev tl σ H (.ref l)) (hS : SqL K H l xs) (hT : xs.length = ts.length) (Pv : Nat → L2.St → Hp → Prop) (h0 : ∀ H1, Ex H H1 → Pv 0 σ H1) (hex : ∀ m σ' H', Pv m σ' H' → SqL K H' l xs ∧ Ties K H' xs ts)
    (hs : ∀ m p σ' H', ts[m]? = some p → Pv m σ' H' → tu { D with nx := Pv (m + 1), ct := Pv (m + 1), bk := tz D } ((σ'.set i (some (.int (p.1 : Int)))).set j (some (.int (p.2 : Int)))) H') (hd : ∀ σ' H', Pv ts.length σ' H' → tz D σ' H') :
    tSeq (tFor (iList K tl) (gTup K 2 (gCons (gName i) (gCons (gName j) gNil))) tu) tz D σ H := s_forTies (D := { D with nx := tz D }) h hS hT Pv h0 hex hs hd
/-- [..] * k -/
theorem el_repL {xs : List V} {k : Int} (ha : EvL ta σ H xs) (hb : Ev tb σ H (.int k)) (h0 : 0 ≤ k ∧ k < 1000) (hz : xs.length * k.toNat ≤ 100000) : EvL (tOp rRep ta tb) σ H (List.replicate k.toNat xs).flatten := fun H1 e Q q =>
  ha H1 e _ fun p H2 hp e2 h2 => hb H2 (e.trans e2) _ fun H3 e3 => ⟨p, k, xs, rfl, rfl, e3 _ _ h2, by omega, by omega, sz_of hz, fun l hl => q l _ (fresh_back (e2.trans e3) hl) ((e2.trans e3).trans (Ex.new hl)) upd_same⟩
end
/-! ### lists told by a function -/
def tab (n : Nat) (f : Nat → Int) : List Int := (List.range n).map f
theorem tab_len (n : Nat) (f : Nat → Int) : (tab n f).length = n := by
  unfold tab
  rw [List.length_map, List.length_range]
theorem tab_at {n : Nat} {f : Nat → Int} {j : Nat} (h : j < n) : (tab n f)[j]? = some (f j) := by
  unfold tab
  rw [List.getElem?_map, List.getElem?_range h]
  rfl
theorem tab_set (n : Nat) (f : Nat → Int) (j : Nat) (v : Int) : (tab n f).set j v = tab n fun q => if q = j then v else f q := by
  apply List.ext_getElem?
  intro i
  rw [List.getElem?_set]
  by_cases hi : i < n
  · rw [tab_at hi, tab_at hi, tab_len]
    by_cases e : j = i
    · subst e
      rw [if_pos rfl, if_pos hi, if_pos rfl]
    · rw [if_neg e, if_neg (fun z => e z.symm)]
  · have h1 : ∀ g : Nat → Int, (tab n g)[i]? = none := fun g => List.getElem?_eq_none (by rw [tab_len]; omega)
    rw [h1, h1, tab_len]
    by_cases e : j = i
    · rw [if_pos e, if_neg (by omega)]
    · rw [if_neg e]
theorem tab_congr {n : Nat} {f g : Nat → Int} (h : ∀ q, q < n → f q = g q) : tab n f = tab n g := List.map_congr_left fun q hq => h q (List.mem_range.mp hq)
theorem deg_snoc (ts : List Tie) (p : Tie) (q : Nat) : deg (ts ++ [p]) q = deg ts q + (if inTie q p = true then 1 else 0) := by
  unfold deg
  rw [List.filter_append, List.length_append]
  congr 1
  by_cases h : inTie q p = true
  · rw [if_pos h, List.filter_cons, if_pos h]
    rfl
  · rw [if_neg h, List.filter_cons, if_neg h]
    rfl
/-- one more tie: two counts are one greater -/
theorem degs_step (n : Nat) (ts : List Tie) {p : Tie} (h : p.1 < p.2) : (((degsI n ts).set p.1 ((deg ts p.1 : Int) + 1)).set p.2 ((deg ts p.2 : Int) + 1)) = degsI n (ts ++ [p]) := by
  show ((tab n fun q => (deg ts q : Int)).set p.1 _).set p.2 _ = tab n fun q => (deg (ts ++ [p]) q : Int)
  rw [tab_set, tab_set]
  refine tab_congr fun q _ => ?_
  rw [deg_snoc]
  unfold inTie
  by_cases h1 : q = p.1
  · have h2 : q ≠ p.2 := by omega
    rw [if_neg h2, if_pos h1, h1]
    simp
  · by_cases h2 : q = p.2
    · rw [if_pos h2, h2]
      simp
    · rw [if_neg h2, if_neg h1]
      have e1 : decide (p.1 = q) = false := decide_eq_false fun z => h1 z.symm
      have e2 : decide (p.2 = q) = false := decide_eq_false fun z => h2 z.symm
      rw [e1, e2]
      simp
end Z
set_option Elab.async false
set_option linter.all false
set_option maxRecDepth 100000
set_option maxHeartbeats 4000000
/-! LAYM: the first points of a web's pieces, found tie by tie, and by marks that fall until they stay. -/
namespace Z
/-- tie by tie: who has the greater of the two firsts gets the lesser -/
def joinF (f : Nat → Nat) (p : Tie) : Nat → Nat := fun q => if f q = max (f p.1) (f p.2) then min (f p.1) (f p.2) else f q
def firstsF (ts : List Tie) : Nat → Nat := ts.foldl joinF id
structure Firsts (ts : List Tie) (f : Nat → Nat) : Prop where
  tied : ∀ t ∈ ts, f t.1 = f t.2
  le : ∀ q, f q ≤ q
  idem : ∀ q, f (f q) = f q
  uni : ∀ g : Nat → Bool, (∀ t ∈ ts, g t.1 = g t.2) → ∀ q, g (f q) = g q
theorem Firsts.nil : Firsts [] id := ⟨fun t h => (by cases h), fun q => Nat.le_refl q, fun q => rfl, fun g _ q => rfl⟩
theorem Firsts.join {ts : List Tie} {f : Nat → Nat} (h : Firsts ts f) (p : Tie) : Firsts (ts ++ [p]) (joinF f p) := by
  have ka : ∀ q, f q = max (f p.1) (f p.2) → joinF f p q = min (f p.1) (f p.2) := fun q e => if_pos e
  have kb : ∀ q, f q ≠ max (f p.1) (f p.2) → joinF f p q = f q := fun q e => if_neg e
  have m1 : joinF f p p.1 = min (f p.1) (f p.2) := by
    by_cases e : f p.1 = max (f p.1) (f p.2)
    · exact ka _ e
    · rw [kb _ e]
      omega
  have m2 : joinF f p p.2 = min (f p.1) (f p.2) := by
    by_cases e : f p.2 = max (f p.1) (f p.2)
    · exact ka _ e
    · rw [kb _ e]
      omega
  have fk : f (min (f p.1) (f p.2)) = min (f p.1) (f p.2) := by
    rcases Nat.le_total (f p.1) (f p.2) with e | e
    · rw [Nat.min_eq_left e, h.idem]
    · rw [Nat.min_eq_right e, h.idem]
  refine ⟨fun t ht => ?_, fun q => ?_, fun q => ?_, fun g hg q => ?_⟩
  · rcases List.mem_append.mp ht with z | z
    · show (if f t.1 = _ then _ else f t.1) = (if f t.2 = _ then _ else f t.2)
      rw [h.tied t z]
    · have e : t = p := by simpa using z
      rw [e, m1, m2]
  · by_cases e : f q = max (f p.1) (f p.2)
    · rw [ka q e]
      have := h.le q
      omega
    · rw [kb q e]
      exact h.le q
  · by_cases e : f q = max (f p.1) (f p.2)
    · rw [ka q e]
      by_cases e2 : f (min (f p.1) (f p.2)) = max (f p.1) (f p.2)
      · exact ka _ e2
      · rw [kb _ e2, fk]
    · rw [kb q e]
      have e2 : f (f q) ≠ max (f p.1) (f p.2) := by rw [h.idem]; exact e
      rw [kb _ e2, h.idem]
  · have hu := h.uni g fun t ht => hg t (List.mem_append_left _ ht)
    have hp : g p.1 = g p.2 := hg p (List.mem_append_right _ (List.mem_singleton.mpr rfl))
    by_cases e : f q = max (f p.1) (f p.2)
    · rw [ka q e, ← hu q, e]
      rcases Nat.le_total (f p.1) (f p.2) with c | c
      · rw [Nat.min_eq_left c, Nat.max_eq_right c, hu, hu, hp]
      · rw [Nat.min_eq_right c, Nat.max_eq_left c, hu, hu, hp]
    · rw [kb q e, hu]
theorem firsts_ok (ts : List Tie) : Firsts ts (firstsF ts) := by
  have key : ∀ (us ds : List Tie) (f : Nat → Nat), Firsts ds f → Firsts (ds ++ us) (us.foldl joinF f) := by
    intro us
    induction us with
    | nil =>
      intro ds f h
      rw [List.append_nil]
      exact h
    | cons p us ih =>
      intro ds f h
      have := ih (ds ++ [p]) _ (h.join p)
      rw [List.append_assoc] at this
      exact this
  exact key ts [] id Firsts.nil
theorem firstsF_snoc (ts : List Tie) (p : Tie) : firstsF (ts ++ [p]) = joinF (firstsF ts) p := by
  unfold firstsF
  rw [List.foldl_append]
  rfl
/-- marks that fall -/
def fall (m : Nat → Nat) (p : Tie) : Nat → Nat := fun q => if q = p.1 ∨ q = p.2 then min (m p.1) (m p.2) else m q
def roundM (ts : List Tie) (m : Nat → Nat) : Nat → Nat := ts.foldl fall m
def marksM (ts : List Tie) : Nat → (Nat → Nat)
  | 0 => id
  | r + 1 => roundM ts (marksM ts r)
structure Mk (F m : Nat → Nat) : Prop where
  le : ∀ q, m q ≤ q
  same : ∀ q, F (m q) = F q
section
variable {ts : List Tie} {F m : Nat → Nat}
theorem Mk.ge (hF : Firsts ts F) (h : Mk F m) (q : Nat) : F q ≤ m q := by
  rw [← h.same q]
  exact hF.le _
theorem fall_le (m : Nat → Nat) (p : Tie) (q : Nat) : fall m p q ≤ m q := by
  unfold fall
  by_cases e : q = p.1 ∨ q = p.2
  · rw [if_pos e]
    rcases e with e | e
    · rw [e]; exact Nat.min_le_left _ _
    · rw [e]; exact Nat.min_le_right _ _
  · rw [if_neg e]
    exact Nat.le_refl _
theorem Mk.fall (hF : Firsts ts F) (h : Mk F m) {p : Tie} (hp : p ∈ ts) : Mk F (fall m p) := by
  refine ⟨fun q => Nat.le_trans (fall_le m p q) (h.le q), fun q => ?_⟩
  unfold Z.fall
  by_cases e : q = p.1 ∨ q = p.2
  · rw [if_pos e]
    have t := hF.tied p hp
    have fq : F q = F p.1 := by
      rcases e with e | e
      · rw [e]
      · rw [e, t]
    rcases Nat.le_total (m p.1) (m p.2) with c | c
    · rw [Nat.min_eq_left c, h.same, fq]
    · rw [Nat.min_eq_right c, h.same, fq, t]
  · rw [if_neg e]
    exact h.same q
theorem fold_ok2 (hF : Firsts ts F) : ∀ (us : List Tie) (m : Nat → Nat), (∀ p ∈ us, p ∈ ts) → Mk F m → Mk F (us.foldl Z.fall m) ∧ ∀ q, us.foldl Z.fall m q ≤ m q
  | [], m, _, h => ⟨h, fun q => Nat.le_refl _⟩
  | p :: us, m, hs, h => by
    obtain ⟨a, b⟩ := fold_ok2 hF us (Z.fall m p) (fun x hx => hs x (List.mem_cons_of_mem _ hx)) (h.fall hF (hs p List.mem_cons_self))
    exact ⟨a, fun q => Nat.le_trans (b q) (fall_le m p q)⟩
/-- who has come to its first stays there -/
theorem stay (hF : Firsts ts F) (h : Mk F m) {m' : Nat → Nat} (h' : Mk F m') (le : ∀ q, m' q ≤ m q) {q : Nat} (e : m q = F q) : m' q = F q := by
  have a := le q
  have b := h'.ge hF q
  omega
/-- a tie takes its other end along -/
theorem along (hF : Firsts ts F) : ∀ (us : List Tie) (m : Nat → Nat), (∀ p ∈ us, p ∈ ts) → Mk F m → ∀ p ∈ us, (m p.1 = F p.1 ∨ m p.2 = F p.2) → us.foldl Z.fall m p.1 = F p.1 ∧ us.foldl Z.fall m p.2 = F p.2
  | [], _, _, _, p, hp, _ => by cases hp
  | r :: us, m, hs, h, p, hp, hg => by
    have hr := hs r List.mem_cons_self
    have h1 := h.fall hF hr
    have hs' : ∀ x ∈ us, x ∈ ts := fun x hx => hs x (List.mem_cons_of_mem _ hx)
    obtain ⟨a, b⟩ := fold_ok2 hF us (Z.fall m r) hs' h1
    rcases List.mem_cons.mp hp with e | e
    · subst e
      have t := hF.tied p hr
      have g1 := h.ge hF p.1
      have g2 := h.ge hF p.2
      have mn : min (m p.1) (m p.2) = F p.1 := by
        rcases hg with z | z <;> omega
      have e1 : Z.fall m p p.1 = F p.1 := (if_pos (Or.inl rfl)).trans mn
      have e2 : Z.fall m p p.2 = F p.2 := (if_pos (Or.inr rfl)).trans (mn.trans t)
      exact ⟨stay hF h1 a b e1, stay hF h1 a b e2⟩
    · refine along hF us _ hs' h1 p e ?_
      rcases hg with z | z
      · exact .inl (stay hF h h1 (fall_le m r) z)
      · exact .inr (stay hF h h1 (fall_le m r) z)
def cnt (g : Nat → Bool) : Nat → Nat
  | 0 => 0
  | n + 1 => cnt g n + (if g n = true then 1 else 0)
theorem cnt_le (g : Nat → Bool) : ∀ n, cnt g n ≤ n
  | 0 => Nat.le_refl _
  | n + 1 => by
    have := cnt_le g n
    unfold cnt
    split <;> omega
theorem cnt_mono {g g' : Nat → Bool} (h : ∀ q, g q = true → g' q = true) : ∀ n, cnt g n ≤ cnt g' n
  | 0 => Nat.le_refl _
  | n + 1 => by
    have := cnt_mono h n
    unfold cnt
    by_cases e : g n = true
    · rw [if_pos e, if_pos (h n e)]
      omega
    · rw [if_neg e]
      split <;> omega
theorem cnt_lt {g g' : Nat → Bool} (h : ∀ q, g q = true → g' q = true) {q : Nat} (h1 : g' q = true) (h2 : g q = false) : ∀ n, q < n → cnt g n < cnt g' n
  | 0, hq => absurd hq (Nat.not_lt_zero _)
  | n + 1, hq => by
    unfold cnt
    by_cases e : q = n
    · subst e
      have := cnt_mono h q
      rw [if_pos h1, if_neg (by rw [h2]; decide)]
      omega
    · have := cnt_lt h h1 h2 n (by omega)
      by_cases e : g n = true
      · rw [if_pos e, if_pos (h n e)]
        omega
      · rw [if_neg e]
        split <;> omega
theorem marks_mk (hF : Firsts ts F) : ∀ r, Mk F (marksM ts r)
  | 0 => ⟨fun q => Nat.le_refl q, fun q => rfl⟩
  | r + 1 => (fold_ok2 hF ts _ (fun p hp => hp) (marks_mk hF r)).1
theorem marks_grow (hF : Firsts ts F) {n : Nat} (hn : 1 ≤ n) (hok : ∀ p ∈ ts, p.1 < p.2 ∧ p.2 < n) : ∀ r, (∀ q, q < n → marksM ts r q = F q) ∨ r + 1 ≤ cnt (fun q => decide (marksM ts r q = F q)) n
  | 0 => by
    right
    have h0 : marksM ts 0 0 = F 0 := by
      have := hF.le 0
      show 0 = F 0
      omega
    have := cnt_lt (g := fun _ => false) (g' := fun q => decide (marksM ts 0 q = F q)) (fun q h => (by cases h)) (q := 0) (decide_eq_true h0) rfl n (by omega)
    omega
  | r + 1 => by
    have hm := marks_mk hF r
    obtain ⟨hm', le⟩ := fold_ok2 hF ts _ (fun p hp => hp) hm
    have keep : ∀ q, marksM ts r q = F q → marksM ts (r + 1) q = F q := fun q e => stay hF hm hm' le e
    rcases marks_grow hF hn hok r with all | some
    · exact .inl fun q hq => keep q (all q hq)
    · by_cases all : ∀ q, q < n → marksM ts r q = F q
      · exact .inl fun q hq => keep q (all q hq)
      · right
        have : ∃ p ∈ ts, decide (marksM ts r p.1 = F p.1) ≠ decide (marksM ts r p.2 = F p.2) := by
          refine Classical.byContradiction fun no => all fun q _ => ?_
          have agree : ∀ p ∈ ts, decide (marksM ts r p.1 = F p.1) = decide (marksM ts r p.2 = F p.2) := fun p hp => Classical.byContradiction fun z => no ⟨p, hp, z⟩
          have u := hF.uni (fun q => decide (marksM ts r q = F q)) agree q
          have top : marksM ts r (F q) = F (F q) := by
            have a := hm.le (F q)
            have b := hm.ge hF (F q)
            rw [hF.idem] at b ⊢
            omega
          simp only [top, decide_true] at u
          exact of_decide_eq_true u.symm
        obtain ⟨p, hp, ne⟩ := this
        have ok := hok p hp
        have up : ∀ q, (fun q => decide (marksM ts r q = F q)) q = true → (fun q => decide (marksM ts (r + 1) q = F q)) q = true := fun q h => decide_eq_true (keep q (of_decide_eq_true h))
        by_cases e1 : marksM ts r p.1 = F p.1
        · have e2 : ¬ marksM ts r p.2 = F p.2 := fun z => ne (by rw [decide_eq_true e1, decide_eq_true z])
          obtain ⟨_, b⟩ := along hF ts _ (fun p hp => hp) hm p hp (.inl e1)
          have := cnt_lt up (q := p.2) (decide_eq_true b) (decide_eq_false e2) n ok.2
          omega
        · have e2 : marksM ts r p.2 = F p.2 := Classical.byContradiction fun z => ne (by rw [decide_eq_false e1, decide_eq_false z])
          obtain ⟨b, _⟩ := along hF ts _ (fun p hp => hp) hm p hp (.inr e2)
          have := cnt_lt up (q := p.1) (decide_eq_true b) (decide_eq_false e1) n (by omega)
          omega
/-- in as many rounds as there are points the marks are the first points -/
theorem marks_eq {n : Nat} (hn : 1 ≤ n) (hok : ∀ p ∈ ts, p.1 < p.2 ∧ p.2 < n) : ∀ q, q < n → marksM ts n q = firstsF ts q := by
  rcases marks_grow (firsts_ok ts) hn hok n with h | h
  · exact h
  · have := cnt_le (fun q => decide (marksM ts n q = firstsF ts q)) n
    omega
end
/-! ### groups -/
def group (n : Nat) (f : Nat → Nat) (v : Nat) : List Nat := (List.range n).filter fun q => decide (f q = v)
def piecesF (n : Nat) (f : Nat → Nat) : List (List Nat) := ((List.range n).filter fun v => decide (f v = v)).map (group n f)
def piecesM (n : Nat) (m : Nat → Nat) : List (List Nat) := ((List.range n).filter fun v => !(group n m v).isEmpty).map (group n m)
theorem group_congr {n : Nat} {f g : Nat → Nat} (h : ∀ q, q < n → f q = g q) (v : Nat) : group n f v = group n g v := List.filter_congr fun q hq => by rw [h q (List.mem_range.mp hq)]
theorem pieces_eq {n : Nat} {ts : List Tie} (hn : 1 ≤ n) (hok : ∀ p ∈ ts, p.1 < p.2 ∧ p.2 < n) : piecesM n (marksM ts n) = piecesF n (firstsF ts) := by
  have h := marks_eq hn hok
  have hF := firsts_ok ts
  have e1 : group n (marksM ts n) = group n (firstsF ts) := funext fun v => group_congr h v
  unfold piecesM piecesF
  rw [e1]
  congr 1
  refine List.filter_congr fun v hv => ?_
  have hv' := List.mem_range.mp hv
  by_cases e : firstsF ts v = v
  · rw [decide_eq_true e]
    have hm : v ∈ group n (firstsF ts) v := List.mem_filter.mpr ⟨hv, decide_eq_true e⟩
    cases hg : group n (firstsF ts) v with
    | nil => rw [hg] at hm; cases hm
    | cons _ _ => rfl
  · rw [decide_eq_false e]
    cases hg : group n (firstsF ts) v with
    | nil => rfl
    | cons q l =>
      have hm : q ∈ group n (firstsF ts) v := by rw [hg]; exact List.mem_cons_self
      have e2 := of_decide_eq_true (List.mem_filter.mp hm).2
      exact absurd (by rw [← e2, hF.idem]) e
end Z
set_option Elab.async false
set_option linter.all false
set_option maxRecDepth 100000
set_option maxHeartbeats 4000000
/-! LAYE: lists of odd things, lists of ties compared. -/
namespace Z
open PySem PySem.Spec PyProof.Rows L2 Evl
section
variable {K : PySem.W.Frag} {σ : L2.St} {H : Hp} {ta tb tx te t1 t2 : TE}
/-- a new list of things of one kind -/
abbrev EvLG (te : TE) (σ : L2.St) (H : Hp) (n : Nat) (G : V → Hp → Prop) : Prop := EvG te σ H fun H1 v H2 => ∃ p xs, v = V.ref p ∧ H1 p = none ∧ H2 p = some (.lst xs) ∧ xs.length = n ∧ ∀ x ∈ xs, G x H2
theorem lg_lst {G : V → Hp → Prop} {n : Nat} {ta : TA} (mono : ∀ x H1 H2, Ex H1 H2 → G x H1 → G x H2) (h : EvGA ta σ H n G) (hz : n ≤ 1000) : EvLG (tLst ta) σ H n G := fun H1 e Q q =>
  h H1 e _ fun vs H2 e2 hl hv => ⟨by rw [hl]; exact sz_of (by omega), fun p hp => q _ _ (e2.trans (Ex.new hp)) ⟨p, vs, rfl, fresh_back e2 hp, upd_same, hl, fun x hx => mono x _ _ (Ex.new hp) (hv x hx)⟩⟩
theorem lg_cat {G : V → Hp → Prop} {n m : Nat} {p0 : Addr} {xs0 : List V} (mono : ∀ x H1 H2, Ex H1 H2 → G x H1 → G x H2) (ha : Ev tx σ H (.ref p0)) (h0 : H p0 = some (.lst xs0)) (l0 : xs0.length = n) (g0 : ∀ x ∈ xs0, G x H) (hb : EvLG tb σ H m G) (hz : n + m ≤ 1000) : EvLG (tOp rCat tx tb) σ H (n + m) G := fun H1 e Q q =>
  ha H1 e _ fun H2 e2 => hb H2 (e.trans e2) _ fun v H3 e3 hv => by
    obtain ⟨p, xs, rfl, hp, h3, l3, g3⟩ := hv
    have e03 := (e.trans e2).trans e3
    refine ⟨p0, p, xs0, xs, rfl, rfl, e03 _ _ h0, h3, sz_of (by omega), fun l hl => q (.ref l) _ ((e2.trans e3).trans (Ex.new hl)) ⟨l, xs0 ++ xs, rfl, fresh_back (e2.trans e3) hl, upd_same, by rw [List.length_append]; omega, fun x hx => ?_⟩⟩
    rcases List.mem_append.mp hx with z | z
    · exact mono x _ _ (e03.trans (Ex.new hl)) (g0 x z)
    · exact mono x _ _ (Ex.new hl) (g3 x z)
/-- a pair of things -/
theorem gx_pair {G1 G2 : V → Hp → Prop} (mono : ∀ x H1 H2, Ex H1 H2 → G1 x H1 → G1 x H2) (mono2 : ∀ x H1 H2, Ex H1 H2 → G2 x H1 → G2 x H2) (h1 : EvGX t1 σ H G1) (h2 : EvGX t2 σ H G2) :
    EvGX (tTup (tCons t1 (tCons t2 tNil))) σ H fun x H2 => ∃ p u v, x = V.ref p ∧ SqT K H2 p [u, v] ∧ G1 u H2 ∧ G2 v H2 := fun H1 e Q q =>
  h1 H1 e _ fun u H2 e2 hu => h2 H2 (e.trans e2) _ fun v H3 e3 hv => ⟨by show 2 ≤ sizeLine; decide, fun p hp => q (.ref p) _ ((e2.trans e3).trans (Ex.new hp)) ⟨p, u, v, rfl, SqT.of upd_same, mono u _ _ (e3.trans (Ex.new hp)) hu, mono2 v _ _ (Ex.new hp) hv⟩⟩
theorem canLay_ties : ∀ ts : List Tie, PyData.canLayAll0 (ts.map tieD) = true
  | [] => rfl
  | t :: ts => by
    rw [List.map_cons, PyData.canLayAll0, canLay_ties ts]
    rfl
theorem depth_ties : ∀ ts : List Tie, PyData.depthAll (ts.map tieD) ≤ 1
  | [] => Nat.zero_le _
  | t :: ts => by
    rw [List.map_cons, PyData.depthAll]
    have := depth_ties ts
    have h1 : (tieD t).depth = 1 := rfl
    omega
theorem shaped_ties (ts : List Tie) : SeqAt.shaped (.list (ts.map tieD)) = true := by
  unfold SeqAt.shaped
  rw [PyData.canLay0, canLay_ties, PyData.depth, Bool.true_and]
  have := depth_ties ts
  exact decide_eq_true (by omega)
theorem eqv_tie (t : Tie) : PyData.eqv (tieD t) (tieD t) = true := eqv_pair _ _
theorem eqvAll_ties : ∀ ts : List Tie, PyData.eqvAll (ts.map tieD) (ts.map tieD) = true
  | [] => by rw [List.map_nil, PyData.eqvAll]
  | t :: ts => by
    rw [List.map_cons, PyData.eqvAll, eqvAll_ties ts, eqv_tie]
    rfl
theorem dp_tiesL {H : Hp} {l : Addr} {xs : List V} {ts : List Tie} (h : SqL K H l xs) (hT : Ties K H xs ts) : Dp K H (.ref l) (.list (ts.map tieD)) := .lst h (ties_dp hT)
/-- one list of ties, and another of the same: not unequal -/
theorem ev_neTies {p q : Addr} {xs ys : List V} {ts : List Tie} (ha : Ev ta σ H (.ref p)) (hb : Ev tb σ H (.ref q)) (h1 : SqL K H p xs) (k1 : Ties K H xs ts) (h2 : SqL K H q ys) (k2 : Ties K H ys ts) : Ev (tOp (rNeD K) ta tb) σ H (.bl false) := by
  have h := rv_neD (K := K) (dp_tiesL h1 k1) (dp_tiesL h2 k2) (shaped_ties ts) (shaped_ties ts)
  rw [show PyData.eqv (.list (ts.map tieD)) (.list (ts.map tieD)) = true by rw [PyData.eqv, eqvAll_ties]] at h
  exact ev_op ha hb h
theorem ev_neNoTies {p : Addr} {xs : List V} {ts : List Tie} (ha : Ev ta σ H (.ref p)) (h1 : SqL K H p xs) (k1 : Ties K H xs ts) (hb : EvL tb σ H []) : Ev (tOp (rNeD K) ta tb) σ H (.bl (!ts.isEmpty)) := fun H1 e Q q =>
  ha H1 e _ fun H2 e2 => hb H2 (e.trans e2) _ fun r H3 hr e3 h3 => by
    have e03 := (e.trans e2).trans e3
    have h := rv_neD (K := K) (dp_tiesL (ex_l e03 h1) (Ties.ex e03 k1)) (dp_ints (cs := []) (SqL.of h3)) (shaped_ties ts) (shaped_ints [])
    have ee : PyData.eqv (.list (ts.map tieD)) (.list (([] : List Int).map PyData.int)) = ts.isEmpty := by
      cases ts with
      | nil => exact eqv_ints []
      | cons c cs =>
        rw [List.map_cons, List.map_nil, PyData.eqv, PyData.eqvAll]
        · rfl
        all_goals simp
    rw [ee] at h
    exact h H3 (Ex.refl H3) Q fun H4 e4 => q H4 ((e2.trans e3).trans e4)
/-- (x, what the second tells) -/
theorem eg_tupG {x : V} {P : Hp → V → Hp → Prop} (ha : Ev ta σ H x) (hb : EvG tb σ H P) : EvG (tTup (tCons ta (tCons tb tNil))) σ H fun H1 w H2 => ∃ q v H0 H3, w = V.ref q ∧ Ex H1 H0 ∧ P H0 v H3 ∧ Ex H3 H2 ∧ Ex H1 H2 ∧ SqT K H2 q [x, v] := fun H1 e Q q =>
  ha H1 e _ fun H2 e2 => hb H2 (e.trans e2) _ fun v H3 e3 hv => ⟨by show 2 ≤ sizeLine; decide, fun u hu => q (.ref u) _ ((e2.trans e3).trans (Ex.new hu)) ⟨u, v, H2, H3, rfl, e2, hv, Ex.new hu, (e2.trans e3).trans (Ex.new hu), SqT.of upd_same⟩⟩
theorem mid_take {α : Type} (A B : List α) (y : α) : ((A ++ [y]) ++ B).take A.length = A := by
  rw [List.append_assoc, List.take_left]
theorem mid_at {α : Type} (A B : List α) (y : α) : ((A ++ [y]) ++ B)[A.length]? = some y := by
  rw [List.append_assoc, List.getElem?_append_right (Nat.le_refl _), Nat.sub_self]
  rfl
end
end Z
set_option Elab.async false
set_option linter.all false
set_option maxRecDepth 100000
set_option maxHeartbeats 4000000
/-! LAYF: zip in a comprehension, rows of lists. -/
namespace Z
open PySem PySem.Spec PyProof.Rows L2 Evl
section
variable {K : PySem.W.Frag} {σ : L2.St} {H : Hp} {ta tb tx te t1 t2 t3 t4 : TE} {D : Ends} {tz : TS}
theorem el_lcZip {aa : TA} {a b : Addr} {xs ys : List V} {i j : Nat} {vs : List Nat} (v : Nat → V) (ha : EvA aa σ H [.ref a, .ref b]) (h1 : SqL K H a xs) (h2 : SqL K H b ys) (hl : xs.length = ys.length) (hz : xs.length ≤ 40000) (hw : ∀ x y, wipe (((wipe σ vs).set i (some x)).set j (some y)) vs = wipe σ vs)
    (he : ∀ (m : Nat) (x y : V) H1, Ex H H1 → xs[m]? = some x → ys[m]? = some y → Ev te (((wipe σ vs).set i (some x)).set j (some y)) H1 (v m)) : EvL (tLc (iZip K aa) (gTup K 2 (gCons (gName i) (gCons (gName j) gNil))) tYes te vs) σ H (given xs.length (fun _ => true) v) := fun H0 e Q q => ha H0 e _ fun H1 e1 => by
  have e01 := e.trans e1
  refine ⟨a, b, xs, ys, rfl, ex_l e01 h1, ex_l e01 h2, fun Dl hD => ⟨fun m k H' => k = xs.length - m ∧ m ≤ xs.length ∧ Cw H1 (fun _ => true) v Dl m H', ⟨xs.length, by simp, Nat.zero_le _, hD, Ex.new hD, upd_same⟩, ?_⟩⟩
  rintro m k H' ⟨rfl, hm, p⟩
  have p1 := ex_l (e01.trans p.2.1) h1
  have p2 := ex_l (e01.trans p.2.1) h2
  by_cases hlt : m < xs.length
  · refine .inr ⟨⟨xs, ys, xs[m], ys[m]'(by omega), p1, p2, by simp [hlt], List.getElem?_eq_getElem _⟩, Cw H1 (fun _ => true) v Dl (m + 1), fun H' p' => ⟨xs.length - (m + 1), by omega, rfl, hlt, p'⟩, fun x H'' y => ?_⟩
    obtain ⟨T, x, y, rfl, hT, rfl, hx, hy⟩ := y
    have nD : Dl ≠ T := ne_of_none p.2.2 hT
    have pT : Cw H1 (fun _ => true) v Dl m (upd H' T (.tup [x, y])) := ⟨p.1, p.2.1.trans (Ex.new hT), (upd_ne nD).trans p.2.2⟩
    exact ⟨T, [x, y], rfl, SqT.of upd_same, rfl, x, [y], rfl, y, [], rfl, rfl, hw _ _, cw_turn pT (by omega) et_yes fun _ => he m x y H1 e01 (hx xs p1) (hy ys p2)⟩
  · have em : m = xs.length := by omega
    subst em
    exact .inl ⟨⟨xs, ys, p1, p2, .inl (Nat.le_refl _)⟩, q Dl H' (fresh_back e1 p.1) (e1.trans p.2.1) p.2.2⟩
/-- a def called with a value and a new list -/
theorem ev_callL {sp : Sp} {dvs : List V} {E : XK} {x v : V} {xs : List V} (h1 : Ev t1 σ H x) (h2 : EvL t2 σ H xs) (hs : ∀ p H1, Ex H H1 → H1 p = some (.lst xs) → ∀ Q : VK, (∀ H2, Ex H1 H2 → Q v H2) → ∀ E : XK, sp ([x, .ref p] ++ dvs) H1 Q E) : Ev (tCall sp dvs E (tCons t1 (tCons t2 tNil))) σ H v := fun H1 e Q q =>
  h1 H1 e _ fun H2 e2 => h2 H2 (e.trans e2) _ fun p H3 hp e3 h3 => hs p H3 ((e.trans e2).trans e3) h3 Q (fun H4 e4 => q H4 ((e2.trans e3).trans e4)) E
theorem s_appG {P : Hp → V → Hp → Prop} {l : Addr} {xs : List V} (hl : H l = some (.lst xs)) (ha : Ev ta σ H (.ref l)) (h : EvG te σ H P) (hz : xs.length < 100000) (k : ∀ v H0 H1, Ex H H0 → P H0 v H1 → Ex H0 H1 → D.nx σ (upd H1 l (.lst (xs ++ [v])))) :
    tDrop (tBM K "list" rAppend ta (tCons te tNil)) D σ H := ha H (Ex.refl H) _ fun H1 e1 =>
  ⟨Or.inl ⟨rfl, xs, sq_of (e1 l _ hl)⟩, h H1 e1 _ fun v H2 e2 hv => ⟨l, xs, v, rfl, rfl, e2 l _ (e1 l _ hl), sz_lt hz, k v H1 H2 e1 hv e2⟩⟩
theorem eg_tup4 {x1 x3 : V} {xs2 xs4 : List V} (h1 : Ev t1 σ H x1) (h2 : EvL t2 σ H xs2) (h3 : Ev t3 σ H x3) (h4 : EvL t4 σ H xs4) : EvG (tTup (tCons t1 (tCons t2 (tCons t3 (tCons t4 tNil))))) σ H fun H1 w H2 => ∃ t b d, w = V.ref t ∧ H1 b = none ∧ H1 d = none ∧ SqT K H2 t [x1, .ref b, x3, .ref d] ∧ H2 b = some (.lst xs2) ∧ H2 d = some (.lst xs4) := fun H1 e Q q =>
  h1 H1 e _ fun H2 e2 => h2 H2 (e.trans e2) _ fun b H3 hb e3 h3' => h3 H3 ((e.trans e2).trans e3) _ fun H4 e4 => h4 H4 (((e.trans e2).trans e3).trans e4) _ fun d H5 hd e5 h5 => ⟨by show 4 ≤ sizeLine; decide, fun u hu =>
    q (.ref u) _ ((((e2.trans e3).trans e4).trans e5).trans (Ex.new hu)) ⟨u, b, d, rfl, fresh_back e2 hb, fresh_back ((e2.trans e3).trans e4) hd, SqT.of upd_same, ((e4.trans e5).trans (Ex.new hu)) _ _ h3', Ex.new hu _ _ h5⟩⟩
/-- a list and a new list, one behind the other -/
theorem el_catV {p : Addr} {xs ys : List V} (ha : Ev ta σ H (.ref p)) (hp : H p = some (.lst xs)) (hb : EvL tb σ H ys) (hz : xs.length + ys.length ≤ 100000) : EvL (tOp rCat ta tb) σ H (xs ++ ys) := fun H1 e Q q =>
  ha H1 e _ fun H2 e2 => hb H2 (e.trans e2) _ fun u H3 hu e3 h3 => ⟨p, u, xs, ys, rfl, rfl, ((e.trans e2).trans e3) p _ hp, h3, sz_of hz, fun l hl => q l _ (fresh_back (e2.trans e3) hl) ((e2.trans e3).trans (Ex.new hl)) upd_same⟩
/-- ('refused', ['web']) twice -/
def RefW (u1 u2 : Str) (v : V) (H : Hp) : Prop := ∃ t l, v = V.ref t ∧ H t = some (.tup [.str u1, .ref l]) ∧ H l = some (.lst [.str u2])
theorem shaped_ref {u1 u2 : Str} (h1 : PyData.strOk u1 = true) (h2 : PyData.strOk u2 = true) : SeqAt.shaped (.tuple [.str u1, .list [.str u2]]) = true := by
  unfold SeqAt.shaped
  rw [PyData.canLay0, PyData.canLayAll0, PyData.canLayAll0, PyData.canLayAll0, PyData.canLay0, PyData.canLay0, PyData.canLayAll0, PyData.canLayAll0, PyData.canLay0, h1, h2]
  rfl
theorem eqv_ref (u1 u2 : Str) : PyData.eqv (.tuple [.str u1, .list [.str u2]]) (.tuple [.str u1, .list [.str u2]]) = true := by
  rw [PyData.eqv, PyData.eqvAll, PyData.eqvAll, PyData.eqvAll, eqv_word, PyData.eqv]
  simp
theorem ev_neRef {u1 u2 : Str} (h1 : PyData.strOk u1 = true) (h2 : PyData.strOk u2 = true) (ha : EvG ta σ H fun _ v H2 => RefW u1 u2 v H2) (hb : EvG tb σ H fun _ v H2 => RefW u1 u2 v H2) : Ev (tOp (rNeD K) ta tb) σ H (.bl false) := fun H1 e Q q =>
  ha H1 e _ fun v H2 e2 hv => hb H2 (e.trans e2) _ fun w H3 e3 hw => by
    obtain ⟨t, l, rfl, ht, hl⟩ := hv
    obtain ⟨t', l', rfl, ht', hl'⟩ := hw
    have h := rv_neD (K := K) (H := H3) (x := .ref t) (y := .ref t') (.tup (SqT.of (e3 _ _ ht)) (.cons (.str u1) (.cons (dp_word (e3 _ _ hl)) .nil))) (.tup (SqT.of ht') (.cons (.str u1) (.cons (dp_word hl') .nil))) (shaped_ref h1 h2) (shaped_ref h1 h2)
    rw [eqv_ref] at h
    exact h H3 (Ex.refl H3) Q fun H4 e4 => q H4 ((e2.trans e3).trans e4)
theorem ev_eqNil (ha : EvL ta σ H []) (hb : EvL tb σ H []) : Ev (tOp (rEqD K) ta tb) σ H (.bl true) := fun H1 e Q q =>
  ha H1 e _ fun p H2 hp e2 h2 => hb H2 (e.trans e2) _ fun r H3 hr e3 h3 => by
    have h := rv_eqD (K := K) (dp_ints (cs := []) (SqL.of (e3 _ _ h2))) (dp_ints (cs := []) (SqL.of h3)) (shaped_ints []) (shaped_ints [])
    rw [eqv_ints] at h
    exact h H3 (Ex.refl H3) Q fun H4 e4 => q H4 ((e2.trans e3).trans e4)
end
end Z
set_option Elab.async false
set_option linter.all false
set_option maxRecDepth 100000
set_option maxHeartbeats 4000000
section
local macro_rules | `(tactic| walk_at "ev") => `(tactic| repeat' (first
  | with_reducible exact Evl.ev_c
  | ((with_reducible apply Evl.ev_var); rfl)
  | with_reducible apply Evl.ev_op
  | with_reducible apply Evl.ev_un
  | with_reducible exact Evl.ru_neg
  | with_reducible exact Evl.ea_nil
  | with_reducible apply Evl.ea_cons
  | with_reducible apply Evl.et_test
  | with_reducible apply Evl.et_B
  | with_reducible apply Evl.et_not
  | ((with_reducible apply Evl.et_and); rotate_left 1; intro _; rotate_right 1)
  | ((with_reducible apply Evl.et_or); rotate_left 1; intro _; rotate_right 1)
  | ((with_reducible apply Evl.ev_andV); rotate_left 1; intro _; rotate_right 1)
  | ((with_reducible apply Evl.ev_orV); rotate_left 1; intro _; rotate_right 1)
  | with_reducible apply Evl.ev_notV
  | ((with_reducible apply Z.ev_chain); rotate_left 3; intro _; rotate_left 1; intro _; rotate_right 4)
  | with_reducible exact Evl.rv_I0
  | with_reducible apply Evl.rv_I
  | ((with_reducible apply Evl.rv_eq); rfl)
  | ((with_reducible apply Evl.rv_ne); rfl)
  | with_reducible exact Z.rv_isN
  | with_reducible exact Z.rv_notN
  | ((with_reducible apply Z.rv_eqTy); (first | decide | assumption); (first | decide | assumption))
  | ((with_reducible apply Z.rv_neTy); (first | decide | assumption); (first | decide | assumption))
  | with_reducible apply Evl.ev_cb
  | with_reducible exact Z.rc_max2
  | with_reducible exact Z.rc_min2
  | with_reducible exact Z.rc_intI
  | with_reducible exact Z.rc_intB
  | ((with_reducible apply Z.rc_lenL); first | assumption | (apply L2.SqL.of; assumption))
  | ((with_reducible apply Z.rc_lenT); first | assumption | (apply L2.SqT.of; assumption))
  | with_reducible apply Z.rc_type
  | with_reducible apply Evl.ev_call
  | with_reducible apply Evl.eo_some
  | with_reducible exact Evl.eo_none))

namespace K2
open PySem PySem.Spec PyProof.Rows L2 Evl Z
def topS (i : Nat) : Stmt := PySem.Challenge.pw_tiecount_k02_webs_and_pieces.main.body.getD i (.Pass ⟨0, 0, 0, 0⟩)
abbrev s_is_whole : Stmt := topS 10
abbrev n_is_whole : List Str := ["thing", "least", "most"]
theorem sc_is_whole : FnScope n_is_whole ["thing", "least", "most"] (defScope s_is_whole) := ⟨rfl, rfl, rfl, by decide +kernel, rfl, by decide +kernel, by decide +kernel⟩
abbrev s_need_web : Stmt := topS 12
abbrev n_need_web : List Str := ["size", "ties", "seen", "tie"]
theorem sc_need_web : FnScope n_need_web ["size", "ties"] (defScope s_need_web) := ⟨rfl, rfl, rfl, by decide +kernel, rfl, by decide +kernel, by decide +kernel⟩
abbrev s__is_tie : Stmt := topS 13
abbrev n__is_tie : List Str := ["size", "thing", "low", "high"]
theorem sc__is_tie : FnScope n__is_tie ["size", "thing"] (defScope s__is_tie) := ⟨rfl, rfl, rfl, by decide +kernel, rfl, by decide +kernel, by decide +kernel⟩
abbrev s_counts_of : Stmt := topS 14
abbrev n_counts_of : List Str := ["size", "ties", "counts", "low", "high"]
theorem sc_counts_of : FnScope n_counts_of ["size", "ties"] (defScope s_counts_of) := ⟨rfl, rfl, rfl, by decide +kernel, rfl, by decide +kernel, by decide +kernel⟩
abbrev s_pieces : Stmt := topS 15
abbrev n_pieces : List Str := ["size", "ties", "firsts", "found", "first", "point"]
theorem sc_pieces : FnScope n_pieces ["size", "ties"] (defScope s_pieces) := ⟨rfl, rfl, rfl, by decide +kernel, rfl, by decide +kernel, by decide +kernel⟩
abbrev s__first_points : Stmt := topS 16
abbrev n__first_points : List Str := ["size", "ties", "firsts", "low", "high", "kept", "lost", "first"]
theorem sc__first_points : FnScope n__first_points ["size", "ties"] (defScope s__first_points) := ⟨rfl, rfl, rfl, by decide +kernel, rfl, by decide +kernel, by decide +kernel⟩
abbrev s__law_cell : Stmt := topS 18
abbrev n__law_cell : List Str := ["_law_script", "_law_k"]
theorem sc__law_cell : FnScope n__law_cell ["_law_script", "_law_k"] (defScope s__law_cell) := ⟨rfl, rfl, rfl, by decide +kernel, rfl, by decide +kernel, by decide +kernel⟩
abbrev s__law_mixed : Stmt := topS 19
abbrev n__law_mixed : List Str := ["_law_cell_here", "_law_k", "_law_number"]
theorem sc__law_mixed : FnScope n__law_mixed ["_law_cell_here", "_law_k"] (defScope s__law_mixed) := ⟨rfl, rfl, rfl, by decide +kernel, rfl, by decide +kernel, by decide +kernel⟩
abbrev s__law_whole : Stmt := topS 20
abbrev n__law_whole : List Str := ["_law_found"]
theorem sc__law_whole : FnScope n__law_whole ["_law_found"] (defScope s__law_whole) := ⟨rfl, rfl, rfl, by decide +kernel, rfl, by decide +kernel, by decide +kernel⟩
abbrev s__law_web : Stmt := topS 21
abbrev n__law_web : List Str := ["_law_script", "_law_first", "_law_most", "_law_cell_here", "_law_size", "_law_ties", "_law_other", "_law_one", "_law_number", "_law_kind_here", "_law_turn"]
theorem sc__law_web : FnScope n__law_web ["_law_script", "_law_first", "_law_most"] (defScope s__law_web) := ⟨rfl, rfl, rfl, by decide +kernel, rfl, by decide +kernel, by decide +kernel⟩
abbrev s__law_counts : Stmt := topS 22
abbrev n__law_counts : List Str := ["_law_size", "_law_ties", "_law_point", "_law_tie"]
theorem sc__law_counts : FnScope n__law_counts ["_law_size", "_law_ties"] (defScope s__law_counts) := ⟨rfl, rfl, rfl, by decide +kernel, rfl, by decide +kernel, by decide +kernel⟩
abbrev s__law_pieces : Stmt := topS 23
abbrev n__law_pieces : List Str := ["_law_size", "_law_ties", "_law_marks", "_law_turn", "_law_one", "_law_other", "_law_least", "_law_found", "_law_mark", "_law_piece", "_law_point"]
theorem sc__law_pieces : FnScope n__law_pieces ["_law_size", "_law_ties"] (defScope s__law_pieces) := ⟨rfl, rfl, rfl, by decide +kernel, rfl, by decide +kernel, by decide +kernel⟩
abbrev s__law_kind : Stmt := topS 24
abbrev n__law_kind : List Str := ["_law_error", "_law_found", "_law_word", "_law_is_one"]
theorem sc__law_kind : FnScope n__law_kind ["_law_error"] (defScope s__law_kind) := ⟨rfl, rfl, rfl, by decide +kernel, rfl, by decide +kernel, by decide +kernel⟩
abbrev s__law_no_web : Stmt := topS 25
abbrev n__law_no_web : List Str := ["_law_size", "_law_ties", "_law_number", "_law_cell_here", "_law_at", "_law_far", "_law_odd", "_law_some"]
theorem sc__law_no_web : FnScope n__law_no_web ["_law_size", "_law_ties", "_law_number"] (defScope s__law_no_web) := ⟨rfl, rfl, rfl, by decide +kernel, rfl, by decide +kernel, by decide +kernel⟩
abbrev s__law_told : Stmt := topS 26
abbrev n__law_told : List Str := ["_law_kind_here", "_law_size", "_law_ties", "_law_error"]
theorem sc__law_told : FnScope n__law_told ["_law_kind_here", "_law_size", "_law_ties"] (defScope s__law_told) := ⟨rfl, rfl, rfl, by decide +kernel, rfl, by decide +kernel, by decide +kernel⟩
abbrev s__law_points : Stmt := topS 27
abbrev n__law_points : List Str := ["_law_found", "_law_due", "_law_one"]
theorem sc__law_points : FnScope n__law_points ["_law_found", "_law_due"] (defScope s__law_points) := ⟨rfl, rfl, rfl, by decide +kernel, rfl, by decide +kernel, by decide +kernel⟩
abbrev s_law : Stmt := topS 28
abbrev n_law : List Str := ["_law_script", "_law_size", "_law_ties", "_law_handed", "_law_held", "_law_turn", "_law_counts_here", "_law_found", "_law_due", "_law_wrong", "_law_kind_here", "_law_row", "_law_piece", "_law_other"]
theorem sc_law : FnScope n_law ["_law_script"] (defScope s_law) := ⟨rfl, rfl, rfl, by decide +kernel, rfl, by decide +kernel, by decide +kernel⟩
structure Ad where
  a_is_whole : Addr
  d_is_whole : FuncData
  a_need_web : Addr
  d_need_web : FuncData
  a__is_tie : Addr
  d__is_tie : FuncData
  a_counts_of : Addr
  d_counts_of : FuncData
  a_pieces : Addr
  d_pieces : FuncData
  a__first_points : Addr
  d__first_points : FuncData
  a__law_cell : Addr
  d__law_cell : FuncData
  a__law_mixed : Addr
  d__law_mixed : FuncData
  a__law_whole : Addr
  d__law_whole : FuncData
  a__law_web : Addr
  d__law_web : FuncData
  a__law_counts : Addr
  d__law_counts : FuncData
  a__law_pieces : Addr
  d__law_pieces : FuncData
  a__law_kind : Addr
  d__law_kind : FuncData
  a__law_no_web : Addr
  d__law_no_web : FuncData
  a__law_told : Addr
  d__law_told : FuncData
  a__law_points : Addr
  d__law_points : FuncData
  a_law : Addr
  d_law : FuncData
  c_TieError : Addr
  c_BadCounts : Addr
  c_BadMany : Addr
  c_BadWeb : Addr
  c_BadExchange : Addr
  c_Unlike : Addr
  c_NoWeb : Addr
  t_MOST_POINTS : Tok
structure Top (K : PySem.W.Frag) (mg : Str → Option Value) (a : Ad) : Prop where
  g_is_whole : mg "is_whole" = some (.ref a.a_is_whole)
  F_is_whole : Fun K "is_whole" "is_whole" s_is_whole a.a_is_whole a.d_is_whole
  b_is_whole : Binds K a.d_is_whole ["thing", "least", "most"] []
  g_need_web : mg "need_web" = some (.ref a.a_need_web)
  F_need_web : Fun K "need_web" "need_web" s_need_web a.a_need_web a.d_need_web
  b_need_web : Binds K a.d_need_web ["size", "ties"] []
  g__is_tie : mg "_is_tie" = some (.ref a.a__is_tie)
  F__is_tie : Fun K "_is_tie" "_is_tie" s__is_tie a.a__is_tie a.d__is_tie
  b__is_tie : Binds K a.d__is_tie ["size", "thing"] []
  g_counts_of : mg "counts_of" = some (.ref a.a_counts_of)
  F_counts_of : Fun K "counts_of" "counts_of" s_counts_of a.a_counts_of a.d_counts_of
  b_counts_of : Binds K a.d_counts_of ["size", "ties"] []
  g_pieces : mg "pieces" = some (.ref a.a_pieces)
  F_pieces : Fun K "pieces" "pieces" s_pieces a.a_pieces a.d_pieces
  b_pieces : Binds K a.d_pieces ["size", "ties"] []
  g__first_points : mg "_first_points" = some (.ref a.a__first_points)
  F__first_points : Fun K "_first_points" "_first_points" s__first_points a.a__first_points a.d__first_points
  b__first_points : Binds K a.d__first_points ["size", "ties"] []
  g__law_cell : mg "_law_cell" = some (.ref a.a__law_cell)
  F__law_cell : Fun K "_law_cell" "_law_cell" s__law_cell a.a__law_cell a.d__law_cell
  b__law_cell : Binds K a.d__law_cell ["_law_script", "_law_k"] []
  g__law_mixed : mg "_law_mixed" = some (.ref a.a__law_mixed)
  F__law_mixed : Fun K "_law_mixed" "_law_mixed" s__law_mixed a.a__law_mixed a.d__law_mixed
  b__law_mixed : Binds K a.d__law_mixed ["_law_cell_here", "_law_k"] []
  g__law_whole : mg "_law_whole" = some (.ref a.a__law_whole)
  F__law_whole : Fun K "_law_whole" "_law_whole" s__law_whole a.a__law_whole a.d__law_whole
  b__law_whole : Binds K a.d__law_whole ["_law_found"] []
  g__law_web : mg "_law_web" = some (.ref a.a__law_web)
  F__law_web : Fun K "_law_web" "_law_web" s__law_web a.a__law_web a.d__law_web
  b__law_web : Binds K a.d__law_web ["_law_script", "_law_first", "_law_most"] []
  g__law_counts : mg "_law_counts" = some (.ref a.a__law_counts)
  F__law_counts : Fun K "_law_counts" "_law_counts" s__law_counts a.a__law_counts a.d__law_counts
  b__law_counts : Binds K a.d__law_counts ["_law_size", "_law_ties"] []
  g__law_pieces : mg "_law_pieces" = some (.ref a.a__law_pieces)
  F__law_pieces : Fun K "_law_pieces" "_law_pieces" s__law_pieces a.a__law_pieces a.d__law_pieces
  b__law_pieces : Binds K a.d__law_pieces ["_law_size", "_law_ties"] []
  g__law_kind : mg "_law_kind" = some (.ref a.a__law_kind)
  F__law_kind : Fun K "_law_kind" "_law_kind" s__law_kind a.a__law_kind a.d__law_kind
  b__law_kind : Binds K a.d__law_kind ["_law_error"] []
  g__law_no_web : mg "_law_no_web" = some (.ref a.a__law_no_web)
  F__law_no_web : Fun K "_law_no_web" "_law_no_web" s__law_no_web a.a__law_no_web a.d__law_no_web
  b__law_no_web : Binds K a.d__law_no_web ["_law_size", "_law_ties", "_law_number"] []
  g__law_told : mg "_law_told" = some (.ref a.a__law_told)
  F__law_told : Fun K "_law_told" "_law_told" s__law_told a.a__law_told a.d__law_told
  b__law_told : Binds K a.d__law_told ["_law_kind_here", "_law_size", "_law_ties"] []
  g__law_points : mg "_law_points" = some (.ref a.a__law_points)
  F__law_points : Fun K "_law_points" "_law_points" s__law_points a.a__law_points a.d__law_points
  b__law_points : Binds K a.d__law_points ["_law_found", "_law_due"] []
  g_law : mg "law" = some (.ref a.a_law)
  F_law : Fun K "law" "law" s_law a.a_law a.d_law
  b_law : Binds K a.d_law ["_law_script"] []
  g_TieError : mg "TieError" = some (.ref a.c_TieError)
  x_TieError : PySem.W.excIn K a.c_TieError [.type "ValueError", .type "Exception", .type "BaseException", .type "object"] "ValueError.__new__" = true
  k_TieError : PySem.W.keepIn K (.ref a.c_TieError) = true
  eb_TieError : PySem.W.subIn K (.ref a.c_TieError) (.type "BaseException") = some true
  et_TieError : PySem.W.typeIn K (.ref a.c_TieError) = some (.type "type")
  g_BadCounts : mg "BadCounts" = some (.ref a.c_BadCounts)
  x_BadCounts : PySem.W.excIn K a.c_BadCounts [.type "ValueError", .type "Exception", .type "BaseException", .type "object"] "ValueError.__new__" = true
  k_BadCounts : PySem.W.keepIn K (.ref a.c_BadCounts) = true
  eb_BadCounts : PySem.W.subIn K (.ref a.c_BadCounts) (.type "BaseException") = some true
  et_BadCounts : PySem.W.typeIn K (.ref a.c_BadCounts) = some (.type "type")
  g_BadMany : mg "BadMany" = some (.ref a.c_BadMany)
  x_BadMany : PySem.W.excIn K a.c_BadMany [.type "ValueError", .type "Exception", .type "BaseException", .type "object"] "ValueError.__new__" = true
  k_BadMany : PySem.W.keepIn K (.ref a.c_BadMany) = true
  eb_BadMany : PySem.W.subIn K (.ref a.c_BadMany) (.type "BaseException") = some true
  et_BadMany : PySem.W.typeIn K (.ref a.c_BadMany) = some (.type "type")
  g_BadWeb : mg "BadWeb" = some (.ref a.c_BadWeb)
  x_BadWeb : PySem.W.excIn K a.c_BadWeb [.type "ValueError", .type "Exception", .type "BaseException", .type "object"] "ValueError.__new__" = true
  k_BadWeb : PySem.W.keepIn K (.ref a.c_BadWeb) = true
  eb_BadWeb : PySem.W.subIn K (.ref a.c_BadWeb) (.type "BaseException") = some true
  et_BadWeb : PySem.W.typeIn K (.ref a.c_BadWeb) = some (.type "type")
  g_BadExchange : mg "BadExchange" = some (.ref a.c_BadExchange)
  x_BadExchange : PySem.W.excIn K a.c_BadExchange [.type "ValueError", .type "Exception", .type "BaseException", .type "object"] "ValueError.__new__" = true
  k_BadExchange : PySem.W.keepIn K (.ref a.c_BadExchange) = true
  eb_BadExchange : PySem.W.subIn K (.ref a.c_BadExchange) (.type "BaseException") = some true
  et_BadExchange : PySem.W.typeIn K (.ref a.c_BadExchange) = some (.type "type")
  g_Unlike : mg "Unlike" = some (.ref a.c_Unlike)
  x_Unlike : PySem.W.excIn K a.c_Unlike [.type "ValueError", .type "Exception", .type "BaseException", .type "object"] "ValueError.__new__" = true
  k_Unlike : PySem.W.keepIn K (.ref a.c_Unlike) = true
  eb_Unlike : PySem.W.subIn K (.ref a.c_Unlike) (.type "BaseException") = some true
  et_Unlike : PySem.W.typeIn K (.ref a.c_Unlike) = some (.type "type")
  g_NoWeb : mg "NoWeb" = some (.ref a.c_NoWeb)
  x_NoWeb : PySem.W.excIn K a.c_NoWeb [.type "ValueError", .type "Exception", .type "BaseException", .type "object"] "ValueError.__new__" = true
  k_NoWeb : PySem.W.keepIn K (.ref a.c_NoWeb) = true
  eb_NoWeb : PySem.W.subIn K (.ref a.c_NoWeb) (.type "BaseException") = some true
  et_NoWeb : PySem.W.typeIn K (.ref a.c_NoWeb) = some (.type "type")
  g_MOST_POINTS : mg "MOST_POINTS" = some (.int 10 a.t_MOST_POINTS)
  n_ValueError : mg "ValueError" = none
  n_all : mg "all" = none
  n_bool : mg "bool" = none
  n_int : mg "int" = none
  n_isinstance : mg "isinstance" = none
  n_len : mg "len" = none
  n_list : mg "list" = none
  n_max : mg "max" = none
  n_min : mg "min" = none
  n_range : mg "range" = none
  n_set : mg "set" = none
  n_tuple : mg "tuple" = none
  n_type : mg "type" = none
  n_zip : mg "zip" = none
section
variable {P : Program} {w : World} {K : PySem.W.Frag} {mg : Str → Option Value} {base : Heap} {a : Ad}
/-! ### is_whole -/
def isW (x : V) (lo hi : Int) : Bool := match x with
  | .int i => decide (lo ≤ i) && decide (i ≤ hi)
  | _ => false
def sp_is_whole (K : PySem.W.Frag) : Sp := fun vs H Q _ => ∃ (x : V) (lo hi : Int) (T : String), vs = [x, .int lo, .int hi] ∧ TyB K H x T ∧ T ∈ metaT ∧ ∀ H2, Ex H H2 → Q (.bl (isW x lo hi)) H2
theorem ok_is_whole (T : Top K mg a) : FnOk P w K mg base CX0 1 a.a_is_whole a.d_is_whole ["thing", "least", "most"] (sp_is_whole K) := by
  refine T.F_is_whole.ok sc_is_whole (fun vs H Q E h => ?_) (fun cdv A outer s H vs Q E hr h => ?_)
  · obtain ⟨x, lo, hi, T, rfl, _⟩ := h
    rfl
  · obtain ⟨x, lo, hi, Ty, rfl, hT, hm, q⟩ := h
    refine ⟨_, (pss_one (ps_ret (pe_and (pe_cmpR op_eqTy (pe_callTy (kx_type (K := K)) (by rfl) T.n_type (by decide +kernel) (pa_cons (pv 0) pa_nil)) (pe_bltn (v := .ty "int") rfl T.n_int (by decide +kernel) rfl) (nomark _)) (pe_one (pe_chain op_le op_le (pv 1) (pv 0) (pv 2)))))), ?_⟩
    cases hT with
    | int i => exact s_ret (v := .bl (isW (.int i) lo hi)) (by
        refine ev_andT (ev_is (v := .bl (decide (("int" : String) = "int"))) (by walk_at "ev"; exact .int i) rfl) ?_
        refine ev_is (v := .bl (decide (lo ≤ i) && decide (i ≤ hi))) ?_ rfl
        walk_at "ev") fun H2 e => q H2 e
    | non => exact s_ret (v := .bl false) (ev_andF (ev_is (v := .bl (decide (("NoneType" : String) = "int"))) (by walk_at "ev"; exact .non) rfl)) fun H2 e => q H2 e
    | bl b => exact s_ret (v := .bl false) (ev_andF (ev_is (v := .bl (decide (("bool" : String) = "int"))) (by walk_at "ev"; exact .bl b) rfl)) fun H2 e => q H2 e
    | str b => exact s_ret (v := .bl false) (ev_andF (ev_is (v := .bl (decide (("str" : String) = "int"))) (by walk_at "ev"; exact .str b) rfl)) fun H2 e => q H2 e
    | byt b => exact absurd hm (by decide)
    | lst h => exact s_ret (v := .bl false) (ev_andF (ev_is (v := .bl (decide (("list" : String) = "int"))) (by walk_at "ev"; exact .lst h) rfl)) fun H2 e => q H2 e
    | tup h => exact s_ret (v := .bl false) (ev_andF (ev_is (v := .bl (decide (("tuple" : String) = "int"))) (by walk_at "ev"; exact .tup h) rfl)) fun H2 e => q H2 e
    | dK h => exact s_ret (v := .bl false) (ev_andF (ev_is (v := .bl (decide (("dict" : String) = "int"))) (by walk_at "ev"; exact .dK h) rfl)) fun H2 e => q H2 e
theorem spv_is_whole {H : Hp} {x : V} {lo hi : Int} {T : String} (h : TyB K H x T) (hm : T ∈ metaT) : SpV (sp_is_whole K) [x, .int lo, .int hi] H (.bl (isW x lo hi)) := fun H1 e Q q E => ⟨x, lo, hi, T, rfl, TyB.ex e h, hm, fun H2 e2 => q H2 e2⟩

/-! ### the law's own small defs -/
/-- a cell of the script -/
def cell (ns : List Int) (k : Int) : Int := if k < (ns.length : Int) then ns.getD k.toNat 0 else 0
def sp_cell (K : PySem.W.Frag) : Sp := fun vs H Q _ => ∃ (p : Addr) (ns : List Int) (k : Int), vs = [.ref p, .int k] ∧ SqL K H p (ns.map V.int) ∧ 0 ≤ k ∧ ∀ H2, Ex H H2 → Q (.int (cell ns k)) H2
theorem ok__law_cell (T : Top K mg a) : FnOk P w K mg base CX0 1 a.a__law_cell a.d__law_cell ["_law_script", "_law_k"] (sp_cell K) := by
  refine T.F__law_cell.ok sc__law_cell (fun vs H Q E h => ?_) (fun cdv A outer s H vs Q E hr h => ?_)
  · obtain ⟨p, ns, k, rfl, _⟩ := h
    rfl
  · obtain ⟨p, ns, k, rfl, hS, hk, q⟩ := h
    refine ⟨_, (pss_cons (ps_if (pt_cmpR op_lt (pv 1) (pe_callB (kx_len (K := K)) (by rfl) T.n_len (by decide +kernel) (pa_cons (pv 0) pa_nil)) (nomark _)) (pss_one (ps_ret (pe_ix (kx_ixL (K := K)) (pv 0) (pv 1) (fun _ _ => rfl)))) pss_nil)
  (pss_one (ps_ret pe_int))), ?_⟩
    refine q_when (b := decide (k < ((ns.map V.int).length : Int))) (by walk_at "ev") (fun hb H1 e1 => ?_) (fun hb H1 e1 => ?_)
    · have h1 : k < (ns.length : Int) := by simpa using hb
      have h2 : k.toNat < ns.length := by omega
      refine s_ret (v := .int (cell ns k)) ?_ fun H2 e2 => q H2 (e1.trans e2)
      have e : cell ns k = ns[k.toNat] := by
        unfold cell
        rw [if_pos h1, List.getD_eq_getElem?_getD, List.getElem?_eq_getElem h2]
        rfl
      rw [e]
      walk_at "ev"
      refine rv_ixL (ex_l e1 hS) ?_
      refine at_of (j := k.toNat) (by omega) ?_
      rw [List.getElem?_map, List.getElem?_eq_getElem h2]
      rfl
    · have h1 : ¬ k < (ns.length : Int) := by simpa using hb
      refine s_ret (v := .int (cell ns k)) ?_ fun H2 e2 => q H2 (e1.trans e2)
      unfold cell
      rw [if_neg h1]
      walk_at "ev"

/-- the mixed number -/
def mixed (c k : Int) : Int := (c + 7919 * k + 13) * (c + 7919 * k + 13) % 1000000007 * 48271 % 998244353 / 11
theorem mixed_nonneg (c k : Int) : 0 ≤ mixed c k := Int.ediv_nonneg (Int.emod_nonneg _ (by decide)) (by decide)
def sp_mixed : Sp := fun vs H Q _ => ∃ (c k : Int), vs = [.int c, .int k] ∧ Bd 2000000 c ∧ Bd 2000000 k ∧ ∀ H2, Ex H H2 → Q (.int (mixed c k)) H2
theorem ok__law_mixed (T : Top K mg a) : FnOk P w K mg base CX0 1 a.a__law_mixed a.d__law_mixed ["_law_cell_here", "_law_k"] sp_mixed := by
  refine T.F__law_mixed.ok sc__law_mixed (fun vs H Q E h => ?_) (fun cdv A outer s H vs Q E hr h => ?_)
  · obtain ⟨c, k, rfl, _⟩ := h
    rfl
  · obtain ⟨c, k, rfl, hc, hk, q⟩ := h
    refine ⟨_, (pss_cons (ps_set (i := 2) sc__law_mixed.nd rfl (.inl rfl) (pe_op op_add (pe_op op_add (pv 0) (pe_op op_mulB pe_int (pv 1))) pe_int))
  (pss_one (ps_ret (pe_op op_fdiv (pe_op op_mod (pe_op op_mul (pe_op op_mod (pe_op op_mulB (pv 2) (pv 2)) pe_int) pe_int) pe_int) pe_int)))), ?_⟩
    have b1 : Bd 13 (7919 : Int) := Bd.of (by decide)
    have b2 : Bd 2000013 (7919 * k) := (b1.mul hk).mono (by decide)
    have b3 : Bd 2000014 (c + 7919 * k) := Bd.add (hc.mono (by decide)) b2
    have b4 : Bd 2000015 (c + 7919 * k + 13) := Bd.add b3 ((Bd.of (n := 4) (by decide)).mono (by decide))
    refine q_asg (v := .int (c + 7919 * k + 13)) (by
      walk_at "ev"
      exact ⟨13, 2000000, b1, hk, by decide⟩) fun H1 e1 => ?_
    refine s_ret (v := .int (mixed c k)) ?_ fun H2 e2 => q H2 (e1.trans e2)
    unfold mixed
    walk_at "ev"
    · exact ⟨_, _, b4, b4, by decide⟩
    · decide
    · have h1 : 0 ≤ (c + 7919 * k + 13) * (c + 7919 * k + 13) % 1000000007 := Int.emod_nonneg _ (by decide)
      have h2 : (c + 7919 * k + 13) * (c + 7919 * k + 13) % 1000000007 < 1000000007 := Int.emod_lt_of_pos _ (by decide)
      exact .inl ⟨by omega, by omega⟩
    · decide
    · exact ⟨by decide, by decide⟩

/-- isinstance of an int, and of no bool -/
def sp_whole : Sp := fun vs H Q _ => ∃ i : Int, vs = [.int i] ∧ ∀ H2, Ex H H2 → Q (.bl true) H2
theorem ok__law_whole (T : Top K mg a) : FnOk P w K mg base CX0 1 a.a__law_whole a.d__law_whole ["_law_found"] sp_whole := by
  refine T.F__law_whole.ok sc__law_whole (fun vs H Q E h => ?_) (fun cdv A outer s H vs Q E hr h => ?_)
  · obtain ⟨i, rfl, _⟩ := h
    rfl
  · obtain ⟨i, rfl, q⟩ := h
    refine ⟨_, (pss_one (ps_ret (pe_and (pe_callB (kx_isi (K := K)) (by rfl) T.n_isinstance (by decide +kernel) (pa_cons (pv 0) (pa_cons (pe_bltn (v := .ty "int") rfl T.n_int (by decide +kernel) rfl) pa_nil))) (pe_one (pe_not (pe_callB (kx_isi (K := K)) (by rfl) T.n_isinstance (by decide +kernel) (pa_cons (pv 0) (pa_cons (pe_bltn (v := .ty "bool") rfl T.n_bool (by decide +kernel) rfl) pa_nil)))))))), ?_⟩
    refine s_ret (v := .bl true) ?_ fun H2 e2 => q H2 e2
    refine ev_andT ?_ (ev_notV (a := false) ?_)
    · walk_at "ev"
      exact rc_isi (.ty _) (.int i) (kit_ty (by decide +kernel))
    · walk_at "ev"
      exact rc_isi (.ty _) (.int i) (kit_ty (by decide +kernel))

/-! ### what is a tie of n points -/
def NoTie (K : PySem.W.Frag) (H : Hp) (n : Int) (y : V) : Prop := (∃ Ty, TyB K H y Ty ∧ Ty ∈ metaT ∧ Ty ≠ "tuple") ∨
  ∃ p xs, y = .ref p ∧ SqT K H p xs ∧ (xs.length ≠ 2 ∨ ∃ u v, xs = [u, v] ∧ Thing K H u ∧ Thing K H v ∧ (isW v 1 (n - 1) = false ∨ ∃ h : Int, v = .int h ∧ isW u 0 (h - 1) = false))
theorem NoTie.ex {H H2 : Hp} {n : Int} {y : V} (e : Ex H H2) (h : NoTie K H n y) : NoTie K H2 n y := by
  rcases h with ⟨Ty, a, b, c⟩ | ⟨p, xs, a, b, c⟩
  · exact .inl ⟨Ty, TyB.ex e a, b, c⟩
  · refine .inr ⟨p, xs, a, ex_t e b, ?_⟩
    rcases c with c | ⟨u, v, c1, c2, c3, c4⟩
    · exact .inl c
    · exact .inr ⟨u, v, c1, c2.ex e, c3.ex e, c4⟩
def sp_is_tie (K : PySem.W.Frag) : Sp := fun vs H Q _ => ∃ (n : Int) (y : V), vs = [.int n, y] ∧ ((NoTie K H n y ∧ ∀ H2, Ex H H2 → Q (.bl false) H2) ∨ (∃ p : Tie, TieAt K H y p ∧ p.1 < p.2 ∧ (p.2 : Int) < n ∧ ∀ H2, Ex H H2 → Q (.bl true) H2))
theorem ok__is_tie (T : Top K mg a) : FnOk P w K mg base CX0 2 a.a__is_tie a.d__is_tie ["size", "thing"] (sp_is_tie K) := by
  refine T.F__is_tie.ok sc__is_tie (fun vs H Q E h => ?_) (fun cdv A outer s H vs Q E hr h => ?_)
  · obtain ⟨n, y, rfl, _⟩ := h
    rfl
  · obtain ⟨n, y, rfl, h⟩ := h
    refine ⟨_, (pss_cons (ps_if (PW.pt (pw_or (pt_cmpR op_neTy (pe_callTy (kx_type (K := K)) (by rfl) T.n_type (by decide +kernel) (pa_cons (pv 1) pa_nil)) (pe_bltn (v := .ty "tuple") rfl T.n_tuple (by decide +kernel) rfl) (nomark _)) (pw_or1 (pt_cmpR op_ne (pe_callB (kx_len (K := K)) (by rfl) T.n_len (by decide +kernel) (pa_cons (pv 1) pa_nil)) pe_int (nomark _))))) (pss_one (ps_ret pe_bl)) pss_nil)
  (pss_cons (ps_asg (pv 1) (kx_pgT (K := K) (n := 2) rfl (pgs_cons (pg_name (i := 2) sc__is_tie.nd rfl (.inl rfl)) (pgs_cons (pg_name (i := 3) sc__is_tie.nd rfl (.inl rfl)) pgs_nil))))
  (pss_one (ps_ret (pe_and (pe_call (ok_is_whole (K := K) T) (hr.mono (by decide)) rfl T.g_is_whole T.F_is_whole.kp T.b_is_whole .nil pass0 (pa_cons (pv 3) (pa_cons pe_int (pa_cons (pe_op op_sub (pv 0) pe_int) pa_nil)))) (pe_one (pe_call (ok_is_whole (K := K) T) (hr.mono (by decide)) rfl T.g_is_whole T.F_is_whole.kp T.b_is_whole .nil pass0 (pa_cons (pv 2) (pa_cons pe_int (pa_cons (pe_op op_sub (pv 3) pe_int) pa_nil)))))))))), ?_⟩
    have hs : (∃ Ty, TyB K H y Ty ∧ Ty ∈ metaT ∧ Ty ≠ "tuple" ∧ ∀ H2, Ex H H2 → Q (.bl false) H2) ∨ ∃ p xs, y = .ref p ∧ SqT K H p xs ∧ ((xs.length ≠ 2 ∧ ∀ H2, Ex H H2 → Q (.bl false) H2) ∨ ∃ u v, xs = [u, v] ∧ Thing K H u ∧ Thing K H v ∧
          ((isW v 1 (n - 1) = false → ∀ H2, Ex H H2 → Q (.bl false) H2) ∧ ∀ h : Int, isW v 1 (n - 1) = true → v = .int h → ∀ H2, Ex H H2 → Q (.bl (isW u 0 (h - 1))) H2)) := by
      rcases h with ⟨hN, q⟩ | ⟨p, ⟨t, rfl, ht⟩, h1, h2, q⟩
      · rcases hN with ⟨Ty, a, b, c⟩ | ⟨p, xs, rfl, hS, hN | ⟨u, v, rfl, hu, hv, hN⟩⟩
        · exact .inl ⟨Ty, a, b, c, q⟩
        · exact .inr ⟨p, xs, rfl, hS, .inl ⟨hN, q⟩⟩
        · refine .inr ⟨p, _, rfl, hS, .inr ⟨u, v, rfl, hu, hv, fun _ => q, fun h hw hh => ?_⟩⟩
          rcases hN with hN | ⟨h', e, hN⟩
          · rw [hN] at hw
            cases hw
          · rw [e] at hh
            cases hh
            rw [hN]
            exact q
      · refine .inr ⟨t, _, rfl, ht, .inr ⟨_, _, rfl, Thing.int _, Thing.int _, fun hw => ?_, fun h hw hh => ?_⟩⟩
        · simp only [isW, Bool.and_eq_false_iff, decide_eq_false_iff_not] at hw
          omega
        · have e : h = (p.2 : Int) := (V.int.inj hh).symm
          subst e
          have hw2 : isW (.int (p.1 : Int)) 0 ((p.2 : Int) - 1) = true := by
            simp only [isW, Bool.and_eq_true, decide_eq_true_eq]
            omega
          rw [hw2]
          exact q
    rcases hs with ⟨Ty, hT, hm, hne, q⟩ | ⟨p, xs, rfl, hS, hcase⟩
    · refine q_when (b := true) (et_orT (et_test (ev_is (ev_op (ev_cb (ea_cons (ev_var rfl) ea_nil) (rc_type hT)) ev_c (rv_neTy hm (by decide))) ?_))) (fun _ H1 e1 => ?_) (fun z => (by cases z))
      · rw [decide_eq_false hne]
        rfl
      · exact s_ret ev_c fun H2 e2 => q H2 (e1.trans e2)
    · clear h
      rcases hcase with ⟨hl, q⟩ | ⟨u, v, rfl, hu, hv, q1, q2⟩
      · refine q_when (b := true) (et_orF (b := true) (et_test (ev_is (ev_op (ev_cb (ea_cons (ev_var rfl) ea_nil) (rc_type (.tup hS))) ev_c (rv_neTy (by decide) (by decide))) (by rfl)))
          (et_test (ev_is (ev_op (ev_cb (ea_cons (ev_var rfl) ea_nil) (rc_lenT hS)) ev_c (rv_ne rfl)) ?_))) (fun _ H1 e1 => ?_) (fun z => (by cases z))
        · rw [decide_eq_false (fun z => hl (by have := V.int.inj z; omega))]
          rfl
        · exact s_ret ev_c fun H2 e2 => q H2 (e1.trans e2)
      · refine q_when (b := false) (et_orF (b := false) (et_test (ev_is (ev_op (ev_cb (ea_cons (ev_var rfl) ea_nil) (rc_type (.tup hS))) ev_c (rv_neTy (by decide) (by decide))) (by rfl)))
          (et_test (ev_is (ev_op (ev_cb (ea_cons (ev_var rfl) ea_nil) (rc_lenT hS)) ev_c (rv_ne rfl)) (by rfl)))) (fun z => (by cases z)) (fun _ H1 e1 => ?_)
        refine q_asg2 (eg_ev (v := .ref p) (ev_var rfl)) fun y H2 e2 hy => ⟨p, u, v, hy, ex_t (e1.trans e2) hS, ?_⟩
        have e02 := e1.trans e2
        obtain ⟨Tu, hTu, hmu⟩ := hu
        obtain ⟨Tv, hTv, hmv⟩ := hv
        cases hw : isW v 1 (n - 1) with
        | false =>
          refine s_ret (v := .bl false) (ev_andF (ev_is (v := .bl (isW v 1 (n - 1))) (by
            walk_at "ev"
            exact spv_is_whole (TyB.ex e02 hTv) hmv) (by rw [hw]))) fun H3 e3 => q1 hw H3 (e02.trans e3)
        | true =>
          obtain ⟨h, rfl⟩ : ∃ h : Int, v = .int h := by
            cases v with
            | int h => exact ⟨h, rfl⟩
            | _ => cases hw
          refine s_ret (v := .bl (isW u 0 (h - 1))) (ev_andT (ev_is (v := .bl (isW (.int h) 1 (n - 1))) (by
            walk_at "ev"
            exact spv_is_whole (TyB.ex e02 hTv) hmv) (by rw [hw])) (by
            walk_at "ev"
            exact spv_is_whole (TyB.ex e02 hTu) hmu)) fun H3 e3 => q2 h hw rfl H3 (e02.trans e3)

end
end K2
set_option Elab.async false
set_option linter.all false
set_option maxRecDepth 100000
set_option maxHeartbeats 300000
namespace K2
open PySem PySem.Spec PyProof.Rows L2 Evl Z
section
variable {P : Program} {w : World} {K : PySem.W.Frag} {mg : Str → Option Value} {base : Heap} {a : Ad}
/-! ### what is a web -/
def tieI (p : Tie) : List Int := [(p.1 : Int), (p.2 : Int)]
theorem tieI_inj {p q : Tie} (h : tieI p = tieI q) : p = q := by
  obtain ⟨a, b⟩ := p
  obtain ⟨c, d⟩ := q
  unfold tieI at h
  injection h with h1 h2
  injection h2 with h2 _
  have e1 : a = c := by omega
  have e2 : b = d := by omega
  rw [e1, e2]
/-- the set at S holds just these ties -/
structure Seen (P : Program) (w : World) (K : PySem.W.Frag) (H : Hp) (S : Addr) (ts : List Tie) : Prop where
  has : ∃ L, ZS.HasT K P w H S L ∧ (∀ k, k ∈ L.map (·.2) ↔ k ∈ ts.map tieI) ∧ L.length ≤ ts.length
theorem Seen.ex {H H2 : Hp} {S : Addr} {ts : List Tie} (e : Ex H H2) (h : Seen P w K H S ts) : Seen P w K H2 S ts := by
  obtain ⟨L, h1, h2, h3⟩ := h.has
  exact ⟨L, ⟨e _ _ h1.1, fun p hp => ex_t e (h1.2 p hp)⟩, h2, h3⟩
theorem sqt_set {H : Hp} {S t : Addr} {o : HO} {zs : List V} {L : List (Addr × List Int)} (hS : H S = some (SetTO P w S L)) (s : SqT K H t zs) : SqT K (upd H S o) t zs := by
  rcases s with (s | ⟨b, s⟩) | s
  · exact .inl (.inl ((upd_ne (ne_of s hS (by intro z; cases z))).trans s))
  · exact .inl (.inr ⟨b, (upd_ne (ne_of s hS (by intro z; cases z))).trans s⟩)
  · exact .inr s
theorem mem_tieI {ts : List Tie} {p : Tie} : tieI p ∈ ts.map tieI ↔ p ∈ ts := by
  constructor
  · intro h
    obtain ⟨q, hq, e⟩ := List.mem_map.mp h
    rw [← tieI_inj e]
    exact hq
  · exact fun h => List.mem_map.mpr ⟨p, h, rfl⟩
theorem et_seen {σ : L2.St} {H : Hp} {tx ts : TE} {x : V} {S : Addr} {p : Tie} {us : List Tie} (hx : Ev tx σ H x) (hs : Ev ts σ H (.ref S)) (h1 : TieAt K H x p) (h2 : Seen P w K H S us) : EvT (tTest (tOp (ZS.rInT K P w) tx ts)) σ H (decide (p ∈ us)) := by
  refine et_test (ev_op hx hs fun H1 e Q q => ?_)
  obtain ⟨b, rfl, hb⟩ := h1
  obtain ⟨L, l1, l2, _⟩ := (Seen.ex e h2).has
  refine ⟨b, tieI p, S, L, rfl, rfl, ex_t e hb, l1, ?_⟩
  have e1 : decide (tieI p ∈ L.map (·.2)) = decide (p ∈ us) := by
    by_cases h : p ∈ us
    · rw [decide_eq_true h, decide_eq_true ((l2 _).mpr (mem_tieI.mpr h))]
    · rw [decide_eq_false h, decide_eq_false fun z => h (mem_tieI.mp ((l2 _).mp z))]
  rw [e1]
  exact q H1 (Ex.refl H1)
theorem s_seen {σ : L2.St} {H : Hp} {D : Ends} {tx ts : TE} {x : V} {S : Addr} {p : Tie} {us : List Tie} (hs : Ev ts σ H (.ref S)) (hx : Ev tx σ H x) (h1 : TieAt K H x p) (h2 : Seen P w K H S us) (hf : us.length + 1 < 64) (hn : p ∉ us)
    (k : ∀ H1 o, Ex H H1 → (∃ L, H1 S = some (SetTO P w S L)) → Seen P w K (upd H1 S o) S (us ++ [p]) → D.nx σ (upd H1 S o)) : tDrop (ZS.tAddT K P w ts (tCons tx tNil)) D σ H := by
  refine hs H (Ex.refl H) _ fun H1 e1 => ?_
  have h3 := Seen.ex e1 h2
  obtain ⟨L0, l0, _, _⟩ := h3.has
  refine ⟨⟨S, L0, rfl, l0⟩, hx H1 e1 _ fun H2 e2 => ?_⟩
  obtain ⟨b, rfl, hb⟩ := TieAt.ex (e1.trans e2) h1
  obtain ⟨L, l1, l2, l3⟩ := (Seen.ex e2 h3).has
  have nk : tieI p ∉ L.map (·.2) := fun z => hn (mem_tieI.mp ((l2 _).mp z))
  refine ⟨b, tieI p, S, L, rfl, rfl, hb, l1, by omega, fun L' _ c => ?_⟩
  have pm := c nk
  refine k H2 _ (e1.trans e2) ⟨L, l1.1⟩ ⟨L', ⟨upd_same, fun q hq => ?_⟩, fun k' => ?_, ?_⟩
  · rcases List.mem_cons.mp (pm.mem_iff.mp hq) with z | z
    · rw [z]
      exact sqt_set l1.1 hb
    · exact sqt_set l1.1 (l1.2 q z)
  · rw [(pm.map (·.2)).mem_iff, List.map_append, List.mem_append, List.map_cons, List.mem_cons, l2 k', List.map_cons, List.map_nil, List.mem_singleton]
    exact or_comm
  · rw [pm.length_eq, List.length_append, List.length_cons, List.length_cons, List.length_nil]
    omega
/-- no web -/
def NoWebV (K : PySem.W.Frag) (H : Hp) (x y : V) : Prop := (Thing K H x ∧ isW x 1 10 = false) ∨ ∃ n : Nat, x = .int (n : Int) ∧ (1 ≤ n ∧ n ≤ 10) ∧ ((∃ Ty, TyB K H y Ty ∧ Ty ∈ metaT ∧ Ty ≠ "list") ∨
  ∃ l xs us, y = .ref l ∧ SqL K H l xs ∧ Ties K H (xs.take us.length) us ∧ (∀ p ∈ us, p.1 < p.2 ∧ p.2 < n) ∧ us.length ≤ 60 ∧ (¬ us.Nodup ∨ ∃ z, xs[us.length]? = some z ∧ NoTie K H (n : Int) z))
theorem NoWebV.ex {H H2 : Hp} {x y : V} (e : Ex H H2) (h : NoWebV K H x y) : NoWebV K H2 x y := by
  rcases h with ⟨h1, h2⟩ | ⟨n, h1, h2, ⟨Ty, a, b, c⟩ | ⟨l, xs, us, h3, h4, h5, h6, h7, h8⟩⟩
  · exact .inl ⟨h1.ex e, h2⟩
  · exact .inr ⟨n, h1, h2, .inl ⟨Ty, TyB.ex e a, b, c⟩⟩
  · refine .inr ⟨n, h1, h2, .inr ⟨l, xs, us, h3, ex_l e h4, Ties.ex e h5, h6, h7, ?_⟩⟩
    rcases h8 with h8 | ⟨z, h8, h9⟩
    · exact .inl h8
    · exact .inr ⟨z, h8, h9.ex e⟩
def sp_need_web (K : PySem.W.Frag) (C : Addr) : Sp := fun vs H Q E => ∃ x y, vs = [x, y] ∧ ((NoWebV K H x y ∧ ∀ H2, Ex H H2 → E (.ref C) none H2) ∨
  ∃ n l xs ts, x = .int ((n : Nat) : Int) ∧ y = .ref l ∧ SqL K H l xs ∧ Ties K H xs ts ∧ WebOk n ts ∧ ∀ H2, Ex H H2 → Q .non H2)
theorem ok_need_web (T : Top K mg a) : FnOk P w K mg base (L2N.CX P w) 3 a.a_need_web a.d_need_web ["size", "ties"] (sp_need_web K a.c_BadWeb) := by
  refine Z.Fun.okN T.F_need_web sc_need_web (fun vs H Q E h => ?_) (fun cdv A outer s H vs Q E hr h => ?_)
  · obtain ⟨x, y, rfl, _⟩ := h
    rfl
  · obtain ⟨x, y, rfl, h⟩ := h
    refine ⟨_, (pss_cons (ps_if (pt_not (pt_val (pe_call (ok_is_whole (K := K) T) (hr.mono (by decide)) rfl T.g_is_whole T.F_is_whole.kp T.b_is_whole .nil pass0 (pa_cons (pv 0) (pa_cons pe_int (pa_cons (pe_glob (v := .int 10) rfl T.g_MOST_POINTS ⟨_, rfl⟩) pa_nil)))))) (pss_one (L2N.ps_raise rfl (L2N.takes_of rfl rfl rfl rfl) (L2N.pmk_own PySem.F.excBase_ValueError T.x_BadWeb T.g_BadWeb T.k_BadWeb (raises_own T.eb_BadWeb T.et_BadWeb) rfl))) pss_nil)
  (pss_cons (ps_if (pt_cmpR op_neTy (pe_callTy (kx_type (K := K)) (by rfl) T.n_type (by decide +kernel) (pa_cons (pv 1) pa_nil)) (pe_bltn (v := .ty "list") rfl T.n_list (by decide +kernel) rfl) (nomark _)) (pss_one (L2N.ps_raise rfl (L2N.takes_of rfl rfl rfl rfl) (L2N.pmk_own PySem.F.excBase_ValueError T.x_BadWeb T.g_BadWeb T.k_BadWeb (raises_own T.eb_BadWeb T.et_BadWeb) rfl))) pss_nil)
  (pss_cons (ps_set (i := 2) sc_need_web.nd rfl (.inl rfl) (pe_callTy0 (ZS.kx_set0T (P := P) (w := w)) (by rfl) T.n_set (by decide +kernel)))
  (pss_one (ps_for (passes_of rfl) rfl (kx_piL (K := K) (pv 1)) (pg_name (i := 3) sc_need_web.nd rfl (.inl rfl)) (pss_cons (ps_if (pt_not (pt_val (pe_call (ok__is_tie (K := K) T) (hr.mono (by decide)) rfl T.g__is_tie T.F__is_tie.kp T.b__is_tie .nil pass0 (pa_cons (pv 0) (pa_cons (pv 3) pa_nil))))) (pss_one (L2N.ps_raise rfl (L2N.takes_of rfl rfl rfl rfl) (L2N.pmk_own PySem.F.excBase_ValueError T.x_BadWeb T.g_BadWeb T.k_BadWeb (raises_own T.eb_BadWeb T.et_BadWeb) rfl))) pss_nil)
  (pss_cons (ps_if (pt_cmpR (ZS.kx_inT (K := K) (P := P) (w := w) hr.units) (pv 3) (pv 2) (by rfl)) (pss_one (L2N.ps_raise rfl (L2N.takes_of rfl rfl rfl rfl) (L2N.pmk_own PySem.F.excBase_ValueError T.x_BadWeb T.g_BadWeb T.k_BadWeb (raises_own T.eb_BadWeb T.et_BadWeb) rfl))) pss_nil)
  (pss_one (ps_expr (ZS.kx_addT (K := K) (P := P) (w := w) hr.units (pv 2) (pa_cons (pv 3) pa_nil))))))))))), ?_⟩
    have hs : (Thing K H x ∧ isW x 1 10 = false ∧ ∀ H2, Ex H H2 → E (.ref a.c_BadWeb) none H2) ∨ ∃ n : Nat, x = .int (n : Int) ∧ (1 ≤ n ∧ n ≤ 10) ∧ ((∃ Ty, TyB K H y Ty ∧ Ty ∈ metaT ∧ Ty ≠ "list" ∧ ∀ H2, Ex H H2 → E (.ref a.c_BadWeb) none H2) ∨
        ∃ l xs us, y = .ref l ∧ SqL K H l xs ∧ Ties K H (xs.take us.length) us ∧ (∀ p ∈ us, p.1 < p.2 ∧ p.2 < n) ∧ us.length ≤ 60 ∧ us.length ≤ xs.length ∧ (¬ us.Nodup → ∀ H2, Ex H H2 → E (.ref a.c_BadWeb) none H2) ∧
          (us.Nodup → ∀ z, xs[us.length]? = some z → NoTie K H (n : Int) z ∧ ∀ H2, Ex H H2 → E (.ref a.c_BadWeb) none H2) ∧ (us.Nodup → us.length = xs.length → ∀ H2, Ex H H2 → Q .non H2)) := by
      rcases h with ⟨⟨h1, h2⟩ | ⟨n, h1, h2, ⟨Ty, e1, e2, e3⟩ | ⟨l, xs, us, h3, h4, h5, h6, h7, h8⟩⟩, he⟩ | ⟨n, l, xs, ts, h1, h2, h3, h4, h5, q⟩
      · exact .inl ⟨h1, h2, he⟩
      · exact .inr ⟨n, h1, h2, .inl ⟨Ty, e1, e2, e3, he⟩⟩
      · have hlen := Paired.len h5
        rw [List.length_take] at hlen
        refine .inr ⟨n, h1, h2, .inr ⟨l, xs, us, h3, h4, h5, h6, h7, by omega, fun _ => he, fun hn z hz => ?_, fun hn hl => ?_⟩⟩
        · rcases h8 with h8 | ⟨z', h8, h9⟩
          · exact absurd hn h8
          · rw [hz] at h8
            cases h8
            exact ⟨h9, he⟩
        · rcases h8 with h8 | ⟨z', h8, h9⟩
          · exact absurd hn h8
          · rw [hl, List.getElem?_eq_none (Nat.le_refl _)] at h8
            cases h8
      · have hlen := Paired.len h4
        refine .inr ⟨n, h1, h5.size, .inr ⟨l, xs, ts, h2, h3, ?_, h5.ok, by have := h5.len; omega, by omega, fun hn => absurd h5.nodup hn, fun _ z hz => ?_, fun _ _ => q⟩⟩
        · rw [← hlen, List.take_length]
          exact h4
        · rw [← hlen, List.getElem?_eq_none (Nat.le_refl _)] at hz
          cases hz
    rcases hs with ⟨⟨Tx, hTx, hmx⟩, hw, he⟩ | ⟨n, rfl, hn, hs⟩
    · refine q_when (b := !isW x 1 10) (by
        walk_at "ev"
        exact spv_is_whole hTx hmx) (fun _ H1 e1 => he H1 e1) (fun z => ?_)
      rw [hw] at z
      cases z
    · have hw : isW (.int (n : Int)) 1 10 = true := by
        simp only [isW, Bool.and_eq_true, decide_eq_true_eq]
        omega
      refine q_when (b := !isW (.int (n : Int)) 1 10) (by
        walk_at "ev"
        exact spv_is_whole (.int _) (by decide)) (fun z => (by rw [hw] at z; cases z)) (fun _ H1 e1 => ?_)
      rcases hs with ⟨Ty, hT, hm, hne, he⟩ | ⟨l, xs, us, rfl, hS, hT, hok, h60, hle, hdup, hodd, hend⟩
      · refine q_when (b := !decide (Ty = "list")) (by
          walk_at "ev"
          exact TyB.ex e1 hT) (fun _ H2 e2 => he H2 (e1.trans e2)) (fun z => ?_)
        rw [decide_eq_false hne] at z
        cases z
      · refine q_when (b := !decide (("list" : String) = "list")) (by
          walk_at "ev"
          exact .lst (ex_l e1 hS)) (fun z => absurd z (by decide)) (fun _ H2 e2 => ?_)
        have e02 := e1.trans e2
        refine q_asgG (P := fun H1 v H2 => ∃ S, v = .ref S ∧ H1 S = none ∧ H2 S = some (SetTO P w S [])) (fun H3 e3 Q q => ⟨rfl, fun p hp => q _ _ (Ex.new hp) ⟨p, rfl, hp, upd_same⟩⟩) fun v H3 e3 hv => ?_
        obtain ⟨S, rfl, fS, hS0⟩ := hv
        have e03 := e02.trans e3
        have fS0 : H S = none := fresh_back e02 fS
        refine s_forLn (by walk_at "ev") (ex_l e03 hS) (fun i σ' H' => i ≤ us.length ∧ (us.take i).Nodup ∧ ∃ y, σ' = [some (.int (n : Int)), some (.ref l), some (.ref S), y] ∧ Ex H H' ∧ Seen P w K H' S (us.take i)) ?_ ?_ ?_ ?_
        · exact fun H4 e4 => ⟨Nat.zero_le _, List.nodup_nil, none, rfl, e03.trans e4, Seen.ex e4 ⟨[], ⟨hS0, fun p hp => (by cases hp)⟩, fun k => Iff.rfl, Nat.zero_le _⟩⟩
        · rintro i σ' H' _ ⟨_, _, y, rfl, e4, _⟩
          exact ex_l e4 hS
        · rintro i z σ' H' hi ⟨hiu, hnd, y, rfl, e4, hseen⟩
          rcases Nat.lt_or_eq_of_le hiu with hlt | heq
          · -- a tie
            have hz : (xs.take us.length)[i]? = some z := by
              rw [List.getElem?_take_of_lt hlt]
              exact hi
            obtain ⟨p, hp, hTie⟩ := Paired.at hT hz
            have hpm : p ∈ us := List.mem_of_getElem? hp
            have hpo := hok p hpm
            have hT4 := TieAt.ex e4 hTie
            refine q_when (b := false) (et_not (a := true) (et_B (ev_call (vs := [.int (n : Int), z]) (by walk_at "ev") (fun H5 e5 Q q E => ⟨(n : Int), z, rfl, .inr ⟨p, TieAt.ex e5 hT4, hpo.1, by omega, fun H6 e6 => q H6 e6⟩⟩)))) (fun z => (by cases z)) (fun _ H5 e5 => ?_)
            have hT5 := TieAt.ex e5 hT4
            refine q_when (b := decide (p ∈ us.take i)) (et_seen (ev_var rfl) (ev_var rfl) hT5 (Seen.ex e5 hseen)) (fun hin H6 e6 => ?_) (fun hout H6 e6 => ?_)
            · refine hdup (fun hu => ?_) H6 ((e4.trans e5).trans e6)
              obtain ⟨m, hm⟩ := List.getElem?_of_mem (of_decide_eq_true hin)
              have hmi : m < (us.take i).length := (List.getElem?_eq_some_iff.mp hm).1
              rw [List.length_take] at hmi
              rw [List.getElem?_take_of_lt (by omega)] at hm
              have := (List.getElem?_inj (i := m) (j := i) (by omega) hu).mp (hm.trans hp.symm)
              omega
            · have hn2 : p ∉ us.take i := of_decide_eq_false hout
              have htk : us.take (i + 1) = us.take i ++ [p] := by
                rw [List.take_add_one, hp]
                rfl
              refine s_seen (ev_var rfl) (ev_var rfl) (TieAt.ex e6 hT5) (Seen.ex (e5.trans e6) hseen) (by rw [List.length_take]; omega) hn2 fun H7 o e7 hx hsn => ⟨hlt, ?_, some z, rfl, ?_, by rw [htk]; exact hsn⟩
              · rw [htk]
                exact List.nodup_append.mpr ⟨hnd, by simp, fun x hx y hy => by
                  have : y = p := by simpa using hy
                  rw [this]
                  exact fun z => hn2 (z ▸ hx)⟩
              · exact Ex.mut (((e4.trans e5).trans e6).trans e7) fS0
          · -- behind the ties
            subst heq
            rw [List.take_length] at hnd
            obtain ⟨hno, he⟩ := hodd hnd z hi
            refine q_when (b := true) (et_not (a := false) (et_B (ev_call (vs := [.int (n : Int), z]) (by walk_at "ev") (fun H5 e5 Q q E => ⟨(n : Int), z, rfl, .inl ⟨hno.ex (e4.trans e5), fun H6 e6 => q H6 e6⟩⟩)))) (fun _ H5 e5 => he H5 (e4.trans e5)) (fun z => (by cases z))
        · rintro σ' H' ⟨hiu, hnd, y, rfl, e4, _⟩
          have hl : us.length = xs.length := by omega
          rw [← hl, List.take_length] at hnd
          exact hend hnd hl H' e4

end
end K2
set_option Elab.async false
set_option linter.all false
set_option maxRecDepth 100000
set_option maxHeartbeats 300000
namespace K2
open PySem PySem.Spec PyProof.Rows L2 Evl Z
section
variable {P : Program} {w : World} {K : PySem.W.Frag} {mg : Str → Option Value} {base : Heap} {a : Ad}
/-! ### counts of a web -/
def sp_counts_of (K : PySem.W.Frag) (C : Addr) : Sp := fun vs H Q E => ∃ x y, vs = [x, y] ∧ ((NoWebV K H x y ∧ ∀ H2, Ex H H2 → E (.ref C) none H2) ∨
  ∃ n l xs ts, x = .int ((n : Nat) : Int) ∧ y = .ref l ∧ SqL K H l xs ∧ Ties K H xs ts ∧ WebOk n ts ∧ ∀ p H2, H p = none → Ex H H2 → H2 p = some (.lst ((degsI n ts).map V.int)) → Q (.ref p) H2)
theorem ok_counts_of (T : Top K mg a) : FnOk P w K mg base (L2N.CX P w) 4 a.a_counts_of a.d_counts_of ["size", "ties"] (sp_counts_of K a.c_BadWeb) := by
  refine Z.Fun.okN T.F_counts_of sc_counts_of (fun vs H Q E h => ?_) (fun cdv A outer s H vs Q E hr h => ?_)
  · obtain ⟨x, y, rfl, _⟩ := h
    rfl
  · obtain ⟨x, y, rfl, h⟩ := h
    refine ⟨_, (pss_cons (ps_expr (pe_call (E := E) (ok_need_web (K := K) T) (hr.mono (by decide)) rfl T.g_need_web T.F_need_web.kp T.b_need_web .nil (L2N.passes_call (L2N.takes_of rfl rfl rfl rfl) (fun _ _ _ _ h => h)) (pa_cons (pv 0) (pa_cons (pv 1) pa_nil))))
  (pss_cons (ps_set (i := 2) sc_counts_of.nd rfl (.inl rfl) (pe_op op_rep (pe_lst (pa_cons pe_int pa_nil)) (pv 0)))
  (pss_cons (ps_for (passes_of rfl) rfl (kx_piL (K := K) (pv 1)) (kx_pgT (K := K) (n := 2) rfl (pgs_cons (pg_name (i := 3) sc_counts_of.nd rfl (.inl rfl)) (pgs_cons (pg_name (i := 4) sc_counts_of.nd rfl (.inl rfl)) pgs_nil))) (pss_cons (ps_augS (pv 2) (pv 3) (kx_getL (K := K)) pe_int ip_add set_list)
  (pss_one (ps_augS (pv 2) (pv 4) (kx_getL (K := K)) pe_int ip_add set_list))))
  (pss_one (ps_ret (pv 2)))))), ?_⟩
    refine q_dropC ?_
    rcases h with ⟨hN, he⟩ | ⟨n, l, xs, ts, rfl, rfl, hS, hT, hW, q⟩
    · exact ⟨x, rfl, y, rfl, x, y, rfl, .inl ⟨hN, he⟩⟩
    · refine ⟨.int (n : Int), rfl, .ref l, rfl, _, _, rfl, .inr ⟨n, l, xs, ts, rfl, rfl, hS, hT, hW, fun H1 e1 => ?_⟩⟩
      have hn := hW.size
      have ez : (List.replicate ((n : Int)).toNat [V.int 0]).flatten = (degsI n []).map V.int := by
        rw [List.flatten_replicate_singleton, Int.toNat_natCast]
        unfold degsI
        rw [List.map_map]
        show _ = (List.range n).map (fun _ => V.int 0)
        rw [List.map_const', List.length_range]
      refine q_asgL (xs := (degsI n []).map V.int) (el_eq (el_repL (k := (n : Int)) (el_lst (ea_cons ev_c ea_nil) (by show 1 ≤ 100000; decide)) (ev_var rfl) (by omega) (by show 1 * ((n : Int)).toNat ≤ 100000; omega)) ez) fun L H2 fL e2 h2 => ?_
      have e02 := e1.trans e2
      have fL0 : H L = none := fresh_back e1 fL
      refine q_forTies (ev_var rfl) (ex_l e02 hS) (Paired.len hT) (fun i σ' H' => ∃ y4 y5, σ' = [some (.int (n : Int)), some (.ref l), some (.ref L), y4, y5] ∧ Ex H H' ∧ H' L = some (.lst ((degsI n (ts.take i)).map V.int))) ?_ ?_ ?_ ?_
      · exact fun H3 e3 => ⟨none, none, rfl, e02.trans e3, e3 _ _ h2⟩
      · rintro m σ' H' ⟨_, _, _, e, _⟩
        exact ⟨ex_l e hS, Ties.ex e hT⟩
      · rintro m p σ' H' hp ⟨y4, y5, rfl, e3, h3⟩
        have hpo := hW.ok p (List.mem_of_getElem? hp)
        have htk : ts.take (m + 1) = ts.take m ++ [p] := by
          rw [List.take_add_one, hp]
          rfl
        refine q_augL (j := p.1) (c := (deg (ts.take m) p.1 : Int)) (d := 1) h3 (ev_var rfl) (ev_var rfl) (tab_at (by omega)) ev_c fun H4 e4 => ?_
        have e5 := Ex.mut (o := .lst (((degsI n (ts.take m)).set p.1 ((deg (ts.take m) p.1 : Int) + 1)).map V.int)) (e3.trans e4) fL0
        refine s_augL (j := p.2) (c := (deg (ts.take m) p.2 : Int)) (d := 1) upd_same (ev_var rfl) (ev_var rfl) ?_ ev_c fun H6 e6 => ⟨_, _, rfl, Ex.mut (e5.trans e6) fL0, ?_⟩
        · rw [List.getElem?_set_ne (by omega)]
          exact tab_at hpo.2
        · rw [htk, ← degs_step n (ts.take m) hpo.1]
          exact upd_same
      · rintro σ' H' ⟨y4, y5, rfl, e3, h3⟩
        rw [List.take_length] at h3
        exact s_ret (v := .ref L) (ev_var rfl) fun H4 e4 => q L H4 fL0 (e3.trans e4) (e4 _ _ h3)

end
end K2
set_option Elab.async false
set_option linter.all false
set_option maxRecDepth 100000
set_option maxHeartbeats 300000
namespace K2
open PySem PySem.Spec PyProof.Rows L2 Evl Z
section
variable {P : Program} {w : World} {K : PySem.W.Frag} {mg : Str → Option Value} {base : Heap} {a : Ad}
/-! ### first points -/
abbrev tabN (n : Nat) (f : Nat → Nat) : List V := (tab n fun q => (f q : Int)).map V.int
theorem el_range {σ : L2.St} {H : Hp} {ta : TE} {n : Nat} (h : Ev ta σ H (.int (n : Int))) (hn : n ≤ 100) : EvL (tLstRg (tRg1 ta)) σ H (tabN n id) := fun H1 e Q q =>
  h H1 e _ fun H2 e2 => ⟨(n : Int), rfl, RgOk.of_le (by omega) (by omega) (by omega) (by omega), fun p hp => by
    have e1 : rgV 0 (n : Int) = tabN n id := by
      unfold rgV tabN tab
      rw [List.map_map, show ((n : Int) - 0).toNat = n by omega]
      refine List.map_congr_left fun i _ => ?_
      show V.int (0 + (i : Int)) = V.int (i : Int)
      rw [Int.zero_add]
    rw [e1]
    exact q p _ (fresh_back e2 hp) (e2.trans (Ex.new hp)) upd_same⟩
theorem ev_tab {σ : L2.St} {H : Hp} {tx ti : TE} {p : Addr} {n : Nat} {f : Nat → Nat} {j : Nat} (hp : H p = some (.lst (tabN n f))) (hx : Ev tx σ H (.ref p)) (hi : Ev ti σ H (.int (j : Int))) (hj : j < n) : Ev (tOp (rIxL K) tx ti) σ H (.int (f j : Int)) :=
  ev_op hx hi (rv_ixL (SqL.of hp) (atI_nat (by rw [List.getElem?_map, tab_at hj]; rfl)))
theorem ev_ifE {σ : L2.St} {H : Hp} {t : TT} {ta tb : TE} {b : Bool} {x y : V} (hc : EvT t σ H b) (h1 : b = true → Ev ta σ H x) (h2 : b = false → Ev tb σ H y) : Ev (tIf t ta tb) σ H (if b = true then x else y) := fun H1 e Q q => hc H1 e _ fun H2 e2 => by
  cases b with
  | true => exact h1 rfl H2 (e.trans e2) Q fun H3 e3 => q H3 (e2.trans e3)
  | false => exact h2 rfl H2 (e.trans e2) Q fun H3 e3 => q H3 (e2.trans e3)
theorem ev_min {σ : L2.St} {H : Hp} {ta tb : TE} {x y : Nat} (ha : Ev ta σ H (.int (x : Int))) (hb : Ev tb σ H (.int (y : Int))) : Ev (tCB (fun xs H Q => ∃ i j, xs = [.int i, .int j] ∧ Q (.int (if j < i then j else i)) H) (tCons ta (tCons tb tNil))) σ H (.int ((min x y : Nat) : Int)) :=
  ev_is (ev_cb (ea_cons ha (ea_cons hb ea_nil)) rc_min2) (congrArg V.int (by split <;> omega))
theorem ev_max {σ : L2.St} {H : Hp} {ta tb : TE} {x y : Nat} (ha : Ev ta σ H (.int (x : Int))) (hb : Ev tb σ H (.int (y : Int))) : Ev (tCB (fun xs H Q => ∃ i j, xs = [.int i, .int j] ∧ Q (.int (if j > i then j else i)) H) (tCons ta (tCons tb tNil))) σ H (.int ((max x y : Nat) : Int)) :=
  ev_is (ev_cb (ea_cons ha (ea_cons hb ea_nil)) rc_max2) (congrArg V.int (by split <;> omega))
theorem tabN_len (n : Nat) (f : Nat → Nat) : (tabN n f).length = n := by rw [List.length_map, tab_len]
theorem given_tab (n : Nat) (f : Nat → Nat) : given n (fun _ => true) (fun m => V.int (f m : Int)) = tabN n f := by
  rw [given_all]
  unfold tabN tab
  rw [List.map_map]
  rfl
def sp_first_points (K : PySem.W.Frag) : Sp := fun vs H Q _ => ∃ (n : Nat) (l : Addr) (xs : List V) (ts : List Tie), vs = [.int (n : Int), .ref l] ∧ SqL K H l xs ∧ Ties K H xs ts ∧ WebOk n ts ∧ ∀ p H2, H p = none → Ex H H2 → H2 p = some (.lst (tabN n (firstsF ts))) → Q (.ref p) H2
theorem ok__first_points (T : Top K mg a) : FnOk P w K mg base CX0 1 a.a__first_points a.d__first_points ["size", "ties"] (sp_first_points K) := by
  refine T.F__first_points.ok sc__first_points (fun vs H Q E h => ?_) (fun cdv A outer s H vs Q E hr h => ?_)
  · obtain ⟨n, l, xs, ts, rfl, _⟩ := h
    rfl
  · obtain ⟨n, l, xs, ts, rfl, hS, hT, hW, q⟩ := h
    refine ⟨_, (pss_cons (ps_set (i := 2) sc__first_points.nd rfl (.inl rfl) (pe_listRg rfl (by rfl) T.n_list (prg_1 (by rfl) T.n_range (pv 0))))
  (pss_cons (ps_for PassesOwn.never rfl (kx_piL (K := K) (pv 1)) (kx_pgT (K := K) (n := 2) rfl (pgs_cons (pg_name (i := 3) sc__first_points.nd rfl (.inl rfl)) (pgs_cons (pg_name (i := 4) sc__first_points.nd rfl (.inl rfl)) pgs_nil))) (pss_cons (ps_set (i := 5) sc__first_points.nd rfl (.inr rfl) (pe_callB (call_min2 rfl) (by rfl) T.n_min (by decide +kernel) (pa_cons (pe_ix (kx_ixL (K := K)) (pv 2) (pv 3) (fun _ _ => rfl)) (pa_cons (pe_ix (kx_ixL (K := K)) (pv 2) (pv 4) (fun _ _ => rfl)) pa_nil))))
  (pss_cons (ps_set (i := 6) sc__first_points.nd rfl (.inr rfl) (pe_callB (call_max2 rfl) (by rfl) T.n_max (by decide +kernel) (pa_cons (pe_ix (kx_ixL (K := K)) (pv 2) (pv 3) (fun _ _ => rfl)) (pa_cons (pe_ix (kx_ixL (K := K)) (pv 2) (pv 4) (fun _ _ => rfl)) pa_nil))))
  (pss_one (ps_setLc (i := 2) (own := [("first", 7)]) rfl sc__first_points.nd rfl rfl (sw_true rfl rfl rfl (by decide +kernel)) (kx_piL (K := K) (pv 2)) (blkOk_by (own := [("first", 7)]) (N := n__first_points) (sc := defScope s__first_points) (by decide +kernel)) (fun _ _ _ _ _ => pg_name (i := 7) sc__first_points.nd rfl (by first | exact Or.inl rfl | exact Or.inr rfl)) (fun _ _ _ _ _ => pts_nil) (fun _ _ _ _ _ => (pe_ifExp (pt_cmpR op_eq (pv 7) (pv 6) (nomark _)) (pv 5) (pv 7))))))))
  (pss_one (ps_ret (pv 2))))), ?_⟩
    have hn := hW.size
    refine q_asgL (el_range (n := n) (ev_var rfl) (by omega)) fun p H1 fp e1 h1 => ?_
    refine q_forTies (ev_var rfl) (ex_l e1 hS) (Paired.len hT) (fun i σ' H' => ∃ p x3 x4 x5 x6, σ' = [some (.int (n : Int)), some (.ref l), some (.ref p), x3, x4, x5, x6, none] ∧ Ex H H' ∧ H p = none ∧ H' p = some (.lst (tabN n (firstsF (ts.take i))))) ?_ ?_ ?_ ?_
    · exact fun H2 e2 => ⟨p, none, none, none, none, rfl, e1.trans e2, fp, e2 _ _ h1⟩
    · rintro m σ' H' ⟨_, _, _, _, _, _, e, _⟩
      exact ⟨ex_l e hS, Ties.ex e hT⟩
    · rintro m t σ' H' ht ⟨p, x3, x4, x5, x6, rfl, e2, fp, h2⟩
      have hto := hW.ok t (List.mem_of_getElem? ht)
      have htk : ts.take (m + 1) = ts.take m ++ [t] := by
        rw [List.take_add_one, ht]
        rfl
      generalize hf : firstsF (ts.take m) = f at h2
      refine q_asg (v := .int ((min (f t.1) (f t.2) : Nat) : Int)) (ev_min (ev_tab h2 (ev_var rfl) (ev_var rfl) (by omega)) (ev_tab h2 (ev_var rfl) (ev_var rfl) hto.2)) fun H3 e3 => ?_
      have h3 := e3 _ _ h2
      refine q_asg (v := .int ((max (f t.1) (f t.2) : Nat) : Int)) (ev_max (ev_tab h3 (ev_var rfl) (ev_var rfl) (by omega)) (ev_tab h3 (ev_var rfl) (ev_var rfl) hto.2)) fun H4 e4 => ?_
      have h4 := e4 _ _ h3
      have e04 := (e2.trans e3).trans e4
      refine s_asgL (xs := tabN n (joinF f t)) (el_eq (el_lcL (xs := tabN n f) (fun _ => true) (fun i => .int (joinF f t i : Int)) (ev_var rfl) (SqL.of h4) (by rw [tabN_len]; omega) (fun _ => rfl) (fun _ _ _ _ _ => et_yes) (fun i x H5 e5 hx _ => ?_)) ?_) fun p5 H5 fp5 e5 h5 => ?_
      · have hi : i < n := by
          have := (List.getElem?_eq_some_iff.mp hx).1
          rw [tabN_len] at this
          exact this
        rw [List.getElem?_map, tab_at hi] at hx
        have ex : x = .int (f i : Int) := (Option.some.inj hx).symm
        subst ex
        refine ev_is (ev_ifE (b := decide (V.int (f i : Int) = V.int ((max (f t.1) (f t.2) : Nat) : Int))) (et_test (ev_op (ev_var rfl) (ev_var rfl) (rv_eq rfl))) (fun _ => ev_var (v := .int ((min (f t.1) (f t.2) : Nat) : Int)) rfl) (fun _ => ev_var (v := .int (f i : Int)) rfl)) ?_
        unfold joinF
        by_cases e : f i = max (f t.1) (f t.2)
        · rw [if_pos e, if_pos (decide_eq_true (by rw [e]))]
        · rw [if_neg e, if_neg (by
            rw [decide_eq_false fun z => e (by have := V.int.inj z; omega)]
            decide)]
      · rw [tabN_len]
        exact given_tab n _
      · refine ⟨p5, _, _, _, _, rfl, e04.trans e5, fresh_back e04 fp5, ?_⟩
        rw [htk, firstsF_snoc, hf]
        exact h5
    · rintro σ' H' ⟨p, x3, x4, x5, x6, rfl, e2, fp, h2⟩
      rw [List.take_length] at h2
      exact s_ret (v := .ref p) (ev_var rfl) fun H3 e3 => q p H3 fp (e2.trans e3) (e3 _ _ h2)

end
end K2
set_option Elab.async false
set_option linter.all false
set_option maxRecDepth 100000
set_option maxHeartbeats 300000
namespace K2
open PySem PySem.Spec PyProof.Rows L2 Evl Z
section
variable {P : Program} {w : World} {K : PySem.W.Frag} {mg : Str → Option Value} {base : Heap} {a : Ad}
/-! ### pieces -/
def gI (g : List Nat) : List Int := g.map fun q : Nat => (q : Int)
abbrev gV (g : List Nat) : List V := (gI g).map V.int
/-- at p, a new list of new lists of points -/
def Lists (H H2 : Hp) (p : Addr) (xs : List V) (gs : List (List Nat)) : Prop := PySem.Paired (fun x g => ∃ q, x = V.ref q ∧ H q = none ∧ q ≠ p ∧ H2 q = some (.lst (gV g))) xs gs
def NewLL (H H2 : Hp) (p : Addr) (gs : List (List Nat)) : Prop := ∃ xs, H2 p = some (.lst xs) ∧ Lists H H2 p xs gs
theorem Lists.ex {H H2 H3 : Hp} {p : Addr} {xs : List V} {gs : List (List Nat)} (e : Ex H2 H3) (h : Lists H H2 p xs gs) : Lists H H3 p xs gs := Paired.imp (fun _ _ ⟨q, a, b, c, d⟩ => ⟨q, a, b, c, e _ _ d⟩) h
theorem Lists.upd {H H2 : Hp} {p : Addr} {o : HO} {xs : List V} {gs : List (List Nat)} (h : Lists H H2 p xs gs) : Lists H (L2.upd H2 p o) p xs gs := Paired.imp (fun _ _ ⟨q, a, b, c, d⟩ => ⟨q, a, b, c, (upd_ne c).trans d⟩) h
theorem Lists.old {H0 H H2 : Hp} {p : Addr} {xs : List V} {gs : List (List Nat)} (e : Ex H0 H) (h : Lists H H2 p xs gs) : Lists H0 H2 p xs gs := Paired.imp (fun _ _ ⟨q, a, b, c, d⟩ => ⟨q, a, fresh_back e b, c, d⟩) h
theorem dec_int (x y : Nat) : decide (V.int (x : Int) = V.int (y : Int)) = decide (x = y) := by
  by_cases e : x = y
  · rw [decide_eq_true e, decide_eq_true (by rw [e])]
  · rw [decide_eq_false e, decide_eq_false fun z => e (by have := V.int.inj z; omega)]
/-- [point for point in range(n) if f[point] == v] -/
theorem el_group {σ : L2.St} {H : Hp} {ta : TA} {tt : TT} {te : TE} {j : Nat} {vs : List Nat} {n : Nat} (f : Nat → Nat) (v : Nat) (h : EvA ta σ H [.int (n : Int)]) (hn : n ≤ 100) (hw : ∀ x, wipe ((wipe σ vs).set j (some x)) vs = wipe σ vs)
    (ht : ∀ (i : Nat) H1, Ex H H1 → i < n → EvT tt ((wipe σ vs).set j (some (.int (i : Int)))) H1 (decide (f i = v))) (he : ∀ (i : Nat) H1, Ex H H1 → Ev te ((wipe σ vs).set j (some (.int (i : Int)))) H1 (.int (i : Int))) :
    EvL (tLc (iRng1 ta) (gName j) tt te vs) σ H (gV (group n f v)) := by
  refine el_eq (el_lcR1 (n := (n : Int)) (fun i => decide (f i = v)) (fun i => .int (i : Int)) h (by omega) hw (fun i H1 e hi => ht i H1 e (by omega)) (fun i H1 e _ _ => he i H1 e)) ?_
  unfold given gV gI group
  rw [Int.toNat_natCast, List.map_map]
  rfl
theorem group_len (n : Nat) (f : Nat → Nat) (v : Nat) : (group n f v).length ≤ n := by
  have h := List.length_filter_le (fun q => decide (f q = v)) (List.range n)
  rw [List.length_range] at h
  exact h
theorem lists_len {H H2 : Hp} {p : Addr} {xs : List V} {gs : List (List Nat)} (h : Lists H H2 p xs gs) : xs.length = gs.length := Paired.len h
def sp_pieces (K : PySem.W.Frag) (C : Addr) : Sp := fun vs H Q E => ∃ x y, vs = [x, y] ∧ ((NoWebV K H x y ∧ ∀ H2, Ex H H2 → E (.ref C) none H2) ∨
  ∃ n l xs ts, x = .int ((n : Nat) : Int) ∧ y = .ref l ∧ SqL K H l xs ∧ Ties K H xs ts ∧ WebOk n ts ∧ ∀ p H2, H p = none → Ex H H2 → NewLL H H2 p (piecesF n (firstsF ts)) → Q (.ref p) H2)
theorem ok_pieces (T : Top K mg a) : FnOk P w K mg base (L2N.CX P w) 4 a.a_pieces a.d_pieces ["size", "ties"] (sp_pieces K a.c_BadWeb) := by
  refine Z.Fun.okN T.F_pieces sc_pieces (fun vs H Q E h => ?_) (fun cdv A outer s H vs Q E hr h => ?_)
  · obtain ⟨x, y, rfl, _⟩ := h
    rfl
  · obtain ⟨x, y, rfl, h⟩ := h
    refine ⟨_, (pss_cons (ps_expr (pe_call (E := E) (ok_need_web (K := K) T) (hr.mono (by decide)) rfl T.g_need_web T.F_need_web.kp T.b_need_web .nil (L2N.passes_call (L2N.takes_of rfl rfl rfl rfl) (fun _ _ _ _ h => h)) (pa_cons (pv 0) (pa_cons (pv 1) pa_nil))))
  (pss_cons (ps_set (i := 2) sc_pieces.nd rfl (.inr rfl) (pe_call (ok__first_points (K := K) T) (hr.mono (by decide)) rfl T.g__first_points T.F__first_points.kp T.b__first_points .nil pass0 (pa_cons (pv 0) (pa_cons (pv 1) pa_nil))))
  (pss_cons (ps_set (i := 3) sc_pieces.nd rfl (.inl rfl) (pe_lst pa_nil))
  (pss_cons (ps_for (passes_of rfl) rfl (pi_range1 rfl T.n_range (pa_cons (pv 0) pa_nil)) (pg_name (i := 4) sc_pieces.nd rfl (.inr rfl)) (pss_one (ps_if (pt_cmpR op_eq (pe_ix (kx_ixL (K := K)) (pv 2) (pv 4) (fun _ _ => rfl)) (pv 4) (nomark _)) (pss_one (ps_expr (pe_bm PySem.F.plainAttrs_list PySem.F.slot_list_append PySem.F.type_list_append mt_append (pv 3) (pa_cons (pe_lc (own := [("point", 5)]) rfl sc_pieces.nd (pi_range1 rfl T.n_range (pa_cons (pv 0) pa_nil)) (blkOk_by (own := [("point", 5)]) (N := n_pieces) (sc := defScope s_pieces) (by decide +kernel)) (fun _ _ _ _ _ => pg_name (i := 5) sc_pieces.nd rfl (by first | exact Or.inl rfl | exact Or.inr rfl)) (fun _ _ _ _ _ => pts_one (pt_cmpR op_eq (pe_ix (kx_ixL (K := K)) (pv 2) (pv 5) (fun _ _ => rfl)) (pv 4) (nomark _))) (fun _ _ _ _ _ => (pv 5))) pa_nil)))) pss_nil)))
  (pss_one (ps_ret (pv 3))))))), ?_⟩
    refine q_dropC ?_
    rcases h with ⟨hN, he⟩ | ⟨n, l, xs, ts, rfl, rfl, hS, hT, hW, q⟩
    · exact ⟨x, rfl, y, rfl, x, y, rfl, .inl ⟨hN, he⟩⟩
    · refine ⟨.int (n : Int), rfl, .ref l, rfl, _, _, rfl, .inr ⟨n, l, xs, ts, rfl, rfl, hS, hT, hW, fun H1 e1 => ?_⟩⟩
      have hn := hW.size
      generalize hF : firstsF ts = F at q
      refine q_asgL (xs := tabN n F) (el_call (vs := [.int (n : Int), .ref l]) (ea_cons (ev_var rfl) (ea_cons (ev_var rfl) ea_nil)) (fun H2 e2 Q q E => ⟨n, l, xs, ts, rfl, ex_l (e1.trans e2) hS, Ties.ex (e1.trans e2) hT, hW, fun p H3 hp e3 h3 => q p H3 e3 hp (hF ▸ h3)⟩)) fun fp H2 ffp e2 h2 => ?_
      refine q_asgL (xs := []) (el_lst ea_nil (by show 0 ≤ 100000; decide)) fun p H3 fp3 e3 h3 => ?_
      have e03 := (e1.trans e2).trans e3
      have fp0 : H p = none := fresh_back (e1.trans e2) fp3
      refine q_forR1 (n := (n : Int)) (ea_cons (ev_var rfl) ea_nil) (by omega) (fun i σ' H' => ∃ x4 xs', σ' = [some (.int (n : Int)), some (.ref l), some (.ref fp), some (.ref p), x4, none] ∧ Ex H H' ∧ H' fp = some (.lst (tabN n F)) ∧ H' p = some (.lst xs') ∧ Lists H H' p xs' (((List.range i).filter fun v => decide (F v = v)).map (group n F))) ?_ ?_ ?_
      · exact fun H4 e4 => ⟨none, [], rfl, e03.trans e4, e4 _ _ (e3 _ _ h2), e4 _ _ h3, .nil⟩
      · rintro i σ' H' hi ⟨x4, xs', rfl, e4, h4, h5, hL⟩
        have hin : i < n := by omega
        have nfp : fp ≠ p := ne_of_none h2 fp3
        have hlen := lists_len hL
        have hl2 : (((List.range i).filter fun v => decide (F v = v)).map (group n F)).length ≤ 100 := by
          rw [List.length_map]
          have := List.length_filter_le (fun v => decide (F v = v)) (List.range i)
          rw [List.length_range] at this
          omega
        refine s_when (b := decide (F i = i)) (et_test (ev_is (ev_op (ev_tab h4 (ev_var rfl) (ev_var rfl) hin) (ev_var rfl) (rv_eq rfl)) (congrArg V.bl (dec_int _ _)))) (fun hz H6 e6 => ?_) (fun hz H6 e6 => ?_)
        · have h6 := e6 _ _ h4
          refine s_appL (e6 _ _ h5) (ev_var rfl) (el_group F i (ea_cons (ev_var rfl) ea_nil) (by omega) (fun _ => rfl) (fun m H7 e7 hm => ?_) (fun m H7 _ => ev_var rfl)) (by omega) fun g H7 fg e7 h7 => ?_
          · exact et_test (ev_is (ev_op (ev_tab (e7 _ _ h6) (ev_var rfl) (ev_var rfl) hm) (ev_var rfl) (rv_eq rfl)) (congrArg V.bl (dec_int _ _)))
          · have ng : g ≠ p := (ne_of_none (e6 _ _ h5) fg).symm
            refine ⟨_, _, rfl, Ex.mut ((e4.trans e6).trans e7) fp0, (upd_ne nfp).trans (e7 _ _ h6), upd_same, ?_⟩
            rw [List.range_succ, List.filter_append, List.map_append, List.filter_cons, if_pos hz]
            exact Paired.app (Lists.upd (hL.ex (e6.trans e7))) (.cons ⟨g, rfl, fresh_back (e4.trans e6) fg, ng, (upd_ne ng).trans h7⟩ .nil)
        · refine ⟨_, xs', rfl, e4.trans e6, e6 _ _ h4, e6 _ _ h5, ?_⟩
          rw [List.range_succ, List.filter_append, List.map_append, List.filter_cons, if_neg (by rw [hz]; decide), List.filter_nil, List.map_nil, List.append_nil]
          exact hL.ex e6
      · rintro σ' H' ⟨x4, xs', rfl, e4, h4, h5, hL⟩
        rw [Int.toNat_natCast] at hL
        exact s_ret (v := .ref p) (ev_var rfl) fun H5 e5 => q p H5 fp0 (e4.trans e5) ⟨xs', e5 _ _ h5, hL.ex e5⟩

end
end K2
set_option Elab.async false
set_option linter.all false
set_option maxRecDepth 100000
set_option maxHeartbeats 300000
namespace K2
open PySem PySem.Spec PyProof.Rows L2 Evl Z
section
variable {P : Program} {w : World} {K : PySem.W.Frag} {mg : Str → Option Value} {base : Heap} {a : Ad}
/-! ### the law's own pieces -/
theorem ev_neNil {σ : L2.St} {H : Hp} {ta tb : TE} {p : Addr} {cs : List Int} (ha : Ev ta σ H (.ref p)) (h1 : SqL K H p (cs.map V.int)) (hb : EvL tb σ H []) : Ev (tOp (rNeD K) ta tb) σ H (.bl (!cs.isEmpty)) := fun H1 e Q q =>
  ha H1 e _ fun H2 e2 => hb H2 (e.trans e2) _ fun r H3 hr e3 h3 => by
    have h := rv_neD (K := K) (dp_ints (ex_l ((e.trans e2).trans e3) h1)) (dp_ints (cs := []) (SqL.of h3)) (shaped_ints cs) (shaped_ints [])
    have ee : PyData.eqv (.list (cs.map PyData.int)) (.list (([] : List Int).map PyData.int)) = cs.isEmpty := by
      cases cs with
      | nil => exact eqv_ints []
      | cons c cs =>
        rw [List.map_cons, List.map_nil, PyData.eqv, PyData.eqvAll]
        · rfl
        all_goals simp
    rw [ee] at h
    exact h H3 (Ex.refl H3) Q fun H4 e4 => q H4 ((e2.trans e3).trans e4)
theorem tab_fall (n : Nat) (m : Nat → Nat) (t : Tie) : (((tab n fun q => (m q : Int)).set t.1 ((min (m t.1) (m t.2) : Nat) : Int)).set t.2 ((min (m t.1) (m t.2) : Nat) : Int)) = tab n fun q => (fall m t q : Int) := by
  rw [tab_set, tab_set]
  refine tab_congr fun q _ => ?_
  unfold fall
  by_cases e2 : q = t.2
  · rw [if_pos e2, if_pos (.inr e2)]
  · rw [if_neg e2]
    by_cases e1 : q = t.1
    · rw [if_pos e1, if_pos (.inl e1)]
    · rw [if_neg e1, if_neg (fun z => z.elim e1 e2)]
theorem round_take (ts : List Tie) (m : Nat → Nat) {i : Nat} {t : Tie} (h : ts[i]? = some t) : roundM (ts.take (i + 1)) m = fall (roundM (ts.take i) m) t := by
  rw [List.take_add_one, h]
  unfold roundM
  rw [show (some t).toList = [t] from rfl, List.foldl_append]
  rfl
def sp_law_pieces (K : PySem.W.Frag) : Sp := fun vs H Q _ => ∃ (n : Nat) (l : Addr) (xs : List V) (ts : List Tie), vs = [.int (n : Int), .ref l] ∧ SqL K H l xs ∧ Ties K H xs ts ∧ WebOk n ts ∧ ∀ p H2, H p = none → Ex H H2 → NewLL H H2 p (piecesF n (firstsF ts)) → Q (.ref p) H2
theorem ok__law_pieces (T : Top K mg a) : FnOk P w K mg base CX0 1 a.a__law_pieces a.d__law_pieces ["_law_size", "_law_ties"] (sp_law_pieces K) := by
  refine T.F__law_pieces.ok sc__law_pieces (fun vs H Q E h => ?_) (fun cdv A outer s H vs Q E hr h => ?_)
  · obtain ⟨n, l, xs, ts, rfl, _⟩ := h
    rfl
  · obtain ⟨n, l, xs, ts, rfl, hS, hT, hW, q⟩ := h
    refine ⟨_, (pss_cons (ps_set (i := 2) sc__law_pieces.nd rfl (.inr rfl) (pe_listRg rfl (by rfl) T.n_list (prg_1 (by rfl) T.n_range (pv 0))))
  (pss_cons (ps_for PassesOwn.never rfl (pi_range1 rfl T.n_range (pa_cons (pv 0) pa_nil)) (pg_name (i := 3) sc__law_pieces.nd rfl (.inl rfl)) (pss_one (ps_for PassesOwn.never rfl (kx_piL (K := K) (pv 1)) (kx_pgT (K := K) (n := 2) rfl (pgs_cons (pg_name (i := 4) sc__law_pieces.nd rfl (.inl rfl)) (pgs_cons (pg_name (i := 5) sc__law_pieces.nd rfl (.inl rfl)) pgs_nil))) (pss_cons (ps_set (i := 6) sc__law_pieces.nd rfl (.inl rfl) (pe_callB (call_min2 rfl) (by rfl) T.n_min (by decide +kernel) (pa_cons (pe_ix (kx_ixL (K := K)) (pv 2) (pv 4) (fun _ _ => rfl)) (pa_cons (pe_ix (kx_ixL (K := K)) (pv 2) (pv 5) (fun _ _ => rfl)) pa_nil))))
  (pss_cons (ps_asg (pv 6) (pg_sub (pv 2) (pv 4) set_list))
  (pss_one (ps_asg (pv 6) (pg_sub (pv 2) (pv 5) set_list))))))))
  (pss_cons (ps_set (i := 7) sc__law_pieces.nd rfl (.inl rfl) (pe_lst pa_nil))
  (pss_cons (ps_for PassesOwn.never rfl (pi_range1 rfl T.n_range (pa_cons (pv 0) pa_nil)) (pg_name (i := 8) sc__law_pieces.nd rfl (.inr rfl)) (pss_cons (ps_setLc (i := 9) (own := [("_law_point", 10)]) rfl sc__law_pieces.nd rfl rfl (sw_true rfl rfl rfl (by decide +kernel)) (pi_range1 rfl T.n_range (pa_cons (pv 0) pa_nil)) (blkOk_by (own := [("_law_point", 10)]) (N := n__law_pieces) (sc := defScope s__law_pieces) (by decide +kernel)) (fun _ _ _ _ _ => pg_name (i := 10) sc__law_pieces.nd rfl (by first | exact Or.inl rfl | exact Or.inr rfl)) (fun _ _ _ _ _ => pts_one (pt_cmpR op_eq (pe_ix (kx_ixL (K := K)) (pv 2) (pv 10) (fun _ _ => rfl)) (pv 8) (nomark _))) (fun _ _ _ _ _ => (pv 10)))
  (pss_one (ps_if (pt_cmpR (kx_neD (K := K) hr.units) (pv 9) (pe_lst pa_nil) (nomark _)) (pss_one (ps_expr (pe_bm PySem.F.plainAttrs_list PySem.F.slot_list_append PySem.F.type_list_append mt_append (pv 7) (pa_cons (pv 9) pa_nil)))) pss_nil))))
  (pss_one (ps_ret (pv 7))))))), ?_⟩
    have hn := hW.size
    rw [← pieces_eq hn.1 hW.ok] at q
    refine q_asgL (el_range (n := n) (ev_var rfl) (by omega)) fun mp H1 fmp e1 h1 => ?_
    refine q_forR1 (n := (n : Int)) (ea_cons (ev_var rfl) ea_nil) (by omega) (fun r σ' H' => ∃ x3 x4 x5 x6, σ' = [some (.int (n : Int)), some (.ref l), some (.ref mp), x3, x4, x5, x6, none, none, none, none] ∧ Ex H H' ∧ H' mp = some (.lst (tabN n (marksM ts r)))) ?_ ?_ ?_
    · exact fun H2 e2 => ⟨none, none, none, none, rfl, e1.trans e2, e2 _ _ h1⟩
    · rintro r σ' H' hr ⟨x3, x4, x5, x6, rfl, e2, h2⟩
      refine s_forTies (ev_var rfl) (ex_l e2 hS) (Paired.len hT) (fun i σ' H' => ∃ x4 x5 x6, σ' = [some (.int (n : Int)), some (.ref l), some (.ref mp), some (.int (r : Int)), x4, x5, x6, none, none, none, none] ∧ Ex H H' ∧ H' mp = some (.lst (tabN n (roundM (ts.take i) (marksM ts r))))) ?_ ?_ ?_ ?_
      · exact fun H3 e3 => ⟨_, _, _, rfl, e2.trans e3, e3 _ _ h2⟩
      · rintro m σ' H' ⟨_, _, _, _, e, _⟩
        exact ⟨ex_l e hS, Ties.ex e hT⟩
      · rintro i t σ' H' ht ⟨y4, y5, y6, rfl, e3, h3⟩
        have hto := hW.ok t (List.mem_of_getElem? ht)
        have hrt := round_take ts (marksM ts r) ht
        generalize hf : roundM (ts.take i) (marksM ts r) = m at h3 hrt
        refine q_asg (v := .int ((min (m t.1) (m t.2) : Nat) : Int)) (ev_min (ev_tab h3 (ev_var rfl) (ev_var rfl) (by omega)) (ev_tab h3 (ev_var rfl) (ev_var rfl) hto.2)) fun H4 e4 => ?_
        have h4 := e4 _ _ h3
        refine q_setL (j := t.1) h4 (ev_var rfl) (ev_var rfl) (ev_var rfl) (by rw [tabN_len]; omega) fun H5 e5 => ?_
        have e6 := Ex.mut (o := .lst ((tabN n m).set t.1 (.int ((min (m t.1) (m t.2) : Nat) : Int)))) ((e3.trans e4).trans e5) fmp
        refine s_setL (j := t.2) upd_same (ev_var rfl) (ev_var rfl) (ev_var rfl) (by rw [List.length_set, tabN_len]; omega) fun H7 e7 => ⟨_, _, _, rfl, Ex.mut (e6.trans e7) fmp, ?_⟩
        rw [hrt]
        unfold tabN
        rw [← tab_fall n m t, List.map_set, List.map_set]
        exact upd_same
      · rintro σ' H' ⟨y4, y5, y6, rfl, e3, h3⟩
        rw [List.take_length] at h3
        exact ⟨_, _, _, _, rfl, e3, h3⟩
    · rintro σ' H' ⟨x3, x4, x5, x6, rfl, e2, h2⟩
      rw [Int.toNat_natCast] at h2
      generalize hM : marksM ts n = M at h2 q
      refine q_asgL (xs := []) (el_lst ea_nil (by show 0 ≤ 100000; decide)) fun p H3 fp3 e3 h3 => ?_
      have e03 := e2.trans e3
      have fp0 : H p = none := fresh_back e2 fp3
      have nmp : mp ≠ p := ne_of_none h2 fp3
      refine q_forR1 (n := (n : Int)) (ea_cons (ev_var rfl) ea_nil) (by omega) (fun i σ' H' => ∃ x8 x9 xs', σ' = [some (.int (n : Int)), some (.ref l), some (.ref mp), x3, x4, x5, x6, some (.ref p), x8, x9, none] ∧ Ex H H' ∧ H' mp = some (.lst (tabN n M)) ∧ H' p = some (.lst xs') ∧ Lists H H' p xs' (((List.range i).filter fun v => !(group n M v).isEmpty).map (group n M))) ?_ ?_ ?_
      · exact fun H4 e4 => ⟨none, none, [], rfl, e03.trans e4, e4 _ _ (e3 _ _ h2), e4 _ _ h3, .nil⟩
      · rintro i σ' H' hi ⟨x8, x9, xs', rfl, e4, h4, h5, hL⟩
        have hlen := lists_len hL
        have hl2 : (((List.range i).filter fun v => !(group n M v).isEmpty).map (group n M)).length ≤ 100 := by
          rw [List.length_map]
          have := List.length_filter_le (fun v => !(group n M v).isEmpty) (List.range i)
          rw [List.length_range] at this
          omega
        refine q_asgL (el_group M i (ea_cons (ev_var rfl) ea_nil) (by omega) (fun _ => rfl) (fun m H7 e7 hm => ?_) (fun m H7 _ => ev_var rfl)) fun g H6 fg e6 h6 => ?_
        · exact et_test (ev_is (ev_op (ev_tab (e7 _ _ h4) (ev_var rfl) (ev_var rfl) hm) (ev_var rfl) (rv_eq rfl)) (congrArg V.bl (dec_int _ _)))
        · have ng : g ≠ p := (ne_of_none h5 fg).symm
          have ge : (gI (group n M i)).isEmpty = (group n M i).isEmpty := by
            unfold gI
            rw [List.isEmpty_map]
          refine s_when (b := !(group n M i).isEmpty) (et_test (ev_is (ev_neNil (cs := gI (group n M i)) (ev_var rfl) (SqL.of h6) (el_lst ea_nil (by show 0 ≤ 100000; decide))) (by rw [ge]))) (fun hz H7 e7 => ?_) (fun hz H7 e7 => ?_)
          · refine s_app (e7 _ _ (e6 _ _ h5)) (ev_var rfl) (v := .ref g) (ev_var rfl) (by omega) fun H8 e8 => ?_
            refine ⟨_, _, _, rfl, Ex.mut (((e4.trans e6).trans e7).trans e8) fp0, (upd_ne nmp).trans (((e6.trans e7).trans e8) _ _ h4), upd_same, ?_⟩
            rw [List.range_succ, List.filter_append, List.map_append, List.filter_cons, if_pos hz]
            exact Paired.app (Lists.upd (hL.ex ((e6.trans e7).trans e8))) (.cons ⟨g, rfl, fresh_back e4 fg, ng, (upd_ne ng).trans ((e7.trans e8) _ _ h6)⟩ .nil)
          · refine ⟨_, _, xs', rfl, (e4.trans e6).trans e7, (e6.trans e7) _ _ h4, (e6.trans e7) _ _ h5, ?_⟩
            rw [List.range_succ, List.filter_append, List.map_append, List.filter_cons, if_neg (by rw [hz]; decide), List.filter_nil, List.map_nil, List.append_nil]
            exact hL.ex (e6.trans e7)
      · rintro σ' H' ⟨x8, x9, xs', rfl, e4, h4, h5, hL⟩
        rw [Int.toNat_natCast] at hL
        exact s_ret (v := .ref p) (ev_var rfl) fun H5 e5 => q p H5 fp0 (e4.trans e5) ⟨xs', e5 _ _ h5, hL.ex e5⟩

end
end K2
set_option Elab.async false
set_option linter.all false
set_option maxRecDepth 100000
set_option maxHeartbeats 300000
namespace K2
open PySem PySem.Spec PyProof.Rows L2 Evl Z
section
variable {P : Program} {w : World} {K : PySem.W.Frag} {mg : Str → Option Value} {base : Heap} {a : Ad}
/-! ### what is no web -/
theorem nt_ints {H : Hp} {n : Int} {p : Addr} {u v : Int} (hS : H p = some (.tup [.int u, .int v])) (h : ¬ (0 ≤ u ∧ u < v ∧ v < n)) : NoTie K H n (.ref p) := by
  refine .inr ⟨p, _, rfl, SqT.of hS, .inr ⟨_, _, rfl, Thing.int _, Thing.int _, ?_⟩⟩
  by_cases hv : 1 ≤ v ∧ v ≤ n - 1
  · refine .inr ⟨v, rfl, ?_⟩
    simp only [isW, Bool.and_eq_false_iff, decide_eq_false_iff_not]
    omega
  · left
    simp only [isW, Bool.and_eq_false_iff, decide_eq_false_iff_not]
    omega
theorem nt_low {H : Hp} {n : Int} {p : Addr} {u : V} {v : Int} (hS : SqT K H p [u, .int v]) (h : Thing K H u) (hw : ∀ k, isW u 0 k = false) : NoTie K H n (.ref p) := .inr ⟨p, _, rfl, hS, .inr ⟨_, _, rfl, h, Thing.int _, .inr ⟨v, rfl, hw _⟩⟩⟩
theorem nt_high {H : Hp} {n : Int} {p : Addr} {u v : V} (hS : SqT K H p [u, v]) (hu : Thing K H u) (h : Thing K H v) (hw : ∀ k, isW v 1 k = false) : NoTie K H n (.ref p) := .inr ⟨p, _, rfl, hS, .inr ⟨_, _, rfl, hu, h, .inl (hw _)⟩⟩
/-- a thing that is no whole number -/
def NoI (K : PySem.W.Frag) (x : V) (H : Hp) : Prop := Thing K H x ∧ ∀ lo hi, isW x lo hi = false
theorem NoI.ex : ∀ (x : V) (H1 H2 : Hp), Ex H1 H2 → NoI K x H1 → NoI K x H2 := fun _ _ _ e h => ⟨h.1.ex e, h.2⟩
theorem isW_ref {p : Addr} {lo hi : Int} : isW (.ref p) lo hi = false := rfl
def sp_no_web (K : PySem.W.Frag) : Sp := fun vs H Q _ => ∃ (n : Nat) (l : Addr) (xs : List V) (ts : List Tie) (c : Int), vs = [.int (n : Int), .ref l, .int c] ∧ SqL K H l xs ∧ Ties K H xs ts ∧ WebOk n ts ∧
  ∀ t x y H2, Ex H H2 → SqT K H2 t [x, y] → NoWebV K H2 x y → Q (.ref t) H2
theorem ok__law_no_web (T : Top K mg a) : FnOk P w K mg base CX0 1 a.a__law_no_web a.d__law_no_web ["_law_size", "_law_ties", "_law_number"] (sp_no_web K) := by
  refine T.F__law_no_web.ok sc__law_no_web (fun vs H Q E h => ?_) (fun cdv A outer s H vs Q E hr h => ?_)
  · obtain ⟨n, l, xs, ts, c, rfl, _⟩ := h
    rfl
  · obtain ⟨n, l, xs, ts, z, rfl, hS, hT, hW, q⟩ := h
    refine ⟨_, (pss_cons (ps_set (i := 3) sc__law_no_web.nd rfl (.inl rfl) (pe_ix (kx_ixL (K := K)) (pe_lst (pa_cons (pe_op op_fdiv (pv 2) pe_int) (pa_cons (pe_op op_add (pe_op op_mul (pe_op op_fdiv (pv 2) pe_int) pe_int) pe_int) pa_nil))) (pe_callTy call_int1 (by rfl) T.n_int (by decide +kernel) (pa_cons (pe_cmpR op_eq (pe_op op_mod (pv 2) pe_int) pe_int (nomark _)) pa_nil)) (fun _ _ => rfl)))
  (pss_cons (ps_set (i := 4) sc__law_no_web.nd rfl (.inl rfl) (pe_op op_mod (pe_op op_fdiv (pv 3) pe_int) (pe_op op_add (pe_callB (kx_len (K := K)) (by rfl) T.n_len (by decide +kernel) (pa_cons (pv 1) pa_nil)) pe_int)))
  (pss_cons (ps_set (i := 5) sc__law_no_web.nd rfl (.inl rfl) (pe_op op_mod (pe_op op_fdiv (pv 3) pe_int) (pe_op op_pow pe_int pe_int)))
  (pss_cons (ps_set (i := 6) sc__law_no_web.nd rfl (.inl rfl) (pe_lst (pa_cons (pe_tup (pa_cons pe_int (pa_cons pe_int pa_nil))) (pa_cons (pe_tup (pa_cons pe_int (pa_cons pe_int pa_nil))) (pa_cons (pe_tup (pa_cons (pe_un un_neg pe_int) (pa_cons pe_int pa_nil))) (pa_cons (pe_tup (pa_cons pe_int (pa_cons (pv 0) pa_nil))) (pa_cons (pe_tup (pa_cons pe_int (pa_cons (pe_op op_add (pv 0) (pv 5)) pa_nil))) (pa_cons (pe_tup (pa_cons pe_int pa_nil)) (pa_cons (pe_tup (pa_cons pe_int (pa_cons pe_int (pa_cons pe_int pa_nil)))) (pa_cons (pe_lst (pa_cons pe_int (pa_cons pe_int pa_nil))) (pa_cons pe_non (pa_cons pe_str pa_nil))))))))))))
  (pss_cons (ps_set (i := 6) sc__law_no_web.nd rfl (.inl rfl) (pe_op op_cat (pv 6) (pe_lst (pa_cons (pe_tup (pa_cons pe_bl (pa_cons pe_int pa_nil))) (pa_cons (pe_tup (pa_cons pe_int (pa_cons pe_bl pa_nil))) (pa_cons (pe_tup (pa_cons pe_int (pa_cons pe_non pa_nil))) (pa_cons (pe_tup (pa_cons pe_str (pa_cons pe_int pa_nil))) (pa_cons (pe_tup (pa_cons (pe_lst (pa_cons pe_int pa_nil)) (pa_cons pe_int pa_nil))) (pa_cons (pe_tup (pa_cons pe_int (pa_cons (pe_lst (pa_cons pe_int pa_nil)) pa_nil))) (pa_cons (pe_tup (pa_cons pe_dnewK (pa_cons pe_int pa_nil))) pa_nil))))))))))
  (pss_cons (ps_if (pt_cmpR op_lt (pe_op op_mod (pv 3) pe_int) pe_int (nomark _)) (pss_one (ps_ret (pe_tup (pa_cons (pv 0) (pa_cons (pe_op op_cat (pe_op op_cat (pe_slice (kx_slL (K := K)) (pv 1) po_none (po_some (pv 4))) (pe_lst (pa_cons (pe_ix (kx_ixL (K := K)) (pv 6) (pe_op op_mod (pv 3) pe_int) (fun _ _ => rfl)) pa_nil))) (pe_slice (kx_slL (K := K)) (pv 1) (po_some (pv 4)) po_none)) pa_nil))))) pss_nil)
  (pss_cons (ps_if (PW.pt (pw_and (pt_cmpR op_eq (pe_op op_mod (pv 3) pe_int) pe_int (nomark _)) (pw_and1 (pt_cmpR (kx_neD (K := K) hr.units) (pv 1) (pe_lst pa_nil) (nomark _))))) (pss_one (ps_ret (pe_tup (pa_cons (pv 0) (pa_cons (pe_op op_cat (pe_op op_cat (pe_slice (kx_slL (K := K)) (pv 1) po_none (po_some (pv 4))) (pe_lst (pa_cons (pe_ix (kx_ixL (K := K)) (pv 1) (pe_op op_mod (pe_op op_fdiv (pv 3) pe_int) (pe_callB (kx_len (K := K)) (by rfl) T.n_len (by decide +kernel) (pa_cons (pv 1) pa_nil))) (fun _ _ => rfl)) pa_nil))) (pe_slice (kx_slL (K := K)) (pv 1) (po_some (pv 4)) po_none)) pa_nil))))) pss_nil)
  (pss_cons (ps_if (pt_cmpR op_eq (pe_op op_mod (pv 3) pe_int) pe_int (nomark _)) (pss_one (ps_ret (pe_tup (pa_cons pe_int (pa_cons (pe_lst (pa_cons (pe_tup (pa_cons pe_int (pa_cons pe_int pa_nil))) (pa_cons (pe_tup (pa_cons pe_int (pa_cons pe_int pa_nil))) pa_nil))) pa_nil))))) pss_nil)
  (pss_cons (ps_set (i := 7) sc__law_no_web.nd rfl (.inl rfl) (pe_lst (pa_cons pe_int (pa_cons pe_int (pa_cons pe_bl (pa_cons pe_non (pa_cons pe_str (pa_cons (pe_op op_add pe_int (pv 5)) pa_nil))))))))
  (pss_cons (ps_if (pt_cmpR op_lt (pe_op op_mod (pv 3) pe_int) pe_int (nomark _)) (pss_one (ps_ret (pe_tup (pa_cons (pe_ix (kx_ixL (K := K)) (pv 7) (pe_op op_sub (pe_op op_mod (pv 3) pe_int) pe_int) (fun _ _ => rfl)) (pa_cons (pv 1) pa_nil))))) pss_nil)
  (pss_one (ps_ret (pe_tup (pa_cons (pv 0) (pa_cons (pe_ix (kx_ixL (K := K)) (pe_lst (pa_cons (pe_callTy (kx_tuple (K := K)) (by rfl) T.n_tuple (by decide +kernel) (pa_cons (pv 1) pa_nil)) (pa_cons pe_non (pa_cons pe_dnewK (pa_cons pe_str pa_nil))))) (pe_op op_mod (pe_op op_fdiv (pv 3) pe_int) pe_int) (fun _ _ => rfl)) pa_nil))))))))))))))), ?_⟩
    have hn := hW.size
    have hlen := Paired.len hT
    have h45 := hW.len
    have bit : ∀ b : Bool, 0 ≤ (if b = true then (1 : Int) else 0) ∧ (if b = true then (1 : Int) else 0) < 2 := fun b => by cases b <;> decide
    refine q_asgG (gx_menu (G := fun x _ => ∃ c, x = .int c) (n := 2) (i := if decide (V.int (z % 3) = V.int 0) = true then 1 else 0) (fun _ _ _ _ h => h) (ga_cons (fun _ _ _ _ h => h) (gx_ev (v := .int (z / 3)) (by
      walk_at "ev"
      exact ⟨by decide, by decide⟩) fun _ _ => ⟨_, rfl⟩) (ga_cons (fun _ _ _ _ h => h) (gx_ev (v := .int (z / 75 * 25 + 17)) (by
      walk_at "ev"
      · exact ⟨by decide, by decide⟩
      · exact .inr ⟨by decide, by decide⟩) fun _ _ => ⟨_, rfl⟩) ga_nil)) (by
      walk_at "ev"
      decide) (bit _).1 (bit _).2 (by decide)) fun v H1 e1 hv => ?_
    obtain ⟨c, rfl⟩ := hv
    -- the place
    obtain ⟨j, hj⟩ : ∃ j : Nat, (j : Int) = c / 25 % ((xs.length : Int) + 1) := ⟨(c / 25 % ((xs.length : Int) + 1)).toNat, by have := Int.emod_nonneg (c / 25) (show (xs.length : Int) + 1 ≠ 0 by omega); omega⟩
    have hjn : j ≤ xs.length := by have := Int.emod_lt_of_pos (c / 25) (show (0 : Int) < (xs.length : Int) + 1 by omega); omega
    have hS1 := ex_l e1 hS
    refine q_asg (v := .int (j : Int)) (by
      rw [hj]
      walk_at "ev"
      all_goals first
        | exact ⟨by decide, by decide⟩
        | omega) fun H2 e2 => ?_
    obtain ⟨far, hfar, hf0⟩ : ∃ far : Int, far = c / 250 % 10 ^ (9 : Int).toNat ∧ 0 ≤ far := ⟨_, rfl, Int.emod_nonneg _ (by decide)⟩
    refine q_asg (v := .int far) (by
      rw [hfar]
      walk_at "ev"
      · exact ⟨by decide, by decide⟩
      · exact ⟨by decide, by decide, by decide⟩
      · decide) fun H3 e3 => ?_
    have e03 := (e1.trans e2).trans e3
    have k0 : Ev (tVar 0) [some (.int (n : Int)), some (.ref l), some (.int z), some (.int c), some (.int (j : Int)), some (.int far), none, none] H3 (.int (n : Int)) := ev_var rfl
    -- ten odd things
    refine q_asgG (lg_lst (G := fun x H => NoTie K H (n : Int) x) (n := 10) (fun _ _ _ e h => NoTie.ex e h) ?_ (by decide)) fun v H4 e4 hv => ?_
    · refine ga_cons (fun _ _ _ e h => NoTie.ex e h) (gx_U (xs := [.int 0, .int 0]) (eu_tup (by walk_at "ev") (by show 2 ≤ 100000; decide)) fun p _ _ hp => nt_ints hp (by omega)) ?_
      refine ga_cons (fun _ _ _ e h => NoTie.ex e h) (gx_U (xs := [.int 1, .int 0]) (eu_tup (by walk_at "ev") (by show 2 ≤ 100000; decide)) fun p _ _ hp => nt_ints hp (by omega)) ?_
      refine ga_cons (fun _ _ _ e h => NoTie.ex e h) (gx_U (xs := [.int (-1), .int 0]) (eu_tup (by walk_at "ev") (by show 2 ≤ 100000; decide)) fun p _ _ hp => nt_ints hp (by omega)) ?_
      refine ga_cons (fun _ _ _ e h => NoTie.ex e h) (gx_U (xs := [.int 0, .int (n : Int)]) (eu_tup (by walk_at "ev") (by show 2 ≤ 100000; decide)) fun p _ _ hp => nt_ints hp (by omega)) ?_
      refine ga_cons (fun _ _ _ e h => NoTie.ex e h) (gx_U (xs := [.int 0, .int ((n : Int) + far)]) (eu_tup (by walk_at "ev") (by show 2 ≤ 100000; decide)) fun p _ _ hp => nt_ints hp (by omega)) ?_
      refine ga_cons (fun _ _ _ e h => NoTie.ex e h) (gx_U (xs := [.int 0]) (eu_tup (by walk_at "ev") (by show 1 ≤ 100000; decide)) fun p _ _ hp => .inr ⟨p, _, rfl, SqT.of hp, .inl (by decide)⟩) ?_
      refine ga_cons (fun _ _ _ e h => NoTie.ex e h) (gx_U (xs := [.int 0, .int 1, .int 2]) (eu_tup (by walk_at "ev") (by show 3 ≤ 100000; decide)) fun p _ _ hp => .inr ⟨p, _, rfl, SqT.of hp, .inl (by decide)⟩) ?_
      refine ga_cons (fun _ _ _ e h => NoTie.ex e h) (gx_L (xs := [.int 0, .int 1]) (el_lst (by walk_at "ev") (by show 2 ≤ 100000; decide)) fun p _ _ hp => .inl ⟨_, .lst (SqL.of hp), by decide, by decide⟩) ?_
      refine ga_cons (fun _ _ _ e h => NoTie.ex e h) (gx_ev (v := .non) (by walk_at "ev") fun _ _ => .inl ⟨_, .non, by decide, by decide⟩) ?_
      exact ga_cons (fun _ _ _ e h => NoTie.ex e h) (gx_ev ev_c fun _ _ => .inl ⟨_, .str _, by decide, by decide⟩) ga_nil
    obtain ⟨op, os, rfl, _, ho4, lo4, go4⟩ := hv
    -- and seven
    refine q_asgG (lg_cat (G := fun x H => NoTie K H (n : Int) x) (n := 10) (m := 7) (fun _ _ _ e h => NoTie.ex e h) (ev_var rfl) ho4 lo4 go4 (lg_lst (fun _ _ _ e h => NoTie.ex e h) ?_ (by decide)) (by decide)) fun v H5 e5 hv => ?_
    · have n1 : ∀ {H : Hp} {x : V}, NoI K x H → Thing K H x ∧ ∀ k, isW x 0 k = false := fun h => ⟨h.1, h.2 0⟩
      refine ga_cons (fun _ _ _ e h => NoTie.ex e h) (gx_U (xs := [.bl false, .int 1]) (eu_tup (by walk_at "ev") (by show 2 ≤ 100000; decide)) fun p _ _ hp => nt_low (SqT.of hp) ⟨_, .bl _, by decide⟩ fun _ => rfl) ?_
      refine ga_cons (fun _ _ _ e h => NoTie.ex e h) (gx_U (xs := [.int 0, .bl true]) (eu_tup (by walk_at "ev") (by show 2 ≤ 100000; decide)) fun p _ _ hp => nt_high (SqT.of hp) (Thing.int _) ⟨_, .bl _, by decide⟩ fun _ => rfl) ?_
      refine ga_cons (fun _ _ _ e h => NoTie.ex e h) (gx_U (xs := [.int 0, .non]) (eu_tup (by walk_at "ev") (by show 2 ≤ 100000; decide)) fun p _ _ hp => nt_high (SqT.of hp) (Thing.int _) ⟨_, .non, by decide⟩ fun _ => rfl) ?_
      refine ga_cons (fun _ _ _ e h => NoTie.ex e h) (gx_U (eu_tup (ea_cons ev_c (ea_cons ev_c ea_nil)) (by show 2 ≤ 100000; decide)) fun p _ _ hp => nt_low (SqT.of hp) ⟨_, .str _, by decide⟩ fun _ => rfl) ?_
      refine ga_cons (fun _ _ _ e h => NoTie.ex e h) (EvG.post (gx_pair (K := K) (G1 := NoI K) (G2 := fun x _ => x = .int 1) NoI.ex (fun _ _ _ _ h => h) (gx_L (xs := [.int 0]) (el_lst (by walk_at "ev") (by show 1 ≤ 100000; decide)) fun p _ _ hp => ⟨⟨_, .lst (SqL.of hp), by decide⟩, fun _ _ => rfl⟩) (gx_ev ev_c fun _ _ => rfl)) fun _ x _ _ _ ⟨p, u, v, hx, hp, hu, hv⟩ => ?_) ?_
      · subst hx hv
        exact nt_low hp hu.1 (hu.2 0)
      refine ga_cons (fun _ _ _ e h => NoTie.ex e h) (EvG.post (gx_pair (K := K) (G1 := fun x _ => x = .int 0) (G2 := NoI K) (fun _ _ _ _ h => h) NoI.ex (gx_ev ev_c fun _ _ => rfl) (gx_L (xs := [.int 1]) (el_lst (by walk_at "ev") (by show 1 ≤ 100000; decide)) fun p _ _ hp => ⟨⟨_, .lst (SqL.of hp), by decide⟩, fun _ _ => rfl⟩)) fun _ x _ _ _ ⟨p, u, v, hx, hp, hu, hv⟩ => ?_) ?_
      · subst hx hu
        exact nt_high hp (Thing.int _) hv.1 (hv.2 1)
      refine ga_cons (fun _ _ _ e h => NoTie.ex e h) (EvG.post (gx_pair (K := K) (G1 := NoI K) (G2 := fun x _ => x = .int 1) NoI.ex (fun _ _ _ _ h => h) (gx_dict fun p _ _ hp => ⟨⟨_, .dK hp, by decide⟩, fun _ _ => rfl⟩) (gx_ev ev_c fun _ _ => rfl)) fun _ x _ _ _ ⟨p, u, v, hx, hp, hu, hv⟩ => ?_) ga_nil
      · subst hx hv
        exact nt_low hp hu.1 (hu.2 0)
    obtain ⟨oq, ys, rfl, _, ho5, lo5, go5⟩ := hv
    have e05 := (e03.trans e4).trans e5
    have m25 : 0 ≤ c % 25 ∧ c % 25 < 25 := ⟨Int.emod_nonneg _ (by decide), Int.emod_lt_of_pos _ (by decide)⟩
    have hS5 := ex_l e05 hS
    have hT5 := Ties.ex e05 hT
    have hjt : (ts.take j).length = j := by rw [List.length_take]; omega
    -- an odd thing among the ties
    refine q_when (b := decide (c % 25 < 17)) (by
      walk_at "ev"
      decide) (fun hz H6 e6 => ?_) (fun hz H6 e6 => ?_)
    · have hlt := of_decide_eq_true hz
      obtain ⟨y0, hy0⟩ : ∃ y0, ys[(c % 25).toNat]? = some y0 := ⟨_, List.getElem?_eq_getElem (by omega)⟩
      have hno := go5 y0 (List.mem_of_getElem? hy0)
      have hS6 := ex_l e6 hS5
      refine s_retG (eg_tup2 (xs := (xs.take j ++ [y0]) ++ xs.drop j) (x := .int (n : Int)) (ev_var rfl) (el_cat (el_cat ?_ (el_lst (ea_cons (ev_op (x := .ref oq) (y := .int (c % 25)) (ev_var rfl) (by
        walk_at "ev"
        decide) (rv_ixL (SqL.of (e6 _ _ ho5)) (at_of (j := (c % 25).toNat) (by omega) hy0))) ea_nil) (by show 1 ≤ 100000; decide)) ?_) ?_ ?_)) fun v H7 e7 hv => ?_
      · rw [← cut_to xs (n := j) hjn]
        exact el_sl (ev_var rfl) eo_none (eo_some (ev_var rfl)) hS6
      · simp only [List.length_take, List.length_cons, List.length_nil]
        omega
      · rw [← cut_from xs (n := j) hjn]
        exact el_sl (ev_var rfl) (eo_some (ev_var rfl)) eo_none hS6
      · simp only [List.length_take, List.length_append, List.length_drop, List.length_cons, List.length_nil]
        omega
      · obtain ⟨t, p, rfl, _, _, ht, hp⟩ := hv
        have hA : (xs.take j).length = (ts.take j).length := by rw [List.length_take, List.length_take, hlen]
        refine q t _ _ H7 ((e05.trans e6).trans e7) (SqT.of ht) (.inr ⟨n, rfl, hn, .inr ⟨p, _, ts.take j, rfl, SqL.of hp, ?_, fun p hp => hW.ok p (List.mem_of_mem_take hp), by omega, .inr ⟨y0, ?_, hno.ex (e6.trans e7)⟩⟩⟩)
        · rw [← hA, mid_take]
          exact Paired.take j (Ties.ex (e6.trans e7) hT5)
        · rw [← hA]
          exact mid_at _ _ _
    · have h17 : ¬ c % 25 < 17 := of_decide_eq_false hz
      have hS6 := ex_l e6 hS5
      have hT6 := Ties.ex e6 hT5
      have e06 := e05.trans e6
      -- a tie twice
      refine q_when (b := decide (V.int (c % 25) = V.int 17) && !ts.isEmpty) (et_and (et_test (ev_op (y := .int 17) (by
        walk_at "ev"
        decide) ev_c (rv_eq rfl))) fun _ => et_test (ev_neNoTies (ev_var rfl) hS6 hT6 (el_lst ea_nil (by show 0 ≤ 100000; decide)))) (fun hz H7 e7 => ?_) (fun hz2 H7 e7 => ?_)
      · have hne : 0 < xs.length := by
          have := (Bool.and_eq_true_iff.mp hz).2
          cases ts with
          | nil => cases this
          | cons _ _ => rw [hlen]; exact Nat.succ_pos _
        obtain ⟨k, hk⟩ : ∃ k : Nat, (k : Int) = c / 7 % (xs.length : Int) := ⟨(c / 7 % (xs.length : Int)).toNat, by have := Int.emod_nonneg (c / 7) (show (xs.length : Int) ≠ 0 by omega); omega⟩
        have hkn : k < xs.length := by have := Int.emod_lt_of_pos (c / 7) (show (0 : Int) < (xs.length : Int) by omega); omega
        have hk0 := List.getElem?_eq_getElem hkn
        generalize xs[k] = y0 at hk0
        obtain ⟨t0, ht0, hTie⟩ := Paired.at hT6 hk0
        have htm : t0 ∈ ts := List.mem_of_getElem? ht0
        have hS7 := ex_l e7 hS6
        refine s_retG (eg_tup2 (xs := (xs.take j ++ [y0]) ++ xs.drop j) (x := .int (n : Int)) (ev_var rfl) (el_cat (el_cat ?_ (el_lst (ea_cons (ev_op (x := .ref l) (y := .int (k : Int)) (ev_var rfl) (by
          rw [hk]
          walk_at "ev"
          all_goals first
            | exact ⟨by decide, by decide⟩
            | omega) (rv_ixL hS7 (atI_nat hk0))) ea_nil) (by show 1 ≤ 100000; decide)) ?_) ?_ ?_)) fun v H8 e8 hv => ?_
        · rw [← cut_to xs (n := j) hjn]
          exact el_sl (ev_var rfl) eo_none (eo_some (ev_var rfl)) hS7
        · simp only [List.length_take, List.length_cons, List.length_nil]
          omega
        · rw [← cut_from xs (n := j) hjn]
          exact el_sl (ev_var rfl) (eo_some (ev_var rfl)) eo_none hS7
        · simp only [List.length_take, List.length_append, List.length_drop, List.length_cons, List.length_nil]
          omega
        · obtain ⟨t, p, rfl, _, _, ht, hp⟩ := hv
          have hT8 := Ties.ex (e7.trans e8) hT6
          have hTa : Ties K H8 ((xs.take j ++ [y0]) ++ xs.drop j) ((ts.take j ++ [t0]) ++ ts.drop j) := Paired.app (Paired.app (Paired.take j hT8) (.cons (TieAt.ex (e7.trans e8) hTie) .nil)) (Paired.drop j hT8)
          refine q t _ _ H8 ((e06.trans e7).trans e8) (SqT.of ht) (.inr ⟨n, rfl, hn, .inr ⟨p, _, (ts.take j ++ [t0]) ++ ts.drop j, rfl, SqL.of hp, ?_, fun p hp => ?_, ?_, .inl fun nd => ?_⟩⟩)
          · rw [← Paired.len hTa, List.take_length]
            exact hTa
          · rcases List.mem_append.mp hp with z | z
            · rcases List.mem_append.mp z with z | z
              · exact hW.ok p (List.mem_of_mem_take z)
              · have e : p = t0 := by simpa using z
                rw [e]
                exact hW.ok t0 htm
            · exact hW.ok p (List.mem_of_mem_drop z)
          · simp only [List.length_append, List.length_take, List.length_drop, List.length_cons, List.length_nil]
            omega
          · have n1 := List.nodup_append.mp nd
            have n2 := List.nodup_append.mp n1.1
            rw [← List.take_append_drop j ts] at htm
            rcases List.mem_append.mp htm with z | z
            · exact n2.2.2 t0 z t0 (List.mem_singleton.mpr rfl) rfl
            · exact n1.2.2 t0 (List.mem_append_right _ (List.mem_singleton.mpr rfl)) t0 z rfl
      · -- two points, tied twice
        refine q_when (b := decide (V.int (c % 25) = V.int 17)) (et_test (ev_op (y := .int 17) (by
          walk_at "ev"
          decide) ev_c (rv_eq rfl))) (fun _ H8 e8 => ?_) (fun hz3 H8 e8 => ?_)
        · refine s_retG (eg_tupG (K := K) (x := .int 2) ev_c (lg_lst (G := fun x H => TieAt K H x (0, 1)) (n := 2) (fun _ _ _ e h => TieAt.ex e h) (ga_cons (fun _ _ _ e h => TieAt.ex e h) (gx_U (xs := tieV (0, 1)) (eu_tup (ea_cons ev_c (ea_cons ev_c ea_nil)) (by show 2 ≤ 100000; decide)) fun p _ _ hp => ⟨p, rfl, SqT.of hp⟩)
            (ga_cons (fun _ _ _ e h => TieAt.ex e h) (gx_U (xs := tieV (0, 1)) (eu_tup (ea_cons ev_c (ea_cons ev_c ea_nil)) (by show 2 ≤ 100000; decide)) fun p _ _ hp => ⟨p, rfl, SqT.of hp⟩) ga_nil)) (by decide))) fun v H9 e9 hv => ?_
          obtain ⟨t, u, Ha, Hb, rfl, _, ⟨p, zs, rfl, _, hp, lz, gz⟩, eb, _, ht⟩ := hv
          obtain ⟨z1, z2, rfl⟩ : ∃ z1 z2, zs = [z1, z2] := by
            match zs, lz with
            | [z1, z2], _ => exact ⟨z1, z2, rfl⟩
          refine q t _ _ H9 (((e06.trans e7).trans e8).trans e9) ht (.inr ⟨2, rfl, by omega, .inr ⟨p, _, [(0, 1), (0, 1)], rfl, SqL.of (eb _ _ hp), ?_, by decide, by decide, .inl (by decide)⟩⟩)
          exact .cons (TieAt.ex eb (gz z1 List.mem_cons_self)) (.cons (TieAt.ex eb (gz z2 (List.mem_cons_of_mem _ List.mem_cons_self))) .nil)
        · have h18 : 18 ≤ c % 25 := by
            have : c % 25 ≠ 17 := fun z => by
              rw [z] at hz3
              cases hz3
            omega
          have e08 := (e06.trans e7).trans e8
          -- a size that is none
          refine q_asgG (lg_lst (G := fun x H => Thing K H x ∧ isW x 1 10 = false) (n := 6) (fun _ _ _ e h => ⟨h.1.ex e, h.2⟩) ?_ (by decide)) fun v H9 e9 hv => ?_
          · refine ga_cons (fun _ _ _ e h => ⟨h.1.ex e, h.2⟩) (gx_ev (v := .int 0) (by walk_at "ev") fun _ _ => ⟨Thing.int _, rfl⟩) ?_
            refine ga_cons (fun _ _ _ e h => ⟨h.1.ex e, h.2⟩) (gx_ev (v := .int 11) (by walk_at "ev") fun _ _ => ⟨Thing.int _, rfl⟩) ?_
            refine ga_cons (fun _ _ _ e h => ⟨h.1.ex e, h.2⟩) (gx_ev (v := .bl true) (by walk_at "ev") fun _ _ => ⟨⟨_, .bl _, by decide⟩, rfl⟩) ?_
            refine ga_cons (fun _ _ _ e h => ⟨h.1.ex e, h.2⟩) (gx_ev (v := .non) (by walk_at "ev") fun _ _ => ⟨⟨_, .non, by decide⟩, rfl⟩) ?_
            refine ga_cons (fun _ _ _ e h => ⟨h.1.ex e, h.2⟩) (gx_ev ev_c fun _ _ => ⟨⟨_, .str _, by decide⟩, rfl⟩) ?_
            refine ga_cons (fun _ _ _ e h => ⟨h.1.ex e, h.2⟩) (gx_ev (v := .int (11 + far)) (by walk_at "ev") fun _ _ => ⟨Thing.int _, ?_⟩) ga_nil
            simp only [isW, Bool.and_eq_false_iff, decide_eq_false_iff_not]
            omega
          obtain ⟨sp, ss, rfl, _, hs9, ls9, gs9⟩ := hv
          have e09 := e08.trans e9
          refine q_when (b := decide (c % 25 < 24)) (by
            walk_at "ev"
            decide) (fun hz H10 e10 => ?_) (fun hz4 H10 e10 => ?_)
          · have hlt := of_decide_eq_true hz
            obtain ⟨y0, hy0⟩ : ∃ y0, ss[(c % 25 - 18).toNat]? = some y0 := ⟨_, List.getElem?_eq_getElem (by omega)⟩
            have hno := gs9 y0 (List.mem_of_getElem? hy0)
            refine s_retU (xs := [y0, .ref l]) (eu_tup (ea_cons (ev_op (x := .ref sp) (y := .int (c % 25 - 18)) (ev_var rfl) (by
              walk_at "ev"
              decide) (rv_ixL (SqL.of (e10 _ _ hs9)) (at_of (j := (c % 25 - 18).toNat) (by omega) hy0))) (ea_cons (ev_var rfl) ea_nil)) (by show 2 ≤ 100000; decide)) fun t H11 _ e11 ht => q t _ _ H11 ((e09.trans e10).trans e11) (SqT.of ht) (.inl ⟨hno.1.ex (e10.trans e11), hno.2⟩)
          · have hS10 := ex_l (e09.trans e10) hS
            refine s_retG (eg_tupG (K := K) (x := .int (n : Int)) (ev_var rfl) (gx_menu (G := fun x H => ∃ Ty, TyB K H x Ty ∧ Ty ∈ metaT ∧ Ty ≠ "list") (n := 4) (i := c / 25 % 4) (fun _ _ _ e ⟨Ty, a, b⟩ => ⟨Ty, TyB.ex e a, b⟩) ?_ (by
              walk_at "ev"
              · exact ⟨by decide, by decide⟩
              · decide) (Int.emod_nonneg _ (by decide)) (Int.emod_lt_of_pos _ (by decide)) (by decide))) fun v H11 e11 hv => ?_
            · refine ga_cons (fun _ _ _ e ⟨Ty, a, b⟩ => ⟨Ty, TyB.ex e a, b⟩) (gx_U (eu_tuple (ev_var rfl) hS10) fun p _ _ hp => ⟨_, .tup (SqT.of hp), by decide, by decide⟩) ?_
              refine ga_cons (fun _ _ _ e ⟨Ty, a, b⟩ => ⟨Ty, TyB.ex e a, b⟩) (gx_ev (v := .non) (by walk_at "ev") fun _ _ => ⟨_, .non, by decide, by decide⟩) ?_
              refine ga_cons (fun _ _ _ e ⟨Ty, a, b⟩ => ⟨Ty, TyB.ex e a, b⟩) (gx_dict fun p _ _ hp => ⟨_, .dK hp, by decide, by decide⟩) ?_
              exact ga_cons (fun _ _ _ e ⟨Ty, a, b⟩ => ⟨Ty, TyB.ex e a, b⟩) (gx_ev ev_c fun _ _ => ⟨_, .str _, by decide, by decide⟩) ga_nil
            · obtain ⟨t, u, Ha, Hb, rfl, _, ⟨Ty, t1, t2⟩, eb, _, ht⟩ := hv
              exact q t _ _ H11 ((e09.trans e10).trans e11) ht (.inr ⟨n, rfl, hn, .inl ⟨Ty, TyB.ex eb t1, t2⟩⟩)

end
end K2
set_option Elab.async false
set_option linter.all false
set_option maxRecDepth 100000
set_option maxHeartbeats 300000
namespace K2
open PySem PySem.Spec PyProof.Rows L2 Evl Z
section
variable {P : Program} {w : World} {K : PySem.W.Frag} {mg : Str → Option Value} {base : Heap} {a : Ad}
/-! ### a web drawn -/
theorem spv_cell {H : Hp} {p : Addr} {ns : List Int} {k : Int} (h : SqL K H p (ns.map V.int)) (hk : 0 ≤ k) : SpV (sp_cell K) [.ref p, .int k] H (.int (cell ns k)) := fun H1 e Q q E => ⟨p, ns, k, rfl, ex_l e h, hk, fun H2 e2 => q H2 e2⟩
theorem spv_mixed {H : Hp} {c k : Int} (h1 : Bd 2000000 c) (h2 : Bd 2000000 k) : SpV sp_mixed [.int c, .int k] H (.int (mixed c k)) := fun H1 e Q q E => ⟨c, k, rfl, h1, h2, fun H2 e2 => q H2 e2⟩
/-- the script: all its numbers have few bits -/
def Scr (ns : List Int) : Prop := ∀ z ∈ ns, Bd 1048576 z
theorem cell_bd {ns : List Int} (h : Scr ns) (k : Int) : Bd 1048576 (cell ns k) := by
  unfold cell
  split
  · rw [List.getD_eq_getElem?_getD]
    cases e : ns[k.toNat]? with
    | none => exact Bd.of (Nat.two_pow_pos _)
    | some z => exact h z (List.mem_of_getElem? e)
  · exact Bd.of (Nat.two_pow_pos _)
def sp_web (K : PySem.W.Frag) : Sp := fun vs H Q _ => ∃ (p : Addr) (ns : List Int) (first most : Int), vs = [.ref p, .int first, .int most] ∧ SqL K H p (ns.map V.int) ∧ Scr ns ∧ 0 ≤ first ∧ 1 ≤ most ∧ most ≤ 10 ∧
  ∀ (n : Nat) (ts : List Tie) (xs : List V) (t l : Addr) H2, WebOk n ts → (n : Int) ≤ most → Ex H H2 → H t = none → H l = none → H2 t = some (.tup [.int (n : Int), .ref l]) → H2 l = some (.lst xs) → Ties K H2 xs ts → Q (.ref t) H2
/-- what stands behind some turns of the two loops -/
structure WebIn (K : PySem.W.Frag) (H : Hp) (L : Addr) (i j : Nat) (H' : Hp) : Prop where
  ex : Ex H H'
  free : H L = none
  own : ∃ xs ts, H' L = some (.lst xs) ∧ Ties K H' xs ts ∧ ts.Nodup ∧ (∀ p ∈ ts, p.1 < p.2 ∧ (p.2 < i ∨ (p.2 = i ∧ p.1 < j))) ∧ ts.length ≤ 10 * i + j
theorem WebIn.next {H H' : Hp} {L : Addr} {i j : Nat} (h : WebIn K H L i j H') : WebIn K H L i (j + 1) H' := by
  obtain ⟨e, f, xs, ts, h1, h2, h3, h4, h5⟩ := h
  exact ⟨e, f, xs, ts, h1, h2, h3, fun p hp => ⟨(h4 p hp).1, (h4 p hp).2.imp id fun z => ⟨z.1, by omega⟩⟩, by omega⟩
theorem WebIn.more {H H' H1 : Hp} {L q : Addr} {i j : Nat} {xs : List V} {ts : List Tie} (h : WebIn K H L i j H') (e1 : Ex H' H1) (hij : j < i) (hL : H' L = some (.lst xs)) (hT : Ties K H' xs ts)
    (h3 : ts.Nodup) (h4 : ∀ p ∈ ts, p.1 < p.2 ∧ (p.2 < i ∨ (p.2 = i ∧ p.1 < j))) (h5 : ts.length ≤ 10 * i + j) (hq : H1 q = some (.tup [.int (j : Int), .int (i : Int)])) : WebIn K H L i (j + 1) (upd H1 L (.lst (xs ++ [.ref q]))) := by
  have hL1 := e1 L _ hL
  refine ⟨Ex.mut (h.ex.trans e1) h.free, h.free, _, ts ++ [(j, i)], upd_same, ?_, ?_, ?_, ?_⟩
  · exact Paired.app (Ties.upd hL1 (Ties.ex e1 hT)) (.cons (TieAt.upd hL1 ⟨q, rfl, SqT.of hq⟩) .nil)
  · rw [List.nodup_append]
    refine ⟨h3, (List.nodup_cons.mpr ⟨by simp, List.nodup_nil⟩), fun a ha b hb => ?_⟩
    have eb : b = (j, i) := by simpa using hb
    rintro rfl
    have := (h4 a ha).2
    rw [eb] at this
    rcases this with z | z
    · exact absurd z (Nat.lt_irrefl _)
    · exact absurd z.2 (Nat.lt_irrefl _)
  · intro p hp
    rcases List.mem_append.mp hp with z | z
    · exact ⟨(h4 p z).1, (h4 p z).2.imp id fun z => ⟨z.1, by omega⟩⟩
    · have eb : p = (j, i) := by simpa using z
      subst eb
      exact ⟨hij, .inr ⟨rfl, by omega⟩⟩
  · rw [List.length_append]
    simp only [List.length_cons, List.length_nil]
    omega
theorem ok__law_web (T : Top K mg a) : FnOk P w K mg base CX0 2 a.a__law_web a.d__law_web ["_law_script", "_law_first", "_law_most"] (sp_web K) := by
  refine T.F__law_web.ok sc__law_web (fun vs H Q E h => ?_) (fun cdv A outer s H vs Q E hr h => ?_)
  · obtain ⟨p, ns, first, most, rfl, _⟩ := h
    rfl
  · obtain ⟨p, ns, first, most, rfl, hS, hb, hf, hm1, hm2, q⟩ := h
    refine ⟨_, (pss_cons (ps_set (i := 3) sc__law_web.nd rfl (.inl rfl) (pe_call (ok__law_cell (K := K) T) (hr.mono (by decide)) rfl T.g__law_cell T.F__law_cell.kp T.b__law_cell .nil pass0 (pa_cons (pv 0) (pa_cons (pv 1) pa_nil))))
  (pss_cons (ps_set (i := 4) sc__law_web.nd rfl (.inl rfl) (pe_op op_add pe_int (pe_op op_mod (pv 3) (pv 2))))
  (pss_cons (ps_set (i := 5) sc__law_web.nd rfl (.inl rfl) (pe_lst pa_nil))
  (pss_cons (ps_for PassesOwn.never rfl (pi_range1 rfl T.n_range (pa_cons (pv 4) pa_nil)) (pg_name (i := 6) sc__law_web.nd rfl (.inl rfl)) (pss_one (ps_for PassesOwn.never rfl (pi_range1 rfl T.n_range (pa_cons (pv 6) pa_nil)) (pg_name (i := 7) sc__law_web.nd rfl (.inl rfl)) (pss_cons (ps_set (i := 8) sc__law_web.nd rfl (.inl rfl) (pe_call (ok__law_mixed (K := K) T) (hr.mono (by decide)) rfl T.g__law_mixed T.F__law_mixed.kp T.b__law_mixed .nil pass0 (pa_cons (pe_call (ok__law_cell (K := K) T) (hr.mono (by decide)) rfl T.g__law_cell T.F__law_cell.kp T.b__law_cell .nil pass0 (pa_cons (pv 0) (pa_cons (pe_op op_add (pe_op op_add (pv 1) pe_int) (pe_op op_mod (pe_op op_add (pv 7) (pe_op op_mul pe_int (pv 6))) pe_int)) pa_nil))) (pa_cons (pe_op op_add (pe_op op_add (pv 7) (pe_op op_mul pe_int (pv 6))) (pe_op op_fdiv (pv 3) pe_int)) pa_nil))))
  (pss_cons (ps_set (i := 9) sc__law_web.nd rfl (.inl rfl) (pe_op op_mod (pe_op op_fdiv (pv 3) pe_int) pe_int))
  (pss_one (ps_if (PW.pt (pw_or (PW.pt (pw_and (pt_cmpR op_lt (pv 9) pe_int (nomark _)) (pw_and1 (pt_cmpR op_eq (pe_op op_mod (pv 8) (pe_ix (kx_ixL (K := K)) (pe_lst (pa_cons pe_int (pa_cons pe_int (pa_cons pe_int (pa_cons pe_int pa_nil))))) (pv 9) (fun _ _ => rfl))) pe_int (nomark _))))) (pw_or1 (PW.pt (pw_and (pt_cmpR op_eq (pv 9) pe_int (nomark _)) (pw_and1 (pt_cmpR op_gt (pe_op op_mod (pv 8) pe_int) pe_int (nomark _)))))))) (pss_one (ps_expr (pe_bm PySem.F.plainAttrs_list PySem.F.slot_list_append PySem.F.type_list_append mt_append (pv 5) (pa_cons (pe_tup (pa_cons (pv 7) (pa_cons (pv 6) pa_nil))) pa_nil)))) (pss_one (ps_if (PW.pt (pw_and (pt_cmpR op_eq (pv 9) pe_int (nomark _)) (pw_and1 (PW.pt (pw_or (pt_cmpR op_eq (pv 6) (pe_op op_add (pv 7) pe_int) (nomark _)) (pw_or1 (pt_cmpR op_eq (pe_op op_mod (pv 8) pe_int) pe_int (nomark _)))))))) (pss_one (ps_expr (pe_bm PySem.F.plainAttrs_list PySem.F.slot_list_append PySem.F.type_list_append mt_append (pv 5) (pa_cons (pe_tup (pa_cons (pv 7) (pa_cons (pv 6) pa_nil))) pa_nil)))) pss_nil)))))))))
  (pss_cons (ps_set (i := 10) sc__law_web.nd rfl (.inl rfl) (pe_op op_mod (pe_op op_fdiv (pv 3) pe_int) (pe_op op_add pe_int (pe_callB (kx_len (K := K)) (by rfl) T.n_len (by decide +kernel) (pa_cons (pv 5) pa_nil)))))
  (pss_one (ps_ret (pe_tup (pa_cons (pv 4) (pa_cons (pe_op op_cat (pe_slice (kx_slL (K := K)) (pv 5) (po_some (pv 10)) po_none) (pe_slice (kx_slL (K := K)) (pv 5) po_none (po_some (pv 10)))) pa_nil)))))))))), ?_⟩
    have bc : ∀ k, Bd 1048576 (cell ns k) := cell_bd hb
    generalize hc : cell ns first = c
    have bC : Bd 1048576 c := hc ▸ bc first
    -- the cell, the size
    refine q_asg (v := .int c) (by
      rw [← hc]
      walk_at "ev"
      exact spv_cell hS hf) fun H1 e1 => ?_
    obtain ⟨n, hn⟩ : ∃ n : Nat, (n : Int) = 1 + c % most := ⟨(1 + c % most).toNat, by have := Int.emod_nonneg c (show most ≠ 0 by omega); omega⟩
    have hn1 : 1 ≤ n := by have := Int.emod_nonneg c (show most ≠ 0 by omega); omega
    have hn2 : (n : Int) ≤ most := by have := Int.emod_lt_of_pos c (show 0 < most by omega); omega
    refine q_asg (v := .int (n : Int)) (by
      rw [hn]
      walk_at "ev"
      omega) fun H2 e2 => ?_
    have eS2 : SqL K H2 p (ns.map V.int) := ex_l (e1.trans e2) hS
    refine q_asgL (xs := []) (el_lst (by walk_at "ev") (by decide)) fun L H3 hL e3 hL3 => ?_
    have fL : H L = none := fresh_back (e1.trans e2) hL
    have e03 : Ex H H3 := (e1.trans e2).trans e3
    -- the kind
    have kk : 0 ≤ c / 10 % 6 ∧ c / 10 % 6 < 6 := ⟨Int.emod_nonneg _ (by decide), Int.emod_lt_of_pos _ (by decide)⟩
    generalize hk : c / 10 % 6 = k at kk
    -- the outer loop
    refine q_forR1 (n := (n : Int)) (by walk_at "ev") (by omega) (fun i σ' H' => ∃ x6 x7 x8 x9, σ' = [some (.ref p), some (.int first), some (.int most), some (.int c), some (.int (n : Int)), some (.ref L), x6, x7, x8, x9, none] ∧ WebIn K H L i 0 H') ?_ ?_ ?_
    · intro H4 e4
      exact ⟨none, none, none, none, rfl, e03.trans e4, fL, [], [], e4 _ _ hL3, .nil, List.nodup_nil, fun p hp => (by cases hp), by simp⟩
    · rintro i σ' H' hi ⟨x6, x7, x8, x9, rfl, w⟩
      -- the inner loop
      refine s_forR1 (n := (i : Int)) (by walk_at "ev") (by omega) (fun j σ2 H2 => ∃ x7 x8 x9, σ2 = [some (.ref p), some (.int first), some (.int most), some (.int c), some (.int (n : Int)), some (.ref L), some (.int (i : Int)), x7, x8, x9, none] ∧ WebIn K H L i j H2) ?_ ?_ ?_
      · intro H4 e4
        obtain ⟨we, wf, xs, ts, w1, w2, w3⟩ := w
        exact ⟨x7, x8, x9, rfl, we.trans e4, wf, xs, ts, e4 _ _ w1, Ties.ex e4 w2, w3⟩
      · rintro j σ2 Ha hj ⟨y7, y8, y9, rfl, wa⟩
        have hS' : SqL K Ha p (ns.map V.int) := ex_l wa.ex hS
        obtain ⟨z, hz, hzb⟩ : ∃ z : Int, z = mixed (cell ns (first + 1 + ((j : Int) + 3 * (i : Int)) % 6)) ((j : Int) + 11 * (i : Int) + c / 64) ∧ True := ⟨_, rfl, trivial⟩
        -- the number
        refine q_asg (v := .int z) (by
          rw [hz]
          walk_at "ev"
          · exact .inl ⟨by decide, by decide⟩
          · decide
          · exact spv_cell hS' (by have := Int.emod_nonneg ((j : Int) + 3 * (i : Int)) (show (6 : Int) ≠ 0 by decide); omega)
          · exact .inl ⟨by decide, by decide⟩
          · exact ⟨by decide, by decide⟩
          · refine spv_mixed ((bc _).mono (by decide)) ?_
            have b1 : Bd 1048576 (c / 64) := bC.div (by decide)
            have b2 : Bd 20 ((j : Int) + 11 * (i : Int)) := Bd.of (Nat.lt_of_lt_of_le (show ((j : Int) + 11 * (i : Int)).natAbs < 1000 by omega) (by decide))
            exact (Bd.add (n := 1048576) (b2.mono (by decide)) b1).mono (by decide)) fun Hb eb => ?_
        refine q_asg (v := .int k) (by
          rw [← hk]
          walk_at "ev"
          · exact ⟨by decide, by decide⟩
          · decide) fun Hc ec => ?_
        have ebc := eb.trans ec
        obtain ⟨we, wf, xs, ts, w1, w2, w3, w4, w5⟩ := id wa
        have w1' := ebc _ _ w1
        have hlen : xs.length < 100000 := by
          have := Paired.len w2
          omega
        generalize hm : ([2, 3, 5, 4] : List Int).getD k.toNat 1 = m
        have hmp : 0 < m := by
          have : k.toNat = 0 ∨ k.toNat = 1 ∨ k.toNat = 2 ∨ k.toNat = 3 ∨ 4 ≤ k.toNat := by omega
          rcases this with h | h | h | h | h
          · rw [h] at hm; subst hm; decide
          · rw [h] at hm; subst hm; decide
          · rw [h] at hm; subst hm; decide
          · rw [h] at hm; subst hm; decide
          · rw [List.getD_eq_getElem?_getD, List.getElem?_eq_none (by simpa using h)] at hm
            subst hm
            decide
        have app : ∀ H4, Ex Hc H4 → ∀ (D : Ends) (σ : L2.St), σ[7]? = some (some (.int (j : Int))) → σ[6]? = some (some (.int (i : Int))) → σ[5]? = some (some (.ref L)) → (∀ q H5, Ex H4 H5 → H5 q = some (.tup [.int (j : Int), .int (i : Int)]) → D.nx σ (upd H5 L (.lst (xs ++ [.ref q])))) →
            tDrop (tBM K "list" rAppend (tVar 5) (tCons (tTup (tCons (tVar 7) (tCons (tVar 6) tNil))) tNil)) D σ H4 := fun H4 e4 D σ s7 s6 s5 kq =>
          s_appU (e4 _ _ w1') (ev_var s5) (eu_tup (ea_cons (ev_var s7) (ea_cons (ev_var s6) ea_nil)) (by show 2 ≤ 100000; decide)) hlen fun q H5 _ e5 hq => kq q H5 e5 hq
        refine s_if (b := (decide (k < 4) && decide ((V.int (z % m)) = V.int 0)) || (decide ((V.int k) = V.int 4) && decide (0 < z % 4))) ?_ (fun _ H4 e4 => ?_) (fun _ H4 e4 => ?_)
        · refine et_or (et_and (by walk_at "ev") fun hk4 => ?_) fun _ => et_and (by walk_at "ev") fun _ => (by
            walk_at "ev"
            decide)
          have hk4' : k < 4 := of_decide_eq_true hk4
          refine et_test (ev_op (x := .int (z % m)) ?_ ev_c (rv_eq rfl))
          refine ev_op (by walk_at "ev") (ev_opL1 (xs := [.int 2, .int 3, .int 5, .int 4]) (y := .int k) (z := .int m) (el_lst (by walk_at "ev") (by decide)) (fun H5 e5 => by walk_at "ev") fun l H5 h5 e5 => rv_ixL (SqL.of h5) ?_) (rv_I hmp)
          refine at_of (j := k.toNat) (by omega) ?_
          have : k.toNat = 0 ∨ k.toNat = 1 ∨ k.toNat = 2 ∨ k.toNat = 3 := by omega
          rcases this with h | h | h | h
          · rw [h] at hm ⊢; subst hm; rfl
          · rw [h] at hm ⊢; subst hm; rfl
          · rw [h] at hm ⊢; subst hm; rfl
          · rw [h] at hm ⊢; subst hm; rfl
        · refine app H4 e4 _ _ rfl rfl rfl fun q H5 e5 hq => ⟨_, _, _, rfl, WebIn.more wa (ebc.trans (e4.trans e5)) (by omega) w1 w2 w3 w4 w5 hq⟩
        · refine s_when (b := decide ((V.int k) = V.int 5) && (decide ((V.int (i : Int)) = V.int ((j : Int) + 1)) || decide ((V.int (z % 6)) = V.int 0))) ?_ (fun _ H5 e5 => ?_) (fun _ H5 e5 => ?_)
          · walk_at "ev"
            decide
          · refine app H5 (e4.trans e5) _ _ rfl rfl rfl fun q H6 e6 hq => ⟨_, _, _, rfl, WebIn.more wa (ebc.trans ((e4.trans e5).trans e6)) (by omega) w1 w2 w3 w4 w5 hq⟩
          · have eall := ebc.trans (e4.trans e5)
            exact ⟨_, _, _, rfl, WebIn.next ⟨we.trans eall, wf, xs, ts, eall _ _ w1, Ties.ex eall w2, w3, w4, w5⟩⟩
      · rintro σ2 Ha ⟨y7, y8, y9, rfl, we, wf, xs, ts, w1, w2, w3, w4, w5⟩
        refine ⟨_, _, _, _, rfl, we, wf, xs, ts, w1, w2, w3, fun p hp => ⟨(w4 p hp).1, .inl ?_⟩, ?_⟩
        · have := (w4 p hp).2
          omega
        · omega
    · rintro σ' H' ⟨x6, x7, x8, x9, rfl, we, wf, xs, ts, w1, w2, w3, w4, w5⟩
      have hlen := Paired.len w2
      have W : WebOk n ts := ⟨⟨hn1, by omega⟩, w3, fun p hp => ⟨(w4 p hp).1, by have := (w4 p hp).2; omega⟩⟩
      have hl45 := W.len
      -- the turn
      obtain ⟨k, hk2⟩ : ∃ k : Nat, (k : Int) = c / 60 % (1 + (xs.length : Int)) := ⟨(c / 60 % (1 + (xs.length : Int))).toNat, by have := Int.emod_nonneg (c / 60) (show (1 + (xs.length : Int)) ≠ 0 by omega); omega⟩
      have hkl : k ≤ xs.length := by have := Int.emod_lt_of_pos (c / 60) (show 0 < (1 + (xs.length : Int)) by omega); omega
      refine q_asg (v := .int (k : Int)) (by
        rw [hk2]
        walk_at "ev"
        · exact ⟨by decide, by decide⟩
        · show (0 : Int) < 1 + (xs.length : Int)
          omega) fun H4 e4 => ?_
      have w1' := e4 _ _ w1
      refine s_retG (eg_tup2 (xs := xs.drop k ++ xs.take k) (x := .int (n : Int)) (by walk_at "ev") (el_cat ?_ ?_ ?_)) fun v H5 e5 hv => ?_
      · rw [← cut_from xs hkl]
        exact el_sl (by walk_at "ev") (by walk_at "ev") (by walk_at "ev") (SqL.of w1')
      · rw [← cut_to xs hkl]
        exact el_sl (by walk_at "ev") (by walk_at "ev") (by walk_at "ev") (SqL.of w1')
      · rw [List.length_drop, List.length_take]
        omega
      · obtain ⟨t, l, rfl, ft, fl, ht, hl⟩ := hv
        have e04 := we.trans e4
        exact q n (ts.drop k ++ ts.take k) _ t l H5 (W.perm (rot_perm ts k)) hn2 (e04.trans e5) (fresh_back e04 ft) (fresh_back e04 fl) ht hl (Paired.app (Paired.drop k (Ties.ex (e4.trans e5) w2)) (Paired.take k (Ties.ex (e4.trans e5) w2)))
def PWeb (K : PySem.W.Frag) (most : Int) : Hp → V → Hp → Prop := fun H1 v H2 => ∃ (n : Nat) (ts : List Tie) (xs : List V) (t l : Addr), v = .ref t ∧ WebOk n ts ∧ (n : Int) ≤ most ∧ H1 t = none ∧ H1 l = none ∧ H2 t = some (.tup [.int (n : Int), .ref l]) ∧ H2 l = some (.lst xs) ∧ Ties K H2 xs ts
theorem eg_web {σ : L2.St} {H : Hp} {p : Addr} {ns : List Int} {first most : Int} {E : XK} {ta : TA} (ha : EvA ta σ H [.ref p, .int first, .int most]) (hS : SqL K H p (ns.map V.int)) (hb : Scr ns) (h0 : 0 ≤ first) (h1 : 1 ≤ most) (h2 : most ≤ 10) : EvG (tCall (sp_web K) [] E ta) σ H (PWeb K most) := fun H1 e Q q =>
  ha H1 e _ fun H2 e2 => ⟨p, ns, first, most, rfl, ex_l (e.trans e2) hS, hb, h0, h1, h2, fun n ts xs t l H3 w1 w2 e3 f1 f2 a1 a2 a3 => q _ H3 (e2.trans e3) ⟨n, ts, xs, t, l, rfl, w1, w2, fresh_back e2 f1, fresh_back e2 f2, a1, a2, a3⟩⟩

end
end K2
set_option Elab.async false
set_option linter.all false
set_option maxRecDepth 100000
set_option maxHeartbeats 300000
namespace K2
open PySem PySem.Spec PyProof.Rows L2 Evl Z
section
variable {P : Program} {w : World} {K : PySem.W.Frag} {mg : Str → Option Value} {base : Heap} {a : Ad}
/-! ### the counts of a web -/
def sp_counts (K : PySem.W.Frag) : Sp := fun vs H Q _ => ∃ (n : Nat) (l : Addr) (xs : List V) (ts : List Tie), vs = [.int (n : Int), .ref l] ∧ SqL K H l xs ∧ Ties K H xs ts ∧ n ≤ 100 ∧ ts.length ≤ 1000 ∧
  ∀ p H2, H p = none → Ex H H2 → H2 p = some (.lst ((degsI n ts).map V.int)) → Q (.ref p) H2
theorem ok__law_counts (T : Top K mg a) : FnOk P w K mg base CX0 1 a.a__law_counts a.d__law_counts ["_law_size", "_law_ties"] (sp_counts K) := by
  refine T.F__law_counts.ok sc__law_counts (fun vs H Q E h => ?_) (fun cdv A outer s H vs Q E hr h => ?_)
  · obtain ⟨n, l, xs, ts, rfl, _⟩ := h
    rfl
  · obtain ⟨n, l, xs, ts, rfl, hS, hT, hn, hl, q⟩ := h
    refine ⟨_, (pss_one (ps_ret (pe_lc (own := [("_law_point", 2)]) rfl sc__law_counts.nd (pi_range1 rfl T.n_range (pa_cons (pv 0) pa_nil)) (blkOk_by (own := [("_law_point", 2)]) (N := n__law_counts) (sc := defScope s__law_counts) (by decide +kernel)) (fun _ _ _ _ _ => pg_name (i := 2) sc__law_counts.nd rfl (by first | exact Or.inl rfl | exact Or.inr rfl)) (fun _ _ _ _ _ => pts_nil) (fun _ _ _ _ _ => (pe_callB (kx_len (K := K)) (by rfl) T.n_len (by decide +kernel) (pa_cons (pe_lc (own := [("_law_tie", 3)]) rfl sc__law_counts.nd (kx_piL (K := K) (pv 1)) (blkOk_by (own := [("_law_tie", 3)]) (N := n__law_counts) (sc := relS _ (defScope s__law_counts)) (by decide +kernel)) (fun _ _ _ _ _ => pg_name (i := 3) sc__law_counts.nd rfl (by first | exact Or.inl rfl | exact Or.inr rfl)) (fun _ _ _ _ _ => pts_one (pt_cmpR (kx_in (K := K)) (pv 2) (pv 3) (by rfl))) (fun _ _ _ _ _ => pe_int)) pa_nil)))))), ?_⟩
    have hlen := Paired.len hT
    refine s_retL (xs := (degsI n ts).map V.int) ?_ fun p H1 hp e1 h1 => q p H1 hp e1 h1
    refine el_eq (el_lcR1 (n := (n : Int)) (fun _ => true) (fun i => .int (deg ts i : Int)) (by walk_at "ev") (by omega) (fun _ => rfl) (fun _ _ _ _ => et_yes) (fun i H1 e1 hi _ => ?_)) ?_
    · have hS1 := ex_l e1 hS
      have hT1 := Ties.ex e1 hT
      have hd : ((given xs.length (fun m => inTie i (ts.getD m (0, 0))) (fun _ => V.int 1)).length : Int) = (deg ts i : Int) := by
        rw [hlen, range_filter (inTie i) (fun _ => V.int 1) ts (0, 0), List.length_map]
        rfl
      refine ev_is (ev_lenL (el_lcL (xs := xs) (fun m => inTie i (ts.getD m (0, 0))) (fun _ => .int 1) (by walk_at "ev") hS1 (by omega) (fun _ => rfl) (fun m x H2 e2 hx => ?_) (fun _ _ _ _ _ _ => ev_c))) (congrArg V.int hd)
      obtain ⟨b, hb, t, rfl, ht⟩ := Paired.at (Ties.ex e2 hT1) hx
      have hg : ts.getD m (0, 0) = b := by
        rw [List.getD_eq_getElem?_getD, hb]
        rfl
      rw [hg, ← inV_tie]
      exact et_test (ev_op (ev_var rfl) (ev_var rfl) (rv_isT ht rfl rfl))
    · rw [given_all, Int.toNat_natCast]
      unfold degsI
      rw [List.map_map]
      rfl
theorem el_counts {σ : L2.St} {H : Hp} {n : Nat} {l : Addr} {xs : List V} {ts : List Tie} {E : XK} {ta : TA} (ha : EvA ta σ H [.int (n : Int), .ref l]) (hS : SqL K H l xs) (hT : Ties K H xs ts) (hn : n ≤ 100) (hl : ts.length ≤ 1000) : EvL (tCall (sp_counts K) [] E ta) σ H ((degsI n ts).map V.int) := fun H1 e Q q =>
  ha H1 e _ fun H2 e2 => ⟨n, l, xs, ts, rfl, ex_l (e.trans e2) hS, Ties.ex (e.trans e2) hT, hn, hl, fun p H3 hp e3 h3 => q p H3 (fresh_back e2 hp) (e2.trans e3) h3⟩

end
end K2
set_option Elab.async false
set_option linter.all false
set_option maxRecDepth 100000
set_option maxHeartbeats 300000
namespace K2
open PySem PySem.Spec PyProof.Rows L2 Evl Z
section
variable {P : Program} {w : World} {K : PySem.W.Frag} {mg : Str → Option Value} {base : Heap} {a : Ad}
/-! ### the class of a refusal -/
def word (d : Nat) : Str := (["counts", "many", "web", "exchange", "unlike", "none"] : List Str).getD d "counts"
/-- D is the class whose word is the d-th -/
structure KindC (K : PySem.W.Frag) (a : Ad) (D : Addr) (d : Nat) : Prop where
  ec : ExcC K D
  k0 : PySem.W.kitOne K (.ref D) (.ref a.c_BadCounts) = some (d == 0)
  k1 : PySem.W.kitOne K (.ref D) (.ref a.c_BadMany) = some (d == 1)
  k2 : PySem.W.kitOne K (.ref D) (.ref a.c_BadWeb) = some (d == 2)
  k3 : PySem.W.kitOne K (.ref D) (.ref a.c_BadExchange) = some (d == 3)
  k4 : PySem.W.kitOne K (.ref D) (.ref a.c_Unlike) = some (d == 4)
  k5 : PySem.W.kitOne K (.ref D) (.ref a.c_NoWeb) = some (d == 5)
  kv : PySem.W.kitOne K (.ref D) (.type "ValueError") = some true
  lt : d < 6
def sp_kind (K : PySem.W.Frag) (a : Ad) : Value → Addr → Sp := fun c x vs H Q _ => ∃ D d, c = .ref D ∧ KindC K a D d ∧ vs = [.ref x] ∧ ∀ l H2, H l = none → Ex H H2 → H2 l = some (.lst [.str (word d)]) → Q (.ref l) H2
theorem ok__law_kind (T : Top K mg a) : ZH.FnZ P w K mg base 1 a.a__law_kind a.d__law_kind ["_law_error"] (sp_kind K a) := by
  refine ZH.fn_ofZ T.F__law_kind sc__law_kind (fun c x vs H Q E h => ?_) (fun cdv A outer s H vs Q E p c hot hz hr h => ?_)
  · obtain ⟨D, d, _, _, rfl, _⟩ := h
    rfl
  · obtain ⟨D, d, rfl, KC, rfl, q⟩ := h
    obtain ⟨x, oe⟩ := p
    have hf : ∃ vs, oe.data = .fields vs := (let ⟨_, vs, e, _⟩ := hot; ⟨vs, e⟩)
    have ec := KC.ec
    have hotc : L2H.HotC (L2H.cxH CX0 P w K mg base n__law_kind "_law_kind" (defScope s__law_kind) a.a__law_kind cdv A outer s H E (x, oe)).nox := ⟨(x, oe), hot, List.mem_cons_self⟩
    refine ⟨_, (pss_cons (ps_set (i := 1) sc__law_kind.nd rfl (.inl rfl) (pe_lst (pa_cons (pe_tup (pa_cons pe_str (pa_cons (pe_callB (ZH.call_isZ (K := K) ec hz hf List.mem_cons_self) (by rfl) T.n_isinstance (by decide +kernel) (pa_cons (pv 0) (pa_cons (pe_glob (v := .ref a.c_BadCounts) rfl T.g_BadCounts rfl) pa_nil))) pa_nil))) (pa_cons (pe_tup (pa_cons pe_str (pa_cons (pe_callB (ZH.call_isZ (K := K) ec hz hf List.mem_cons_self) (by rfl) T.n_isinstance (by decide +kernel) (pa_cons (pv 0) (pa_cons (pe_glob (v := .ref a.c_BadMany) rfl T.g_BadMany rfl) pa_nil))) pa_nil))) pa_nil))))
  (pss_cons (ps_set (i := 1) sc__law_kind.nd rfl (.inl rfl) (pe_op op_cat (pv 1) (pe_lst (pa_cons (pe_tup (pa_cons pe_str (pa_cons (pe_callB (ZH.call_isZ (K := K) ec hz hf List.mem_cons_self) (by rfl) T.n_isinstance (by decide +kernel) (pa_cons (pv 0) (pa_cons (pe_glob (v := .ref a.c_BadWeb) rfl T.g_BadWeb rfl) pa_nil))) pa_nil))) (pa_cons (pe_tup (pa_cons pe_str (pa_cons (pe_callB (ZH.call_isZ (K := K) ec hz hf List.mem_cons_self) (by rfl) T.n_isinstance (by decide +kernel) (pa_cons (pv 0) (pa_cons (pe_glob (v := .ref a.c_BadExchange) rfl T.g_BadExchange rfl) pa_nil))) pa_nil))) pa_nil)))))
  (pss_cons (ps_set (i := 1) sc__law_kind.nd rfl (.inl rfl) (pe_op op_cat (pv 1) (pe_lst (pa_cons (pe_tup (pa_cons pe_str (pa_cons (pe_callB (ZH.call_isZ (K := K) ec hz hf List.mem_cons_self) (by rfl) T.n_isinstance (by decide +kernel) (pa_cons (pv 0) (pa_cons (pe_glob (v := .ref a.c_Unlike) rfl T.g_Unlike rfl) pa_nil))) pa_nil))) (pa_cons (pe_tup (pa_cons pe_str (pa_cons (pe_callB (ZH.call_isZ (K := K) ec hz hf List.mem_cons_self) (by rfl) T.n_isinstance (by decide +kernel) (pa_cons (pv 0) (pa_cons (pe_glob (v := .ref a.c_NoWeb) rfl T.g_NoWeb rfl) pa_nil))) pa_nil))) pa_nil)))))
  (pss_cons (ZH.ps_setLcH (K := K) (i := 1) (own := [("_law_word", 2), ("_law_is_one", 3)]) hotc sc__law_kind.nd rfl rfl (sw_true rfl rfl rfl (by decide +kernel)) (pv 1) (blkOk_by (own := [("_law_word", 2), ("_law_is_one", 3)]) (N := n__law_kind) (sc := defScope s__law_kind) (by decide +kernel)) (fun _ _ _ _ _ hh => ZH.pg_tupH (K := K) (n := 2) hh (pgs_cons (pg_name (i := 2) sc__law_kind.nd rfl (by first | exact Or.inl rfl | exact Or.inr rfl)) (pgs_cons (pg_name (i := 3) sc__law_kind.nd rfl (by first | exact Or.inl rfl | exact Or.inr rfl)) pgs_nil))) (fun _ _ _ _ _ _ => pts_one (pt_val (pv 3))) (fun _ _ _ _ _ _ => (pv 2)))
  (pss_one (ps_ret (pe_op op_rep (pv 1) (pe_callTy call_int1 (by rfl) T.n_int (by decide +kernel) (pa_cons (pe_and (pe_cmpR op_eq (pe_callB (kx_len (K := K)) (by rfl) T.n_len (by decide +kernel) (pa_cons (pv 1) pa_nil)) pe_int (nomark _)) (pe_one (pe_callB (ZH.call_isZ (K := K) ec hz hf List.mem_cons_self) (by rfl) T.n_isinstance (by decide +kernel) (pa_cons (pv 0) (pa_cons (pe_bltn (v := .ty "ValueError") rfl T.n_ValueError (by decide +kernel) rfl) pa_nil))))) pa_nil))))))))), ?_⟩
    have iC : ∀ {σ : L2.St} {H1 : Hp} {C : Addr} {b : Bool}, σ[0]? = some (some (.ref x)) → PySem.W.kitOne K (.ref D) (.ref C) = some b → Ev (tCB (rIsE K D x) (tCons (tVar 0) (tCons (tC (.ref C)) tNil))) σ H1 (.bl b) := fun s0 k => ev_cb (ea_cons (ev_var s0) (ea_cons ev_c ea_nil)) (ZH.rc_isE k)
    refine q_asgG (ZH.ep_two (K := K) ev_c (iC rfl KC.k0) ev_c (iC rfl KC.k1)) fun v H1 e1 hv => ?_
    obtain ⟨p1, xs1, rfl, f1, h1, P1⟩ := hv
    refine q_asgG (ZH.ep_cat (K := K) (ev_var rfl) h1 P1 (ZH.ep_two ev_c (iC rfl KC.k2) ev_c (iC rfl KC.k3)) (by show 2 + 2 ≤ 1000; decide)) fun v H2 e2 hv => ?_
    obtain ⟨p2, xs2, rfl, f2, h2, P2⟩ := hv
    refine q_asgG (ZH.ep_cat (K := K) (ev_var rfl) h2 P2 (ZH.ep_two ev_c (iC rfl KC.k4) ev_c (iC rfl KC.k5)) (by show 4 + 2 ≤ 1000; decide)) fun v H3 e3 hv => ?_
    obtain ⟨p3, xs3, rfl, f3, h3, P3⟩ := hv
    refine q_asgL (ZH.ep_lc (ev_var rfl) h3 P3 (by show 6 ≤ 1000; decide) (fun _ _ => rfl) (fun _ _ => rfl) (fun _ _ => rfl)) fun p4 H4 f4 e4 h4 => ?_
    have hw : ((([(("counts" : Str), d == 0), (("many" : Str), d == 1)] ++ [(("web" : Str), d == 2), (("exchange" : Str), d == 3)] ++ [(("unlike" : Str), d == 4), (("none" : Str), d == 5)]).filter (·.2)).map fun p => V.str p.1) = [V.str (word d)] := by
      have hd := KC.lt
      have : d = 0 ∨ d = 1 ∨ d = 2 ∨ d = 3 ∨ d = 4 ∨ d = 5 := by omega
      rcases this with rfl | rfl | rfl | rfl | rfl | rfl <;> rfl
    rw [hw] at h4
    have e04 := ((e1.trans e2).trans e3).trans e4
    refine s_retL (xs := [.str (word d)]) (el_eq (el_rep (k := 1) (xs := [.str (word d)]) (by walk_at "ev") ?_ h4 (by decide) (by show 1 * 1 ≤ 100000; decide)) rfl) fun l H5 f5 e5 h5 => q l H5 (fresh_back e04 f5) (e04.trans e5) h5
    refine ev_cb (ea_cons (ev_andT (ev_op (ev_cb (ea_cons (ev_var rfl) ea_nil) (rc_lenL (SqL.of h4))) ev_c (rv_eq rfl)) (ev_cb (ea_cons (ev_var rfl) (ea_cons ev_c ea_nil)) (ZH.rc_isT KC.kv))) ea_nil) ?_
    exact rc_intB (k := true)

end
end K2
set_option Elab.async false
set_option linter.all false
set_option maxRecDepth 100000
set_option maxHeartbeats 300000
namespace K2
open PySem PySem.Spec PyProof.Rows L2 Evl Z
section
variable {P : Program} {w : World} {K : PySem.W.Frag} {mg : Str → Option Value} {base : Heap} {a : Ad}
/-! ### an answer, or the word of the refusal -/
theorem takes0N {X : Cx} : L2N.Takes X (fun _ _ _ _ => False) := fun _ _ x => by
  obtain ⟨_, _, _, _, _, _, _, _, _, _, _, _, _, _, _, _, z⟩ := x
  exact z.elim
theorem pss_none {X : Cx} {b : List Stmt} {t : TS} {d : Option Addr} (h : d = none → PSs X b t) : PSs X b (fun D σ H => d = none ∧ t D σ H) := ⟨fun pins s σ H D I hh => (h hh.1).run pins s σ H D I hh.2⟩
theorem roomH_mark {k : Nat} {A : Around} {v : Option Value} (r : Room k A) : L2H.RoomH k (A.mark v) := ⟨r.dp, r.un⟩
structure Cls (K : PySem.W.Frag) (a : Ad) : Prop where
  kc0 : KindC K a a.c_BadWeb 2
  ex0 : PySem.W.exmOne K (.ref a.c_BadWeb) (.ref a.c_TieError) = some true
def tSuite (K : PySem.W.Frag) (ad : Ad) (i : Nat) : Addr → Value → Option Addr → TS := fun x c d D σ H => d = none ∧ tRet (tTup (tCons (tC (.str "refused")) (tCons (ZH.tCallZ (sp_kind K ad) c x (tCons (tVar i) tNil)) tNil))) D σ H
/-- an error of class D is caught, and its word told -/
theorem caught {σ : L2.St} {H : Hp} {i d : Nat} {D : Addr} {E : Ends} (KC : KindC K a D d) (hx : PySem.W.exmOne K (.ref D) (.ref a.c_TieError) = some true) (hi : ∀ v : V, (σ.set i (some v))[i]? = some (some v))
    (q : ∀ t l H2, Ex H H2 → H2 t = some (.tup [.str "refused", .ref l]) → H2 l = some (.lst [.str (word d)]) → E.rt (.ref t) H2) : wAs K (.ref a.c_TieError) i (tSuite K a i) (fun _ _ _ _ => False) E (.ref D) none σ H := by
  refine ⟨true, hx, fun _ x _ => ⟨rfl, ?_⟩, fun z => (by cases z)⟩
  exact ⟨.ref x, hi (.ref x), D, d, rfl, KC, rfl, fun l H2 hl e h2 => ⟨by show 2 ≤ sizeLine; decide, fun p hp => q p l _ (e.trans (Ex.new hp)) upd_same (Ex.new hp _ _ h2)⟩⟩
def sp_told (K : PySem.W.Frag) : Sp := fun vs H Q _ => ∃ (k : Int) (x y : V), vs = [.int k, x, y] ∧ ((NoWebV K H x y ∧ ∀ t l H2, Ex H H2 → H2 t = some (.tup [.str "refused", .ref l]) → H2 l = some (.lst [.str "web"]) → Q (.ref t) H2) ∨
  ∃ n l xs ts, x = .int ((n : Nat) : Int) ∧ y = .ref l ∧ SqL K H l xs ∧ Ties K H xs ts ∧ WebOk n ts ∧ (k = 0 → ∀ H2, Ex H H2 → Q .non H2) ∧ (k = 1 → ∀ p H2, H p = none → Ex H H2 → H2 p = some (.lst ((degsI n ts).map V.int)) → Q (.ref p) H2) ∧
    (k ≠ 0 → k ≠ 1 → ∀ p H2, H p = none → Ex H H2 → NewLL H H2 p (piecesF n (firstsF ts)) → Q (.ref p) H2))
theorem NewLL.old {H0 H H2 : Hp} {p : Addr} {gs : List (List Nat)} (e : Ex H0 H) (h : NewLL H H2 p gs) : NewLL H0 H2 p gs := let ⟨xs, a, b⟩ := h; ⟨xs, a, Lists.old e b⟩
theorem ok__law_told (T : Top K mg a) (C : Cls K a) : FnOk P w K mg base CX0 5 a.a__law_told a.d__law_told ["_law_kind_here", "_law_size", "_law_ties"] (sp_told K) := by
  refine T.F__law_told.ok sc__law_told (fun vs H Q E h => ?_) (fun cdv A outer s H vs Q E hr h => ?_)
  · obtain ⟨k, x, y, rfl, _⟩ := h
    rfl
  · obtain ⟨k, x, y, rfl, h⟩ := h
    refine ⟨_, (pss_one (L2N.ps_try_as (i := 3) (tb := fun W => tSeq (tIfS (tTest (tOp (rEq) (tVar 0) (tC (.int 0)))) (tRet (tCallS (sp_need_web K a.c_BadWeb) (L2.WE W) (tCons (tVar 1) (tCons (tVar 2) tNil)))) tNext)
        (tSeq (tIfS (tTest (tOp (rEq) (tVar 0) (tC (.int 1)))) (tRet (tCallS (sp_counts_of K a.c_BadWeb) (L2.WE W) (tCons (tVar 1) (tCons (tVar 2) tNil)))) tNext) (tRet (tCallS (sp_pieces K a.c_BadWeb) (L2.WE W) (tCons (tVar 1) (tCons (tVar 2) tNil))))))
      (ts := tSuite K a 3) (Wout := fun _ _ _ _ => False) rfl rfl sc__law_told.nd rfl rfl ⟨rfl, by decide, Or.inl T.g_TieError⟩ takes0N
      (fun W pn xe tk _ => pss_cons (ps_if (pt_cmpR op_eq (pv 0) pe_int (nomark _)) (pss_one (ps_ret (by exact (pe_callS (ok_need_web (K := K) T) (hr.mono (by decide)) rfl T.g_need_web T.F_need_web.kp T.b_need_web (fun σ => L2N.passAt tk σ) (by exact (pa_cons (pv 1) (pa_cons (pv 2) pa_nil))))))) pss_nil)
        (pss_cons (ps_if (pt_cmpR op_eq (pv 0) pe_int (nomark _)) (pss_one (ps_ret (by exact (pe_callS (ok_counts_of (K := K) T) (hr.mono (by decide)) rfl T.g_counts_of T.F_counts_of.kp T.b_counts_of (fun σ => L2N.passAt tk σ) (by exact (pa_cons (pv 1) (pa_cons (pv 2) pa_nil))))))) pss_nil)
        (pss_one (ps_ret (by exact (pe_callS (ok_pieces (K := K) T) (hr.mono (by decide)) rfl T.g_pieces T.F_pieces.kp T.b_pieces (fun σ => L2N.passAt tk σ) (by exact (pa_cons (pv 1) (pa_cons (pv 2) pa_nil)))))))))
      (fun e oe cls d pn hz hf => pss_none fun hd => by
        subst hd
        exact pss_one (ps_ret (pe_tup (pa_cons pe_str (pa_cons (by exact (ZH.pe_callZ (ok__law_kind (K := K) T) (roomH_mark (hr.mono (show 1 ≤ 4 by decide))) hz hf rfl T.g__law_kind T.F__law_kind.kp T.b__law_kind (by exact (pa_cons (pv 3) pa_nil)))) pa_nil)))))) ), ?_⟩
    have bad : ∀ H1, Ex H H1 → NoWebV K H x y → (∀ t l H2, Ex H H2 → H2 t = some (.tup [.str "refused", .ref l]) → H2 l = some (.lst [.str "web"]) → Q (.ref t) H2) → ∀ H2, Ex H1 H2 → wAs K (.ref a.c_TieError) 3 (tSuite K a 3) (fun _ _ _ _ => False) { nx := fun _ H' => Q .non H', rt := Q } (.ref a.c_BadWeb) none (L2.start n__law_told [.int k, x, y]) H2 :=
      fun H1 e1 _ q H2 e2 => caught C.kc0 C.ex0 (fun _ => rfl) fun t l H3 e3 ht hl => q t l H3 ((e1.trans e2).trans e3) ht hl
    refine q_when (b := decide (V.int k = V.int 0)) (et_test (ev_op (ev_var rfl) ev_c (rv_eq rfl))) (fun hz H1 e1 => ?_) (fun hz H1 e1 => ?_)
    · have hk : k = 0 := V.int.inj (of_decide_eq_true hz)
      refine ⟨x, rfl, y, rfl, x, y, rfl, ?_⟩
      rcases h with ⟨hN, q⟩ | ⟨n, l, xs, ts, rfl, rfl, hS, hT, hW, q0, _, _⟩
      · exact .inl ⟨hN.ex e1, bad H1 e1 hN q⟩
      · exact .inr ⟨n, l, xs, ts, rfl, rfl, ex_l e1 hS, Ties.ex e1 hT, hW, fun H2 e2 => q0 hk H2 (e1.trans e2)⟩
    · have hk0 : k ≠ 0 := fun z => by
        rw [z] at hz
        cases hz
      refine q_when (b := decide (V.int k = V.int 1)) (et_test (ev_op (ev_var rfl) ev_c (rv_eq rfl))) (fun hz H2 e2 => ?_) (fun hz H2 e2 => ?_)
      · have hk : k = 1 := V.int.inj (of_decide_eq_true hz)
        refine ⟨x, rfl, y, rfl, x, y, rfl, ?_⟩
        rcases h with ⟨hN, q⟩ | ⟨n, l, xs, ts, rfl, rfl, hS, hT, hW, _, q1, _⟩
        · exact .inl ⟨hN.ex (e1.trans e2), bad H2 (e1.trans e2) hN q⟩
        · exact .inr ⟨n, l, xs, ts, rfl, rfl, ex_l (e1.trans e2) hS, Ties.ex (e1.trans e2) hT, hW, fun p H3 hp e3 h3 => q1 hk p H3 (fresh_back (e1.trans e2) hp) ((e1.trans e2).trans e3) h3⟩
      · have hk1 : k ≠ 1 := fun z => by
          rw [z] at hz
          cases hz
        refine ⟨x, rfl, y, rfl, x, y, rfl, ?_⟩
        rcases h with ⟨hN, q⟩ | ⟨n, l, xs, ts, rfl, rfl, hS, hT, hW, _, _, q2⟩
        · exact .inl ⟨hN.ex (e1.trans e2), bad H2 (e1.trans e2) hN q⟩
        · exact .inr ⟨n, l, xs, ts, rfl, rfl, ex_l (e1.trans e2) hS, Ties.ex (e1.trans e2) hT, hW, fun p H3 hp e3 h3 => q2 hk0 hk1 p H3 (fresh_back (e1.trans e2) hp) ((e1.trans e2).trans e3) (NewLL.old (e1.trans e2) h3)⟩
/-! ### points told -/
def sp_points (K : PySem.W.Frag) : Sp := fun vs H Q _ => ∃ (p q : Addr) (cs : List Int), vs = [.ref p, .ref q] ∧ H p = some (.lst (cs.map V.int)) ∧ SqL K H q (cs.map V.int) ∧ cs.length ≤ 1000 ∧ ∀ H2, Ex H H2 → Q (.bl true) H2
theorem ok__law_points (T : Top K mg a) : FnOk P w K mg base CX0 2 a.a__law_points a.d__law_points ["_law_found", "_law_due"] (sp_points K) := by
  refine T.F__law_points.ok sc__law_points (fun vs H Q E h => ?_) (fun cdv A outer s H vs Q E hr h => ?_)
  · obtain ⟨p, q, cs, rfl, _⟩ := h
    rfl
  · obtain ⟨p, r, cs, rfl, hp, hr2, hz, q⟩ := h
    refine ⟨_, (pss_cons (ps_if (PW.pt (pw_or (pt_not (pt_val (pe_callB (kx_isi (K := K)) (by rfl) T.n_isinstance (by decide +kernel) (pa_cons (pv 0) (pa_cons (pe_bltn (v := .ty "list") rfl T.n_list (by decide +kernel) rfl) pa_nil))))) (pw_or1 (pt_cmpR (kx_neD (K := K) hr.units) (pv 0) (pv 1) (nomark _))))) (pss_one (ps_ret pe_bl)) pss_nil)
  (pss_one (ps_ret (pe_callB (kx_all (K := K) rfl) (by rfl) T.n_all (by decide +kernel) (pa_cons (pe_lc (own := [("_law_one", 2)]) rfl sc__law_points.nd (kx_piL (K := K) (pv 0)) (blkOk_by (own := [("_law_one", 2)]) (N := n__law_points) (sc := defScope s__law_points) (by decide +kernel)) (fun _ _ _ _ _ => pg_name (i := 2) sc__law_points.nd rfl (by first | exact Or.inl rfl | exact Or.inr rfl)) (fun _ _ _ _ _ => pts_nil) (fun _ _ _ _ _ => (pe_call (ok__law_whole (K := K) T) (hr.mono (by decide)) rfl T.g__law_whole T.F__law_whole.kp T.b__law_whole .nil pass0 (pa_cons (pv 2) pa_nil)))) pa_nil))))), ?_⟩
    refine q_when (b := false) (et_orF (et_not (a := true) (et_B (ev_cb (ea_cons (ev_var rfl) (ea_cons ev_c ea_nil)) (rc_isi (.ty _) (.lst hp) (kit_ty (by decide +kernel)))))) (et_test (ev_neInts (cs := cs) (ev_var rfl) (ev_var rfl) (SqL.of hp) hr2))) (fun z => (by cases z)) (fun _ H1 e1 => ?_)
    refine s_ret (v := .bl true) (ev_is (ev_allL (bs := List.replicate cs.length true) (el_eq (el_lcL (xs := cs.map V.int) (fun _ => true) (fun _ => .bl true) (ev_var rfl) (SqL.of (e1 _ _ hp)) (by rw [List.length_map]; omega) (fun _ => rfl) (fun _ _ _ _ _ => et_yes) (fun i x H2 e2 hx _ => ?_)) ?_)) ?_) fun H2 e2 => q H2 (e1.trans e2)
    · obtain ⟨c, _, rfl⟩ := List.mem_map.mp (List.mem_of_getElem? hx)
      exact ev_call (ea_cons (ev_var rfl) ea_nil) (fun H6 e6 Q q E => ⟨c, rfl, fun H7 e7 => q H7 e7⟩)
    · rw [given_all, List.length_map, List.map_const', List.length_range, List.map_replicate]
    · simp

end
end K2
set_option Elab.async false
set_option linter.all false
set_option maxRecDepth 100000
set_option maxHeartbeats 300000
namespace K2
open PySem PySem.Spec PyProof.Rows L2 Evl Z
section
variable {P : Program} {w : World} {K : PySem.W.Frag} {mg : Str → Option Value} {base : Heap} {a : Ad}
/-! ### the law -/
/-- a row of what was held: two pairs of equal lists -/
def RowOk (K : PySem.W.Frag) (H : Hp) (hd : Addr) (x : V) : Prop := ∃ (t p1 p2 p3 p4 : Addr) (us vs : List Int), x = .ref t ∧ SqT K H t [.ref p1, .ref p2, .ref p3, .ref p4] ∧ H p1 = some (.lst (us.map V.int)) ∧ H p2 = some (.lst (us.map V.int)) ∧ H p3 = some (.lst (vs.map V.int)) ∧ H p4 = some (.lst (vs.map V.int)) ∧ p1 ≠ hd ∧ p2 ≠ hd ∧ p3 ≠ hd ∧ p4 ≠ hd
theorem RowOk.ex {H H2 : Hp} {hd : Addr} {x : V} (e : Ex H H2) (h : RowOk K H hd x) : RowOk K H2 hd x := by
  obtain ⟨t, p1, p2, p3, p4, us, vs, a, b, c1, c2, c3, c4, d⟩ := h
  exact ⟨t, p1, p2, p3, p4, us, vs, a, ex_t e b, e _ _ c1, e _ _ c2, e _ _ c3, e _ _ c4, d⟩
theorem RowOk.upd {H : Hp} {hd : Addr} {x : V} {ws zs : List V} (hh : H hd = some (.lst ws)) (h : RowOk K H hd x) : RowOk K (L2.upd H hd (.lst zs)) hd x := by
  obtain ⟨t, p1, p2, p3, p4, us, vs, a, b, c1, c2, c3, c4, d1, d2, d3, d4⟩ := h
  exact ⟨t, p1, p2, p3, p4, us, vs, a, sqt_upd hh b, (upd_ne d1).trans c1, (upd_ne d2).trans c2, (upd_ne d3).trans c3, (upd_ne d4).trans c4, d1, d2, d3, d4⟩
theorem pieces_first {n : Nat} {ts : List Tie} (hn : 1 ≤ n) : ∃ g gs, piecesF n (firstsF ts) = g :: gs := by
  have hF := firsts_ok ts
  have h0 : firstsF ts 0 = 0 := by
    have := hF.le 0
    omega
  have hm : group n (firstsF ts) 0 ∈ piecesF n (firstsF ts) := List.mem_map.mpr ⟨0, List.mem_filter.mpr ⟨List.mem_range.mpr (by omega), decide_eq_true h0⟩, rfl⟩
  cases h : piecesF n (firstsF ts) with
  | nil =>
    rw [h] at hm
    cases hm
  | cons g gs => exact ⟨g, gs, rfl⟩
theorem pieces_len (n : Nat) (f : Nat → Nat) : (piecesF n f).length ≤ n := by
  unfold piecesF
  rw [List.length_map]
  have h := List.length_filter_le (fun v => decide (f v = v)) (List.range n)
  rw [List.length_range] at h
  exact h
theorem pieces_short {n : Nat} {f : Nat → Nat} {g : List Nat} (h : g ∈ piecesF n f) : g.length ≤ n := by
  obtain ⟨v, _, rfl⟩ := List.mem_map.mp h
  exact group_len n f v
def sp_law (K : PySem.W.Frag) : Sp := fun vs H Q _ => ∃ (p : Addr) (ns : List Int), vs = [.ref p] ∧ SqL K H p (ns.map V.int) ∧ Scr ns ∧ ∀ H2, Ex H H2 → Q (.bl true) H2
theorem ok_law (T : Top K mg a) (C : Cls K a) : FnOk P w K mg base CX0 6 a.a_law a.d_law ["_law_script"] (sp_law K) := by
  refine T.F_law.ok sc_law (fun vs H Q E h => ?_) (fun cdv A outer s H vs Q E hr h => ?_)
  · obtain ⟨p, ns, rfl, _⟩ := h
    rfl
  · obtain ⟨p, ns, rfl, hS, hb, q⟩ := h
    refine ⟨_, (pss_cons (ps_asg (pe_call (ok__law_web (K := K) T) (hr.mono (by decide)) rfl T.g__law_web T.F__law_web.kp T.b__law_web .nil pass0 (pa_cons (pv 0) (pa_cons pe_int (pa_cons pe_int pa_nil)))) (kx_pgT (K := K) (n := 2) rfl (pgs_cons (pg_name (i := 1) sc_law.nd rfl (.inl rfl)) (pgs_cons (pg_name (i := 2) sc_law.nd rfl (.inl rfl)) pgs_nil))))
  (pss_cons (ps_set (i := 3) sc_law.nd rfl (.inl rfl) (pe_callTy (kx_list (K := K)) (by rfl) T.n_list (by decide +kernel) (pa_cons (pv 2) pa_nil)))
  (pss_cons (ps_if (PW.pt (pw_or (pt_cmpR op_notN (pe_call (ok__law_told (K := K) T C) (hr.mono (by decide)) rfl T.g__law_told T.F__law_told.kp T.b__law_told .nil pass0 (pa_cons pe_int (pa_cons (pv 1) (pa_cons (pv 3) pa_nil)))) pe_non (nomark _)) (pw_or1 (pt_cmpR (kx_neD (K := K) hr.units) (pv 3) (pv 2) (nomark _))))) (pss_one (ps_ret pe_bl)) pss_nil)
  (pss_cons (ps_set (i := 4) sc_law.nd rfl (.inl rfl) (pe_lst pa_nil))
  (pss_cons (ps_for PassesOwn.never rfl (pi_range1 rfl T.n_range (pa_cons pe_int pa_nil)) (pg_name (i := 5) sc_law.nd rfl (.inl rfl)) (pss_cons (ps_set (i := 6) sc_law.nd rfl (.inl rfl) (pe_call (ok__law_told (K := K) T C) (hr.mono (by decide)) rfl T.g__law_told T.F__law_told.kp T.b__law_told .nil pass0 (pa_cons pe_int (pa_cons (pv 1) (pa_cons (pv 3) pa_nil)))))
  (pss_cons (ps_set (i := 7) sc_law.nd rfl (.inl rfl) (pe_call (ok__law_told (K := K) T C) (hr.mono (by decide)) rfl T.g__law_told T.F__law_told.kp T.b__law_told .nil pass0 (pa_cons pe_int (pa_cons (pv 1) (pa_cons (pv 3) pa_nil)))))
  (pss_cons (ps_set (i := 8) sc_law.nd rfl (.inl rfl) (pe_call (ok__law_pieces (K := K) T) (hr.mono (by decide)) rfl T.g__law_pieces T.F__law_pieces.kp T.b__law_pieces .nil pass0 (pa_cons (pv 1) (pa_cons (pv 2) pa_nil))))
  (pss_cons (ps_if (PW.pt (pw_or (pt_not (pt_val (pe_call (ok__law_points (K := K) T) (hr.mono (by decide)) rfl T.g__law_points T.F__law_points.kp T.b__law_points .nil pass0 (pa_cons (pv 6) (pa_cons (pe_call (ok__law_counts (K := K) T) (hr.mono (by decide)) rfl T.g__law_counts T.F__law_counts.kp T.b__law_counts .nil pass0 (pa_cons (pv 1) (pa_cons (pv 2) pa_nil))) pa_nil))))) (pw_or (pt_not (pt_val (pe_callB (kx_isi (K := K)) (by rfl) T.n_isinstance (by decide +kernel) (pa_cons (pv 7) (pa_cons (pe_bltn (v := .ty "list") rfl T.n_list (by decide +kernel) rfl) pa_nil))))) (pw_or1 (pt_cmpR op_ne (pe_callB (kx_len (K := K)) (by rfl) T.n_len (by decide +kernel) (pa_cons (pv 7) pa_nil)) (pe_callB (kx_len (K := K)) (by rfl) T.n_len (by decide +kernel) (pa_cons (pv 8) pa_nil)) (nomark _)))))) (pss_one (ps_ret pe_bl)) pss_nil)
  (pss_cons (ps_if (PW.pt (pw_or (pt_not (pt_val (pe_callB (kx_all (K := K) rfl) (by rfl) T.n_all (by decide +kernel) (pa_cons (pe_lc (own := [("_law_piece", 12), ("_law_other", 13)]) rfl sc_law.nd (pi_zip (by rfl) T.n_zip (pa_cons (pv 7) (pa_cons (pv 8) pa_nil))) (blkOk_by (own := [("_law_piece", 12), ("_law_other", 13)]) (N := n_law) (sc := defScope s_law) (by decide +kernel)) (fun _ _ _ _ _ => kx_pgT (K := K) (n := 2) rfl (pgs_cons (pg_name (i := 12) sc_law.nd rfl (by first | exact Or.inl rfl | exact Or.inr rfl)) (pgs_cons (pg_name (i := 13) sc_law.nd rfl (by first | exact Or.inl rfl | exact Or.inr rfl)) pgs_nil))) (fun _ _ _ _ _ => pts_nil) (fun _ _ _ _ _ => (pe_call (ok__law_points (K := K) T) (hr.mono (by decide)) rfl T.g__law_points T.F__law_points.kp T.b__law_points .nil pass0 (pa_cons (pv 12) (pa_cons (pv 13) pa_nil))))) pa_nil)))) (pw_or1 (pt_cmpR (kx_neD (K := K) hr.units) (pv 3) (pv 2) (nomark _))))) (pss_one (ps_ret pe_bl)) pss_nil)
  (pss_cons (ps_expr (pe_bm PySem.F.plainAttrs_list PySem.F.slot_list_append PySem.F.type_list_append mt_append (pv 6) (pa_cons pe_int pa_nil)))
  (pss_cons (ps_expr (pe_bm PySem.F.plainAttrs_list PySem.F.slot_list_append PySem.F.type_list_append mt_append (pe_ix (kx_ixL (K := K)) (pv 7) pe_int (fun _ _ => rfl)) (pa_cons (pv 1) pa_nil)))
  (pss_one (ps_expr (pe_bm PySem.F.plainAttrs_list PySem.F.slot_list_append PySem.F.type_list_append mt_append (pv 4) (pa_cons (pe_tup (pa_cons (pv 6) (pa_cons (pe_op op_cat (pe_call (ok__law_counts (K := K) T) (hr.mono (by decide)) rfl T.g__law_counts T.F__law_counts.kp T.b__law_counts .nil pass0 (pa_cons (pv 1) (pa_cons (pv 2) pa_nil))) (pe_lst (pa_cons pe_int pa_nil))) (pa_cons (pe_ix (kx_ixL (K := K)) (pv 7) pe_int (fun _ _ => rfl)) (pa_cons (pe_op op_cat (pe_ix (kx_ixL (K := K)) (pv 8) pe_int (fun _ _ => rfl)) (pe_lst (pa_cons (pv 1) pa_nil))) pa_nil))))) pa_nil))))))))))))
  (pss_cons (ps_set (i := 9) sc_law.nd rfl (.inl rfl) (pe_call (ok__law_no_web (K := K) T) (hr.mono (by decide)) rfl T.g__law_no_web T.F__law_no_web.kp T.b__law_no_web .nil pass0 (pa_cons (pv 1) (pa_cons (pv 2) (pa_cons (pe_call (ok__law_mixed (K := K) T) (hr.mono (by decide)) rfl T.g__law_mixed T.F__law_mixed.kp T.b__law_mixed .nil pass0 (pa_cons (pe_call (ok__law_cell (K := K) T) (hr.mono (by decide)) rfl T.g__law_cell T.F__law_cell.kp T.b__law_cell .nil pass0 (pa_cons (pv 0) (pa_cons pe_int pa_nil))) (pa_cons pe_int pa_nil))) pa_nil)))))
  (pss_cons (ps_for PassesOwn.never rfl (pi_range1 rfl T.n_range (pa_cons pe_int pa_nil)) (pg_name (i := 10) sc_law.nd rfl (.inl rfl)) (pss_one (ps_if (pt_cmpR (kx_neD (K := K) hr.units) (pe_call (ok__law_told (K := K) T C) (hr.mono (by decide)) rfl T.g__law_told T.F__law_told.kp T.b__law_told .nil pass0 (pa_cons (pv 10) (pa_cons (pe_ix (kx_ixT (K := K)) (pv 9) pe_int (fun _ _ => rfl)) (pa_cons (pe_ix (kx_ixT (K := K)) (pv 9) pe_int (fun _ _ => rfl)) pa_nil)))) (pe_tup (pa_cons pe_str (pa_cons (pe_lst (pa_cons pe_str pa_nil)) pa_nil))) (nomark _)) (pss_one (ps_ret pe_bl)) pss_nil)))
  (pss_one (ps_ret (pe_cmpR (kx_eqD (K := K) hr.units) (pe_lc (own := [("_law_row", 11)]) rfl sc_law.nd (kx_piL (K := K) (pv 4)) (blkOk_by (own := [("_law_row", 11)]) (N := n_law) (sc := defScope s_law) (by decide +kernel)) (fun _ _ _ _ _ => pg_name (i := 11) sc_law.nd rfl (by first | exact Or.inl rfl | exact Or.inr rfl)) (fun _ _ _ _ _ => pts_one (PW.pt (pw_or (pt_cmpR (kx_neD (K := K) hr.units) (pe_ix (kx_ixT (K := K)) (pv 11) pe_int (fun _ _ => rfl)) (pe_ix (kx_ixT (K := K)) (pv 11) pe_int (fun _ _ => rfl)) (nomark _)) (pw_or1 (pt_cmpR (kx_neD (K := K) hr.units) (pe_ix (kx_ixT (K := K)) (pv 11) pe_int (fun _ _ => rfl)) (pe_ix (kx_ixT (K := K)) (pv 11) pe_int (fun _ _ => rfl)) (nomark _)))))) (fun _ _ _ _ _ => (pv 11))) (pe_lst pa_nil) (nomark _))))))))))), ?_⟩
    refine q_asg2 (eg_web (by walk_at "ev") hS hb (by decide) (by decide) (by decide)) fun v H1 e1 hv => ?_
    obtain ⟨n, ts, xs, tw, l, rfl, W, hn10, ft, fl, htw, hl1, hT1⟩ := hv
    refine ⟨tw, _, _, rfl, SqT.of htw, ?_⟩
    have hn := W.size
    have h45 := W.len
    have hlen := Paired.len hT1
    refine q_asgL (el_listQ (ev_var rfl) (SqL.of hl1)) fun h H2 fh e2 hh2 => ?_
    have hl2 := e2 _ _ hl1
    have hT2 := Ties.ex e2 hT1
    -- told: a web
    refine q_when (b := false) (et_orF (et_test (ev_is (ev_op (x := .non) (ev_call (vs := [.int 0, .int (n : Int), .ref h]) (ea_cons ev_c (ea_cons (ev_var rfl) (ea_cons (ev_var rfl) ea_nil))) (fun H3 e3 Q q E => ⟨0, _, _, rfl, .inr ⟨n, h, xs, ts, rfl, rfl, SqL.of (e3 _ _ hh2), Ties.ex e3 hT2, W, fun _ H4 e4 => q H4 e4, fun z => absurd z (by decide), fun z => absurd rfl z⟩⟩)) ev_c rv_notN) (by rfl)))
      (et_test (ev_neTies (ev_var rfl) (ev_var rfl) (SqL.of hh2) hT2 (SqL.of hl2) hT2))) (fun z => (by cases z)) (fun _ H3 e3 => ?_)
    have e13 := e2.trans e3
    refine q_asgL (xs := []) (el_lst ea_nil (by show 0 ≤ 100000; decide)) fun hd H4 fhd e4 hhd4 => ?_
    have hl3 := e3 _ _ hl2
    have hh3 := e3 _ _ hh2
    have hT3 := Ties.ex e3 hT2
    refine q_forR1 (n := 2) (ea_cons ev_c ea_nil) (by omega) (fun i σ' H' => ∃ x5 x6 x7 x8 rows, σ' = [some (.ref p), some (.int (n : Int)), some (.ref l), some (.ref h), some (.ref hd), x5, x6, x7, x8, none, none, none, none, none] ∧ Ex H3 H' ∧ H' hd = some (.lst rows) ∧ rows.length ≤ i ∧ ∀ x ∈ rows, RowOk K H' hd x) ?_ ?_ ?_
    · exact fun H5 e5 => ⟨none, none, none, none, [], rfl, e4.trans e5, e5 _ _ hhd4, Nat.le_refl _, fun x hx => (by cases hx)⟩
    · rintro i σ' H' hi ⟨x5, x6, x7, x8, rows, rfl, e5, hhd5, hrl, hrows⟩
      have hl5 := e5 _ _ hl3
      have hh5 := e5 _ _ hh3
      have hT5 := Ties.ex e5 hT3
      obtain ⟨g0, gs, hgs⟩ := pieces_first (ts := ts) hn.1
      have hg0 : g0.length ≤ n := pieces_short (f := firstsF ts) (by rw [hgs]; exact List.mem_cons_self)
      -- what is told
      refine q_asgL (xs := (degsI n ts).map V.int) (el_call (vs := [.int 1, .int (n : Int), .ref h]) (ea_cons ev_c (ea_cons (ev_var rfl) (ea_cons (ev_var rfl) ea_nil))) (fun H6 e6 Q q E => ⟨1, _, _, rfl, .inr ⟨n, h, xs, ts, rfl, rfl, SqL.of (e6 _ _ hh5), Ties.ex e6 hT5, W, fun z => absurd z (by decide), fun _ p H7 hp e7 h7 => q p H7 e7 hp h7, fun _ z => absurd rfl z⟩⟩)) fun c6 H6 f6 e6 h6 => ?_
      have hh6 := e6 _ _ hh5
      have hT6 := Ties.ex e6 hT5
      refine q_asgG (eg_call (P := fun H1 v H2 => ∃ p, v = .ref p ∧ H1 p = none ∧ NewLL H1 H2 p (piecesF n (firstsF ts))) (vs := [.int 2, .int (n : Int), .ref h]) (ea_cons ev_c (ea_cons (ev_var rfl) (ea_cons (ev_var rfl) ea_nil))) (fun H7 e7 Q q E => ⟨2, _, _, rfl, .inr ⟨n, h, xs, ts, rfl, rfl, SqL.of (e7 _ _ hh6), Ties.ex e7 hT6, W, fun z => absurd z (by decide), fun z => absurd z (by decide), fun _ _ p H8 hp e8 h8 => q _ H8 e8 ⟨p, rfl, hp, h8⟩⟩⟩)
        (fun H0 H1 v H2 e ⟨p, a, b, c⟩ => ⟨p, a, fresh_back e b, NewLL.old e c⟩)) fun v H7 e7 hv => ?_
      obtain ⟨p7, rfl, fp7, xs7, h7, L7⟩ := hv
      have hl7 := (e6.trans e7) _ _ hl5
      have hT7 := Ties.ex e7 hT6
      refine q_asgG (eg_call (P := fun H1 v H2 => ∃ p, v = .ref p ∧ H1 p = none ∧ NewLL H1 H2 p (piecesF n (firstsF ts))) (vs := [.int (n : Int), .ref l]) (ea_cons (ev_var rfl) (ea_cons (ev_var rfl) ea_nil)) (fun H8 e8 Q q E => ⟨n, l, xs, ts, rfl, SqL.of (e8 _ _ hl7), Ties.ex e8 hT7, W, fun p H9 hp e9 h9 => q _ H9 e9 ⟨p, rfl, hp, h9⟩⟩)
        (fun H0 H1 v H2 e ⟨p, a, b, c⟩ => ⟨p, a, fresh_back e b, NewLL.old e c⟩)) fun v H8 e8 hv => ?_
      obtain ⟨p8, rfl, fp8, xs8, h8, L8⟩ := hv
      have e68 := e7.trans e8
      have hl8 := e8 _ _ hl7
      have hT8 := Ties.ex e8 hT7
      have hh8 := e68 _ _ hh6
      have h78 := e8 _ _ h7
      have L78 := Lists.ex e8 L7
      have ll7 := lists_len L7
      have ll8 := lists_len L8
      have hpl := pieces_len n (firstsF ts)
      -- counts, and how many pieces
      refine q_when (b := false) (et_orF (et_not (a := true) (et_B (ev_callL (v := .bl true) (xs := (degsI n ts).map V.int) (ev_var rfl) (el_counts (ea_cons (ev_var rfl) (ea_cons (ev_var rfl) ea_nil)) (SqL.of hl8) hT8 (by omega) (by omega)) (fun q9 H9 e9 h9 Q q E => ⟨c6, q9, degsI n ts, rfl, (e68.trans e9) _ _ h6, SqL.of h9, by
          have := (degsI_ok W).len
          omega, q⟩))))
        (et_orF (et_not (a := true) (et_B (ev_cb (ea_cons (ev_var rfl) (ea_cons ev_c ea_nil)) (rc_isi (.ty _) (.lst h78) (kit_ty (by decide +kernel))))))
          (et_test (ev_is (ev_op (ev_cb (ea_cons (ev_var rfl) ea_nil) (rc_lenL (SqL.of h78))) (ev_cb (ea_cons (ev_var rfl) ea_nil) (rc_lenL (SqL.of h8))) (rv_ne rfl)) (by rw [ll7, ll8, decide_eq_true rfl]; rfl))))) (fun z => (by cases z)) (fun _ H9 e9 => ?_)
      have h79 := e9 _ _ h78
      have h89 := e9 _ _ h8
      have L79 := Lists.ex e9 L78
      have L89 := Lists.ex e9 L8
      have hh9 := e9 _ _ hh8
      have hl9 := e9 _ _ hl8
      have hT9 := Ties.ex e9 hT8
      -- each piece
      refine q_when (b := false) (et_orF (et_not (a := true) (et_B (ev_is (ev_allL (bs := List.replicate xs7.length true) (el_eq (el_lcZip (xs := xs7) (ys := xs8) (fun _ => .bl true) (ea_cons (ev_var rfl) (ea_cons (ev_var rfl) ea_nil)) (SqL.of h79) (SqL.of h89) (by rw [ll7, ll8]) (by omega) (fun _ _ => rfl) (fun m x y H10 e10 hx hy => ?_)) ?_)) ?_)))
        (et_test (ev_neTies (ev_var rfl) (ev_var rfl) (SqL.of hh9) hT9 (SqL.of hl9) hT9))) (fun z => (by cases z)) (fun _ H10 e10 => ?_)
      · obtain ⟨g, hg, q7, rfl, _, _, a7⟩ := Paired.at L79 hx
        obtain ⟨g', hg', q8, rfl, _, _, a8⟩ := Paired.at L89 hy
        rw [hg] at hg'
        cases hg'
        refine ev_call (vs := [.ref q7, .ref q8]) (ea_cons (ev_var rfl) (ea_cons (ev_var rfl) ea_nil)) (fun H11 e11 Q q E => ⟨q7, q8, gI g, rfl, (e10.trans e11) _ _ a7, SqL.of ((e10.trans e11) _ _ a8), ?_, q⟩)
        have := pieces_short (f := firstsF ts) (List.mem_of_getElem? hg)
        unfold gI
        rw [List.length_map]
        omega
      · rw [given_all, List.map_const', List.length_range, List.map_replicate]
      · simp
      -- told lists are changed
      rw [hgs] at L79 L89
      obtain ⟨y7, xr7, rfl⟩ : ∃ y r, xs7 = y :: r := by
        cases xs7 with
        | nil => cases L79
        | cons y r => exact ⟨y, r, rfl⟩
      obtain ⟨y8, xr8, rfl⟩ : ∃ y r, xs8 = y :: r := by
        cases xs8 with
        | nil => cases L89
        | cons y r => exact ⟨y, r, rfl⟩
      obtain ⟨_, hb7, q7, rfl, fq7, nq7, a7⟩ := Paired.at L79 (i := 0) rfl
      obtain ⟨_, hb8, q8, rfl, fq8, nq8, a8⟩ := Paired.at L89 (i := 0) rfl
      cases hb7
      cases hb8
      have e610 := (e68.trans e9).trans e10
      have n6 : ∀ {z : Addr}, H6 z = none → z ≠ c6 := fun hz => (ne_of_none h6 hz).symm
      have h610 := e610 _ _ h6
      have e510 := e6.trans e610
      have q7h7 : H7 q7 ≠ none := by
        obtain ⟨_, hb, q, eq, _, _, a⟩ := Paired.at L7 (i := 0) rfl
        cases eq
        rw [a]
        exact fun z => nomatch z
      have f8 : ∀ {z : Addr}, H7 z = none → H6 z = none := fun hz => fresh_back e7 hz
      have nq87 : q8 ≠ q7 := fun z => q7h7 (z ▸ fq8)
      have np87 : p8 ≠ q7 := fun z => q7h7 (z ▸ fp8)
      refine q_app h610 (ev_var rfl) (v := .int 0) ev_c (by rw [List.length_map]; have := (degsI_ok W).len; omega) fun H11 e11 => ?_
      generalize hc : (degsI n ts).map V.int ++ [V.int 0] = cv
      have m5 : Ex H' (upd H11 c6 (.lst cv)) := Ex.mut (e510.trans e11) f6
      have k7 : ∀ {z : Addr} {o : HO}, H6 z = none → H10 z = some o → (upd H11 c6 (.lst cv)) z = some o := fun hz ho => (upd_ne (n6 hz)).trans (e11 _ _ ho)
      have a7' := k7 fq7 (e10 _ _ a7)
      have h7' := k7 fp7 (e10 _ _ h79)
      refine q_app (l := q7) (xs := gV g0) a7' (ev_op (ev_var rfl) ev_c (rv_ixL (SqL.of h7') (atI_nat (j := 0) rfl))) (v := .int (n : Int)) (ev_var rfl) (by unfold gV gI; rw [List.length_map, List.length_map]; omega) fun H12 e12 => ?_
      have f57 : H' q7 = none := fresh_back e6 fq7
      have m512 : Ex H' (upd H12 q7 (.lst (gV g0 ++ [V.int (n : Int)]))) := Ex.mut (m5.trans e12) f57
      have c12 : (upd H12 q7 (.lst (gV g0 ++ [V.int (n : Int)]))) c6 = some (.lst cv) := (upd_ne (n6 fq7).symm).trans (e12 _ _ upd_same)
      have p12 : (upd H12 q7 (.lst (gV g0 ++ [V.int (n : Int)]))) p7 = some (.lst (V.ref q7 :: xr7)) := (upd_ne nq7.symm).trans (e12 _ _ h7')
      have p812 : (upd H12 q7 (.lst (gV g0 ++ [V.int (n : Int)]))) p8 = some (.lst (V.ref q8 :: xr8)) := (upd_ne np87).trans (e12 _ _ (k7 (f8 fp8) (e10 _ _ h89)))
      have q812 : (upd H12 q7 (.lst (gV g0 ++ [V.int (n : Int)]))) q8 = some (.lst (gV g0)) := (upd_ne nq87).trans (e12 _ _ (k7 (f8 fq8) (e10 _ _ a8)))
      have hd12 := m512 _ _ hhd5
      have nd6 : c6 ≠ hd := fun z => by
        rw [z, hhd5] at f6
        cases f6
      have nd7 : q7 ≠ hd := fun z => by
        rw [z, hhd5] at f57
        cases f57
      refine s_appG hd12 (ev_var rfl) (eg_tup4 (K := K) (x1 := .ref c6) (x3 := .ref q7) (ev_var rfl) (el_cat (el_counts (ea_cons (ev_var rfl) (ea_cons (ev_var rfl) ea_nil)) (SqL.of (m512 _ _ hl5)) (Ties.ex m512 hT5) (by omega) (by omega)) (el_lst (ea_cons ev_c ea_nil) (by show 1 ≤ 100000; decide)) (by rw [List.length_map]; have := (degsI_ok W).len; show _ + 1 ≤ _; omega))
        (ev_op (ev_var rfl) ev_c (rv_ixL (SqL.of p12) (atI_nat (j := 0) rfl))) (el_catV (ev_op (ev_var rfl) ev_c (rv_ixL (SqL.of p812) (atI_nat (j := 0) rfl))) q812 (el_lst (ea_cons (ev_var rfl) ea_nil) (by show 1 ≤ 100000; decide)) (by unfold gV gI; rw [List.length_map, List.length_map]; show _ + 1 ≤ _; omega))) (by omega) fun v H13 H14 e13 hv e14 => ?_
      obtain ⟨t, b, d, rfl, fb, fd, ht, hb14, hd14⟩ := hv
      have e1214 := e13.trans e14
      have fb5 := fresh_back (m512.trans e13) fb
      have fd5 := fresh_back (m512.trans e13) fd
      have nb : b ≠ hd := fun z => by
        rw [z, hhd5] at fb5
        cases fb5
      have nd : d ≠ hd := fun z => by
        rw [z, hhd5] at fd5
        cases fd5
      have hd14' := e1214 _ _ hd12
      have fhd3 : H3 hd = none := fhd
      refine ⟨_, _, _, _, rows ++ [.ref t], rfl, Ex.mut (e5.trans (m512.trans e1214)) fhd3, upd_same, by rw [List.length_append]; show _ + 1 ≤ _; omega, fun x hx => ?_⟩
      rcases List.mem_append.mp hx with z | z
      · exact RowOk.upd hd14' ((hrows x z).ex (m512.trans e1214))
      · have ex : x = .ref t := by simpa using z
        subst ex
        refine RowOk.upd hd14' ⟨t, c6, b, q7, d, degsI n ts ++ [0], gI g0 ++ [(n : Int)], rfl, ht, ?_, ?_, ?_, ?_, nd6, nb, nd7, nd⟩
        · rw [List.map_append]
          exact (e1214 _ _ c12).trans (by rw [← hc]; rfl)
        · rw [List.map_append]
          exact hb14
        · rw [List.map_append]
          exact e1214 _ _ upd_same
        · rw [List.map_append]
          exact hd14
    · rintro σ' H' ⟨x5, x6, x7, x8, rows, rfl, e5, hhd5, hrl, hrows⟩
      have e35 := (e1.trans e13).trans e5
      have hS5 := ex_l e35 hS
      -- what is no web
      generalize hc : mixed (cell ns 0) 1 = c
      refine q_asgG (eg_call (P := fun _ v H2 => ∃ t x y, v = .ref t ∧ SqT K H2 t [x, y] ∧ NoWebV K H2 x y) (vs := [.int (n : Int), .ref l, .int c]) (by
        rw [← hc]
        walk_at "ev"
        · exact spv_cell hS5 (by omega)
        · exact spv_mixed ((cell_bd hb 0).mono (by decide)) (Bd.mono (n := 1) (Bd.of (by decide)) (by decide))) (fun H6 e6 Q q E => ⟨n, l, xs, ts, c, rfl, SqL.of ((e5.trans e6) _ _ hl3), Ties.ex (e5.trans e6) hT3, W, fun t x y H7 e7 ht hn => q _ H7 e7 ⟨t, x, y, rfl, ht, hn⟩⟩) (fun H0 H1 v H2 e h => h)) fun v H6 e6 hv => ?_
      obtain ⟨t, x, y, rfl, ht6, hno6⟩ := hv
      refine q_forR1 (n := 3) (ea_cons ev_c ea_nil) (by omega) (fun i σ' H'' => ∃ x10, σ' = [some (.ref p), some (.int (n : Int)), some (.ref l), some (.ref h), some (.ref hd), x5, x6, x7, x8, some (.ref t), x10, none, none, none] ∧ Ex H6 H'') ?_ ?_ ?_
      · exact fun H7 e7 => ⟨none, rfl, e7⟩
      · rintro i σ' H7 hi ⟨x10, rfl, e7⟩
        have ht7 := ex_t e7 ht6
        have hno7 := hno6.ex e7
        refine s_when (b := false) (et_test (ev_neRef (u1 := "refused") (u2 := "web") (by decide +kernel) (by decide +kernel) (eg_call (vs := [.int (i : Int), x, y]) (ea_cons (ev_var rfl) (ea_cons (ev_op (ev_var rfl) ev_c (rv_ixT ht7 (atI_nat (j := 0) rfl))) (ea_cons (ev_op (ev_var rfl) ev_c (rv_ixT ht7 (atI_nat (j := 1) rfl))) ea_nil))) (fun H8 e8 Q q E => ⟨_, _, _, rfl, .inl ⟨hno7.ex e8, fun t l H9 e9 h1 h2 => q _ H9 e9 ⟨t, l, rfl, h1, h2⟩⟩⟩) (fun H0 H1 v H2 e h => h))
          (fun H8 e8 Q q => ⟨by show 1 ≤ sizeLine; decide, fun l hl => ⟨by show 2 ≤ sizeLine; decide, fun t ht => q _ _ ((Ex.new hl).trans (Ex.new ht)) ⟨t, l, rfl, upd_same, Ex.new ht _ _ upd_same⟩⟩⟩))) (fun z => (by cases z)) (fun _ H8 e8 => ⟨_, rfl, e7.trans e8⟩)
      · rintro σ' H7 ⟨x10, rfl, e7⟩
        have hd7 := (e6.trans e7) _ _ hhd5
        refine s_ret (v := .bl true) (ev_eqNil (el_eq (el_lcL (xs := rows) (fun _ => false) (fun _ => .non) (ev_var rfl) (SqL.of hd7) (by omega) (fun _ => rfl) (fun i x H8 e8 hx => ?_) (fun _ _ _ _ _ z => (by cases z))) ?_) (el_lst ea_nil (by show 0 ≤ 100000; decide))) fun H8 e8 => q H8 (((e35.trans e6).trans e7).trans e8)
        · obtain ⟨t, p1, p2, p3, p4, us, vs, rfl, hr, c1, c2, c3, c4, _⟩ := (hrows x (List.mem_of_getElem? hx)).ex ((e6.trans e7).trans e8)
          exact et_orF (et_test (ev_neInts (cs := us) (ev_op (ev_var rfl) ev_c (rv_ixT hr (atI_nat (j := 0) rfl))) (ev_op (ev_var rfl) ev_c (rv_ixT hr (atI_nat (j := 1) rfl))) (SqL.of c1) (SqL.of c2)))
            (et_test (ev_neInts (cs := vs) (ev_op (ev_var rfl) ev_c (rv_ixT hr (atI_nat (j := 2) rfl))) (ev_op (ev_var rfl) ev_c (rv_ixT hr (atI_nat (j := 3) rfl))) (SqL.of c3) (SqL.of c4)))
        · unfold given
          rw [List.filter_eq_nil_iff.mpr (fun _ _ => by decide)]
          rfl

end
end K2
set_option Elab.async false
set_option linter.all false
set_option maxRecDepth 100000
set_option maxHeartbeats 4000000
namespace K2
open PySem PySem.Spec PyProof.Rows L2 Evl Z
theorem all_mk {P : Program} {w : World} {K : PySem.W.Frag} {h : Heap} {mg : Str → Option Value} {fa : Addr} (X : K.In h) (G : h.Ns mainGlobals mg) (hfa : mg "law" = some (.ref fa))
    {f0 : Addr} {od0 an0 : Option Addr} {sl0 : Array (Option Value)} {oc0 kV0 dc0 pm0 cd0 ct0 : Value}
    (a0 : PySem.W.nsIn K mainGlobals "is_whole" = some (some (.ref f0)))
    (l0 : K.lookup f0 = some ⟨oc0, od0, .func (PySem.W.fnOf "is_whole" "is_whole" (defArgs s_is_whole) (defBody s_is_whole) (defScope s_is_whole) .none kV0 dc0 pm0 an0 cd0 ct0), sl0⟩)
    (c0 : PySem.W.codeIn K cd0 "is_whole" = true) (k0 : PySem.W.keepIn K (.ref f0) = true)
    {f1 : Addr} {od1 an1 : Option Addr} {sl1 : Array (Option Value)} {oc1 kV1 dc1 pm1 cd1 ct1 : Value}
    (a1 : PySem.W.nsIn K mainGlobals "need_web" = some (some (.ref f1)))
    (l1 : K.lookup f1 = some ⟨oc1, od1, .func (PySem.W.fnOf "need_web" "need_web" (defArgs s_need_web) (defBody s_need_web) (defScope s_need_web) .none kV1 dc1 pm1 an1 cd1 ct1), sl1⟩)
    (c1 : PySem.W.codeIn K cd1 "need_web" = true) (k1 : PySem.W.keepIn K (.ref f1) = true)
    {f2 : Addr} {od2 an2 : Option Addr} {sl2 : Array (Option Value)} {oc2 kV2 dc2 pm2 cd2 ct2 : Value}
    (a2 : PySem.W.nsIn K mainGlobals "_is_tie" = some (some (.ref f2)))
    (l2 : K.lookup f2 = some ⟨oc2, od2, .func (PySem.W.fnOf "_is_tie" "_is_tie" (defArgs s__is_tie) (defBody s__is_tie) (defScope s__is_tie) .none kV2 dc2 pm2 an2 cd2 ct2), sl2⟩)
    (c2 : PySem.W.codeIn K cd2 "_is_tie" = true) (k2 : PySem.W.keepIn K (.ref f2) = true)
    {f3 : Addr} {od3 an3 : Option Addr} {sl3 : Array (Option Value)} {oc3 kV3 dc3 pm3 cd3 ct3 : Value}
    (a3 : PySem.W.nsIn K mainGlobals "counts_of" = some (some (.ref f3)))
    (l3 : K.lookup f3 = some ⟨oc3, od3, .func (PySem.W.fnOf "counts_of" "counts_of" (defArgs s_counts_of) (defBody s_counts_of) (defScope s_counts_of) .none kV3 dc3 pm3 an3 cd3 ct3), sl3⟩)
    (c3 : PySem.W.codeIn K cd3 "counts_of" = true) (k3 : PySem.W.keepIn K (.ref f3) = true)
    {f4 : Addr} {od4 an4 : Option Addr} {sl4 : Array (Option Value)} {oc4 kV4 dc4 pm4 cd4 ct4 : Value}
    (a4 : PySem.W.nsIn K mainGlobals "pieces" = some (some (.ref f4)))
    (l4 : K.lookup f4 = some ⟨oc4, od4, .func (PySem.W.fnOf "pieces" "pieces" (defArgs s_pieces) (defBody s_pieces) (defScope s_pieces) .none kV4 dc4 pm4 an4 cd4 ct4), sl4⟩)
    (c4 : PySem.W.codeIn K cd4 "pieces" = true) (k4 : PySem.W.keepIn K (.ref f4) = true)
    {f5 : Addr} {od5 an5 : Option Addr} {sl5 : Array (Option Value)} {oc5 kV5 dc5 pm5 cd5 ct5 : Value}
    (a5 : PySem.W.nsIn K mainGlobals "_first_points" = some (some (.ref f5)))
    (l5 : K.lookup f5 = some ⟨oc5, od5, .func (PySem.W.fnOf "_first_points" "_first_points" (defArgs s__first_points) (defBody s__first_points) (defScope s__first_points) .none kV5 dc5 pm5 an5 cd5 ct5), sl5⟩)
    (c5 : PySem.W.codeIn K cd5 "_first_points" = true) (k5 : PySem.W.keepIn K (.ref f5) = true)
    {f6 : Addr} {od6 an6 : Option Addr} {sl6 : Array (Option Value)} {oc6 kV6 dc6 pm6 cd6 ct6 : Value}
    (a6 : PySem.W.nsIn K mainGlobals "_law_cell" = some (some (.ref f6)))
    (l6 : K.lookup f6 = some ⟨oc6, od6, .func (PySem.W.fnOf "_law_cell" "_law_cell" (defArgs s__law_cell) (defBody s__law_cell) (defScope s__law_cell) .none kV6 dc6 pm6 an6 cd6 ct6), sl6⟩)
    (c6 : PySem.W.codeIn K cd6 "_law_cell" = true) (k6 : PySem.W.keepIn K (.ref f6) = true)
    {f7 : Addr} {od7 an7 : Option Addr} {sl7 : Array (Option Value)} {oc7 kV7 dc7 pm7 cd7 ct7 : Value}
    (a7 : PySem.W.nsIn K mainGlobals "_law_mixed" = some (some (.ref f7)))
    (l7 : K.lookup f7 = some ⟨oc7, od7, .func (PySem.W.fnOf "_law_mixed" "_law_mixed" (defArgs s__law_mixed) (defBody s__law_mixed) (defScope s__law_mixed) .none kV7 dc7 pm7 an7 cd7 ct7), sl7⟩)
    (c7 : PySem.W.codeIn K cd7 "_law_mixed" = true) (k7 : PySem.W.keepIn K (.ref f7) = true)
    {f8 : Addr} {od8 an8 : Option Addr} {sl8 : Array (Option Value)} {oc8 kV8 dc8 pm8 cd8 ct8 : Value}
    (a8 : PySem.W.nsIn K mainGlobals "_law_whole" = some (some (.ref f8)))
    (l8 : K.lookup f8 = some ⟨oc8, od8, .func (PySem.W.fnOf "_law_whole" "_law_whole" (defArgs s__law_whole) (defBody s__law_whole) (defScope s__law_whole) .none kV8 dc8 pm8 an8 cd8 ct8), sl8⟩)
    (c8 : PySem.W.codeIn K cd8 "_law_whole" = true) (k8 : PySem.W.keepIn K (.ref f8) = true)
    {f9 : Addr} {od9 an9 : Option Addr} {sl9 : Array (Option Value)} {oc9 kV9 dc9 pm9 cd9 ct9 : Value}
    (a9 : PySem.W.nsIn K mainGlobals "_law_web" = some (some (.ref f9)))
    (l9 : K.lookup f9 = some ⟨oc9, od9, .func (PySem.W.fnOf "_law_web" "_law_web" (defArgs s__law_web) (defBody s__law_web) (defScope s__law_web) .none kV9 dc9 pm9 an9 cd9 ct9), sl9⟩)
    (c9 : PySem.W.codeIn K cd9 "_law_web" = true) (k9 : PySem.W.keepIn K (.ref f9) = true)
    {f10 : Addr} {od10 an10 : Option Addr} {sl10 : Array (Option Value)} {oc10 kV10 dc10 pm10 cd10 ct10 : Value}
    (a10 : PySem.W.nsIn K mainGlobals "_law_counts" = some (some (.ref f10)))
    (l10 : K.lookup f10 = some ⟨oc10, od10, .func (PySem.W.fnOf "_law_counts" "_law_counts" (defArgs s__law_counts) (defBody s__law_counts) (defScope s__law_counts) .none kV10 dc10 pm10 an10 cd10 ct10), sl10⟩)
    (c10 : PySem.W.codeIn K cd10 "_law_counts" = true) (k10 : PySem.W.keepIn K (.ref f10) = true)
    {f11 : Addr} {od11 an11 : Option Addr} {sl11 : Array (Option Value)} {oc11 kV11 dc11 pm11 cd11 ct11 : Value}
    (a11 : PySem.W.nsIn K mainGlobals "_law_pieces" = some (some (.ref f11)))
    (l11 : K.lookup f11 = some ⟨oc11, od11, .func (PySem.W.fnOf "_law_pieces" "_law_pieces" (defArgs s__law_pieces) (defBody s__law_pieces) (defScope s__law_pieces) .none kV11 dc11 pm11 an11 cd11 ct11), sl11⟩)
    (c11 : PySem.W.codeIn K cd11 "_law_pieces" = true) (k11 : PySem.W.keepIn K (.ref f11) = true)
    {f12 : Addr} {od12 an12 : Option Addr} {sl12 : Array (Option Value)} {oc12 kV12 dc12 pm12 cd12 ct12 : Value}
    (a12 : PySem.W.nsIn K mainGlobals "_law_kind" = some (some (.ref f12)))
    (l12 : K.lookup f12 = some ⟨oc12, od12, .func (PySem.W.fnOf "_law_kind" "_law_kind" (defArgs s__law_kind) (defBody s__law_kind) (defScope s__law_kind) .none kV12 dc12 pm12 an12 cd12 ct12), sl12⟩)
    (c12 : PySem.W.codeIn K cd12 "_law_kind" = true) (k12 : PySem.W.keepIn K (.ref f12) = true)
    {f13 : Addr} {od13 an13 : Option Addr} {sl13 : Array (Option Value)} {oc13 kV13 dc13 pm13 cd13 ct13 : Value}
    (a13 : PySem.W.nsIn K mainGlobals "_law_no_web" = some (some (.ref f13)))
    (l13 : K.lookup f13 = some ⟨oc13, od13, .func (PySem.W.fnOf "_law_no_web" "_law_no_web" (defArgs s__law_no_web) (defBody s__law_no_web) (defScope s__law_no_web) .none kV13 dc13 pm13 an13 cd13 ct13), sl13⟩)
    (c13 : PySem.W.codeIn K cd13 "_law_no_web" = true) (k13 : PySem.W.keepIn K (.ref f13) = true)
    {f14 : Addr} {od14 an14 : Option Addr} {sl14 : Array (Option Value)} {oc14 kV14 dc14 pm14 cd14 ct14 : Value}
    (a14 : PySem.W.nsIn K mainGlobals "_law_told" = some (some (.ref f14)))
    (l14 : K.lookup f14 = some ⟨oc14, od14, .func (PySem.W.fnOf "_law_told" "_law_told" (defArgs s__law_told) (defBody s__law_told) (defScope s__law_told) .none kV14 dc14 pm14 an14 cd14 ct14), sl14⟩)
    (c14 : PySem.W.codeIn K cd14 "_law_told" = true) (k14 : PySem.W.keepIn K (.ref f14) = true)
    {f15 : Addr} {od15 an15 : Option Addr} {sl15 : Array (Option Value)} {oc15 kV15 dc15 pm15 cd15 ct15 : Value}
    (a15 : PySem.W.nsIn K mainGlobals "_law_points" = some (some (.ref f15)))
    (l15 : K.lookup f15 = some ⟨oc15, od15, .func (PySem.W.fnOf "_law_points" "_law_points" (defArgs s__law_points) (defBody s__law_points) (defScope s__law_points) .none kV15 dc15 pm15 an15 cd15 ct15), sl15⟩)
    (c15 : PySem.W.codeIn K cd15 "_law_points" = true) (k15 : PySem.W.keepIn K (.ref f15) = true)
    {f16 : Addr} {od16 an16 : Option Addr} {sl16 : Array (Option Value)} {oc16 kV16 dc16 pm16 cd16 ct16 : Value}
    (a16 : PySem.W.nsIn K mainGlobals "law" = some (some (.ref f16)))
    (l16 : K.lookup f16 = some ⟨oc16, od16, .func (PySem.W.fnOf "law" "law" (defArgs s_law) (defBody s_law) (defScope s_law) .none kV16 dc16 pm16 an16 cd16 ct16), sl16⟩)
    (c16 : PySem.W.codeIn K cd16 "law" = true) (k16 : PySem.W.keepIn K (.ref f16) = true)
    {C0 : Addr} (ca0 : PySem.W.nsIn K mainGlobals "TieError" = some (some (.ref C0))) (cx0 : PySem.W.excIn K C0 [.type "ValueError", .type "Exception", .type "BaseException", .type "object"] "ValueError.__new__" = true) (ck0 : PySem.W.keepIn K (.ref C0) = true)
    (cb0 : PySem.W.subIn K (.ref C0) (.type "BaseException") = some true) (ct_0 : PySem.W.typeIn K (.ref C0) = some (.type "type"))
    {C1 : Addr} (ca1 : PySem.W.nsIn K mainGlobals "BadCounts" = some (some (.ref C1))) (cx1 : PySem.W.excIn K C1 [.type "ValueError", .type "Exception", .type "BaseException", .type "object"] "ValueError.__new__" = true) (ck1 : PySem.W.keepIn K (.ref C1) = true)
    (cb1 : PySem.W.subIn K (.ref C1) (.type "BaseException") = some true) (ct_1 : PySem.W.typeIn K (.ref C1) = some (.type "type"))
    {C2 : Addr} (ca2 : PySem.W.nsIn K mainGlobals "BadMany" = some (some (.ref C2))) (cx2 : PySem.W.excIn K C2 [.type "ValueError", .type "Exception", .type "BaseException", .type "object"] "ValueError.__new__" = true) (ck2 : PySem.W.keepIn K (.ref C2) = true)
    (cb2 : PySem.W.subIn K (.ref C2) (.type "BaseException") = some true) (ct_2 : PySem.W.typeIn K (.ref C2) = some (.type "type"))
    {C3 : Addr} (ca3 : PySem.W.nsIn K mainGlobals "BadWeb" = some (some (.ref C3))) (cx3 : PySem.W.excIn K C3 [.type "ValueError", .type "Exception", .type "BaseException", .type "object"] "ValueError.__new__" = true) (ck3 : PySem.W.keepIn K (.ref C3) = true)
    (cb3 : PySem.W.subIn K (.ref C3) (.type "BaseException") = some true) (ct_3 : PySem.W.typeIn K (.ref C3) = some (.type "type"))
    {C4 : Addr} (ca4 : PySem.W.nsIn K mainGlobals "BadExchange" = some (some (.ref C4))) (cx4 : PySem.W.excIn K C4 [.type "ValueError", .type "Exception", .type "BaseException", .type "object"] "ValueError.__new__" = true) (ck4 : PySem.W.keepIn K (.ref C4) = true)
    (cb4 : PySem.W.subIn K (.ref C4) (.type "BaseException") = some true) (ct_4 : PySem.W.typeIn K (.ref C4) = some (.type "type"))
    {C5 : Addr} (ca5 : PySem.W.nsIn K mainGlobals "Unlike" = some (some (.ref C5))) (cx5 : PySem.W.excIn K C5 [.type "ValueError", .type "Exception", .type "BaseException", .type "object"] "ValueError.__new__" = true) (ck5 : PySem.W.keepIn K (.ref C5) = true)
    (cb5 : PySem.W.subIn K (.ref C5) (.type "BaseException") = some true) (ct_5 : PySem.W.typeIn K (.ref C5) = some (.type "type"))
    {C6 : Addr} (ca6 : PySem.W.nsIn K mainGlobals "NoWeb" = some (some (.ref C6))) (cx6 : PySem.W.excIn K C6 [.type "ValueError", .type "Exception", .type "BaseException", .type "object"] "ValueError.__new__" = true) (ck6 : PySem.W.keepIn K (.ref C6) = true)
    (cb6 : PySem.W.subIn K (.ref C6) (.type "BaseException") = some true) (ct_6 : PySem.W.typeIn K (.ref C6) = some (.type "type"))
    {t0 : Tok} (m0 : PySem.W.nsIn K mainGlobals "MOST_POINTS" = some (some (.int 10 t0)))
    (z0 : PySem.W.nsIn K mainGlobals "ValueError" = some none)
    (z1 : PySem.W.nsIn K mainGlobals "all" = some none)
    (z2 : PySem.W.nsIn K mainGlobals "bool" = some none)
    (z3 : PySem.W.nsIn K mainGlobals "int" = some none)
    (z4 : PySem.W.nsIn K mainGlobals "isinstance" = some none)
    (z5 : PySem.W.nsIn K mainGlobals "len" = some none)
    (z6 : PySem.W.nsIn K mainGlobals "list" = some none)
    (z7 : PySem.W.nsIn K mainGlobals "max" = some none)
    (z8 : PySem.W.nsIn K mainGlobals "min" = some none)
    (z9 : PySem.W.nsIn K mainGlobals "range" = some none)
    (z10 : PySem.W.nsIn K mainGlobals "set" = some none)
    (z11 : PySem.W.nsIn K mainGlobals "tuple" = some none)
    (z12 : PySem.W.nsIn K mainGlobals "type" = some none)
    (z13 : PySem.W.nsIn K mainGlobals "zip" = some none)
    (tb : PySem.W.hasDictIn K C0 = true)
    (en : PySem.W.specialIn K (.builtin "object.__class__") "__get__" = some (some (.builtin "getset_descriptor.__get__"))) (et : PySem.W.takesIn K (.builtin "object.__class__") = some true)
    (eg0 : PySem.W.findIn K (.ref C3) "__getattribute__" = some (some (.builtin "BaseException.__getattribute__"))) (ek0 : PySem.W.findIn K (.ref C3) "__getattr__" = some none) (ed0 : PySem.W.hasDictIn K C3 = true) (ea0 : PySem.W.findIn K (.ref C3) "__class__" = some (some (.builtin "object.__class__"))) (em0 : PySem.W.mroIn K C3 (.type "object") = some true) (es0 : PySem.W.subIn K (.ref C3) (.ref C0) = some true)
    (kk0_0 : PySem.W.kitOne K (.ref C3) (.ref C1) = some false)
    (kk0_1 : PySem.W.kitOne K (.ref C3) (.ref C2) = some false)
    (kk0_2 : PySem.W.kitOne K (.ref C3) (.ref C3) = some true)
    (kk0_3 : PySem.W.kitOne K (.ref C3) (.ref C4) = some false)
    (kk0_4 : PySem.W.kitOne K (.ref C3) (.ref C5) = some false)
    (kk0_5 : PySem.W.kitOne K (.ref C3) (.ref C6) = some false)
    (kv0 : PySem.W.kitOne K (.ref C3) (.type "ValueError") = some true) :
    ∃ fd : FuncData, (∀ (s : Shared) (v : Value), BindsTo s fd ⟨[v], []⟩ [("_law_script", v)]) ∧ ∀ base : Heap, K.In base → base.Ns mainGlobals mg → FnOk P w K mg base CX0 6 fa fd ["_law_script"] (sp_law K) := by
  have e := hfa.symm.trans (PySem.W.mg_of X G a16)
  cases e
  let a : Ad := { a_is_whole := f0, d_is_whole := PySem.W.fnOf "is_whole" "is_whole" (defArgs s_is_whole) (defBody s_is_whole) (defScope s_is_whole) .none kV0 dc0 pm0 an0 cd0 ct0, a_need_web := f1, d_need_web := PySem.W.fnOf "need_web" "need_web" (defArgs s_need_web) (defBody s_need_web) (defScope s_need_web) .none kV1 dc1 pm1 an1 cd1 ct1, a__is_tie := f2, d__is_tie := PySem.W.fnOf "_is_tie" "_is_tie" (defArgs s__is_tie) (defBody s__is_tie) (defScope s__is_tie) .none kV2 dc2 pm2 an2 cd2 ct2, a_counts_of := f3, d_counts_of := PySem.W.fnOf "counts_of" "counts_of" (defArgs s_counts_of) (defBody s_counts_of) (defScope s_counts_of) .none kV3 dc3 pm3 an3 cd3 ct3, a_pieces := f4, d_pieces := PySem.W.fnOf "pieces" "pieces" (defArgs s_pieces) (defBody s_pieces) (defScope s_pieces) .none kV4 dc4 pm4 an4 cd4 ct4, a__first_points := f5, d__first_points := PySem.W.fnOf "_first_points" "_first_points" (defArgs s__first_points) (defBody s__first_points) (defScope s__first_points) .none kV5 dc5 pm5 an5 cd5 ct5, a__law_cell := f6, d__law_cell := PySem.W.fnOf "_law_cell" "_law_cell" (defArgs s__law_cell) (defBody s__law_cell) (defScope s__law_cell) .none kV6 dc6 pm6 an6 cd6 ct6, a__law_mixed := f7, d__law_mixed := PySem.W.fnOf "_law_mixed" "_law_mixed" (defArgs s__law_mixed) (defBody s__law_mixed) (defScope s__law_mixed) .none kV7 dc7 pm7 an7 cd7 ct7, a__law_whole := f8, d__law_whole := PySem.W.fnOf "_law_whole" "_law_whole" (defArgs s__law_whole) (defBody s__law_whole) (defScope s__law_whole) .none kV8 dc8 pm8 an8 cd8 ct8, a__law_web := f9, d__law_web := PySem.W.fnOf "_law_web" "_law_web" (defArgs s__law_web) (defBody s__law_web) (defScope s__law_web) .none kV9 dc9 pm9 an9 cd9 ct9, a__law_counts := f10, d__law_counts := PySem.W.fnOf "_law_counts" "_law_counts" (defArgs s__law_counts) (defBody s__law_counts) (defScope s__law_counts) .none kV10 dc10 pm10 an10 cd10 ct10, a__law_pieces := f11, d__law_pieces := PySem.W.fnOf "_law_pieces" "_law_pieces" (defArgs s__law_pieces) (defBody s__law_pieces) (defScope s__law_pieces) .none kV11 dc11 pm11 an11 cd11 ct11, a__law_kind := f12, d__law_kind := PySem.W.fnOf "_law_kind" "_law_kind" (defArgs s__law_kind) (defBody s__law_kind) (defScope s__law_kind) .none kV12 dc12 pm12 an12 cd12 ct12, a__law_no_web := f13, d__law_no_web := PySem.W.fnOf "_law_no_web" "_law_no_web" (defArgs s__law_no_web) (defBody s__law_no_web) (defScope s__law_no_web) .none kV13 dc13 pm13 an13 cd13 ct13, a__law_told := f14, d__law_told := PySem.W.fnOf "_law_told" "_law_told" (defArgs s__law_told) (defBody s__law_told) (defScope s__law_told) .none kV14 dc14 pm14 an14 cd14 ct14, a__law_points := f15, d__law_points := PySem.W.fnOf "_law_points" "_law_points" (defArgs s__law_points) (defBody s__law_points) (defScope s__law_points) .none kV15 dc15 pm15 an15 cd15 ct15, a_law := fa, d_law := PySem.W.fnOf "law" "law" (defArgs s_law) (defBody s_law) (defScope s_law) .none kV16 dc16 pm16 an16 cd16 ct16, c_TieError := C0, c_BadCounts := C1, c_BadMany := C2, c_BadWeb := C3, c_BadExchange := C4, c_Unlike := C5, c_NoWeb := C6, t_MOST_POINTS := t0 }
  have T : Top K mg a := { g_is_whole := PySem.W.mg_of X G a0, F_is_whole := fun_mk (st := s_is_whole) l0 c0 k0, b_is_whole := (fun_mk (st := s_is_whole) l0 c0 k0).binds (ps := ["thing", "least", "most"]) fun _ _ _ _ _ _ us hl => match us, hl with | [_, _, _], _ => rfl, g_need_web := PySem.W.mg_of X G a1, F_need_web := fun_mk (st := s_need_web) l1 c1 k1, b_need_web := (fun_mk (st := s_need_web) l1 c1 k1).binds (ps := ["size", "ties"]) fun _ _ _ _ _ _ us hl => match us, hl with | [_, _], _ => rfl, g__is_tie := PySem.W.mg_of X G a2, F__is_tie := fun_mk (st := s__is_tie) l2 c2 k2, b__is_tie := (fun_mk (st := s__is_tie) l2 c2 k2).binds (ps := ["size", "thing"]) fun _ _ _ _ _ _ us hl => match us, hl with | [_, _], _ => rfl, g_counts_of := PySem.W.mg_of X G a3, F_counts_of := fun_mk (st := s_counts_of) l3 c3 k3, b_counts_of := (fun_mk (st := s_counts_of) l3 c3 k3).binds (ps := ["size", "ties"]) fun _ _ _ _ _ _ us hl => match us, hl with | [_, _], _ => rfl, g_pieces := PySem.W.mg_of X G a4, F_pieces := fun_mk (st := s_pieces) l4 c4 k4, b_pieces := (fun_mk (st := s_pieces) l4 c4 k4).binds (ps := ["size", "ties"]) fun _ _ _ _ _ _ us hl => match us, hl with | [_, _], _ => rfl, g__first_points := PySem.W.mg_of X G a5, F__first_points := fun_mk (st := s__first_points) l5 c5 k5, b__first_points := (fun_mk (st := s__first_points) l5 c5 k5).binds (ps := ["size", "ties"]) fun _ _ _ _ _ _ us hl => match us, hl with | [_, _], _ => rfl, g__law_cell := PySem.W.mg_of X G a6, F__law_cell := fun_mk (st := s__law_cell) l6 c6 k6, b__law_cell := (fun_mk (st := s__law_cell) l6 c6 k6).binds (ps := ["_law_script", "_law_k"]) fun _ _ _ _ _ _ us hl => match us, hl with | [_, _], _ => rfl, g__law_mixed := PySem.W.mg_of X G a7, F__law_mixed := fun_mk (st := s__law_mixed) l7 c7 k7, b__law_mixed := (fun_mk (st := s__law_mixed) l7 c7 k7).binds (ps := ["_law_cell_here", "_law_k"]) fun _ _ _ _ _ _ us hl => match us, hl with | [_, _], _ => rfl, g__law_whole := PySem.W.mg_of X G a8, F__law_whole := fun_mk (st := s__law_whole) l8 c8 k8, b__law_whole := (fun_mk (st := s__law_whole) l8 c8 k8).binds (ps := ["_law_found"]) fun _ _ _ _ _ _ us hl => match us, hl with | [_], _ => rfl, g__law_web := PySem.W.mg_of X G a9, F__law_web := fun_mk (st := s__law_web) l9 c9 k9, b__law_web := (fun_mk (st := s__law_web) l9 c9 k9).binds (ps := ["_law_script", "_law_first", "_law_most"]) fun _ _ _ _ _ _ us hl => match us, hl with | [_, _, _], _ => rfl, g__law_counts := PySem.W.mg_of X G a10, F__law_counts := fun_mk (st := s__law_counts) l10 c10 k10, b__law_counts := (fun_mk (st := s__law_counts) l10 c10 k10).binds (ps := ["_law_size", "_law_ties"]) fun _ _ _ _ _ _ us hl => match us, hl with | [_, _], _ => rfl, g__law_pieces := PySem.W.mg_of X G a11, F__law_pieces := fun_mk (st := s__law_pieces) l11 c11 k11, b__law_pieces := (fun_mk (st := s__law_pieces) l11 c11 k11).binds (ps := ["_law_size", "_law_ties"]) fun _ _ _ _ _ _ us hl => match us, hl with | [_, _], _ => rfl, g__law_kind := PySem.W.mg_of X G a12, F__law_kind := fun_mk (st := s__law_kind) l12 c12 k12, b__law_kind := (fun_mk (st := s__law_kind) l12 c12 k12).binds (ps := ["_law_error"]) fun _ _ _ _ _ _ us hl => match us, hl with | [_], _ => rfl, g__law_no_web := PySem.W.mg_of X G a13, F__law_no_web := fun_mk (st := s__law_no_web) l13 c13 k13, b__law_no_web := (fun_mk (st := s__law_no_web) l13 c13 k13).binds (ps := ["_law_size", "_law_ties", "_law_number"]) fun _ _ _ _ _ _ us hl => match us, hl with | [_, _, _], _ => rfl, g__law_told := PySem.W.mg_of X G a14, F__law_told := fun_mk (st := s__law_told) l14 c14 k14, b__law_told := (fun_mk (st := s__law_told) l14 c14 k14).binds (ps := ["_law_kind_here", "_law_size", "_law_ties"]) fun _ _ _ _ _ _ us hl => match us, hl with | [_, _, _], _ => rfl, g__law_points := PySem.W.mg_of X G a15, F__law_points := fun_mk (st := s__law_points) l15 c15 k15, b__law_points := (fun_mk (st := s__law_points) l15 c15 k15).binds (ps := ["_law_found", "_law_due"]) fun _ _ _ _ _ _ us hl => match us, hl with | [_, _], _ => rfl, g_law := PySem.W.mg_of X G a16, F_law := fun_mk (st := s_law) l16 c16 k16, b_law := (fun_mk (st := s_law) l16 c16 k16).binds (ps := ["_law_script"]) fun _ _ _ _ _ _ us hl => match us, hl with | [_], _ => rfl, g_TieError := PySem.W.mg_of X G ca0, x_TieError := cx0, k_TieError := ck0, eb_TieError := cb0, et_TieError := ct_0, g_BadCounts := PySem.W.mg_of X G ca1, x_BadCounts := cx1, k_BadCounts := ck1, eb_BadCounts := cb1, et_BadCounts := ct_1, g_BadMany := PySem.W.mg_of X G ca2, x_BadMany := cx2, k_BadMany := ck2, eb_BadMany := cb2, et_BadMany := ct_2, g_BadWeb := PySem.W.mg_of X G ca3, x_BadWeb := cx3, k_BadWeb := ck3, eb_BadWeb := cb3, et_BadWeb := ct_3, g_BadExchange := PySem.W.mg_of X G ca4, x_BadExchange := cx4, k_BadExchange := ck4, eb_BadExchange := cb4, et_BadExchange := ct_4, g_Unlike := PySem.W.mg_of X G ca5, x_Unlike := cx5, k_Unlike := ck5, eb_Unlike := cb5, et_Unlike := ct_5, g_NoWeb := PySem.W.mg_of X G ca6, x_NoWeb := cx6, k_NoWeb := ck6, eb_NoWeb := cb6, et_NoWeb := ct_6, g_MOST_POINTS := PySem.W.mg_of X G m0, n_ValueError := PySem.W.mg_none_of X G z0, n_all := PySem.W.mg_none_of X G z1, n_bool := PySem.W.mg_none_of X G z2, n_int := PySem.W.mg_none_of X G z3, n_isinstance := PySem.W.mg_none_of X G z4, n_len := PySem.W.mg_none_of X G z5, n_list := PySem.W.mg_none_of X G z6, n_max := PySem.W.mg_none_of X G z7, n_min := PySem.W.mg_none_of X G z8, n_range := PySem.W.mg_none_of X G z9, n_set := PySem.W.mg_none_of X G z10, n_tuple := PySem.W.mg_none_of X G z11, n_type := PySem.W.mg_none_of X G z12, n_zip := PySem.W.mg_none_of X G z13 }
  have C : Cls K a := { kc0 := ⟨⟨eg0, ek0, cb3, ed0, ea0, en, et, em0⟩, kk0_0, kk0_1, kk0_2, kk0_3, kk0_4, kk0_5, kv0, by decide⟩, ex0 := PySem.W.exm_ref cb0 tb ct_0 es0 }
  exact ⟨a.d_law, fun s v => .of_eq rfl, fun base _ _ => ok_law T C⟩
end K2
end
set_option Elab.async false
set_option linter.all false
set_option maxRecDepth 100000
set_option maxHeartbeats 0
open PySem PySem.W PyProof.Rows
theorem PySem.Challenge.cw_tiecount_k02_webs_and_pieces_holds : PySem.Challenge.rw_tiecount_k02_webs_and_pieces.Holds := by
  w_on; o_law; k_head; (case hw => w_witness2)
  k_fill
  refine L2.walk_ofB (l := PySem.Challenge.rw_tiecount_k02_webs_and_pieces) (n := 63) (k := 6) (x := "_law_script") (CX := fun _ => L2.CX0) (sp := fun w => K2.sp_law _) rfl (by decide) rfl ⟨rfl, by decide, by decide⟩ (fun w h Y => PySem.W.kIn_of Y) ?F (fun _ _ a ns hl hb _ hS => ⟨a, ns, rfl, hS, fun z hz => Z.bd_of (hb z hz), fun _ _ => rfl⟩) (fun _ _ _ _ _ h => h)
  case F =>
    intro w mg fa h KX G hmg
    refine' K2.all_mk KX G hmg ?a0 ?l0 ?c0 ?k0 ?a1 ?l1 ?c1 ?k1 ?a2 ?l2 ?c2 ?k2 ?a3 ?l3 ?c3 ?k3 ?a4 ?l4 ?c4 ?k4 ?a5 ?l5 ?c5 ?k5 ?a6 ?l6 ?c6 ?k6 ?a7 ?l7 ?c7 ?k7 ?a8 ?l8 ?c8 ?k8 ?a9 ?l9 ?c9 ?k9 ?a10 ?l10 ?c10 ?k10 ?a11 ?l11 ?c11 ?k11 ?a12 ?l12 ?c12 ?k12 ?a13 ?l13 ?c13 ?k13 ?a14 ?l14 ?c14 ?k14 ?a15 ?l15 ?c15 ?k15 ?a16 ?l16 ?c16 ?k16 ?ca0 ?cx0 ?ck0 ?cb0 ?ct_0 ?ca1 ?cx1 ?ck1 ?cb1 ?ct_1 ?ca2 ?cx2 ?ck2 ?cb2 ?ct_2 ?ca3 ?cx3 ?ck3 ?cb3 ?ct_3 ?ca4 ?cx4 ?ck4 ?cb4 ?ct_4 ?ca5 ?cx5 ?ck5 ?cb5 ?ct_5 ?ca6 ?cx6 ?ck6 ?cb6 ?ct_6 ?m0 ?z0 ?z1 ?z2 ?z3 ?z4 ?z5 ?z6 ?z7 ?z8 ?z9 ?z10 ?z11 ?z12 ?z13 ?tb ?en ?et ?eg0 ?ek0 ?ed0 ?ea0 ?em0 ?es0 ?kk0_0 ?kk0_1 ?kk0_2 ?kk0_3 ?kk0_4 ?kk0_5 ?kv0
    (case a0 => first | k_is | k_exc | kernel_rfl)
    (case l0 => first | k_is | k_exc | kernel_rfl)
    (case c0 => first | k_is | k_exc | kernel_rfl)
    (case k0 => first | k_is | k_exc | kernel_rfl)
    (case a1 => first | k_is | k_exc | kernel_rfl)
    (case l1 => first | k_is | k_exc | kernel_rfl)
    (case c1 => first | k_is | k_exc | kernel_rfl)
    (case k1 => first | k_is | k_exc | kernel_rfl)
    (case a2 => first | k_is | k_exc | kernel_rfl)
    (case l2 => first | k_is | k_exc | kernel_rfl)
    (case c2 => first | k_is | k_exc | kernel_rfl)
    (case k2 => first | k_is | k_exc | kernel_rfl)
    (case a3 => first | k_is | k_exc | kernel_rfl)
    (case l3 => first | k_is | k_exc | kernel_rfl)
    (case c3 => first | k_is | k_exc | kernel_rfl)
    (case k3 => first | k_is | k_exc | kernel_rfl)
    (case a4 => first | k_is | k_exc | kernel_rfl)
    (case l4 => first | k_is | k_exc | kernel_rfl)
    (case c4 => first | k_is | k_exc | kernel_rfl)
    (case k4 => first | k_is | k_exc | kernel_rfl)
    (case a5 => first | k_is | k_exc | kernel_rfl)
    (case l5 => first | k_is | k_exc | kernel_rfl)
    (case c5 => first | k_is | k_exc | kernel_rfl)
    (case k5 => first | k_is | k_exc | kernel_rfl)
    (case a6 => first | k_is | k_exc | kernel_rfl)
    (case l6 => first | k_is | k_exc | kernel_rfl)
    (case c6 => first | k_is | k_exc | kernel_rfl)
    (case k6 => first | k_is | k_exc | kernel_rfl)
    (case a7 => first | k_is | k_exc | kernel_rfl)
    (case l7 => first | k_is | k_exc | kernel_rfl)
    (case c7 => first | k_is | k_exc | kernel_rfl)
    (case k7 => first | k_is | k_exc | kernel_rfl)
    (case a8 => first | k_is | k_exc | kernel_rfl)
    (case l8 => first | k_is | k_exc | kernel_rfl)
    (case c8 => first | k_is | k_exc | kernel_rfl)
    (case k8 => first | k_is | k_exc | kernel_rfl)
    (case a9 => first | k_is | k_exc | kernel_rfl)
    (case l9 => first | k_is | k_exc | kernel_rfl)
    (case c9 => first | k_is | k_exc | kernel_rfl)
    (case k9 => first | k_is | k_exc | kernel_rfl)
    (case a10 => first | k_is | k_exc | kernel_rfl)
    (case l10 => first | k_is | k_exc | kernel_rfl)
    (case c10 => first | k_is | k_exc | kernel_rfl)
    (case k10 => first | k_is | k_exc | kernel_rfl)
    (case a11 => first | k_is | k_exc | kernel_rfl)
    (case l11 => first | k_is | k_exc | kernel_rfl)
    (case c11 => first | k_is | k_exc | kernel_rfl)
    (case k11 => first | k_is | k_exc | kernel_rfl)
    (case a12 => first | k_is | k_exc | kernel_rfl)
    (case l12 => first | k_is | k_exc | kernel_rfl)
    (case c12 => first | k_is | k_exc | kernel_rfl)
    (case k12 => first | k_is | k_exc | kernel_rfl)
    (case a13 => first | k_is | k_exc | kernel_rfl)
    (case l13 => first | k_is | k_exc | kernel_rfl)
    (case c13 => first | k_is | k_exc | kernel_rfl)
    (case k13 => first | k_is | k_exc | kernel_rfl)
    (case a14 => first | k_is | k_exc | kernel_rfl)
    (case l14 => first | k_is | k_exc | kernel_rfl)
    (case c14 => first | k_is | k_exc | kernel_rfl)
    (case k14 => first | k_is | k_exc | kernel_rfl)
    (case a15 => first | k_is | k_exc | kernel_rfl)
    (case l15 => first | k_is | k_exc | kernel_rfl)
    (case c15 => first | k_is | k_exc | kernel_rfl)
    (case k15 => first | k_is | k_exc | kernel_rfl)
    (case a16 => first | k_is | k_exc | kernel_rfl)
    (case l16 => first | k_is | k_exc | kernel_rfl)
    (case c16 => first | k_is | k_exc | kernel_rfl)
    (case k16 => first | k_is | k_exc | kernel_rfl)
    (case ca0 => first | k_is | k_exc | kernel_rfl)
    (case cx0 => first | k_is | k_exc | kernel_rfl)
    (case ck0 => first | k_is | k_exc | kernel_rfl)
    (case cb0 => first | k_is | k_exc | kernel_rfl)
    (case ct_0 => first | k_is | k_exc | kernel_rfl)
    (case ca1 => first | k_is | k_exc | kernel_rfl)
    (case cx1 => first | k_is | k_exc | kernel_rfl)
    (case ck1 => first | k_is | k_exc | kernel_rfl)
    (case cb1 => first | k_is | k_exc | kernel_rfl)
    (case ct_1 => first | k_is | k_exc | kernel_rfl)
    (case ca2 => first | k_is | k_exc | kernel_rfl)
    (case cx2 => first | k_is | k_exc | kernel_rfl)
    (case ck2 => first | k_is | k_exc | kernel_rfl)
    (case cb2 => first | k_is | k_exc | kernel_rfl)
    (case ct_2 => first | k_is | k_exc | kernel_rfl)
    (case ca3 => first | k_is | k_exc | kernel_rfl)
    (case cx3 => first | k_is | k_exc | kernel_rfl)
    (case ck3 => first | k_is | k_exc | kernel_rfl)
    (case cb3 => first | k_is | k_exc | kernel_rfl)
    (case ct_3 => first | k_is | k_exc | kernel_rfl)
    (case ca4 => first | k_is | k_exc | kernel_rfl)
    (case cx4 => first | k_is | k_exc | kernel_rfl)
    (case ck4 => first | k_is | k_exc | kernel_rfl)
    (case cb4 => first | k_is | k_exc | kernel_rfl)
    (case ct_4 => first | k_is | k_exc | kernel_rfl)
    (case ca5 => first | k_is | k_exc | kernel_rfl)
    (case cx5 => first | k_is | k_exc | kernel_rfl)
    (case ck5 => first | k_is | k_exc | kernel_rfl)
    (case cb5 => first | k_is | k_exc | kernel_rfl)
    (case ct_5 => first | k_is | k_exc | kernel_rfl)
    (case ca6 => first | k_is | k_exc | kernel_rfl)
    (case cx6 => first | k_is | k_exc | kernel_rfl)
    (case ck6 => first | k_is | k_exc | kernel_rfl)
    (case cb6 => first | k_is | k_exc | kernel_rfl)
    (case ct_6 => first | k_is | k_exc | kernel_rfl)
    (case m0 => first | k_is | k_exc | kernel_rfl)
    (case z0 => first | k_is | k_exc | kernel_rfl)
    (case z1 => first | k_is | k_exc | kernel_rfl)
    (case z2 => first | k_is | k_exc | kernel_rfl)
    (case z3 => first | k_is | k_exc | kernel_rfl)
    (case z4 => first | k_is | k_exc | kernel_rfl)
    (case z5 => first | k_is | k_exc | kernel_rfl)
    (case z6 => first | k_is | k_exc | kernel_rfl)
    (case z7 => first | k_is | k_exc | kernel_rfl)
    (case z8 => first | k_is | k_exc | kernel_rfl)
    (case z9 => first | k_is | k_exc | kernel_rfl)
    (case z10 => first | k_is | k_exc | kernel_rfl)
    (case z11 => first | k_is | k_exc | kernel_rfl)
    (case z12 => first | k_is | k_exc | kernel_rfl)
    (case z13 => first | k_is | k_exc | kernel_rfl)
    (case tb => first | k_is | k_exc | kernel_rfl)
    (case en => first | k_is | k_exc | kernel_rfl)
    (case et => first | k_is | k_exc | kernel_rfl)
    (case eg0 => first | k_is | k_exc | kernel_rfl)
    (case ek0 => first | k_is | k_exc | kernel_rfl)
    (case ed0 => first | k_is | k_exc | kernel_rfl)
    (case ea0 => first | k_is | k_exc | kernel_rfl)
    (case em0 => first | k_is | k_exc | kernel_rfl)
    (case es0 => first | k_is | k_exc | kernel_rfl)
    (case kk0_0 => first | k_is | k_exc | kernel_rfl)
    (case kk0_1 => first | k_is | k_exc | kernel_rfl)
    (case kk0_2 => first | k_is | k_exc | kernel_rfl)
    (case kk0_3 => first | k_is | k_exc | kernel_rfl)
    (case kk0_4 => first | k_is | k_exc | kernel_rfl)
    (case kk0_5 => first | k_is | k_exc | kernel_rfl)
    (case kv0 => first | k_is | k_exc | kernel_rfl)
