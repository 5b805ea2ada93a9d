import PyProof.Rows.All
import Wide.All
import OpenK.AllK
import Wide.FinOn
import HandS.ForMost
import HandS.Conv
import HandS.Codes
import HandS.Deep
import HandS.Sort
import HandS.Wide
import HandS.IsInst
import HandS.Walk
import HandS.Style
import HandS.Steps
import HandS.SortRule
import KE.KDictPairs
import PyProof.ListStr
import HandS.FStr
import HandS.TupAny
import HandS.TupLe
import PySem.Challenge.RW_officepapers_k03_open_days_counted_and_n
set_option Elab.async false
set_option linter.all false
set_option maxRecDepth 100000
set_option maxHeartbeats 4000000
set_option Elab.async false
set_option linter.all false
set_option maxRecDepth 100000
namespace J
open PySem PySem.Spec PyProof.Rows L2

/-! ### what persists -/
/-- the law's hand: five places, a list and four ints -/
def handSh : HO → Bool
  | .lst [.ref _, .int _, .int _, .int _, .int _] => true
  | _ => false
def Ex (H H' : Hp) : Prop := ∀ a o, H a = some o → H' a = some o
structure Xb (H H' : Hp) : Prop where
  keep : ∀ a o, H a = some o → handSh o = false → H' a = some o
  free : ∀ a, H' a = none → H a = none
instance {H H' : Hp} : CoeFun (Xb H H') (fun _ => ∀ a o, H a = some o → handSh o = false → H' a = some o) := ⟨Xb.keep⟩
theorem Ex.refl (H : Hp) : Ex H H := fun _ _ h => h
theorem Ex.trans {H H1 H2 : Hp} (a : Ex H H1) (b : Ex H1 H2) : Ex H H2 := fun x o h => b x o (a x o h)
theorem fresh_back {H H' : Hp} {p : Addr} (e : Ex H H') (h : H' p = none) : H p = none := by
  cases h1 : H p with
  | none => rfl
  | some o =>
    rw [e p o h1] at h
    cases h
theorem Ex.b {H H' : Hp} (e : Ex H H') : Xb H H' := ⟨fun a o h _ => e a o h, fun _ n => fresh_back e n⟩
theorem Ex.sqL {H H' : Hp} (e : Ex H H') {K : PySem.W.Frag} {a : Addr} {xs : List V} (h : SqL K H a xs) : SqL K H' a xs := by
  rcases h with (h | ⟨o, h⟩) | h
  · exact .inl (.inl (e _ _ h))
  · exact .inl (.inr ⟨o, e _ _ h⟩)
  · exact .inr h
theorem Xb.refl (H : Hp) : Xb H H := ⟨fun _ _ h _ => h, fun _ n => n⟩
theorem Xb.trans {H H1 H2 : Hp} (a : Xb H H1) (b : Xb H1 H2) : Xb H H2 := ⟨fun x o h n => b x o (a x o h n) n, fun x n => a.free x (b.free x n)⟩
theorem Ex.new {H : Hp} {p : Addr} {o : HO} (h : H p = none) : Ex H (upd H p o) := fun a u e => by
  rw [upd_ne (ne_of_none e h)]
  exact e
theorem Ex.mut {H H' : Hp} {p : Addr} {o : HO} (e : Ex H H') (h : H p = none) : Ex H (upd H' p o) := fun a u ha => by
  rw [upd_ne (ne_of_none ha h)]
  exact e a u ha
theorem upd_free {H : Hp} {p a : Addr} {o : HO} (h : upd H p o a = none) : H a = none ∧ a ≠ p := by
  by_cases z : a = p
  · subst z; rw [upd_same] at h; cases h
  · rw [upd_ne z] at h; exact ⟨h, z⟩
theorem Xb.mut {H H' : Hp} {p : Addr} {o : HO} (e : Xb H H') (h : H p = none) : Xb H (upd H' p o) := ⟨fun a u ha n => by
  rw [upd_ne (ne_of_none ha h)]
  exact e a u ha n, fun a n => e.free a (upd_free n).1⟩
theorem Xb.tup {H H' : Hp} (e : Xb H H') {K : PySem.W.Frag} {a : Addr} {xs : List V} (h : SqT K H a xs) : SqT K H' a xs := by
  rcases h with (h | ⟨o, h⟩) | h
  · exact .inl (.inl (e _ _ h rfl))
  · exact .inl (.inr ⟨o, e _ _ h rfl⟩)
  · exact .inr h

/-! ### values that stand for data -/
mutual
inductive Rp (K : PySem.W.Frag) (H : Hp) : V → PyData → Prop
  | non : Rp K H .non .none
  | bl (b : Bool) : Rp K H (.bl b) (.bool b)
  | int (i : Int) : Rp K H (.int i) (.int i)
  | str (x : Str) : Rp K H (.str x) (.str x)
  | tup {a : Addr} {xs : List V} {ds : List PyData} : SqT K H a xs → RpAll K H xs ds → Rp K H (.ref a) (.tuple ds)
  | lst {a : Addr} {xs : List V} {ds : List PyData} : H a = some (.lst xs) → handSh (.lst xs) = false → RpAll K H xs ds → Rp K H (.ref a) (.list ds)
  | dct {a : Addr} : H a = some (.dK []) → Rp K H (.ref a) (.dict [])
inductive RpAll (K : PySem.W.Frag) (H : Hp) : List V → List PyData → Prop
  | nil : RpAll K H [] []
  | cons {v : V} {vs : List V} {d : PyData} {ds : List PyData} : Rp K H v d → RpAll K H vs ds → RpAll K H (v :: vs) (d :: ds)
end
section
variable {K : PySem.W.Frag} {H H' : Hp}
mutual
theorem Rp.mono (e : Xb H H') : ∀ {v : V} {d : PyData}, Rp K H v d → Rp K H' v d
  | _, _, .non => .non
  | _, _, .bl b => .bl b
  | _, _, .int i => .int i
  | _, _, .str x => .str x
  | _, _, .tup h r => .tup (e.tup h) (RpAll.mono e r)
  | _, _, .lst h n r => .lst (e _ _ h n) n (RpAll.mono e r)
  | _, _, .dct h => .dct (e _ _ h rfl)
theorem RpAll.mono (e : Xb H H') : ∀ {vs : List V} {ds : List PyData}, RpAll K H vs ds → RpAll K H' vs ds
  | _, _, .nil => .nil
  | _, _, .cons h r => .cons (Rp.mono e h) (RpAll.mono e r)
end
theorem RpAll.len : ∀ {vs : List V} {ds : List PyData}, RpAll K H vs ds → vs.length = ds.length
  | _, _, .nil => rfl
  | _, _, .cons _ r => congrArg Nat.succ (RpAll.len r)
theorem RpAll.at : ∀ {vs : List V} {ds : List PyData} {i : Nat} {v : V}, RpAll K H vs ds → vs[i]? = some v → ∃ d, ds[i]? = some d ∧ Rp K H v d
  | _, _, _, _, .nil, h => by simp at h
  | _, _, 0, _, .cons h _, e => ⟨_, rfl, by cases e; exact h⟩
  | _, _, i + 1, _, .cons _ r, e => RpAll.at (i := i) r e
theorem RpAll.at' : ∀ {vs : List V} {ds : List PyData} {i : Nat} {d : PyData}, RpAll K H vs ds → ds[i]? = some d → ∃ v, vs[i]? = some v ∧ Rp K H v d
  | _, _, _, _, .nil, h => by simp at h
  | _, _, 0, _, .cons h _, e => ⟨_, rfl, by cases e; exact h⟩
  | _, _, i + 1, _, .cons _ r, e => RpAll.at' (i := i) r e
theorem RpAll.app : ∀ {vs ws : List V} {ds es : List PyData}, RpAll K H vs ds → RpAll K H ws es → RpAll K H (vs ++ ws) (ds ++ es)
  | _, _, _, _, .nil, r => r
  | _, _, _, _, .cons h t, r => .cons h (RpAll.app t r)
theorem RpAll.take : ∀ {vs : List V} {ds : List PyData} (n : Nat), RpAll K H vs ds → RpAll K H (vs.take n) (ds.take n)
  | _, _, 0, _ => by simp; exact .nil
  | _, _, n + 1, .nil => .nil
  | _, _, n + 1, .cons h t => .cons h (RpAll.take n t)
theorem RpAll.drop : ∀ {vs : List V} {ds : List PyData} (n : Nat), RpAll K H vs ds → RpAll K H (vs.drop n) (ds.drop n)
  | _, _, 0, r => r
  | _, _, n + 1, .nil => .nil
  | _, _, n + 1, .cons _ t => RpAll.drop n t
theorem RpAll.ints (ns : List Int) : RpAll K H (ns.map V.int) (ns.map PyData.int) := by
  induction ns with
  | nil => exact .nil
  | cons n r ih => exact .cons (.int n) ih
mutual
theorem Rp.dp : ∀ {v : V} {d : PyData}, Rp K H v d → (∀ l, d ≠ .dict l) → PyData.canLay0 d = true → Dp K H v d
  | _, _, .non, _, _ => .non
  | _, _, .bl b, _, _ => .bl b
  | _, _, .int i, _, _ => .int i
  | _, _, .str x, _, _ => .str x
  | _, _, .tup h r, _, c => .tup h (RpAll.dp r (by simpa [PyData.canLay0] using c))
  | _, _, .lst h _ r, _, c => .lst (.inl (.inl h)) (RpAll.dp r (by simpa [PyData.canLay0] using c))
  | _, _, .dct _, n, _ => absurd rfl (n _)
theorem RpAll.dp : ∀ {vs : List V} {ds : List PyData}, RpAll K H vs ds → PyData.canLayAll0 ds = true → DpAll K H vs ds
  | _, _, .nil, _ => .nil
  | _, _, .cons h r, c => by
    have c2 := c
    simp only [PyData.canLayAll0, Bool.and_eq_true] at c2
    exact .cons (Rp.dp h (fun l e => by subst e; simp [PyData.canLay0] at c2) c2.1) (RpAll.dp r c2.2)
end
end

/-! ### readings, a step at a time -/
/-- a new object of so many parts -/
def NewB (f : List V → HO) (xs : List V) (H : Hp) (Q : VK) : Prop := xs.length ≤ sizeLine ∧ ∀ p, H p = none → Q (.ref p) (upd H p (f xs))
section
variable {K : PySem.W.Frag} {σ : L2.St} {H : Hp} {i j : Int} {n : Nat} {v x y : V} {Q : VK} {D : Ends} {ta tb tc te : TE} {t u c : TT} {tu tw : TS} {r r' : R2} {tr tk : TA} {QA : List V → Hp → Prop} {QB : Bool → Hp → Prop} {A B : Prop} {b : Bool} {p : Prop}
theorem w_seq (h : tu { D with nx := tw D } σ H) : tSeq tu tw D σ H := h
theorem w_next (h : D.nx σ H) : tNext D σ H := h
theorem w_brk (h : D.bk σ H) : tBreak D σ H := h
theorem w_cont (h : D.ct σ H) : tCont D σ H := h
theorem w_asg (h : te σ H fun v H1 => D.nx (σ.set n (some v)) H1) : tAsg te (gName n) D σ H := h
theorem w_asgG {g : TG} (h : te σ H fun v H1 => g v σ H1 D.nx) : tAsg te g D σ H := h
theorem w_gSub {s : TSet} {q : L2.St → Hp → Prop} (h : ta σ H fun o H1 => tb σ H1 fun i H2 => s o i v H2 fun H3 => q σ H3) : gSub ta tb s v σ H q := h
theorem w_ret (h : te σ H D.rt) : tRet te D σ H := h
theorem w_retN (h : D.rt .non H) : tRetN D σ H := h
theorem w_drop (h : te σ H fun _ H1 => D.nx σ H1) : tDrop te D σ H := h
theorem w_ifS (h : c σ H fun b H1 => if b = true then tu D σ H1 else tw D σ H1) : tIfS c tu tw D σ H := h
theorem w_aug {ti : TIp} (h0 : σ[n]? = some (some x)) (h : te σ H fun y H1 => ti x y H1 fun z H2 => D.nx (σ.set n (some z)) H2) : tAug n te ti D σ H := ⟨x, h0, h⟩
theorem w_ipadd {k : VK} (q : k (.int (i + j)) H) : ipI (fun i j => i + j) (.int i) (.int j) H k := ⟨i, j, rfl, rfl, q⟩
theorem w_ipsub {k : VK} (q : k (.int (i - j)) H) : ipI (fun i j => i - j) (.int i) (.int j) H k := ⟨i, j, rfl, rfl, q⟩
theorem w_isVar (h : tVar n σ H Q) : tVar n σ H Q := h
theorem w_isAug {ti : TIp} (h : tAug n te ti D σ H) : tAug n te ti D σ H := h
theorem w_var (h : σ[n]? = some (some v)) (q : Q v H) : tVar n σ H Q := ⟨v, h, q⟩
theorem w_c (q : Q v H) : tC v σ H Q := q
theorem w_nil (q : QA [] H) : tNil σ H QA := q
theorem w_cons (h : ta σ H fun x H1 => tr σ H1 fun xs H2 => QA (x :: xs) H2) : tCons ta tr σ H QA := h
theorem w_op (h : ta σ H fun x H1 => tb σ H1 fun y H2 => r x y H2 Q) : tOp r ta tb σ H Q := h
theorem w_un {f : V → Hp → VK → Prop} (h : ta σ H fun x H1 => f x H1 Q) : tUn f ta σ H Q := h
theorem w_cb {f : List V → Hp → VK → Prop} (h : tr σ H fun vs H1 => f vs H1 Q) : tCB f tr σ H Q := h
theorem w_call {sp : Sp} {E : XK} (h : tr σ H fun vs H1 => sp (vs ++ []) H1 Q E) : tCall sp [] E tr σ H Q := h
theorem w_callK {sp : Sp} {g : List V → List V → List V} {E : XK} (h : tr σ H fun vs H1 => tk σ H1 fun zs H2 => sp (g vs zs) H2 Q E) : tCallK sp g E tr tk σ H Q := h
theorem w_test (h : te σ H fun x H' => ∃ k, x = .bl k ∧ QB k H') : tTest te σ H QB := h
theorem w_tB (h : te σ H fun x H' => ∃ k, x = .bl k ∧ QB k H') : tB te σ H QB := h
theorem w_and (h : t σ H fun c H1 => if c = true then u σ H1 QB else QB false H1) : tAnd t u σ H QB := h
theorem w_or (h : t σ H fun c H1 => if c = true then QB true H1 else u σ H1 QB) : tOr t u σ H QB := h
theorem w_not (h : t σ H fun c H1 => QB (!c) H1) : tNot t σ H QB := h
theorem w_andV (h : ta σ H fun x H1 => ∃ c, x = .bl c ∧ if c = true then tb σ H1 Q else Q (.bl false) H1) : tAndV ta tb σ H Q := h
theorem w_orV (h : ta σ H fun x H1 => ∃ c, x = .bl c ∧ if c = true then Q (.bl true) H1 else tb σ H1 Q) : tOrV ta tb σ H Q := h
theorem w_notV (h : ta σ H fun x H1 => ∃ c, x = .bl c ∧ Q (.bl (!c)) H1) : tNotV ta σ H Q := h
theorem w_if (h : t σ H fun c H1 => if c = true then ta σ H1 Q else tb σ H1 Q) : tIf t ta tb σ H Q := h
theorem w_chain (h : ta σ H fun x H1 => tb σ H1 fun y H2 => r x y H2 fun z H3 => ∃ k, z = .bl k ∧ (if k = true then tc σ H3 fun w' H4 => r' y w' H4 Q else Q (.bl false) H3)) : tChain r r' ta tb tc σ H Q := h
theorem w_exb {q : Bool → Prop} (h : q b) : ∃ k, V.bl b = .bl k ∧ q k := ⟨b, rfl, h⟩
theorem w_add (q : Q (.int (i + j)) H) : rI0 (fun i j => .int (i + j)) (.int i) (.int j) H Q := ⟨i, j, rfl, rfl, q⟩
theorem w_sub (q : Q (.int (i - j)) H) : rI0 (fun i j => .int (i - j)) (.int i) (.int j) H Q := ⟨i, j, rfl, rfl, q⟩
theorem w_lt (q : Q (.bl (decide (i < j))) H) : rI0 (fun i j => .bl (decide (i < j))) (.int i) (.int j) H Q := ⟨i, j, rfl, rfl, q⟩
theorem w_le (q : Q (.bl (decide (i ≤ j))) H) : rI0 (fun i j => .bl (decide (i ≤ j))) (.int i) (.int j) H Q := ⟨i, j, rfl, rfl, q⟩
theorem w_gt (q : Q (.bl (decide (j < i))) H) : rI0 (fun i j => .bl (decide (j < i))) (.int i) (.int j) H Q := ⟨i, j, rfl, rfl, q⟩
theorem w_ge (q : Q (.bl (decide (j ≤ i))) H) : rI0 (fun i j => .bl (decide (j ≤ i))) (.int i) (.int j) H Q := ⟨i, j, rfl, rfl, q⟩
theorem w_mod (h : 0 < j) (q : Q (.int (i % j)) H) : rI (fun _ j => 0 < j) (fun i j => .int (i % j)) (.int i) (.int j) H Q := ⟨i, j, rfl, rfl, h, q⟩
theorem w_fdiv (h0 : 0 < j) (h1 : j < 2 ^ 200) (q : Q (.int (i / j)) H) : rI CDivW (fun i j => .int (i / j)) (.int i) (.int j) H Q := ⟨i, j, rfl, rfl, wide_div h0 (b := 200) (by omega) (by decide) (by decide), q⟩
theorem w_mulR (h : -18446744073709551616 < j ∧ j < 18446744073709551616) (q : Q (.int (i * j)) H) : rI CMul (fun i j => .int (i * j)) (.int i) (.int j) H Q := ⟨i, j, rfl, rfl, Or.inr h, q⟩
theorem w_mulL (h : -18446744073709551616 < i ∧ i < 18446744073709551616) (q : Q (.int (i * j)) H) : rI CMul (fun i j => .int (i * j)) (.int i) (.int j) H Q := ⟨i, j, rfl, rfl, Or.inl h, q⟩
theorem w_mul (h : CMul i j) (q : Q (.int (i * j)) H) : rI CMul (fun i j => .int (i * j)) (.int i) (.int j) H Q := ⟨i, j, rfl, rfl, h, q⟩
theorem w_pow (h : CPow i j) (q : Q (.int (i ^ j.toNat)) H) : rI CPow (fun i j => .int (i ^ j.toNat)) (.int i) (.int j) H Q := ⟨i, j, rfl, rfl, h, q⟩
theorem w_pow_6 (q : Q (.int 1000000) H) : rI CPow (fun i j => .int (i ^ j.toNat)) (.int 10) (.int 6) H Q := ⟨10, 6, rfl, rfl, ⟨by decide, by decide, by decide⟩, q⟩
theorem w_pow_9 (q : Q (.int 1000000000) H) : rI CPow (fun i j => .int (i ^ j.toNat)) (.int 10) (.int 9) H Q := ⟨10, 9, rfl, rfl, ⟨by decide, by decide, by decide⟩, q⟩
theorem w_pow_12 (q : Q (.int 1000000000000) H) : rI CPow (fun i j => .int (i ^ j.toNat)) (.int 10) (.int 12) H Q := ⟨10, 12, rfl, rfl, ⟨by decide, by decide, by decide⟩, q⟩
theorem w_pow_14 (q : Q (.int 100000000000000) H) : rI CPow (fun i j => .int (i ^ j.toNat)) (.int 10) (.int 14) H Q := ⟨10, 14, rfl, rfl, ⟨by decide, by decide, by decide⟩, q⟩
theorem w_pow_15 (q : Q (.int 1000000000000000) H) : rI CPow (fun i j => .int (i ^ j.toNat)) (.int 10) (.int 15) H Q := ⟨10, 15, rfl, rfl, ⟨by decide, by decide, by decide⟩, q⟩
theorem w_pow_18 (q : Q (.int 1000000000000000000) H) : rI CPow (fun i j => .int (i ^ j.toNat)) (.int 10) (.int 18) H Q := ⟨10, 18, rfl, rfl, ⟨by decide, by decide, by decide⟩, q⟩
theorem w_neg (q : Q (.int (-i)) H) : rU (fun i => .int (-i)) (.int i) H Q := ⟨i, rfl, q⟩
theorem w_eq (h : scal x y = true) (q : Q (.bl (decide (x = y))) H) : rEq x y H Q := ⟨h, q⟩
theorem w_ne (h : scal x y = true) (q : Q (.bl (!decide (x = y))) H) : rNe x y H Q := ⟨h, q⟩
theorem w_ixL {a : Addr} {xs : List V} (h : SqL K H a xs) (e : atI xs i = some v) (q : Q v H) : rIxL K (.ref a) (.int i) H Q := ⟨a, xs, i, v, rfl, rfl, h, e, q⟩
theorem w_ixT {a : Addr} {xs : List V} (h : SqT K H a xs) (e : atI xs i = some v) (q : Q v H) : rIxT K (.ref a) (.int i) H Q := ⟨a, xs, i, v, rfl, rfl, h, e, q⟩
theorem w_ixS {z : Str} {cc : Nat} (h : z.length ≤ sizeLine) (e : atI z.cps.toList i = some cc) (q : Q (.str ⟨#[cc]⟩) H) : rIxS (.str z) (.int i) H Q := ⟨z, i, cc, rfl, rfl, h, e, q⟩
theorem w_setL {a : Addr} {xs : List V} {q : Hp → Prop} {m : Nat} (h : H a = some (.lst xs)) (e : ixN xs.length i = some m) (k : q (upd H a (.lst (xs.set m v)))) : rSetL (.ref a) (.int i) v H q := ⟨a, xs, i, m, rfl, rfl, h, e, k⟩
theorem w_tupD (h : tr σ H fun xs H1 => NewB HO.tup xs H1 Q) : tTup tr σ H Q := h
theorem w_lstD (h : tr σ H fun xs H1 => NewB HO.lst xs H1 Q) : tLst tr σ H Q := h
/-- a new object, its heap by a letter -/
theorem w_new {xs : List V} {f : List V → HO} (hl : xs.length ≤ 1000) (h : ∀ q H2, H q = none → Ex H H2 → H2 q = some (f xs) → (∀ a, a ≠ q → H2 a = H a) → Q (.ref q) H2) : NewB f xs H Q :=
  ⟨Nat.le_of_lt (small1000 hl), fun p hp => h p _ hp (Ex.new hp) upd_same fun a ha => upd_ne ha⟩
theorem w_new0 {o : HO} (h : ∀ q H2, H q = none → Ex H H2 → H2 q = some o → (∀ a, a ≠ q → H2 a = H a) → Q (.ref q) H2) : ∀ p, H p = none → Q (.ref p) (upd H p o) :=
  fun p hp => h p _ hp (Ex.new hp) upd_same fun a ha => upd_ne ha
theorem w_dec [Decidable p] (h1 : p → A) (h2 : ¬ p → B) : if decide p = true then A else B := ite2 (fun h => h1 (of_decide_eq_true h)) fun h => h2 (fun q => h (decide_eq_true q))
theorem w_ndec [Decidable p] (h1 : ¬ p → A) (h2 : p → B) : if (!decide p) = true then A else B := by
  by_cases h : p
  · simp only [h, decide_true, Bool.not_true, Bool.false_eq_true, if_false]; exact h2 h
  · simp only [h, decide_false, Bool.not_false, if_true]; exact h1 h
theorem w_T (h : b = true) (a : A) : if b = true then A else B := by rw [if_pos h]; exact a
theorem w_F (h : b = false) (a : B) : if b = true then A else B := by rw [if_neg (by rw [h]; decide)]; exact a
theorem w_2 (h1 : b = true → A) (h2 : b = false → B) : if b = true then A else B := by
  cases b with
  | true => exact iteT (h1 rfl)
  | false => exact iteF (h2 rfl)
theorem w_nT (h : b = false) (a : A) : if (!b) = true then A else B := by rw [h]; exact iteT a
theorem w_nF (h : b = true) (a : B) : if (!b) = true then A else B := by rw [h]; exact iteF a
theorem w_n2 (h1 : b = false → A) (h2 : b = true → B) : if (!b) = true then A else B := by
  cases b with
  | true => exact iteF (h2 rfl)
  | false => exact iteT (h1 rfl)
theorem sq_of {a : Addr} {xs : List V} (h : H a = some (.lst xs)) : SqL K H a xs := .inl (.inl h)
theorem st_of {a : Addr} {xs : List V} (h : H a = some (.tup xs)) : SqT K H a xs := .inl (.inl h)
end
theorem hu65 {A : Around} {k : Nat} (hr : Room k A) : A.units + 65 < cLine := by
  have := hr.un
  omega
section
variable {X : Cx} {CX : CXT} {k : Nat} {f : Addr} {fd : FuncData} {ps ks : List Str} {sp : Sp} {E : XK} {x : Str} {p pos : Pos} {kws : List Keyword} {tk : TA} {g : List Value → List Value → List Value} {gV : List V → List V → List V}
/-- f(k = v, ..): keywords alone -/
theorem pe_callK0 (F : FnOk X.prog X.w X.K X.mg X.base CX k f fd ps sp) (hr : Room k X.A) (hg : Gl X x) (hm : X.mg x = some (.ref f)) (hk : PySem.W.keepIn X.K (.ref f) = true) (hb : KBinds X.K fd ps ks g gV) (hx : Passes CX X E)
    (hkw : PK X kws tk) (hall : (backToKw pos (keywordEach kws X.env)).all (·.1.isSome) = true := by rfl) (hks : (backToKw pos (keywordEach kws X.env)).filterMap (·.1) = ks := by rfl)
    (hdb : (x == ("__debug__" : Str)) = false := by decide) (hpl : ((backTo pos (starEach [] X.env)).any (·.1) || (backToKw pos (keywordEach kws X.env)).any (·.1.isNone)) = false := by rfl) :
    PE X (.Call (.Name x p) [] kws pos) (tCallK sp gV E tNil tk) := by
  refine ⟨fun pins s σ H Q I h => ?_⟩
  refine wpAny_Call_Name_kw (ld_glob I hg hm ?_ hdb)
  refine PySem.W.callWith_KW0 (h₀ := X.base) I.ok.mod.kin hk hall ?_ hpl
  refine thn (hkw.run pos pins s σ H _ I h) fun ws s2 ⟨zs, H2, I2, rz, q2⟩ => ⟨I2.kIn, ?_⟩
  rw [hks]
  exact run_fnk F hr hb hx I2 .nil rz q2
end

/-! ### calls on values, by names -/
def rAbs : List V → Hp → VK → Prop := fun xs H Q => ∃ i, xs = [.int i] ∧ Q (.int (if i < 0 then -i else i)) H
def rInt : List V → Hp → VK → Prop := fun xs H Q => (∃ i, xs = [.int i] ∧ Q (.int i) H) ∨ ∃ k, xs = [.bl k] ∧ Q (.int (if k then 1 else 0)) H
def rMax2 : List V → Hp → VK → Prop := fun xs H Q => ∃ i j, xs = [.int i, .int j] ∧ Q (.int (if j > i then j else i)) H
def rMin2 : List V → Hp → VK → Prop := fun xs H Q => ∃ i j, xs = [.int i, .int j] ∧ Q (.int (if j < i then j else i)) H
def rLen (K : PySem.W.Frag) : List V → Hp → VK → Prop := fun xs H Q => ∃ x n, xs = [x] ∧ LenV K x H n ∧ Q (.int n) H
def rListOf (K : PySem.W.Frag) : List V → Hp → VK → Prop := fun xs H Q => ∃ p ys, xs = [.ref p] ∧ (SqL K H p ys ∨ SqT K H p ys) ∧ ∀ l, H l = none → Q (.ref l) (upd H l (.lst ys))
def rTupleOf (K : PySem.W.Frag) : List V → Hp → VK → Prop := fun xs H Q => ∃ p ys, xs = [.ref p] ∧ ((SqL K H p ys ∧ ∀ l, H l = none → Q (.ref l) (upd H l (.tup ys))) ∨ (SqT K H p ys ∧ Q (.ref p) H))
def rCount : V → List V → Hp → VK → Prop := fun x xs H Q => ∃ a b, x = .str a ∧ xs = [.str b] ∧ Q (.int (Txt.count a b)) H
def rJoin (K : PySem.W.Frag) : V → List V → Hp → VK → Prop := fun x xs H Q => ∃ a p, ∃ ys : List Str, x = .str a ∧ xs = [.ref p] ∧ (SqL K H p (ys.map V.str) ∨ SqT K H p (ys.map V.str)) ∧ (ys.map (·.length)).sum + ys.length * a.length ≤ 16777216 ∧ Q (.str (Txt.join a ys)) H
section
variable {X : Cx}
theorem c_abs : CallR X (.builtin "abs") rAbs := call_abs
theorem c_int : CallR X (.type "int") rInt := call_int1
theorem c_max2 (hc : X.calm = true) : CallR X (.builtin "max") rMax2 := call_max2 hc
theorem c_min2 (hc : X.calm = true) : CallR X (.builtin "min") rMin2 := call_min2 hc
theorem c_len : CallR X (.builtin "len") (rLen X.K) := call_len
theorem c_listOf : CallR X (.type "list") (rListOf X.K) := call_list_of
theorem c_tupleOf : CallR X (.type "tuple") (rTupleOf X.K) := call_tuple_of
theorem m_count : MtR X "str.count" rCount := mt_count
theorem m_join : MtR X "str.join" (rJoin X.K) := mt_join
end
section
variable {K : PySem.W.Frag} {H : Hp} {i j : Int} {Q : VK} {a : Addr} {xs : List V} {z y : Str}
theorem w_abs (q : Q (.int (if i < 0 then -i else i)) H) : rAbs [.int i] H Q := ⟨i, rfl, q⟩
theorem w_int (q : Q (.int i) H) : rInt [.int i] H Q := .inl ⟨i, rfl, q⟩
theorem w_max (q : Q (.int (if j > i then j else i)) H) : rMax2 [.int i, .int j] H Q := ⟨i, j, rfl, q⟩
theorem w_min (q : Q (.int (if j < i then j else i)) H) : rMin2 [.int i, .int j] H Q := ⟨i, j, rfl, q⟩
theorem w_lenL (h : SqL K H a xs) (q : Q (.int xs.length) H) : rLen K [.ref a] H Q := ⟨.ref a, xs.length, rfl, .inl ⟨xs, h, rfl⟩, q⟩
theorem w_lenT (h : SqT K H a xs) (q : Q (.int xs.length) H) : rLen K [.ref a] H Q := ⟨.ref a, xs.length, rfl, .inr ⟨xs, h, rfl⟩, q⟩
theorem w_lenS (h : z.length ≤ sizeLine) (q : Q (.int z.length) H) : rLen K [.str z] H Q := ⟨.str z, z.length, rfl, ⟨h, rfl⟩, q⟩
theorem w_listL (h : SqL K H a xs) (q : ∀ l H2, H l = none → Ex H H2 → H2 l = some (.lst xs) → (∀ a, a ≠ l → H2 a = H a) → Q (.ref l) H2) : rListOf K [.ref a] H Q := ⟨a, xs, rfl, .inl h, w_new0 q⟩
theorem w_listT (h : SqT K H a xs) (q : ∀ l H2, H l = none → Ex H H2 → H2 l = some (.lst xs) → (∀ a, a ≠ l → H2 a = H a) → Q (.ref l) H2) : rListOf K [.ref a] H Q := ⟨a, xs, rfl, .inr h, w_new0 q⟩
theorem w_tupleL (h : SqL K H a xs) (q : ∀ l H2, H l = none → Ex H H2 → H2 l = some (.tup xs) → (∀ a, a ≠ l → H2 a = H a) → Q (.ref l) H2) : rTupleOf K [.ref a] H Q := ⟨a, xs, rfl, .inl ⟨h, w_new0 q⟩⟩
theorem w_count (q : Q (.int (Txt.count z y)) H) : rCount (.str z) [.str y] H Q := ⟨z, y, rfl, rfl, q⟩
theorem w_m1 {r : V → List V → Hp → VK → Prop} {to te : TE} {σ : L2.St} (h : to σ H fun x H1 => (∃ a, x = .str a) ∧ te σ H1 fun y H2 => r x [y] H2 Q) : tM1 r to te σ H Q := h
theorem w_inS {c : Nat} (q : Q (.bl (decide (c ∈ z.cps.toList))) H) : rInS (.str ⟨#[c]⟩) (.str z) H Q := ⟨c, z, rfl, rfl, q⟩
theorem w_notInS {c : Nat} (q : Q (.bl (!decide (c ∈ z.cps.toList))) H) : rNotInS (.str ⟨#[c]⟩) (.str z) H Q := ⟨c, z, rfl, rfl, q⟩
theorem w_isi {x : V} {t : String} {b : Bool} {c : String} (ty : TyX K H x (.type t)) (e : kitB t c = some b) (q : Q (.bl b) H) : rIsi K [x, .ty c] H Q := ⟨x, .ty c, .type t, .type c, b, rfl, .ty c, ty, kit_ty e, q⟩
end
end J

namespace J
open PySem PySem.Spec PyProof.Rows L2
/-! ### loops and comprehensions -/
def LoopB (J : It) (g : TG) (tb : TS) (D : Ends) (σ : L2.St) (H1 : Hp) : Prop := ∃ W : Nat → Nat → L2.St → Hp → Prop, (∃ m, W 0 m σ H1) ∧ ∀ i m σ H, W i m σ H →
  (J.stop i H ∧ D.nx σ H) ∨ (J.go i H ∧ ∃ N : L2.St → Hp → Prop, (∀ σ' H', N σ' H' → ∃ m', m' < m ∧ W (i + 1) m' σ' H') ∧ ∀ x H', J.yld i H x H' → g x σ H' fun σ2 H2 => tb { D with nx := N, ct := N, bk := D.nx } σ2 H2)
def LcB (J : It) (g : TG) (tt : TT) (te : TE) (vs : List Nat) (σ : L2.St) (H1 : Hp) (Q : VK) : Prop := ∀ D, H1 D = none → ∃ W : Nat → Nat → Hp → Prop, (∃ m, W 0 m (upd H1 D (.lst []))) ∧ ∀ i m H, W i m H →
  (J.stop i H ∧ Q (.ref D) H) ∨ (J.go i H ∧ ∃ Nx : Hp → Prop, (∀ H', Nx H' → ∃ m', m' < m ∧ W (i + 1) m' H') ∧ ∀ x H', J.yld i H x H' → g x (wipe σ vs) H' fun σ2 H2 => wipe σ2 vs = wipe σ vs ∧ tt σ2 H2 fun b H3 =>
    if b = true then te σ2 H3 fun y H4 => ∃ acc, H4 D = some (.lst acc) ∧ acc.length < sizeLine ∧ Nx (upd H4 D (.lst (acc ++ [y]))) else Nx H3)
def WhB (c : TT) (tb : TS) (D : Ends) (σ : L2.St) (H : Hp) : Prop := ∃ W : Nat → L2.St → Hp → Prop, (∃ m, W m σ H) ∧ ∀ m σ H, W m σ H →
  c σ H fun b H1 => if b = true then ∃ N : L2.St → Hp → Prop, (∀ σ' H', N σ' H' → ∃ m', m' < m ∧ W m' σ' H') ∧ tb { D with nx := N, ct := N, bk := D.nx } σ H1 else D.nx σ H1
section
variable {K : PySem.W.Frag} {σ : L2.St} {H : Hp} {Q : VK} {D : Ends} {tl te : TE} {tt c : TT} {g : TG} {tb : TS} {ta : TA} {vs : List Nat} {wi : TI} {R : It → Hp → Prop} {QB : Bool → Hp → Prop} {k : L2.St → Hp → Prop} {v x y z : V} {i j m : Nat} {a : Addr}
theorem w_for (h : wi σ H fun J H1 => LoopB J g tb D σ H1) : tFor wi g tb D σ H := h
theorem w_while (h : WhB c tb D σ H) : tWhile c tb D σ H := h
theorem w_lc (h : wi σ H fun J H1 => LcB J g tt te vs σ H1 Q) : tLc wi g tt te vs σ H Q := h
theorem w_iTup (h : tl σ H fun x H1 => ∃ a, x = .ref a ∧ (∃ xs, SqT K H1 a xs) ∧ R (Itt K a) H1) : iTup K tl σ H R := h
theorem w_iList (h : tl σ H fun x H1 => ∃ a, x = .ref a ∧ (∃ xs, SqL K H1 a xs) ∧ R (Itl K a) H1) : iList K tl σ H R := h
theorem w_iRng1 (h : ta σ H fun vs H1 => ∃ j : Int, vs = [.int j] ∧ -(2 ^ 62) ≤ j ∧ j < 2 ^ 62 ∧ R (Itr 0 j.toNat) H1) : iRng1 ta σ H R := h
theorem w_iRng2 (h : ta σ H fun vs H1 => ∃ i j : Int, vs = [.int i, .int j] ∧ (-(2 ^ 62) ≤ i ∧ i < 2 ^ 62 ∧ -(2 ^ 62) ≤ j ∧ j < 2 ^ 62) ∧ R (Itr i (j - i).toNat) H1) : iRng2 ta σ H R := h
theorem w_gName (h : k (σ.set i (some v)) H) : gName i v σ H k := h
theorem w_gTup2 (h : SqT K H a [x, y]) (q : k ((σ.set i (some x)).set j (some y)) H) : gTup K 2 (gCons (gName i) (gCons (gName j) gNil)) (.ref a) σ H k := ⟨a, _, rfl, h, rfl, x, _, rfl, y, _, rfl, rfl, q⟩
theorem w_gTup3 (h : SqT K H a [x, y, z]) (q : k (((σ.set i (some x)).set j (some y)).set m (some z)) H) : gTup K 3 (gCons (gName i) (gCons (gName j) (gCons (gName m) gNil))) (.ref a) σ H k := ⟨a, _, rfl, h, rfl, x, _, rfl, y, _, rfl, z, _, rfl, rfl, q⟩
theorem w_tYes (h : QB true H) : tYes σ H QB := h
theorem w_loopT {xs : List V} (hs : SqT K H a xs) (h : LoopB (Itt K a) g tb D σ H) : ∃ a', V.ref a = .ref a' ∧ (∃ xs, SqT K H a' xs) ∧ LoopB (Itt K a') g tb D σ H := ⟨a, rfl, ⟨xs, hs⟩, h⟩
theorem w_loopL {xs : List V} (hs : SqL K H a xs) (h : LoopB (Itl K a) g tb D σ H) : ∃ a', V.ref a = .ref a' ∧ (∃ xs, SqL K H a' xs) ∧ LoopB (Itl K a') g tb D σ H := ⟨a, rfl, ⟨xs, hs⟩, h⟩
theorem w_lcT {xs : List V} (hs : SqT K H a xs) (h : LcB (Itt K a) g tt te vs σ H Q) : ∃ a', V.ref a = .ref a' ∧ (∃ xs, SqT K H a' xs) ∧ LcB (Itt K a') g tt te vs σ H Q := ⟨a, rfl, ⟨xs, hs⟩, h⟩
theorem w_lcL {xs : List V} (hs : SqL K H a xs) (h : LcB (Itl K a) g tt te vs σ H Q) : ∃ a', V.ref a = .ref a' ∧ (∃ xs, SqL K H a' xs) ∧ LcB (Itl K a') g tt te vs σ H Q := ⟨a, rfl, ⟨xs, hs⟩, h⟩
theorem w_loopR {n : Int} (h0 : -1000000000 ≤ n ∧ n ≤ 1000000000) (h : LoopB (Itr 0 n.toNat) g tb D σ H) : ∃ j : Int, [V.int n] = [.int j] ∧ -(2 ^ 62) ≤ j ∧ j < 2 ^ 62 ∧ LoopB (Itr 0 j.toNat) g tb D σ H := ⟨n, rfl, by omega, by omega, h⟩
theorem w_lcR {n : Int} (h0 : -1000000000 ≤ n ∧ n ≤ 1000000000) (h : LcB (Itr 0 n.toNat) g tt te vs σ H Q) : ∃ j : Int, [V.int n] = [.int j] ∧ -(2 ^ 62) ≤ j ∧ j < 2 ^ 62 ∧ LcB (Itr 0 j.toNat) g tt te vs σ H Q := ⟨n, rfl, by omega, by omega, h⟩
theorem lc_T {xs : List V} (Pv : Addr → Nat → Hp → Prop) (h0 : ∀ D, H D = none → Pv D 0 (upd H D (.lst []))) (hl : ∀ D i H', i ≤ xs.length → Pv D i H' → SqT K H' a xs)
    (hs : ∀ D i x H', H D = none → xs[i]? = some x → Pv D i H' → g x (wipe σ vs) H' fun σ2 H2 => wipe σ2 vs = wipe σ vs ∧ tt σ2 H2 fun b H3 =>
      if b = true then te σ2 H3 fun y H4 => ∃ acc, H4 D = some (.lst acc) ∧ acc.length < sizeLine ∧ Pv D (i + 1) (upd H4 D (.lst (acc ++ [y]))) else Pv D (i + 1) H3) (hd : ∀ D H', H D = none → Pv D xs.length H' → Q (.ref D) H') : LcB (Itt K a) g tt te vs σ H Q :=
  fun D nD => lc_tup (Pv D) (h0 D nD) (hl D) (fun i x H' hx p => hs D i x H' nD hx p) fun H' p => hd D H' nD p
theorem lc_L {xs : List V} (Pv : Addr → Nat → Hp → Prop) (h0 : ∀ D, H D = none → Pv D 0 (upd H D (.lst []))) (hl : ∀ D i H', i ≤ xs.length → Pv D i H' → SqL K H' a xs)
    (hs : ∀ D i x H', H D = none → xs[i]? = some x → Pv D i H' → g x (wipe σ vs) H' fun σ2 H2 => wipe σ2 vs = wipe σ vs ∧ tt σ2 H2 fun b H3 =>
      if b = true then te σ2 H3 fun y H4 => ∃ acc, H4 D = some (.lst acc) ∧ acc.length < sizeLine ∧ Pv D (i + 1) (upd H4 D (.lst (acc ++ [y]))) else Pv D (i + 1) H3) (hd : ∀ D H', H D = none → Pv D xs.length H' → Q (.ref D) H') : LcB (Itl K a) g tt te vs σ H Q :=
  fun D nD => lc_list (Pv D) (h0 D nD) (hl D) (fun i x H' hx p => hs D i x H' nD hx p) fun H' p => hd D H' nD p
theorem lc_R {lo : Int} {n : Nat} (Pv : Addr → Nat → Hp → Prop) (h0 : ∀ D, H D = none → Pv D 0 (upd H D (.lst [])))
    (hs : ∀ D i H', H D = none → i < n → Pv D i H' → g (.int (lo + i)) (wipe σ vs) H' fun σ2 H2 => wipe σ2 vs = wipe σ vs ∧ tt σ2 H2 fun b H3 =>
      if b = true then te σ2 H3 fun y H4 => ∃ acc, H4 D = some (.lst acc) ∧ acc.length < sizeLine ∧ Pv D (i + 1) (upd H4 D (.lst (acc ++ [y]))) else Pv D (i + 1) H3) (hd : ∀ D H', H D = none → Pv D n H' → Q (.ref D) H') : LcB (Itr lo n) g tt te vs σ H Q :=
  fun D nD => lc_range (Pv D) (h0 D nD) (fun i H' hi p => hs D i H' nD hi p) fun H' p => hd D H' nD p
/-- the end of a comprehension's turn -/
theorem w_acc {D : Addr} {acc : List V} {P : Hp → Prop} (h : H D = some (.lst acc)) (hl : acc.length < 1000) (p : P (upd H D (.lst (acc ++ [v])))) : ∃ acc, H D = some (.lst acc) ∧ acc.length < sizeLine ∧ P (upd H D (.lst (acc ++ [v]))) := ⟨acc, h, small1000 (Nat.le_of_lt hl), p⟩
theorem w_all {bs : List Bool} (h : SqL K H a (bs.map V.bl)) (q : Q (.bl (bs.all id)) H) : rAll K [.ref a] H Q := ⟨a, bs, rfl, h, q⟩
theorem w_ltT {b : Addr} {ns ms : List Int} (h1 : SqT K H a (ns.map V.int)) (h2 : SqT K H b (ms.map V.int)) (q : Q (.bl (HT.lexLt ns ms)) H) : rLtT K (.ref a) (.ref b) H Q := ⟨a, b, ns, ms, rfl, rfl, h1, h2, q⟩
end
def tyName : PyData → String
  | .none => "NoneType" | .bool _ => "bool" | .int _ => "int" | .str _ => "str" | .list _ => "list" | .tuple _ => "tuple" | .dict _ => "dict"
theorem Rp.ty {K : PySem.W.Frag} {H : Hp} {v : V} {d : PyData} (h : Rp K H v d) : TyX K H v (.type (tyName d)) := by
  cases h with
  | non => exact .base .non
  | bl b => exact .base (.bl b)
  | int i => exact .base (.int i)
  | str x => exact .base (.str x)
  | lst e _ _ => exact .base (.lst e)
  | dct e => exact .base (.dK e)
  | tup hs _ =>
    rcases hs with (h | ⟨o, h⟩) | ⟨o, its, n, e, c, _⟩
    · exact .base (.tup h)
    · exact .fTuple h
    · exact .kTuple e c
def isTupD : PyData → Bool
  | .tuple _ => true | _ => false
theorem kit_tup : ∀ d : PyData, kitB (tyName d) "tuple" = some (isTupD d)
  | .none => by decide +kernel
  | .bool _ => by simp only [tyName, isTupD]; decide +kernel
  | .int _ => by simp only [tyName, isTupD]; decide +kernel
  | .str _ => by simp only [tyName, isTupD]; decide +kernel
  | .list _ => by simp only [tyName, isTupD]; decide +kernel
  | .tuple _ => by simp only [tyName, isTupD]; decide +kernel
  | .dict _ => by simp only [tyName, isTupD]; decide +kernel
def isStrD : PyData → Bool
  | .str _ => true | _ => false
theorem kit_str : ∀ d : PyData, kitB (tyName d) "str" = some (isStrD d)
  | .none => by decide +kernel
  | .bool _ => by simp only [tyName, isStrD]; decide +kernel
  | .int _ => by simp only [tyName, isStrD]; decide +kernel
  | .str _ => by simp only [tyName, isStrD]; decide +kernel
  | .list _ => by simp only [tyName, isStrD]; decide +kernel
  | .tuple _ => by simp only [tyName, isStrD]; decide +kernel
  | .dict _ => by simp only [tyName, isStrD]; decide +kernel
def isIntD : PyData → Bool
  | .int _ => true | .bool _ => true | _ => false
theorem kit_int : ∀ d : PyData, kitB (tyName d) "int" = some (isIntD d)
  | .none => by decide +kernel
  | .bool _ => by simp only [tyName, isIntD]; decide +kernel
  | .int _ => by simp only [tyName, isIntD]; decide +kernel
  | .str _ => by simp only [tyName, isIntD]; decide +kernel
  | .list _ => by simp only [tyName, isIntD]; decide +kernel
  | .tuple _ => by simp only [tyName, isIntD]; decide +kernel
  | .dict _ => by simp only [tyName, isIntD]; decide +kernel
def isBoolD : PyData → Bool
  | .bool _ => true | _ => false
theorem kit_bool : ∀ d : PyData, kitB (tyName d) "bool" = some (isBoolD d)
  | .none => by decide +kernel
  | .bool _ => by simp only [tyName, isBoolD]; decide +kernel
  | .int _ => by simp only [tyName, isBoolD]; decide +kernel
  | .str _ => by simp only [tyName, isBoolD]; decide +kernel
  | .list _ => by simp only [tyName, isBoolD]; decide +kernel
  | .tuple _ => by simp only [tyName, isBoolD]; decide +kernel
  | .dict _ => by simp only [tyName, isBoolD]; decide +kernel
section
variable {K : PySem.W.Frag} {H : Hp} {Q : VK} {v : V} {d : PyData}
theorem w_isiTup (h : Rp K H v d) (q : Q (.bl (isTupD d)) H) : rIsi K [v, .ty "tuple"] H Q := w_isi h.ty (kit_tup d) q
theorem w_isiStr (h : Rp K H v d) (q : Q (.bl (isStrD d)) H) : rIsi K [v, .ty "str"] H Q := w_isi h.ty (kit_str d) q
theorem w_isiInt (h : Rp K H v d) (q : Q (.bl (isIntD d)) H) : rIsi K [v, .ty "int"] H Q := w_isi h.ty (kit_int d) q
theorem w_isiBool (h : Rp K H v d) (q : Q (.bl (isBoolD d)) H) : rIsi K [v, .ty "bool"] H Q := w_isi h.ty (kit_bool d) q
end
section
variable {K : PySem.W.Frag} {H : Hp} {z : Str} {P : Prop} {vs : List V} {ds : List PyData} {v : V} {d d1 d2 d3 : PyData}
theorem w_exs (h : P) : (∃ a, V.str z = .str a) ∧ P := ⟨⟨z, rfl⟩, h⟩
theorem RpAll.two (h : RpAll K H vs [d1, d2]) : ∃ v1 v2, vs = [v1, v2] ∧ Rp K H v1 d1 ∧ Rp K H v2 d2 := by
  cases h with | cons h1 r => cases r with | cons h2 r => cases r with | nil => exact ⟨_, _, rfl, h1, h2⟩
theorem RpAll.three (h : RpAll K H vs [d1, d2, d3]) : ∃ v1 v2 v3, vs = [v1, v2, v3] ∧ Rp K H v1 d1 ∧ Rp K H v2 d2 ∧ Rp K H v3 d3 := by
  cases h with | cons h1 r => cases r with | cons h2 r => cases r with | cons h3 r => cases r with | nil => exact ⟨_, _, _, rfl, h1, h2, h3⟩
theorem Rp.isInt {i : Int} (h : Rp K H v (.int i)) : v = .int i := by cases h; rfl
theorem Rp.isStr {x : Str} (h : Rp K H v (.str x)) : v = .str x := by cases h; rfl
theorem Rp.isBl {x : Bool} (h : Rp K H v (.bool x)) : v = .bl x := by cases h; rfl
theorem Rp.isTup (h : Rp K H v (.tuple ds)) : ∃ a xs, v = .ref a ∧ SqT K H a xs ∧ RpAll K H xs ds := by
  cases h with | tup hs r => exact ⟨_, _, rfl, hs, r⟩
theorem len2 {α : Type} {l : List α} (h : l.length = 2) : ∃ a b, l = [a, b] := by
  match l, h with
  | [a, b], _ => exact ⟨a, b, rfl⟩
theorem len3 {α : Type} {l : List α} (h : l.length = 3) : ∃ a b c, l = [a, b, c] := by
  match l, h with
  | [a, b, c], _ => exact ⟨a, b, c, rfl⟩
end
section
variable {K : PySem.W.Frag} {H H' : Hp} {Q : VK} {to te : TE} {t : TA} {σ : L2.St} {r : V → List V → Hp → VK → Prop} {T : String} {l a : Addr} {xs ds : List V} {y v x : V} {z : Str}
theorem w_bm (h : to σ H fun x H1 => tyV K T x H1 ∧ t σ H1 fun xs H2 => r x xs H2 Q) : tBM K T r to t σ H Q := h
theorem w_tyL {P : Prop} (h : H l = some (.lst xs)) (p : P) : tyV K "list" (.ref l) H ∧ P := ⟨.inl ⟨rfl, _, sq_of h⟩, p⟩
theorem w_append (h : H l = some (.lst xs)) (hl : xs.length < 1000) (q : Q .non (upd H l (.lst (xs ++ [y])))) : rAppend (.ref l) [y] H Q := ⟨l, xs, y, rfl, rfl, h, small1000 (Nat.le_of_lt hl), q⟩
theorem w_inD {d : PyData} {es : List PyData} (h1 : Dp K H v d) (h2 : Dp K H (.ref a) (.list es)) (s1 : SeqAt.shaped d = true) (s2 : SeqAt.shaped (.list es) = true) (q : Q (.bl (es.any fun z => PyData.eqv z d)) H) : rInD K v (.ref a) H Q := ⟨d, es, h1, h2, s1, s2, q⟩
theorem w_notInD {d : PyData} {es : List PyData} (h1 : Dp K H v d) (h2 : Dp K H (.ref a) (.list es)) (s1 : SeqAt.shaped d = true) (s2 : SeqAt.shaped (.list es) = true) (q : Q (.bl (!es.any fun z => PyData.eqv z d)) H) : rNotInD K v (.ref a) H Q := ⟨d, es, h1, h2, s1, s2, q⟩
theorem w_neD {d e : PyData} (h1 : Dp K H v d) (h2 : Dp K H y e) (s1 : SeqAt.shaped d = true) (s2 : SeqAt.shaped e = true) (q : Q (.bl (!PyData.eqv d e)) H) : rNeD K v y H Q := ⟨d, e, h1, h2, s1, s2, q⟩
theorem w_eqD {d e : PyData} (h1 : Dp K H v d) (h2 : Dp K H y e) (s1 : SeqAt.shaped d = true) (s2 : SeqAt.shaped e = true) (q : Q (.bl (PyData.eqv d e)) H) : rEqD K v y H Q := ⟨d, e, h1, h2, s1, s2, q⟩
theorem w_join {ys : List Str} (h : SqL K H a (ys.map V.str)) (hs : (ys.map (·.length)).sum + ys.length * z.length ≤ 16777216) (q : Q (.str (Txt.join z ys)) H) : rJoin K (.str z) [.ref a] H Q := ⟨z, a, ys, rfl, rfl, .inl h, hs, q⟩
theorem Xb.at {b : Addr} (e : Xb H H') {ys : List V} (h : H b = some (.tup ys)) : H' b = some (.tup ys) := e _ _ h rfl
theorem sh_strs (ss : List Str) : handSh (.lst (ss.map V.str)) = false := by
  cases ss <;> rfl
theorem sh_ints (ns : List Int) : handSh (.lst (ns.map V.int)) = false := by
  cases ns <;> rfl
end
/-! ### list(range(a, b, c)) -/
def ListR3 (vs : List V) (H : Hp) (Q : VK) : Prop := ∃ (i j c : Int) (n : Nat), vs = [.int i, .int j, .int c] ∧ RgC i j c n ∧ n ≤ 2 ^ 24 ∧ ∀ q, H q = none → Q (.ref q) (upd H q (.lst (((List.range n).map fun k : Nat => i + (k : Int) * c).map V.int)))
def tListR3 (ta : TA) : TE := fun σ H Q => ta σ H fun vs H1 => ListR3 vs H1 Q
theorem w_listR3 {ta : TA} {σ : L2.St} {H : Hp} {Q : VK} (h : ta σ H fun vs H1 => ListR3 vs H1 Q) : tListR3 ta σ H Q := h
theorem w_range3 {i j c : Int} {n : Nat} {H : Hp} {Q : VK} (h : RgC i j c n) (hn : n ≤ 10000) (q : ∀ l H2, H l = none → Ex H H2 → H2 l = some (.lst (((List.range n).map fun k : Nat => i + (k : Int) * c).map V.int)) → (∀ a, a ≠ l → H2 a = H a) → Q (.ref l) H2) : ListR3 [.int i, .int j, .int c] H Q :=
  ⟨i, j, c, n, rfl, h, by omega, w_new0 q⟩
theorem pe_listRg3 {X : Cx} {a b c : Expr} {ta : TA} {p p2 pos pos2 : Pos} (hc : X.calm = true) (hgl : Gl X "list") (hml : X.mg "list" = none) (hg : Gl X "range") (hm : X.mg "range" = none) (ha : PA X [a, b, c] ta)
    (hs : starEach [a, b, c] X.env = (false, eval a X.env) :: starEach [b, c] X.env := by rfl) (hpl : (backTo pos2 (starEach [b, c] X.env)).any (·.1) = false := by rfl)
    (na : starEach [.Call (.Name "range" p2) [a, b, c] [] pos2] X.env = (false, eval (.Call (.Name "range" p2) [a, b, c] [] pos2) X.env) :: starEach [] X.env := by rfl) :
    PE X (.Call (.Name "list" p) [.Call (.Name "range" p2) [a, b, c] [] pos2] [] pos) (tListR3 ta) := by
  refine ⟨fun pins s σ H Q I h => ?_⟩
  refine Call_ (ld_blt I hgl hml boot_list (PyProof.Rows.callWith_type1 (args_cons (thn (Q := fun x s' => ∃ r i j k n t u v H', x = .ref r ∧ IsRange s'.heap r i j k t u v ∧ Inv X pins σ H' s' ∧ RgC i j k n ∧ n ≤ 2 ^ 24 ∧ ∀ q, H' q = none → Q (.ref q) (upd H' q (.lst (((List.range n).map fun m : Nat => i + (m : Int) * k).map V.int)))) ?_ fun x s1 ⟨r, i, j, k, n, t, u, v, H1, ex, hr, I1, ok, hn, q⟩ => args_nil ?_) na) na))
  · refine Call_ (ld_blt I hg hm boot_range (PyProof.Rows.callWith_type1 (thn (ha.run pos2 pins s σ H _ I h) fun us s1 ⟨vs, H1, I1, r1, q1⟩ => ?_) hs hpl))
    obtain ⟨i, j, k, n, e, ok, hn, q⟩ := q1
    subst e
    cases r1 with
    | cons r rr =>
      cases rr with
      | cons r' rr =>
        cases rr with
        | cons r'' rr =>
          cases rr
          obtain ⟨t, rfl⟩ := r
          obtain ⟨t', rfl⟩ := r'
          obtain ⟨t'', rfl⟩ := r''
          exact call_range_3 ok.1 ⟨_, i, j, k, n, _, _, _, H1, rfl, IsRange.new .., I1.kept (t' := s1.toks) fun b o e => Heap.get?_push_of_some _ e, ok, hn, q⟩ (.inl (PyProof.noPylong_small ok.2.1))
  · subst ex
    obtain ⟨c0, c1, c2, c3⟩ := ok
    refine call_list_range (n := n) (I1.ok.hd hc) hr c2 c3 hn fun h' tk acc c' hk e' hi => ?_
    refine ⟨.ref s1.heap.objs.size, upd H1 s1.heap.objs.size (.lst (((List.range n).map fun m : Nat => i + (m : Int) * k).map V.int)), I1.laid hk (Nat.le_refl _) (show ObjOk X.prog X.w _ _ _ (.lst (((List.range n).map fun m : Nat => i + (m : Int) * k).map V.int)) from ⟨?_, acc.toList, c', ?_, ?_⟩), rfl, q _ (I1.hok.fresh (Nat.le_refl _))⟩
    · rw [List.length_map, List.length_map, List.length_range, sizeLine_eq]; omega
    · have e : acc.toList.length = n := by rw [Array.length_toList]; exact hi.1
      rw [List.map_map, ← e]
      refine vals_of_get acc.toList _ fun m u hm => ?_
      obtain ⟨t, rfl⟩ := hi.2 m u (by rw [← hm, Array.getElem?_toList])
      exact ⟨t, rfl⟩
    · rw [Array.toArray_toList]; exact e'
theorem w_cat {H : Hp} {Q : VK} {a b : Addr} {xs ys : List V} (h1 : H a = some (.lst xs)) (h2 : H b = some (.lst ys)) (hl : xs.length + ys.length ≤ 1000) (q : ∀ l H2, H l = none → Ex H H2 → H2 l = some (.lst (xs ++ ys)) → (∀ c, c ≠ l → H2 c = H c) → Q (.ref l) H2) : rCat (.ref a) (.ref b) H Q :=
  ⟨a, b, xs, ys, rfl, rfl, h1, h2, Nat.le_of_lt (small1000 hl), w_new0 q⟩
end J

namespace J
open PySem PySem.Spec PyProof.Rows L2
/-! ### tuples whose object is known; dict of such; list of a text -/
/-- a new tuple, its object known to have no dict of its own -/
def NewF (xs : List V) (H : Hp) (Q : VK) : Prop := xs.length ≤ sizeLine ∧ ∀ p o, H p = none → o.dict = none → Q (.ref p) (upd H p (.frz o (.tup xs)))
def tTupF (t : TA) : TE := fun σ H Q => t σ H fun xs H1 => NewF xs H1 Q
theorem pe_tupF {X : Cx} {es : List Expr} {t : TA} {pos : Pos} {x1} (h : PA X es t) : PE X (.Tuple es x1 pos) (tTupF t) := by
  refine ⟨fun pins s σ H Q I hq => ?_⟩
  refine wpAny_Tuple_spliced (thn (h.run pos pins s σ H _ I hq) fun us s1 ⟨xs, H1, I1, r, z, q⟩ => ⟨by rw [← r.length]; exact z, ?_⟩)
  have hf : H1 s1.heap.objs.size = none := I1.hok.fresh (Nat.le_refl _)
  refine ⟨.ref s1.heap.objs.size, upd H1 s1.heap.objs.size (.frz { cls := .type "tuple", data := .seq us.toArray } (.tup xs)), I1.laid (t' := s1.toks) (fun b u e => Heap.get?_push_of_some _ e) (Nat.le_refl _) ?_, rfl, q _ _ hf rfl⟩
  exact ⟨Heap.get?_push_size _ rfl, z, us, r, ⟨_, Heap.get?_push_size _ rfl, rfl, _, rfl⟩⟩
def rTupleF (K : PySem.W.Frag) : List V → Hp → VK → Prop := fun xs H Q => ∃ p ys, xs = [.ref p] ∧ SqL K H p ys ∧ ∀ l o, H l = none → o.dict = none → Q (.ref l) (upd H l (.frz o (.tup ys)))
theorem c_tupleF {X : Cx} : CallR X (.type "tuple") (rTupleF X.K) := by
  intro pins s σ H xs us Q I r h
  obtain ⟨p, ys, rfl, hq, q⟩ := h
  obtain ⟨u, rfl, rx⟩ := vals1 r
  cases rx
  obtain ⟨its, r', pl, hz⟩ := I.list hq
  have hlen := r'.length
  refine call_tuple_list pl.isList (fun h' kp => ?_) (by simp only [List.size_toArray] <;> omega)
  have I1 : Inv X pins σ H { s with heap := h' } := I.kept (t' := s.toks) kp
  have I2 : Inv X pins σ (upd H h'.objs.size (.frz { cls := .type "tuple", data := .seq its.toArray } (.tup ys))) { s with heap := h'.push { cls := .type "tuple", data := .seq its.toArray } } :=
    I1.laid (t' := s.toks) (fun b o e => Heap.get?_push_of_some _ e) (Nat.le_refl _) (show ObjOk X.prog X.w _ _ _ (.frz _ (.tup ys)) from ⟨Heap.get?_push_size _ rfl, hz, its, r', IsTup.new _ _⟩)
  exact ⟨.ref h'.objs.size, _, I2, rfl, q _ _ (I1.hok.fresh (Nat.le_refl _)) rfl⟩
/-- dict(t), t a tuple of pairs -/
def rDictT (K : PySem.W.Frag) : List V → Hp → VK → Prop := fun xs H Q => ∃ (a : Addr) (o : Obj) (ps : List Addr) (kvs : List (Key × V)), xs = [.ref a] ∧ H a = some (.frz o (.tup (ps.map V.ref))) ∧ o.dict = none ∧ Paired (fun p kv => SqT K H p [kV kv.1, kv.2]) ps kvs ∧
  ∀ p, H p = none → Q (.ref p) (upd H p (.dK (mergeK [] kvs)))
theorem pairs_us {h : Heap} : ∀ (prs : List (Key × Value)) (ps : List Addr), (∀ (j : Nat) (q : Key × Value), prs[j]? = some q → ∃ (b : Addr) (u : Value), ps[j]? = some b ∧ IsTup h b #[u, q.2] ∧ keyIs q.1 u = true) →
    ∃ us : List (Value × Value), us.length = prs.length ∧ ∀ (j : Nat) (q : Key × Value), prs[j]? = some q → ∃ (b : Addr) (u : Value), ps[j]? = some b ∧ us[j]? = some (u, q.2) ∧ IsTup h b #[u, q.2] ∧ keyIs q.1 u = true
  | [], _, _ => ⟨[], rfl, fun j q e => by simp at e⟩
  | p :: r, ps, hat => by
    obtain ⟨b, u, e1, e2, e3⟩ := hat 0 p rfl
    cases ps with
    | nil => simp at e1
    | cons b' ps =>
      obtain ⟨us, l1, l2⟩ := pairs_us r ps fun j q e => by
        obtain ⟨b, u, z1, z2, z3⟩ := hat (j + 1) q (by simpa using e)
        exact ⟨b, u, by simpa using z1, z2, z3⟩
      refine ⟨(u, p.2) :: us, by rw [List.length_cons, List.length_cons, l1], fun j q e => ?_⟩
      cases j with
      | zero =>
        have e' : p = q := Option.some.inj e
        subst e'
        exact ⟨b, u, e1, rfl, e2, e3⟩
      | succ j =>
        obtain ⟨b2, u2, z1, z2, z3, z4⟩ := l2 j q (by simpa using e)
        exact ⟨b2, u2, by simpa using z1, by simpa using z2, z3, z4⟩
theorem c_dictT {X : Cx} (hcalm : X.calm = true) : CallR X (.type "dict") (rDictT X.K) := by
  intro pins s σ H xs us Q I r q
  obtain ⟨a, o, ps, kvs, ex, hq, hdn, hp, q⟩ := q
  subst ex
  obtain ⟨u, eu, rx⟩ := vals1 r
  subst eu
  cases rx
  obtain ⟨ho, hz, its, rv, pl⟩ := (show ObjOk X.prog X.w H s.heap a (.frz o (.tup (ps.map V.ref))) from I.hok a _ hq)
  have ei := refs_at rv
  subst ei
  rw [List.length_map] at hz
  obtain ⟨prs, rel, hl, hpr⟩ := pairs_of I hp
  obtain ⟨o', ho', hc, n, hdat⟩ := pl
  rw [ho] at ho'
  cases ho'
  have hat : ∀ (j : Nat) (q : Key × Value), prs[j]? = some q → ∃ (b : Addr) (u : Value), ps[j]? = some b ∧ IsTup s.heap b #[u, q.2] ∧ keyIs q.1 u = true := hpr
  obtain ⟨us, hul, hus⟩ := pairs_us (h := s.heap) prs ps hat
  have P := PairArg.tuple (prog := X.prog) (w := X.w) a (ps.map Value.ref).toArray (fun j => ps.getD j 0) us
  refine PySem.call_dict_pairs (knd := mixKind X.prog X.w) (kvs := prs) P (I.ok.hd hcalm) ⟨⟨o, n, ho, hc, hdn, hdat⟩, ?_, fun j k v e => ?_⟩ ⟨hul.symm, fun j key v e => ?_⟩ (by rw [hul, hl]; exact hz) fun h' tk hd' k => ?_
  · simp [hul, hl]
  · have hj : j < prs.length := by rw [← hul]; exact (List.getElem?_eq_some_iff.mp e).1
    obtain ⟨b, u, e1, e2, e3, e4⟩ := hus j prs[j] (List.getElem?_eq_getElem hj)
    rw [e] at e2
    cases e2
    have eb : ps.getD j 0 = b := by rw [List.getD_eq_getElem?_getD, e1]; rfl
    show (ps.map Value.ref).toArray[j]? = some (Value.ref (ps.getD j 0)) ∧ PairAt s.heap (ps.getD j 0) k prs[j].2
    rw [eb]
    exact ⟨by simp [e1], .inl e3⟩
  · have hj : j < prs.length := by rw [← hul]; exact (List.getElem?_eq_some_iff.mp e).1
    obtain ⟨b, u, e1, e2, e3, e4⟩ := hus j prs[j] (List.getElem?_eq_getElem hj)
    have e2' : us[j]? = some (key, v) := e
    rw [e2'] at e2
    cases e2
    exact ⟨prs[j].1, List.getElem?_eq_getElem hj, e4⟩
  · have hm : (s.heap.objs.size == sysModules) = false := beq_eq_false_iff_ne.mpr (Nat.ne_of_gt I.big)
    have hlen : (mergeK [] kvs).length ≤ sizeLine := by
      refine Nat.le_trans (length_mergeK kvs []) ?_
      rw [List.length_nil, Nat.zero_add, rel.length, hl]
      exact hz
    exact ⟨.ref s.heap.objs.size, upd H s.heap.objs.size (.dK (mergeK [] kvs)), I.laid (t' := tk) (fun b o e => k b o (fun z => nomatch z) e) (Nat.le_refl _) (show ObjOk X.prog X.w _ _ _ (.dK (mergeK [] kvs)) from ⟨hlen, hm, merged [] prs, KV.merge rel .nil, hd'⟩), rfl, q _ (I.hok.fresh (Nat.le_refl _))⟩
def rListStr : List V → Hp → VK → Prop := fun xs H Q => ∃ z, xs = [.str z] ∧ z.length ≤ sizeLine ∧ ∀ l, H l = none → Q (.ref l) (upd H l (.lst ((z.cps.toList.map fun c => (⟨#[c]⟩ : Str)).map V.str)))
theorem c_listStr {X : Cx} (hcalm : X.calm = true) : CallR X (.type "list") rListStr := by
  intro pins s σ H xs us Q I r h
  obtain ⟨z, rfl, hz, q⟩ := h
  obtain ⟨u, rfl, t, rfl⟩ := vals1 r
  refine call_list_str (I.ok.hd hcalm) z t (hn := hz) fun h' tk acc c' hk e' hi => ?_
  have hl : acc.toList.length = z.cps.toList.length := by rw [Array.length_toList, Array.length_toList]; exact hi.1
  have hv : Vals ((z.cps.toList.map fun c => (⟨#[c]⟩ : Str)).map V.str) acc.toList := by
    have e : ((z.cps.toList.map fun c => (⟨#[c]⟩ : Str)).map V.str) = (List.range acc.toList.length).map fun j => V.str ⟨#[z.cps.toList.getD j 0]⟩ := by
      rw [List.map_map]
      apply List.ext_getElem
      · simp [hl]
      · intro j h1 h2
        have h3 : j < z.cps.toList.length := by simpa using h1
        simp only [List.getElem_map, List.getElem_range, Function.comp]
        rw [List.getD_eq_getElem?_getD, List.getElem?_eq_getElem h3]; rfl
    rw [e]
    refine vals_of_get acc.toList _ fun j u hj => ?_
    obtain ⟨c, t, h1, rfl⟩ := hi.2 j u (by rw [← hj, Array.getElem?_toList])
    refine ⟨t, ?_⟩
    have : z.cps.toList[j]? = some c := by rw [Array.getElem?_toList]; exact h1
    rw [List.getD_eq_getElem?_getD, this]; rfl
  refine ⟨.ref s.heap.objs.size, upd H s.heap.objs.size (.lst _), I.laid hk (Nat.le_refl _) (show ObjOk X.prog X.w _ _ _ (.lst ((z.cps.toList.map fun c => (⟨#[c]⟩ : Str)).map V.str)) from ⟨?_, acc.toList, c', hv, ?_⟩), rfl, q _ (I.hok.fresh (Nat.le_refl _))⟩
  · rw [List.length_map, List.length_map, Array.length_toList]; exact hz
  · rw [Array.toArray_toList]; exact e'
section
variable {K : PySem.W.Frag} {H : Hp} {Q : VK} {a : Addr} {xs : List V} {z : Str} {σ : L2.St} {tr : TA}
theorem w_tupF (h : tr σ H fun xs H1 => NewF xs H1 Q) : tTupF tr σ H Q := h
theorem w_newF (hl : xs.length ≤ 1000) (h : ∀ q o H2, H q = none → Ex H H2 → o.dict = none → H2 q = some (.frz o (.tup xs)) → Q (.ref q) H2) : NewF xs H Q :=
  ⟨Nat.le_of_lt (small1000 hl), fun p o hp ho => h p o _ hp (Ex.new hp) ho upd_same⟩
theorem w_tupleF (h : SqL K H a xs) (q : ∀ l o H2, H l = none → Ex H H2 → o.dict = none → H2 l = some (.frz o (.tup xs)) → Q (.ref l) H2) : rTupleF K [.ref a] H Q :=
  ⟨a, xs, rfl, h, fun l o hl ho => q l o _ hl (Ex.new hl) ho upd_same⟩
theorem w_listStr (hz : z.length ≤ 1000) (q : ∀ l H2, H l = none → Ex H H2 → H2 l = some (.lst ((z.cps.toList.map fun c => (⟨#[c]⟩ : Str)).map V.str)) → (∀ a, a ≠ l → H2 a = H a) → Q (.ref l) H2) : rListStr [.str z] H Q :=
  ⟨z, rfl, Nat.le_of_lt (small1000 hz), w_new0 q⟩
theorem sf_of {o : Obj} (h : H a = some (.frz o (.tup xs))) : SqT K H a xs := .inl (.inr ⟨o, h⟩)
end
end J

namespace J
open PySem PySem.Spec PyProof.Rows L2
/-! ### texts by order, dicts, slices -/
def rLtS : R2 := fun x y H Q => ∃ i j, x = .str i ∧ y = .str j ∧ Q (.bl (decide (i.cps.toList < j.cps.toList))) H
def rLeS : R2 := fun x y H Q => ∃ i j, x = .str i ∧ y = .str j ∧ Q (.bl (!decide (j.cps.toList < i.cps.toList))) H
theorem o_ltS {X : Cx} : OpR X (compareOp .Lt) rLtS := op_lt_str
theorem o_leS {X : Cx} : OpR X (compareOp .LtE) rLeS := op_le_str
def DGetB (x y : V) (H : Hp) (Q : VK) : Prop := ∃ a v, x = .ref a ∧ DGet H a y (some v) ∧ Q v H
def DNotB (x y : V) (H : Hp) (Q : VK) : Prop := ∃ a o, x = .ref a ∧ DGet H a y o ∧ Q (.bl (!o.isSome)) H
section
variable {K : PySem.W.Frag} {σ : L2.St} {H : Hp} {Q : VK} {td ty te : TE} {tl th : TO} {QO : Option Int → Hp → Prop} {i : Int} {a : Addr} {z y : Str} {v : V} {kvs : List (Key × V)} {xs : List V}
theorem w_ltS (q : Q (.bl (decide (z.cps.toList < y.cps.toList))) H) : rLtS (.str z) (.str y) H Q := ⟨z, y, rfl, rfl, q⟩
theorem w_leS (q : Q (.bl (!decide (y.cps.toList < z.cps.toList))) H) : rLeS (.str z) (.str y) H Q := ⟨z, y, rfl, rfl, q⟩
theorem w_dget (h : td σ H fun x H1 => ty σ H1 fun y H2 => DGetB x y H2 Q) : tDGet td ty σ H Q := h
theorem w_dnotin (h : ty σ H fun y H1 => td σ H1 fun x H2 => DNotB x y H2 Q) : tDNotIn ty td σ H Q := h
theorem w_dgetS (h : H a = some (.dK kvs)) (e : valV kvs (.inr z) = some v) (q : Q v H) : DGetB (.ref a) (.str z) H Q := ⟨a, v, rfl, e ▸ DGet.k (k := Sum.inr z) h, q⟩
theorem w_dnotS (h : H a = some (.dK kvs)) (q : Q (.bl (!(valV kvs (.inr z)).isSome)) H) : DNotB (.ref a) (.str z) H Q := ⟨a, _, rfl, DGet.k (k := Sum.inr z) h, q⟩
theorem w_sl {r : V → Option Int → Option Int → Hp → VK → Prop} (h : te σ H fun x H1 => tl σ H1 fun l H2 => th σ H2 fun u H3 => r x l u H3 Q) : tSl r te tl th σ H Q := h
theorem w_noPart (q : QO none H) : tNoPart σ H QO := q
theorem w_part (h : te σ H fun x H1 => ∃ i, x = .int i ∧ QO (some i) H1) : tPart te σ H QO := h
theorem w_some {q : Int → Prop} (h : q i) : ∃ k, V.int i = .int k ∧ q k := ⟨i, rfl, h⟩
/-- t[:k] of a tuple: the first k, itself where that is all -/
theorem w_slTake {k : Nat} (h : SqT K H a xs) (hk : k ≤ xs.length) (q : ∀ l H2, Ex H H2 → SqT K H2 l (xs.take k) → Q (.ref l) H2) : rSlA K (.ref a) none (some (k : Int)) H Q := by
  have e0 : HT.sIx xs.length 0 none = 0 := HT.sIx_none ..
  have e1 : HT.sIx xs.length xs.length (some (k : Int)) = k := by
    rw [HT.sIx_nat]; omega
  refine ⟨a, xs, rfl, h, fun z => ?_, fun _ p hp => ?_⟩
  · rw [e1] at z
    refine q a H (Ex.refl H) ?_
    rw [List.take_of_length_le (by omega)]; exact h
  · have ec : cutV xs none (some (k : Int)) = xs.take k := by
      unfold cutV
      rw [e0, e1]; rfl
    rw [ec]
    exact q p _ (Ex.new hp) (st_of upd_same)
end
end J
set_option Elab.async false
set_option linter.all false
set_option maxRecDepth 100000
namespace J
open PySem PySem.Spec PyProof.Rows L2
section
variable {prog : Program} {w : World} {A : Around} {s : Shared} {E : Value → Shared → Prop}
theorem adjust_rev (n : Nat) : Builtin.Slice.sliceAdjust none none (-1) (n : Int) = ((n : Int) - 1, -1) := by
  unfold Builtin.Slice.sliceAdjust
  simp
theorem places_rev (n : Nat) : Builtin.Slice.slicePlaces ((n : Int) - 1) (-1) (-1) = n := by
  unfold Builtin.Slice.slicePlaces
  simp
  omega
theorem sliceApplied_rev {sl : Addr} {vl vu vs : Value} {n : Nat} {Q : Int × Int × Nat → Shared → Prop} (hs : s.heap.IsSliceOf sl vl vu vs) (pl : IsPart vl none) (pu : IsPart vu none) (ps : IsPart vs (some (-1)))
    (h : Q ((n : Int) - 1, -1, n) s) : wpAny (model prog w) A (Builtin.Slice.sliceApplied (.ref sl) (pure (n : Int))) Q E s := by
  obtain ⟨os, hos, hcs, hds⟩ := id hs
  unfold Builtin.Slice.sliceApplied Builtin.Slice.sliceFields
  refine wpAny_bind (wpAny_bind (wpAny_field hos hds (x := vl) rfl (wpAny_bind (wpAny_field hos hds (x := vu) rfl (wpAny_bind (wpAny_field hos hds (x := vs) rfl (wpAny_pure ?_)))))))
  refine wpAny_bind (HT.slicePart_ ps ?_)
  show wpAny _ _ (if ((-1 : Int) == 0) = true then _ else _) _ _ s
  rw [if_neg (by decide)]
  refine wpAny_bind (HT.slicePart_ pl (wpAny_bind (HT.slicePart_ pu (wpAny_bind (wpAny_pure ?_)))))
  show wpAny _ _ (match Builtin.Slice.sliceAdjust none none (-1) (n : Int) with | (lo, hi) => pure (lo, (-1 : Int), Builtin.Slice.slicePlaces lo hi (-1))) _ _ s
  rw [adjust_rev n]
  show wpAny _ _ (pure ((n : Int) - 1, (-1 : Int), Builtin.Slice.slicePlaces ((n : Int) - 1) (-1) (-1))) _ _ s
  rw [places_rev]
  exact wpAny_pure h
theorem pick_rev (xs : Array Value) : ((List.range xs.size).filterMap fun (m : Nat) => xs[(((xs.size : Nat) : Int) - 1 + (m : Int) * (-1)).toNat]?).toArray = xs.toList.reverse.toArray := by
  congr 1
  have e : ((List.range xs.size).filterMap fun (m : Nat) => xs[(((xs.size : Nat) : Int) - 1 + (m : Int) * (-1)).toNat]?) = ((List.range xs.size).map fun k => xs.size - 1 - k).filterMap fun k => xs[k]? := by
    rw [List.filterMap_map]
    have gen : ∀ (l : List Nat) (f g : Nat → Option Value), (∀ m ∈ l, f m = g m) → l.filterMap f = l.filterMap g := by
      intro l f g
      induction l with
      | nil => intro _; rfl
      | cons a l ih =>
        intro h
        rw [List.filterMap_cons, List.filterMap_cons, h a (List.mem_cons_self), ih fun m hm => h m (List.mem_cons_of_mem _ hm)]
    refine gen _ _ _ fun m hm => ?_
    have := List.mem_range.mp hm
    show _ = xs[xs.size - 1 - m]?
    congr 1
    omega
  rw [e, PySem.W.krv_range, List.filterMap_reverse, PySem.W.krv_all]
theorem getItem_tuple_rev {t sl : Addr} {items : Array Value} {vl vu vs : Value} {Q : Value → Shared → Prop} (ht : IsTup s.heap t items) (hs : s.heap.IsSliceOf sl vl vu vs) (pl : IsPart vl none) (pu : IsPart vu none) (ps : IsPart vs (some (-1)))
    (h : Q (.ref s.heap.objs.size) { s with heap := s.heap.push { cls := .type "tuple", data := .seq items.toList.reverse.toArray } })
    (hsz : items.size ≤ sizeLine) : wpAny (model prog w) A (getItem (.ref t) (.ref sl)) Q E s := by
  have htake : sizeOk (.seq items.toList.reverse.toArray) := by
    show items.toList.reverse.toArray.size ≤ sizeLine
    rw [List.size_toArray, List.length_reverse, Array.length_toList]
    omega
  obtain ⟨os, hos, hcs, hds⟩ := id hs
  have hTs : s.TypeIs (.ref sl) "slice" := ⟨os, hos, hcs⟩
  unfold getItem
  try with_reducible refine wpAny_holding ?_
  first | refine wpAny_bind (wpAny_pure ?_) | skip
  refine wpAny_bind (wpAny_sequenceKey ht.typeIs (by decide) ?_)
  refine wpAny_bind (wpAny_callSpecial?_slot (name := Str.ofString "__getitem__") ht.typeIs PyProof.Rows.slot_tuple_getitem
    (wpAny_call_entry PyProof.Rows.slot_tuple_getitem ht.typeIs entry_tuple_getitem ?_ (args_tuple_getitem _ _)))
  show wpAny _ _ (Builtin.Tuple.tupleItemsOf (.ref t) >>= _) _ _ s
  refine wpAny_bind (tupleItemsOf_ ht ?_)
  refine wpAny_bind (wpAny_typeOf hTs ?_)
  rw [if_pos (by decide)]
  refine wpAny_bind (sliceApplied_rev hs pl pu ps ?_)
  have hno : ¬ ((((items.size : Int) - 1) == 0 && (-1 : Int) == 1 && items.size == items.size) = true) := by
    intro q
    rw [Bool.and_eq_true, Bool.and_eq_true] at q
    have := q.1.2
    revert this; decide
  show wpAny _ _ (if (((items.size : Int) - 1) == 0 && (-1 : Int) == 1 && items.size == items.size) = true then _ else _) _ _ s
  rw [if_neg hno, pick_rev]
  first
    | exact wpAny_bind (m := Builtin.Tuple.tupleExact _) (wpAny_newObj_type (wpAny_pure ⟨_, rfl, wpAny_pure h⟩) htake)
    | exact wpAny_bind (m := Builtin.Tuple.tupleExact _) (wpAny_newObj_type (wpAny_bind (wpAny_pure (wpAny_pure ⟨_, rfl, wpAny_pure h⟩))) htake)
    | exact wpAny_bind (wpAny_bind (m := Builtin.Tuple.tupleExact _) (wpAny_newObj_type (wpAny_pure (wpAny_pure ⟨_, rfl, wpAny_pure h⟩)) htake))
    | exact wpAny_bind (wpAny_bind (m := Builtin.Tuple.tupleExact _) (wpAny_newObj_type (wpAny_pure ⟨_, rfl, wpAny_pure h⟩) htake))
end
/-- t[::-1] of a tuple -/
def RevB (K : PySem.W.Frag) (x : V) (H : Hp) (Q : VK) : Prop := ∃ a xs, x = .ref a ∧ SqT K H a xs ∧ ∀ p, H p = none → Q (.ref p) (upd H p (.tup xs.reverse))
def tRevT (K : PySem.W.Frag) (te : TE) : TE := fun σ H Q => te σ H fun x H1 => RevB K x H1 Q
theorem pe_revT {X : Cx} {e : Expr} {te : TE} {k : Nat} {p1 p2 p3 pos : Pos} (he : PE X e te) : PE X (.Subscript e (.Slice none none (some (.UnaryOp .USub (.Constant (.int 1) k p1) p2)) p3) pos) (tRevT X.K te) := by
  refine ⟨fun pins s σ H Q I h => ?_⟩
  refine Subscript_ (thn (he.run pins s σ H _ I h) fun v s1 ⟨x, H1, I1, r1, q1⟩ => ?_)
  obtain ⟨a, xs, ex, hx, q⟩ := q1
  subst ex
  cases r1
  have hst : PO X (some (.UnaryOp .USub (.Constant (.int 1) k p1) p2)) (tPart (tUn (rU fun i => .int (-i)) (tC (.int 1)))) := po_some (pe_un un_neg pe_int)
  refine wpAny_Slice (thn (po_none.run pins s1 σ H1 (fun o H2 => o = none ∧ H2 = H1) I1 ⟨rfl, rfl⟩) fun vl s2 ⟨l, H2, I2, pl, el, e2⟩ => ?_)
  subst el e2
  refine thn (po_none.run pins s2 σ H2 (fun o H3 => o = none ∧ H3 = H2) I2 ⟨rfl, rfl⟩) fun vu s3 ⟨u, H3, I3, pu, eu, e3⟩ => ?_
  subst eu e3
  refine thn (hst.run pins s3 σ H3 (fun o H4 => o = some (-1) ∧ H4 = H3) I3 ⟨1, rfl, -1, rfl, rfl, rfl⟩) fun vs s4 ⟨o, H4, I4, ps, eo, e4⟩ => ?_
  subst eo e4
  have I5 : Inv X pins σ H4 { s4 with heap := s4.heap.push { cls := .type "slice", data := .fields #[vl, vu, vs] } } := I4.kept (t' := s4.toks) fun b ob q => Heap.get?_push_of_some _ q
  obtain ⟨its, r, ht, hz⟩ := I5.tuple hx
  have hlen := r.length
  show wpAny (model X.prog X.w) X.A (subscriptTail e (.Slice none none (some (.UnaryOp .USub (.Constant (.int 1) k p1) p2)) p3) (.ref a) (.ref s4.heap.objs.size)) (EP X pins σ Q) X.xe { s4 with heap := s4.heap.push { cls := .type "slice", data := .fields #[vl, vu, vs] } }
  refine tail_any (ops := [.ref a, .ref s4.heap.objs.size]) ht.typeIs PyProof.Rows.slot_tuple_getitem.lookup ?_ (by with_unfolding_all rfl)
  refine getItem_tuple_rev ht (Heap.IsSliceOf.new _ vl vu vs) pl pu ps ?_ (by rw [List.size_toArray]; omega)
  refine ⟨.ref _, _, I5.laid (t' := s4.toks) (o := .tup xs.reverse) (fun b ob q => Heap.get?_push_of_some _ q) (Nat.le_refl _) ?_, rfl, q _ (I5.hok.fresh (Nat.le_refl _))⟩
  exact ⟨by rw [List.length_reverse]; exact hz, _, r.reverse, IsTup.new _ _⟩
theorem w_revT {K : PySem.W.Frag} {te : TE} {σ : L2.St} {H : Hp} {Q : VK} (h : te σ H fun x H1 => RevB K x H1 Q) : tRevT K te σ H Q := h
theorem w_par {i j : Nat} {ta : TA} {D : Ends} {σ : L2.St} {H : Hp} (h : ta σ H fun vs H1 => ∃ v w, vs = [v, w] ∧ D.nx ((σ.set i (some v)).set j (some w)) H1) : tPar i j ta D σ H := h
theorem w_rev {K : PySem.W.Frag} {H : Hp} {Q : VK} {a : Addr} {xs : List V} (h : SqT K H a xs) (q : ∀ l H2, H l = none → Ex H H2 → H2 l = some (.tup xs.reverse) → Q (.ref l) H2) : RevB K (.ref a) H Q :=
  ⟨a, xs, rfl, h, fun p hp => q p _ hp (Ex.new hp) upd_same⟩
/-- divmod, slices of texts -/
def rDivmod : List V → Hp → VK → Prop := fun xs H Q => ∃ i j, xs = [.int i, .int j] ∧ CDiv i j ∧ ∀ p, H p = none → Q (.ref p) (upd H p (.tup [.int (i / j), .int (i % j)]))
theorem c_divmod {X : Cx} : CallR X (.builtin "divmod") rDivmod := call_divmod
theorem w_divmod {i j : Int} {H : Hp} {Q : VK} (h0 : 0 < j) (h1 : j < 1073741824) (q : ∀ p H2, H p = none → Ex H H2 → H2 p = some (.tup [.int (i / j), .int (i % j)]) → Q (.ref p) H2) : rDivmod [.int i, .int j] H Q :=
  ⟨i, j, rfl, ⟨h0, h1⟩, fun p hp => q p _ hp (Ex.new hp) upd_same⟩
theorem w_slS {z : Str} {k : Int} {H : Hp} {Q : VK} (hz : z.length ≤ sizeLine) (h0 : 0 ≤ k) (h1 : k ≤ z.length) (q : Q (.str ⟨(z.cps.toList.take k.toNat).toArray⟩) H) : rSlS (.str z) none (some k) H Q := by
  refine ⟨z, rfl, hz, ?_⟩
  have e0 : HT.sIx z.length 0 none = 0 := HT.sIx_none ..
  have e1 : HT.sIx z.length z.length (some k) = k.toNat := by
    rw [show k = ((k.toNat : Nat) : Int) by omega, HT.sIx_nat]; omega
  unfold cutS
  rw [e0, e1]
  exact q
def LRg (x y : V) (H : Hp) (Q : VK) : Prop := ∃ i j, x = .int i ∧ y = .int j ∧ RgOk i j ∧ ∀ q, H q = none → Q (.ref q) (upd H q (.lst (rgV i j)))
theorem w_listRg2 {ta tb : TE} {σ : L2.St} {H : Hp} {Q : VK} (h : ta σ H fun x H1 => tb σ H1 fun y H2 => LRg x y H2 Q) : tLstRg (tRg2 ta tb) σ H Q := h
theorem w_lrg {i j : Int} {H : Hp} {Q : VK} (h : RgOk i j) (q : ∀ l H2, H l = none → Ex H H2 → H2 l = some (.lst (rgV i j)) → Q (.ref l) H2) : LRg (.int i) (.int j) H Q :=
  ⟨i, j, rfl, rfl, h, fun p hp => q p _ hp (Ex.new hp) upd_same⟩
theorem w_lcR2 {g : TG} {tt : TT} {te : TE} {vs : List Nat} {σ : L2.St} {H : Hp} {Q : VK} {i j : Int} (h0 : -(2 ^ 62) ≤ i ∧ i < 2 ^ 62 ∧ -(2 ^ 62) ≤ j ∧ j < 2 ^ 62) (h : LcB (Itr i (j - i).toNat) g tt te vs σ H Q) : ∃ i' j' : Int, [V.int i, V.int j] = [.int i', .int j'] ∧ (-(2 ^ 62) ≤ i' ∧ i' < 2 ^ 62 ∧ -(2 ^ 62) ≤ j' ∧ j' < 2 ^ 62) ∧ LcB (Itr i' (j' - i').toNat) g tt te vs σ H Q := ⟨i, j, rfl, h0, h⟩
end J
namespace J
open PySem PySem.Spec PyProof.Rows L2
local macro_rules | `(tactic| walk_at "go1") => `(tactic| first
  | with_reducible refine' w_seq ?_
  | with_reducible refine' w_next ?_
  | with_reducible refine' w_brk ?_
  | with_reducible refine' w_cont ?_
  | with_reducible refine' w_asg ?_
  | with_reducible refine' w_asgG ?_
  | with_reducible refine' w_gSub ?_
  | with_reducible refine' w_ret ?_
  | with_reducible refine' w_retN ?_
  | with_reducible refine' w_drop ?_
  | with_reducible refine' w_ifS ?_
  | ((with_reducible refine' w_isAug ?_); refine w_aug rfl ?_)
  | with_reducible refine' w_ipadd ?_
  | with_reducible refine' w_ipsub ?_
  | ((with_reducible refine' w_isVar ?_); refine w_var rfl ?_)
  | with_reducible refine' w_c ?_
  | with_reducible refine' w_nil ?_
  | with_reducible refine' w_cons ?_
  | with_reducible refine' w_op ?_
  | with_reducible refine' w_un ?_
  | with_reducible refine' w_cb ?_
  | with_reducible refine' w_call ?_
  | with_reducible refine' w_callK ?_
  | with_reducible refine' w_test ?_
  | with_reducible refine' w_tB ?_
  | with_reducible refine' w_and ?_
  | with_reducible refine' w_or ?_
  | with_reducible refine' w_not ?_
  | with_reducible refine' w_andV ?_
  | with_reducible refine' w_orV ?_
  | with_reducible refine' w_notV ?_
  | with_reducible refine' w_if ?_
  | with_reducible refine' w_chain ?_
  | with_reducible refine' w_exb ?_
  | with_reducible refine' w_add ?_
  | with_reducible refine' w_sub ?_
  | with_reducible refine' w_lt ?_
  | with_reducible refine' w_le ?_
  | with_reducible refine' w_gt ?_
  | with_reducible refine' w_ge ?_
  | ((with_reducible refine' w_mod ?h ?q); (case h => first | decide | omega))
  | ((with_reducible refine' w_fdiv ?h ?h2 ?q); (case h => first | decide | omega); (case h2 => first | decide | omega))
  | ((with_reducible refine' w_mulR ?h ?q); (case h => omega))
  | ((with_reducible refine' w_mulL ?h ?q); (case h => omega))
  | with_reducible refine' w_pow_6 ?_
  | with_reducible refine' w_pow_9 ?_
  | with_reducible refine' w_pow_12 ?_
  | with_reducible refine' w_pow_14 ?_
  | with_reducible refine' w_pow_15 ?_
  | with_reducible refine' w_pow_18 ?_
  | with_reducible refine' w_neg ?_
  | ((with_reducible refine' w_eq ?h ?q); (case h => exact rfl))
  | ((with_reducible refine' w_ne ?h ?q); (case h => exact rfl))
  | with_reducible refine' w_abs ?_
  | with_reducible refine' w_int ?_
  | with_reducible refine' w_max ?_
  | with_reducible refine' w_min ?_
  | with_reducible refine' w_count ?_
  | with_reducible refine' w_m1 ?_
  | with_reducible refine' w_bm ?_
  | with_reducible refine' w_listR3 ?_
  | with_reducible refine' w_exs ?_
  | with_reducible refine' w_inS ?_
  | with_reducible refine' w_notInS ?_
  | with_reducible refine' w_for ?_
  | with_reducible refine' w_while ?_
  | with_reducible refine' w_lc ?_
  | with_reducible refine' w_iTup ?_
  | with_reducible refine' w_iList ?_
  | with_reducible refine' w_iRng1 ?_
  | with_reducible refine' w_iRng2 ?_
  | with_reducible refine' w_gName ?_
  | with_reducible refine' w_tYes ?_
  | with_reducible refine' w_tupD ?_
  | with_reducible refine' w_tupF ?_
  | with_reducible refine' w_ltS ?_
  | with_reducible refine' w_leS ?_
  | with_reducible refine' w_dget ?_
  | with_reducible refine' w_dnotin ?_
  | with_reducible refine' w_sl ?_
  | with_reducible refine' w_part ?_
  | with_reducible refine' w_noPart ?_
  | with_reducible refine' w_some ?_
  | with_reducible refine' w_lstD ?_
  | with_reducible refine' w_revT ?_
  | with_reducible refine' w_par ?_
  )
local macro_rules | `(tactic| walk_at "go") => `(tactic| repeat (walk_at "go1"))
def topS (i : Nat) : Stmt := PySem.Challenge.pw_officepapers_k03_open_days_counted_and_n.main.body.getD i (.Pass ⟨0, 0, 0, 0⟩)
def kg_kb_nth_open_0_number_day_calendar : List Value → List Value → List Value
  | [], [w0, w1, w2] => [w2, w1, w0]
  | _, _ => []
def kgV_kb_nth_open_0_number_day_calendar : List V → List V → List V
  | [], [w0, w1, w2] => [w2, w1, w0]
  | _, _ => []
def kg_kb_count_open_0_last_first_calendar : List Value → List Value → List Value
  | [], [w0, w1, w2] => [w2, w1, w0]
  | _, _ => []
def kgV_kb_count_open_0_last_first_calendar : List V → List V → List V
  | [], [w0, w1, w2] => [w2, w1, w0]
  | _, _ => []
abbrev s_is_whole : Stmt := topS 7
abbrev N_is_whole : List Str := ["thing", "low", "high"]
theorem sc_is_whole : FnScope N_is_whole ["thing", "low", "high"] (defScope s_is_whole) := ⟨rfl, rfl, rfl, by decide +kernel, rfl, by decide +kernel, by decide +kernel⟩
abbrev s_is_pair : Stmt := topS 8
abbrev N_is_pair : List Str := ["thing"]
theorem sc_is_pair : FnScope N_is_pair ["thing"] (defScope s_is_pair) := ⟨rfl, rfl, rfl, by decide +kernel, rfl, by decide +kernel, by decide +kernel⟩
abbrev s_is_rising : Stmt := topS 9
abbrev N_is_rising : List Str := ["things", "at"]
theorem sc_is_rising : FnScope N_is_rising ["things"] (defScope s_is_rising) := ⟨rfl, rfl, rfl, by decide +kernel, rfl, by decide +kernel, by decide +kernel⟩
abbrev s_need_day : Stmt := topS 10
abbrev N_need_day : List Str := ["thing"]
theorem sc_need_day : FnScope N_need_day ["thing"] (defScope s_need_day) := ⟨rfl, rfl, rfl, by decide +kernel, rfl, by decide +kernel, by decide +kernel⟩
abbrev s_need_number : Stmt := topS 11
abbrev N_need_number : List Str := ["thing", "most"]
theorem sc_need_number : FnScope N_need_number ["thing", "most"] (defScope s_need_number) := ⟨rfl, rfl, rfl, by decide +kernel, rfl, by decide +kernel, by decide +kernel⟩
abbrev s_is_calendar : Stmt := topS 17
abbrev N_is_calendar : List Str := ["thing"]
theorem sc_is_calendar : FnScope N_is_calendar ["thing"] (defScope s_is_calendar) := ⟨rfl, rfl, rfl, by decide +kernel, rfl, by decide +kernel, by decide +kernel⟩
abbrev s_nth_open : Stmt := topS 18
abbrev N_nth_open : List Str := ["calendar", "day", "number"]
theorem sc_nth_open : FnScope N_nth_open ["calendar", "day", "number"] (defScope s_nth_open) := ⟨rfl, rfl, rfl, by decide +kernel, rfl, by decide +kernel, by decide +kernel⟩
abbrev s_count_open : Stmt := topS 19
abbrev N_count_open : List Str := ["calendar", "first", "last"]
theorem sc_count_open : FnScope N_count_open ["calendar", "first", "last"] (defScope s_count_open) := ⟨rfl, rfl, rfl, by decide +kernel, rfl, by decide +kernel, by decide +kernel⟩
abbrev s_open_on : Stmt := topS 20
abbrev N_open_on : List Str := ["calendar", "day", "pattern", "closed", "opened"]
theorem sc_open_on : FnScope N_open_on ["calendar", "day"] (defScope s_open_on) := ⟨rfl, rfl, rfl, by decide +kernel, rfl, by decide +kernel, by decide +kernel⟩
abbrev s_is_pattern : Stmt := topS 21
abbrev N_is_pattern : List Str := ["thing"]
theorem sc_is_pattern : FnScope N_is_pattern ["thing"] (defScope s_is_pattern) := ⟨rfl, rfl, rfl, by decide +kernel, rfl, by decide +kernel, by decide +kernel⟩
abbrev s_need_calendar : Stmt := topS 22
abbrev N_need_calendar : List Str := ["thing"]
theorem sc_need_calendar : FnScope N_need_calendar ["thing"] (defScope s_need_calendar) := ⟨rfl, rfl, rfl, by decide +kernel, rfl, by decide +kernel, by decide +kernel⟩
abbrev s_is_spans : Stmt := topS 23
abbrev N_is_spans : List Str := ["thing", "span"]
theorem sc_is_spans : FnScope N_is_spans ["thing"] (defScope s_is_spans) := ⟨rfl, rfl, rfl, by decide +kernel, rfl, by decide +kernel, by decide +kernel⟩
abbrev s_is_span : Stmt := topS 24
abbrev N_is_span : List Str := ["thing"]
theorem sc_is_span : FnScope N_is_span ["thing"] (defScope s_is_span) := ⟨rfl, rfl, rfl, by decide +kernel, rfl, by decide +kernel, by decide +kernel⟩
abbrev s_in_spans : Stmt := topS 25
abbrev N_in_spans : List Str := ["spans", "day", "first", "last"]
theorem sc_in_spans : FnScope N_in_spans ["spans", "day"] (defScope s_in_spans) := ⟨rfl, rfl, rfl, by decide +kernel, rfl, by decide +kernel, by decide +kernel⟩
abbrev s_plain_rank : Stmt := topS 26
abbrev N_plain_rank : List Str := ["pattern", "day", "turns", "rest"]
theorem sc_plain_rank : FnScope N_plain_rank ["pattern", "day"] (defScope s_plain_rank) := ⟨rfl, rfl, rfl, by decide +kernel, rfl, by decide +kernel, by decide +kernel⟩
abbrev s_plain_day : Stmt := topS 27
abbrev N_plain_day : List Str := ["pattern", "rank", "places", "turns", "rest", "at"]
theorem sc_plain_day : FnScope N_plain_day ["pattern", "rank"] (defScope s_plain_day) := ⟨rfl, rfl, rfl, by decide +kernel, rfl, by decide +kernel, by decide +kernel⟩
abbrev s_rank : Stmt := topS 28
abbrev N_rank : List Str := ["calendar", "day", "pattern", "near", "rank", "at"]
theorem sc_rank : FnScope N_rank ["calendar", "day"] (defScope s_rank) := ⟨rfl, rfl, rfl, by decide +kernel, rfl, by decide +kernel, by decide +kernel⟩
abbrev s_ranked_day : Stmt := topS 29
abbrev N_ranked_day : List Str := ["calendar", "rank", "pattern", "below", "near", "at"]
theorem sc_ranked_day : FnScope N_ranked_day ["calendar", "rank"] (defScope s_ranked_day) := ⟨rfl, rfl, rfl, by decide +kernel, rfl, by decide +kernel, by decide +kernel⟩
abbrev s_law_hand : Stmt := topS 31
abbrev N_law_hand : List Str := ["_law_script"]
theorem sc_law_hand : FnScope N_law_hand ["_law_script"] (defScope s_law_hand) := ⟨rfl, rfl, rfl, by decide +kernel, rfl, by decide +kernel, by decide +kernel⟩
abbrev s_law_draw : Stmt := topS 32
abbrev N_law_draw : List Str := ["_law_hand_here", "_law_size", "_law_value", "_law_cell", "_law_mixed"]
theorem sc_law_draw : FnScope N_law_draw ["_law_hand_here", "_law_size"] (defScope s_law_draw) := ⟨rfl, rfl, rfl, by decide +kernel, rfl, by decide +kernel, by decide +kernel⟩
abbrev s_law_spans : Stmt := topS 33
abbrev N_law_spans : List Str := ["_law_hand_here", "_law_found", "_law_turn", "_law_first", "_law_size", "_law_span"]
theorem sc_law_spans : FnScope N_law_spans ["_law_hand_here"] (defScope s_law_spans) := ⟨rfl, rfl, rfl, by decide +kernel, rfl, by decide +kernel, by decide +kernel⟩
abbrev s_law_calendar : Stmt := topS 34
abbrev N_law_calendar : List Str := ["_law_hand_here", "_law_size", "_law_spot", "_law_signs", "_law_k"]
theorem sc_law_calendar : FnScope N_law_calendar ["_law_hand_here"] (defScope s_law_calendar) := ⟨rfl, rfl, rfl, by decide +kernel, rfl, by decide +kernel, by decide +kernel⟩
abbrev s_law_open : Stmt := topS 35
abbrev N_law_open : List Str := ["_law_calendar_here", "_law_day_here", "_law_signs", "_law_shut", "_law_free", "_law_one"]
theorem sc_law_open : FnScope N_law_open ["_law_calendar_here", "_law_day_here"] (defScope s_law_open) := ⟨rfl, rfl, rfl, by decide +kernel, rfl, by decide +kernel, by decide +kernel⟩
abbrev s_law_day : Stmt := topS 36
abbrev N_law_day : List Str := ["_law_hand_here", "_law_some"]
theorem sc_law_day : FnScope N_law_day ["_law_hand_here"] (defScope s_law_day) := ⟨rfl, rfl, rfl, by decide +kernel, rfl, by decide +kernel, by decide +kernel⟩
abbrev s_law_plain : Stmt := topS 37
abbrev N_law_plain : List Str := ["_law_signs", "_law_first", "_law_last", "_law_rounds", "_law_rest", "_law_day_here"]
theorem sc_law_plain : FnScope N_law_plain ["_law_signs", "_law_first", "_law_last"] (defScope s_law_plain) := ⟨rfl, rfl, rfl, by decide +kernel, rfl, by decide +kernel, by decide +kernel⟩
abbrev s_law_count : Stmt := topS 38
abbrev N_law_count : List Str := ["_law_calendar_here", "_law_first", "_law_last", "_law_signs", "_law_found", "_law_day_here"]
theorem sc_law_count : FnScope N_law_count ["_law_calendar_here", "_law_first", "_law_last"] (defScope s_law_count) := ⟨rfl, rfl, rfl, by decide +kernel, rfl, by decide +kernel, by decide +kernel⟩
abbrev s_law : Stmt := topS 39
abbrev N_law : List Str := ["_law_script", "_law_hand_here", "_law_turn", "_law_calendar_here", "_law_step", "_law_one", "_law_other", "_law_number", "_law_found"]
theorem sc_law : FnScope N_law ["_law_script"] (defScope s_law) := ⟨rfl, rfl, rfl, by decide +kernel, rfl, by decide +kernel, by decide +kernel⟩
structure Tx (K : PySem.W.Frag) (mg : Str → Option Value) (ad : Nat → Addr) (fdd : Nat → FuncData) : Prop where
  m_FAR_DAY : ∃ u, mg "FAR_DAY" = some u ∧ RelV (.int (1000000000000000)) u
  m_FAR_NUMBER : ∃ u, mg "FAR_NUMBER" = some u ∧ RelV (.int (1000000000000000)) u
  m_FIRST_NEAR : ∃ u, mg "FIRST_NEAR" = some u ∧ RelV (.int (-30)) u
  m_LAST_NEAR : ∃ u, mg "LAST_NEAR" = some u ∧ RelV (.int (30)) u
  m_MOST_SPANS : ∃ u, mg "MOST_SPANS" = some u ∧ RelV (.int (2)) u
  m_abs : mg "abs" = none
  m_all : mg "all" = none
  m_bool : mg "bool" = none
  m_divmod : mg "divmod" = none
  m_int : mg "int" = none
  m_isinstance : mg "isinstance" = none
  m_len : mg "len" = none
  m_list : mg "list" = none
  m_max : mg "max" = none
  m_min : mg "min" = none
  m_range : mg "range" = none
  m_sorted : mg "sorted" = none
  m_str : mg "str" = none
  m_tuple : mg "tuple" = none
  F_is_whole : Fun K "is_whole" "is_whole" s_is_whole (ad 7) (fdd 7)
  g_is_whole : mg "is_whole" = some (.ref (ad 7))
  b_is_whole : Binds K (fdd 7) ["thing", "low", "high"] []
  F_is_pair : Fun K "is_pair" "is_pair" s_is_pair (ad 8) (fdd 8)
  g_is_pair : mg "is_pair" = some (.ref (ad 8))
  b_is_pair : Binds K (fdd 8) ["thing"] []
  F_is_rising : Fun K "is_rising" "is_rising" s_is_rising (ad 9) (fdd 9)
  g_is_rising : mg "is_rising" = some (.ref (ad 9))
  b_is_rising : Binds K (fdd 9) ["things"] []
  F_need_day : Fun K "need_day" "need_day" s_need_day (ad 10) (fdd 10)
  g_need_day : mg "need_day" = some (.ref (ad 10))
  b_need_day : Binds K (fdd 10) ["thing"] []
  F_need_number : Fun K "need_number" "need_number" s_need_number (ad 11) (fdd 11)
  g_need_number : mg "need_number" = some (.ref (ad 11))
  b_need_number : Binds K (fdd 11) ["thing", "most"] []
  F_is_calendar : Fun K "is_calendar" "is_calendar" s_is_calendar (ad 17) (fdd 17)
  g_is_calendar : mg "is_calendar" = some (.ref (ad 17))
  b_is_calendar : Binds K (fdd 17) ["thing"] []
  F_nth_open : Fun K "nth_open" "nth_open" s_nth_open (ad 18) (fdd 18)
  g_nth_open : mg "nth_open" = some (.ref (ad 18))
  b_nth_open : Binds K (fdd 18) ["calendar", "day", "number"] []
  F_count_open : Fun K "count_open" "count_open" s_count_open (ad 19) (fdd 19)
  g_count_open : mg "count_open" = some (.ref (ad 19))
  b_count_open : Binds K (fdd 19) ["calendar", "first", "last"] []
  F_open_on : Fun K "open_on" "open_on" s_open_on (ad 20) (fdd 20)
  g_open_on : mg "open_on" = some (.ref (ad 20))
  b_open_on : Binds K (fdd 20) ["calendar", "day"] []
  F_is_pattern : Fun K "is_pattern" "is_pattern" s_is_pattern (ad 21) (fdd 21)
  g_is_pattern : mg "is_pattern" = some (.ref (ad 21))
  b_is_pattern : Binds K (fdd 21) ["thing"] []
  F_need_calendar : Fun K "need_calendar" "need_calendar" s_need_calendar (ad 22) (fdd 22)
  g_need_calendar : mg "need_calendar" = some (.ref (ad 22))
  b_need_calendar : Binds K (fdd 22) ["thing"] []
  F_is_spans : Fun K "_is_spans" "_is_spans" s_is_spans (ad 23) (fdd 23)
  g_is_spans : mg "_is_spans" = some (.ref (ad 23))
  b_is_spans : Binds K (fdd 23) ["thing"] []
  F_is_span : Fun K "_is_span" "_is_span" s_is_span (ad 24) (fdd 24)
  g_is_span : mg "_is_span" = some (.ref (ad 24))
  b_is_span : Binds K (fdd 24) ["thing"] []
  F_in_spans : Fun K "_in_spans" "_in_spans" s_in_spans (ad 25) (fdd 25)
  g_in_spans : mg "_in_spans" = some (.ref (ad 25))
  b_in_spans : Binds K (fdd 25) ["spans", "day"] []
  F_plain_rank : Fun K "_plain_rank" "_plain_rank" s_plain_rank (ad 26) (fdd 26)
  g_plain_rank : mg "_plain_rank" = some (.ref (ad 26))
  b_plain_rank : Binds K (fdd 26) ["pattern", "day"] []
  F_plain_day : Fun K "_plain_day" "_plain_day" s_plain_day (ad 27) (fdd 27)
  g_plain_day : mg "_plain_day" = some (.ref (ad 27))
  b_plain_day : Binds K (fdd 27) ["pattern", "rank"] []
  F_rank : Fun K "_rank" "_rank" s_rank (ad 28) (fdd 28)
  g_rank : mg "_rank" = some (.ref (ad 28))
  b_rank : Binds K (fdd 28) ["calendar", "day"] []
  F_ranked_day : Fun K "_ranked_day" "_ranked_day" s_ranked_day (ad 29) (fdd 29)
  g_ranked_day : mg "_ranked_day" = some (.ref (ad 29))
  b_ranked_day : Binds K (fdd 29) ["calendar", "rank"] []
  F_law_hand : Fun K "_law_hand" "_law_hand" s_law_hand (ad 31) (fdd 31)
  g_law_hand : mg "_law_hand" = some (.ref (ad 31))
  b_law_hand : Binds K (fdd 31) ["_law_script"] []
  F_law_draw : Fun K "_law_draw" "_law_draw" s_law_draw (ad 32) (fdd 32)
  g_law_draw : mg "_law_draw" = some (.ref (ad 32))
  b_law_draw : Binds K (fdd 32) ["_law_hand_here", "_law_size"] []
  F_law_spans : Fun K "_law_spans" "_law_spans" s_law_spans (ad 33) (fdd 33)
  g_law_spans : mg "_law_spans" = some (.ref (ad 33))
  b_law_spans : Binds K (fdd 33) ["_law_hand_here"] []
  F_law_calendar : Fun K "_law_calendar" "_law_calendar" s_law_calendar (ad 34) (fdd 34)
  g_law_calendar : mg "_law_calendar" = some (.ref (ad 34))
  b_law_calendar : Binds K (fdd 34) ["_law_hand_here"] []
  F_law_open : Fun K "_law_open" "_law_open" s_law_open (ad 35) (fdd 35)
  g_law_open : mg "_law_open" = some (.ref (ad 35))
  b_law_open : Binds K (fdd 35) ["_law_calendar_here", "_law_day_here"] []
  F_law_day : Fun K "_law_day" "_law_day" s_law_day (ad 36) (fdd 36)
  g_law_day : mg "_law_day" = some (.ref (ad 36))
  b_law_day : Binds K (fdd 36) ["_law_hand_here"] []
  F_law_plain : Fun K "_law_plain" "_law_plain" s_law_plain (ad 37) (fdd 37)
  g_law_plain : mg "_law_plain" = some (.ref (ad 37))
  b_law_plain : Binds K (fdd 37) ["_law_signs", "_law_first", "_law_last"] []
  F_law_count : Fun K "_law_count" "_law_count" s_law_count (ad 38) (fdd 38)
  g_law_count : mg "_law_count" = some (.ref (ad 38))
  b_law_count : Binds K (fdd 38) ["_law_calendar_here", "_law_first", "_law_last"] []
  F_law : Fun K "law" "law" s_law (ad 39) (fdd 39)
  g_law : mg "law" = some (.ref (ad 39))
  b_law : Binds K (fdd 39) ["_law_script"] []
  kb_nth_open_0_number_day_calendar : KBinds K (fdd 18) ["calendar", "day", "number"] ["number", "day", "calendar"] (kg_kb_nth_open_0_number_day_calendar) (kgV_kb_nth_open_0_number_day_calendar)
  kb_count_open_0_last_first_calendar : KBinds K (fdd 19) ["calendar", "first", "last"] ["last", "first", "calendar"] (kg_kb_count_open_0_last_first_calendar) (kgV_kb_count_open_0_last_first_calendar)
end J
namespace J
open PySem PySem.Spec PyProof.Rows L2
local macro_rules | `(tactic| walk_at "go1") => `(tactic| first
  | with_reducible refine' w_seq ?_
  | with_reducible refine' w_next ?_
  | with_reducible refine' w_brk ?_
  | with_reducible refine' w_cont ?_
  | with_reducible refine' w_asg ?_
  | with_reducible refine' w_asgG ?_
  | with_reducible refine' w_gSub ?_
  | with_reducible refine' w_ret ?_
  | with_reducible refine' w_retN ?_
  | with_reducible refine' w_drop ?_
  | with_reducible refine' w_ifS ?_
  | ((with_reducible refine' w_isAug ?_); refine w_aug rfl ?_)
  | with_reducible refine' w_ipadd ?_
  | with_reducible refine' w_ipsub ?_
  | ((with_reducible refine' w_isVar ?_); refine w_var rfl ?_)
  | with_reducible refine' w_c ?_
  | with_reducible refine' w_nil ?_
  | with_reducible refine' w_cons ?_
  | with_reducible refine' w_op ?_
  | with_reducible refine' w_un ?_
  | with_reducible refine' w_cb ?_
  | with_reducible refine' w_call ?_
  | with_reducible refine' w_callK ?_
  | with_reducible refine' w_test ?_
  | with_reducible refine' w_tB ?_
  | with_reducible refine' w_and ?_
  | with_reducible refine' w_or ?_
  | with_reducible refine' w_not ?_
  | with_reducible refine' w_andV ?_
  | with_reducible refine' w_orV ?_
  | with_reducible refine' w_notV ?_
  | with_reducible refine' w_if ?_
  | with_reducible refine' w_chain ?_
  | with_reducible refine' w_exb ?_
  | with_reducible refine' w_add ?_
  | with_reducible refine' w_sub ?_
  | with_reducible refine' w_lt ?_
  | with_reducible refine' w_le ?_
  | with_reducible refine' w_gt ?_
  | with_reducible refine' w_ge ?_
  | ((with_reducible refine' w_mod ?h ?q); (case h => first | decide | omega))
  | ((with_reducible refine' w_fdiv ?h ?h2 ?q); (case h => first | decide | omega); (case h2 => first | decide | omega))
  | ((with_reducible refine' w_mulR ?h ?q); (case h => omega))
  | ((with_reducible refine' w_mulL ?h ?q); (case h => omega))
  | with_reducible refine' w_pow_6 ?_
  | with_reducible refine' w_pow_9 ?_
  | with_reducible refine' w_pow_12 ?_
  | with_reducible refine' w_pow_14 ?_
  | with_reducible refine' w_pow_15 ?_
  | with_reducible refine' w_pow_18 ?_
  | with_reducible refine' w_neg ?_
  | ((with_reducible refine' w_eq ?h ?q); (case h => exact rfl))
  | ((with_reducible refine' w_ne ?h ?q); (case h => exact rfl))
  | with_reducible refine' w_abs ?_
  | with_reducible refine' w_int ?_
  | with_reducible refine' w_max ?_
  | with_reducible refine' w_min ?_
  | with_reducible refine' w_count ?_
  | with_reducible refine' w_m1 ?_
  | with_reducible refine' w_bm ?_
  | with_reducible refine' w_listR3 ?_
  | with_reducible refine' w_exs ?_
  | with_reducible refine' w_inS ?_
  | with_reducible refine' w_notInS ?_
  | with_reducible refine' w_for ?_
  | with_reducible refine' w_while ?_
  | with_reducible refine' w_lc ?_
  | with_reducible refine' w_iTup ?_
  | with_reducible refine' w_iList ?_
  | with_reducible refine' w_iRng1 ?_
  | with_reducible refine' w_iRng2 ?_
  | with_reducible refine' w_gName ?_
  | with_reducible refine' w_tYes ?_
  | with_reducible refine' w_tupD ?_
  | with_reducible refine' w_tupF ?_
  | with_reducible refine' w_ltS ?_
  | with_reducible refine' w_leS ?_
  | with_reducible refine' w_dget ?_
  | with_reducible refine' w_dnotin ?_
  | with_reducible refine' w_sl ?_
  | with_reducible refine' w_part ?_
  | with_reducible refine' w_noPart ?_
  | with_reducible refine' w_some ?_
  | with_reducible refine' w_lstD ?_
  | with_reducible refine' w_revT ?_
  | with_reducible refine' w_par ?_
  )
local macro_rules | `(tactic| walk_at "go") => `(tactic| repeat (walk_at "go1"))

/-! ### the judges, on data -/
def isWhole : PyData → Int → Int → Bool
  | .int i, lo, hi => decide (lo ≤ i) && decide (i ≤ hi)
  | _, _, _ => false
def lexD : PyData → PyData → Bool
  | .tuple [.int a, .int b], .tuple [.int c, .int d] => HT.lexLt [a, b] [c, d]
  | _, _ => false
def risingD : List PyData → Bool
  | x :: y :: r => lexD x y && risingD (y :: r)
  | _ => true
def isPat : PyData → Bool
  | .str z => decide ((z.length : Int) ≤ 4) && (decide (111 ∈ z.cps.toList) && decide (V.int (Txt.count z "o" + Txt.count z "-") = V.int z.length))
  | _ => false
def isSpan : PyData → Bool
  | .tuple [a, b] => isWhole a (-30) 30 && (match a with | .int i => isWhole b i 30 | _ => false)
  | _ => false
def isSpans : PyData → Bool
  | .tuple ds => decide ((ds.length : Int) ≤ 2) && (ds.all isSpan && risingD ds)
  | _ => false
def isCal : PyData → Bool
  | .tuple [p, a, b] => isPat p && (isSpans a && isSpans b)
  | _ => false
/-- texts are short -/
def shortD : PyData → Bool
  | .str z => decide (z.length ≤ 1000)
  | _ => true
def okSpans : PyData → Bool
  | .tuple ds => decide (ds.length ≤ 1000)
  | _ => true
def okCal : PyData → Bool
  | .tuple ds => ds.all shortD && ds.all okSpans && decide (ds.length ≤ 1000)
  | _ => true

def spWhole (K : PySem.W.Frag) : Sp := fun vs H Q _ => ∃ v d lo hi, vs = [v, .int lo, .int hi] ∧ Rp K H v d ∧ Q (.bl (isWhole d lo hi)) H

theorem isWhole_int {d : PyData} {lo hi : Int} (h : isWhole d lo hi = true) : ∃ i, d = .int i ∧ lo ≤ i ∧ i ≤ hi := by
  cases d <;> simp [isWhole] at h
  exact ⟨_, rfl, h.1, h.2⟩
theorem isSpan_int {d : PyData} (h : isSpan d = true) : ∃ a b, d = .tuple [.int a, .int b] ∧ -30 ≤ a ∧ a ≤ b ∧ b ≤ 30 := by
  unfold isSpan at h
  split at h
  · rename_i x y
    rw [Bool.and_eq_true] at h
    obtain ⟨h1, h2⟩ := h
    obtain ⟨i, rfl, h3, h4⟩ := isWhole_int h1
    obtain ⟨j, rfl, h5, h6⟩ := isWhole_int h2
    exact ⟨i, j, rfl, h3, h5, h6⟩
  · cases h
theorem all_take {α : Type} (p : Nat → α → Bool) : True := trivial
/-- the neighbours in turn -/
def flagAt (ds : List PyData) (i : Nat) : Bool := lexD (ds.getD i .none) (ds.getD (i + 1) .none)
theorem rising_flags : ∀ ds : List PyData, ((List.range (ds.length - 1)).map (flagAt ds)).all id = risingD ds
  | [] => rfl
  | [_] => rfl
  | x :: y :: r => by
    show ((List.range (r.length + 1)).map (flagAt (x :: y :: r))).all id = (lexD x y && risingD (y :: r))
    rw [List.range_succ_eq_map, List.map_cons, List.map_map, List.all_cons, ← rising_flags (y :: r)]
    rfl
theorem take_flags (ds : List PyData) (n i : Nat) (h : i < n) : ((List.range n).map (flagAt ds)).take (i + 1) = ((List.range n).map (flagAt ds)).take i ++ [flagAt ds i] := by
  rw [List.take_add_one, List.getElem?_map, List.getElem?_range h]
  rfl
theorem take_map {α β : Type} (f : α → β) (l : List α) (i : Nat) (x : α) (h : l[i]? = some x) : (l.map f).take (i + 1) = (l.map f).take i ++ [f x] := by
  rw [List.take_add_one, List.getElem?_map, h]
  rfl
theorem list_lt {n : Nat} (h : n ≤ 1000) : n ≤ sizeLine := Nat.le_of_lt (small1000 h)

def isPair : PyData → Bool
  | .tuple ds => decide (V.int (ds.length : Int) = V.int 2)
  | _ => false
theorem isPair_two {d : PyData} (h : isPair d = true) : ∃ a b, d = .tuple [a, b] := by
  cases d <;> simp only [isPair] at h <;> try cases h
  rename_i ds
  have h := V.int.inj (of_decide_eq_true h)
  obtain ⟨a, b, e⟩ := len2 (l := ds) (by omega)
  exact ⟨a, b, by rw [e]⟩
theorem noPair_span {d : PyData} (h : isPair d = false) : isSpan d = false := by
  unfold isSpan
  split
  · rename_i x y
    have : isPair (.tuple [x, y]) = true := (decide_eq_true rfl : decide (V.int (([x, y] : List PyData).length : Int) = V.int 2) = true)
    rw [this] at h; cases h
  · rfl

def spPair (K : PySem.W.Frag) : Sp := fun vs H Q _ => ∃ v d, vs = [v] ∧ Rp K H v d ∧ Q (.bl (isPair d)) H
def spNeedDay : Sp := fun vs H Q _ => ∃ d : Int, vs = [.int d] ∧ -1000000000000000 ≤ d ∧ d ≤ 1000000000000000 ∧ Q .non H
def spPat (K : PySem.W.Frag) : Sp := fun vs H Q _ => ∃ v d, vs = [v] ∧ Rp K H v d ∧ shortD d = true ∧ Q (.bl (isPat d)) H
def spSpan (K : PySem.W.Frag) : Sp := fun vs H Q _ => ∃ v d, vs = [v] ∧ Rp K H v d ∧ Q (.bl (isSpan d)) H
def spRising (K : PySem.W.Frag) : Sp := fun vs H Q _ => ∃ v ds, vs = [v] ∧ Rp K H v (.tuple ds) ∧ ds.all isSpan = true ∧ ds.length ≤ 1000 ∧ ∀ H', Ex H H' → Q (.bl (risingD ds)) H'
def spSpans (K : PySem.W.Frag) : Sp := fun vs H Q _ => ∃ v d, vs = [v] ∧ Rp K H v d ∧ okSpans d = true ∧ ∀ H', Ex H H' → Q (.bl (isSpans d)) H'
def spIsCal (K : PySem.W.Frag) : Sp := fun vs H Q _ => ∃ v d, vs = [v] ∧ Rp K H v d ∧ okCal d = true ∧ ∀ H', Ex H H' → Q (.bl (isCal d)) H'
def spNeedCal (K : PySem.W.Frag) : Sp := fun vs H Q _ => ∃ v d, vs = [v] ∧ Rp K H v d ∧ okCal d = true ∧ isCal d = true ∧ ∀ H', Ex H H' → Q .non H'
section
variable {P : Program} {w : World} {K : PySem.W.Frag} {mg : Str → Option Value} {base : Heap} {ad : Nat → Addr} {fdd : Nat → FuncData}
theorem ok_is_whole (T : Tx K mg ad fdd) : FnOk P w K mg base CX0 1 (ad 7) (fdd 7) ["thing", "low", "high"] (spWhole K) := by
  refine T.F_is_whole.ok sc_is_whole (fun vs H Q E h => ?_) (fun cdv A outer s H vs Q E hr h => ?_)
  · obtain ⟨v, d, lo, hi, rfl, _⟩ := h
    rfl
  · obtain ⟨v, d, lo, hi, rfl, hv, q⟩ := h
    refine ⟨_, (pss_one (ps_ret (pe_and (pe_callB (show CallR _ _ (rIsi K) from call_isi) (by rfl) T.m_isinstance (by decide +kernel) (pa_cons (pv 0) (pa_cons (pe_bltn (v := .ty "int") rfl T.m_int (by decide +kernel) rfl) pa_nil))) (pe_and (pe_not (pe_callB (show CallR _ _ (rIsi K) from call_isi) (by rfl) T.m_isinstance (by decide +kernel) (pa_cons (pv 0) (pa_cons (pe_bltn (v := .ty "bool") rfl T.m_bool (by decide +kernel) rfl) pa_nil)))) (pe_one (pe_chain op_le op_le (pv 1) (pv 0) (pv 2))))))), ?_⟩
    dsimp only [L2.start, N_is_whole, cxOf, Cx.nox, Cx.wish]
    walk_at "go"
    refine w_isiInt hv ?_
    walk_at "go"
    cases hv with
    | int i =>
      refine w_T rfl ?_
      walk_at "go"
      refine w_isiBool (.int i) ?_
      walk_at "go"
      refine w_T rfl ?_
      walk_at "go"
      refine w_dec (fun c => ?_) (fun c => ?_)
      · walk_at "go"
        have e : isWhole (.int i) lo hi = decide (i ≤ hi) := by simp [isWhole, c]
        rw [← e]; exact q
      · have e : isWhole (.int i) lo hi = false := by simp [isWhole, c]
        rw [← e]; exact q
    | bl b =>
      refine w_T rfl ?_
      walk_at "go"
      refine w_isiBool (.bl b) ?_
      walk_at "go"
      refine w_F rfl ?_
      exact q
    | non => exact w_F rfl q
    | str x => exact w_F rfl q
    | tup _ _ => exact w_F rfl q
    | lst _ _ _ => exact w_F rfl q
    | dct _ => exact w_F rfl q
theorem ok_need_day (T : Tx K mg ad fdd) (G_is_whole : FnOk P w K mg base CX0 1 (ad 7) (fdd 7) ["thing", "low", "high"] (spWhole K)) : FnOk P w K mg base CX0 2 (ad 10) (fdd 10) ["thing"] (spNeedDay) := by
  refine T.F_need_day.ok sc_need_day (fun vs H Q E h => ?_) (fun cdv A outer s H vs Q E hr h => ?_)
  · obtain ⟨d, rfl, _⟩ := h
    rfl
  · obtain ⟨d, rfl, h0, h1, q⟩ := h
    refine ⟨_, (pss_one (ps_if (pt_not (pt_val (pe_call G_is_whole (hr.mono (by decide)) (by rfl) T.g_is_whole T.F_is_whole.kp T.b_is_whole .nil pass0 (pa_cons (pv 0) (pa_cons (pe_un un_neg (C8.pe_gc (v := .int (1000000000000000)) rfl T.m_FAR_DAY)) (pa_cons (C8.pe_gc (v := .int (1000000000000000)) rfl T.m_FAR_DAY) pa_nil))))))
    (pss_one ps_never)
    pss_nil)), ?_⟩
    dsimp only [L2.start, N_need_day, cxOf, Cx.nox, Cx.wish]
    walk_at "go"
    refine ⟨.int d, .int d, _, _, rfl, .int d, ?_⟩
    walk_at "go"
    refine w_nF (by simp [isWhole]; omega) ?_
    walk_at "go"
    exact q
theorem ok_is_pattern (T : Tx K mg ad fdd) : FnOk P w K mg base CX0 1 (ad 21) (fdd 21) ["thing"] (spPat K) := by
  refine T.F_is_pattern.ok sc_is_pattern (fun vs H Q E h => ?_) (fun cdv A outer s H vs Q E hr h => ?_)
  · obtain ⟨v, d, rfl, _⟩ := h
    rfl

  · obtain ⟨v, d, rfl, hv, hs, q⟩ := h
    refine ⟨_, (pss_one (ps_ret (pe_and (pe_callB (show CallR _ _ (rIsi K) from call_isi) (by rfl) T.m_isinstance (by decide +kernel) (pa_cons (pv 0) (pa_cons (pe_bltn (v := .ty "str") rfl T.m_str (by decide +kernel) rfl) pa_nil))) (pe_and (pe_cmpR op_le (pe_callB (show CallR _ _ (rLen K) from c_len) (by rfl) T.m_len (by decide +kernel) (pa_cons (pv 0) pa_nil)) pe_int (nomark _)) (pe_and (pe_cmpR op_inS pe_str (pv 0) (by rfl)) (pe_one (pe_cmpR op_eq (pe_op op_add (pe_m1 PySem.F.slot_str_count PySem.F.type_str_count m_count (pv 0) pe_str) (pe_m1 PySem.F.slot_str_count PySem.F.type_str_count m_count (pv 0) pe_str)) (pe_callB (show CallR _ _ (rLen K) from c_len) (by rfl) T.m_len (by decide +kernel) (pa_cons (pv 0) pa_nil)) (nomark _)))))))), ?_⟩
    dsimp only [L2.start, N_is_pattern, cxOf, Cx.nox, Cx.wish]
    walk_at "go"
    refine w_isiStr hv ?_
    walk_at "go"
    cases hv with
    | str z =>
      have hz : z.length ≤ 1000 := of_decide_eq_true hs
      refine w_T rfl ?_
      walk_at "go"
      refine w_lenS (list_lt hz) ?_
      walk_at "go"
      refine w_dec (fun c => ?_) (fun c => ?_)
      · walk_at "go"
        refine w_inS (c := 111) (z := z) ?_
        walk_at "go"
        refine w_dec (fun c2 => ?_) (fun c2 => ?_)
        · walk_at "go"
          refine w_lenS (list_lt hz) ?_
          walk_at "go"
          have e : isPat (.str z) = decide (V.int (Txt.count z "o" + Txt.count z "-") = V.int z.length) := by simp [isPat, c, c2]
          rw [← e]; exact q
        · have e : isPat (.str z) = false := by simp [isPat, c2]
          rw [← e]; exact q
      · have e : isPat (.str z) = false := by simp [isPat, c]
        rw [← e]; exact q
    | bl b => exact w_F rfl q
    | int i => exact w_F rfl q
    | non => exact w_F rfl q
    | tup _ _ => exact w_F rfl q
    | lst _ _ _ => exact w_F rfl q
    | dct _ => exact w_F rfl q
theorem ok_is_pair (T : Tx K mg ad fdd) : FnOk P w K mg base CX0 1 (ad 8) (fdd 8) ["thing"] (spPair K) := by
  refine T.F_is_pair.ok sc_is_pair (fun vs H Q E h => ?_) (fun cdv A outer s H vs Q E hr h => ?_)
  · obtain ⟨v, d, rfl, _⟩ := h
    rfl

  · obtain ⟨v, d, rfl, hv, q⟩ := h
    refine ⟨_, (pss_one (ps_ret (pe_and (pe_callB (show CallR _ _ (rIsi K) from call_isi) (by rfl) T.m_isinstance (by decide +kernel) (pa_cons (pv 0) (pa_cons (pe_bltn (v := .ty "tuple") rfl T.m_tuple (by decide +kernel) rfl) pa_nil))) (pe_one (pe_cmpR op_eq (pe_callB (show CallR _ _ (rLen K) from c_len) (by rfl) T.m_len (by decide +kernel) (pa_cons (pv 0) pa_nil)) pe_int (nomark _)))))), ?_⟩
    dsimp only [L2.start, N_is_pair, cxOf, Cx.nox, Cx.wish]
    walk_at "go"
    refine w_isiTup hv ?_
    walk_at "go"
    cases hv with
    | @tup a xs ds hs r =>
      have hl := r.len
      refine w_T rfl ?_
      walk_at "go"
      refine w_lenT hs ?_
      walk_at "go"
      have e : isPair (.tuple ds) = decide (V.int (xs.length : Int) = V.int 2) := by rw [hl]; rfl
      rw [← e]; exact q
    | bl b => exact w_F rfl q
    | int i => exact w_F rfl q
    | non => exact w_F rfl q
    | str _ => exact w_F rfl q
    | lst _ _ _ => exact w_F rfl q
    | dct _ => exact w_F rfl q
theorem ok_is_span (T : Tx K mg ad fdd) (G_is_whole : FnOk P w K mg base CX0 1 (ad 7) (fdd 7) ["thing", "low", "high"] (spWhole K)) (G_is_pair : FnOk P w K mg base CX0 1 (ad 8) (fdd 8) ["thing"] (spPair K)) : FnOk P w K mg base CX0 2 (ad 24) (fdd 24) ["thing"] (spSpan K) := by
  refine T.F_is_span.ok sc_is_span (fun vs H Q E h => ?_) (fun cdv A outer s H vs Q E hr h => ?_)
  · obtain ⟨v, d, rfl, _⟩ := h
    rfl

  · obtain ⟨v, d, rfl, hv, q⟩ := h
    refine ⟨_, (pss_one (ps_ret (pe_and (pe_call G_is_pair (hr.mono (by decide)) (by rfl) T.g_is_pair T.F_is_pair.kp T.b_is_pair .nil pass0 (pa_cons (pv 0) pa_nil)) (pe_and (pe_call G_is_whole (hr.mono (by decide)) (by rfl) T.g_is_whole T.F_is_whole.kp T.b_is_whole .nil pass0 (pa_cons (pe_ix (show IxR _ (rIxT K) from ix_tup) (pv 0) pe_int (fun _ _ => rfl)) (pa_cons (C8.pe_gc (v := .int (-30)) rfl T.m_FIRST_NEAR) (pa_cons (C8.pe_gc (v := .int (30)) rfl T.m_LAST_NEAR) pa_nil)))) (pe_one (pe_call G_is_whole (hr.mono (by decide)) (by rfl) T.g_is_whole T.F_is_whole.kp T.b_is_whole .nil pass0 (pa_cons (pe_ix (show IxR _ (rIxT K) from ix_tup) (pv 0) pe_int (fun _ _ => rfl)) (pa_cons (pe_ix (show IxR _ (rIxT K) from ix_tup) (pv 0) pe_int (fun _ _ => rfl)) (pa_cons (C8.pe_gc (v := .int (30)) rfl T.m_LAST_NEAR) pa_nil))))))))), ?_⟩
    dsimp only [L2.start, N_is_span, cxOf, Cx.nox, Cx.wish]
    walk_at "go"
    refine ⟨v, d, rfl, hv, ?_⟩
    walk_at "go"
    refine w_2 (fun c => ?_) (fun c => ?_)
    · obtain ⟨d1, d2, rfl⟩ := isPair_two c
      obtain ⟨a, xs, rfl, hs, r⟩ := hv.isTup
      obtain ⟨v1, v2, rfl, r1, r2⟩ := r.two
      walk_at "go"
      refine w_ixT hs rfl ?_
      walk_at "go"
      refine ⟨v1, d1, _, _, rfl, r1, ?_⟩
      walk_at "go"
      refine w_2 (fun c2 => ?_) (fun c2 => ?_)
      · obtain ⟨i, rfl, i0, i1⟩ := isWhole_int c2
        have e1 := r1.isInt
        subst e1
        walk_at "go"
        refine w_ixT hs rfl ?_
        walk_at "go"
        refine w_ixT hs rfl ?_
        walk_at "go"
        refine ⟨v2, d2, _, _, rfl, r2, ?_⟩
        have e : isSpan (.tuple [.int i, d2]) = isWhole d2 i 30 := by simp [isSpan, c2]
        rw [← e]; exact q
      · have e : isSpan (.tuple [d1, d2]) = false := by simp [isSpan, c2]
        rw [← e]; exact q
    · rw [← noPair_span c]; exact q
theorem ok_is_rising (T : Tx K mg ad fdd) : FnOk P w K mg base CX0 1 (ad 9) (fdd 9) ["things"] (spRising K) := by
  refine T.F_is_rising.ok sc_is_rising (fun vs H Q E h => ?_) (fun cdv A outer s H vs Q E hr h => ?_)
  · obtain ⟨v, d, rfl, _⟩ := h
    rfl
  · obtain ⟨v, ds, rfl, hv, ha, hlen, q⟩ := h
    obtain ⟨a, xs, rfl, hs, r⟩ := hv.isTup
    have hl := r.len
    refine ⟨_, (pss_one (ps_ret (pe_callB (show CallR _ _ (rAll K) from cr_all rfl) (by rfl) T.m_all (by decide +kernel) (pa_cons (pe_lc (own := [("at", 1)]) rfl sc_is_rising.nd (pi_range1 (by rfl) T.m_range (pa_cons (pe_op op_sub (pe_callB (show CallR _ _ (rLen K) from c_len) (by rfl) T.m_len (by decide +kernel) (pa_cons (pv 0) pa_nil)) pe_int) pa_nil)) (blkOk_by (own := [("at", 1)]) (N := N_is_rising) (sc := defScope s_is_rising) (by decide +kernel)) (fun _ _ _ _ _ => (pg_name (i := 1) sc_is_rising.nd rfl (by first | exact Or.inl rfl | exact Or.inr rfl))) (fun _ _ _ _ _ => pts_nil) (fun _ _ _ _ _ => (pe_cmpR (show OpR _ _ (rLtT K) from op_ltT hr.units0) (pe_ix (show IxR _ (rIxT K) from ix_tup) (pv 0) (pv 1) (fun _ _ => rfl)) (pe_ix (show IxR _ (rIxT K) from ix_tup) (pv 0) (pe_op op_add (pv 1) pe_int) (fun _ _ => rfl)) (nomark _)))) pa_nil)))), ?_⟩
    dsimp only [L2.start, N_is_rising, cxOf, Cx.nox, Cx.wish]
    walk_at "go"
    refine w_lenT hs ?_
    walk_at "go"
    refine w_lcR (by omega) ?_
    refine lc_R (fun D i H' => Ex H H' ∧ H' D = some (.lst ((((List.range (ds.length - 1)).map (flagAt ds)).take i).map V.bl))) (fun D nD => ⟨Ex.new nD, upd_same⟩) (fun D i H' nD hi p => ?_) (fun D H' nD p => ?_)
    · obtain ⟨e, hD⟩ := p
      have hi' : i < ds.length - 1 := by omega
      walk_at "go"
      refine ⟨rfl, ?_⟩
      walk_at "go"
      refine iteT ?_
      have x1 := r.at' (i := i) (d := ds[i]) (List.getElem?_eq_getElem (by omega))
      have x2 := r.at' (i := i + 1) (d := ds[i + 1]) (List.getElem?_eq_getElem (by omega))
      obtain ⟨v1, g1, r1⟩ := x1
      obtain ⟨v2, g2, r2⟩ := x2
      rw [List.all_eq_true] at ha
      obtain ⟨a1, b1, e1, _⟩ := isSpan_int (ha ds[i] (List.getElem_mem _))
      obtain ⟨a2, b2, e2, _⟩ := isSpan_int (ha ds[i + 1] (List.getElem_mem _))
      rw [e1] at r1
      rw [e2] at r2
      obtain ⟨p1, ys1, rfl, s1, q1⟩ := r1.isTup
      obtain ⟨p2, ys2, rfl, s2, q2⟩ := r2.isTup
      obtain ⟨_, _, rfl, t1, t2⟩ := q1.two
      obtain ⟨_, _, rfl, t3, t4⟩ := q2.two
      cases t1.isInt; cases t2.isInt; cases t3.isInt; cases t4.isInt
      walk_at "go"
      refine w_ixT (e.b.tup hs) (i := 0 + (i : Int)) (v := .ref p1) (by rw [Int.zero_add]; exact atI_nat g1) ?_
      walk_at "go"
      refine w_ixT (e.b.tup hs) (i := 0 + (i : Int) + 1) (v := .ref p2) (by rw [Int.zero_add]; exact atI_nat (j := i + 1) g2) ?_
      walk_at "go"
      refine w_ltT (ns := [a1, b1]) (ms := [a2, b2]) (e.b.tup s1) (e.b.tup s2) ?_
      refine ⟨_, hD, small1000 ?_, e.mut nD, ?_⟩
      · rw [List.length_map, List.length_take, List.length_map, List.length_range]; omega
      · rw [upd_same, take_flags ds _ i hi', List.map_append]
        have ef : flagAt ds i = HT.lexLt [a1, b1] [a2, b2] := by
          unfold flagAt
          rw [List.getD_eq_getElem?_getD, List.getD_eq_getElem?_getD, List.getElem?_eq_getElem (by omega), List.getElem?_eq_getElem (by omega)]
          show lexD ds[i] ds[i + 1] = _
          rw [e1, e2]; rfl
        rw [ef]; rfl
    · obtain ⟨e, hD⟩ := p
      have en : (((List.range (ds.length - 1)).map (flagAt ds)).take ((xs.length : Int) - 1).toNat) = (List.range (ds.length - 1)).map (flagAt ds) := List.take_of_length_le (by rw [List.length_map, List.length_range]; omega)
      rw [en] at hD
      walk_at "go"
      refine w_all (sq_of hD) ?_
      rw [rising_flags]
      exact q H' e
theorem ok_is_spans (T : Tx K mg ad fdd) (G_is_span : FnOk P w K mg base CX0 2 (ad 24) (fdd 24) ["thing"] (spSpan K)) (G_is_rising : FnOk P w K mg base CX0 1 (ad 9) (fdd 9) ["things"] (spRising K)) : FnOk P w K mg base CX0 3 (ad 23) (fdd 23) ["thing"] (spSpans K) := by
  refine T.F_is_spans.ok sc_is_spans (fun vs H Q E h => ?_) (fun cdv A outer s H vs Q E hr h => ?_)
  · obtain ⟨v, d, rfl, _⟩ := h
    rfl

  · obtain ⟨v, d, rfl, hv, ok, q⟩ := h
    refine ⟨_, (pss_one (ps_ret (pe_and (pe_callB (show CallR _ _ (rIsi K) from call_isi) (by rfl) T.m_isinstance (by decide +kernel) (pa_cons (pv 0) (pa_cons (pe_bltn (v := .ty "tuple") rfl T.m_tuple (by decide +kernel) rfl) pa_nil))) (pe_and (pe_cmpR op_le (pe_callB (show CallR _ _ (rLen K) from c_len) (by rfl) T.m_len (by decide +kernel) (pa_cons (pv 0) pa_nil)) (C8.pe_gc (v := .int (2)) rfl T.m_MOST_SPANS) (nomark _)) (pe_and (pe_callB (show CallR _ _ (rAll K) from cr_all rfl) (by rfl) T.m_all (by decide +kernel) (pa_cons (pe_lc (own := [("span", 1)]) rfl sc_is_spans.nd (pi_tup (pv 0)) (blkOk_by (own := [("span", 1)]) (N := N_is_spans) (sc := defScope s_is_spans) (by decide +kernel)) (fun _ _ _ _ _ => (pg_name (i := 1) sc_is_spans.nd rfl (by first | exact Or.inl rfl | exact Or.inr rfl))) (fun _ _ _ _ _ => pts_nil) (fun _ _ _ _ _ => (pe_call G_is_span (hr.mono (by decide)) (by rfl) T.g_is_span T.F_is_span.kp T.b_is_span .nil pass0 (pa_cons (pv 1) pa_nil)))) pa_nil)) (pe_one (pe_call G_is_rising (hr.mono (by decide)) (by rfl) T.g_is_rising T.F_is_rising.kp T.b_is_rising .nil pass0 (pa_cons (pv 0) pa_nil)))))))), ?_⟩
    dsimp only [L2.start, N_is_spans, cxOf, Cx.nox, Cx.wish]
    walk_at "go"
    refine w_isiTup hv ?_
    walk_at "go"
    cases hv with
    | @tup a xs ds hs r =>
      have hl := r.len
      have ok' : ds.length ≤ 1000 := of_decide_eq_true ok
      refine w_T rfl ?_
      walk_at "go"
      refine w_lenT hs ?_
      walk_at "go"
      refine w_dec (fun c => ?_) (fun c => ?_)
      · walk_at "go"
        refine w_lcT hs ?_
        refine lc_T (xs := xs) (fun D i H' => Ex H H' ∧ H' D = some (.lst (((ds.map isSpan).take i).map V.bl))) (fun D nD => ⟨Ex.new nD, upd_same⟩) (fun D i H' hi p => p.1.b.tup hs) (fun D i x H' nD hx p => ?_) (fun D H' nD p => ?_)
        · obtain ⟨e, hD⟩ := p
          obtain ⟨d1, g1, r1⟩ := r.at hx
          walk_at "go"
          refine ⟨rfl, ?_⟩
          walk_at "go"
          refine iteT ?_
          walk_at "go"
          refine ⟨x, d1, rfl, r1.mono e.b, ?_⟩
          refine ⟨_, hD, small1000 ?_, e.mut nD, ?_⟩
          · rw [List.length_map, List.length_take, List.length_map]; omega
          · rw [upd_same, take_map isSpan ds i d1 g1, List.map_append]; rfl
        · obtain ⟨e, hD⟩ := p
          rw [List.take_of_length_le (by rw [List.length_map, hl]; exact Nat.le_refl _)] at hD
          walk_at "go"
          refine w_all (sq_of hD) ?_
          walk_at "go"
          have ea : (ds.map isSpan).all id = ds.all isSpan := by rw [List.all_map]; rfl
          rw [ea]
          refine w_2 (fun c2 => ?_) (fun c2 => ?_)
          · walk_at "go"
            refine ⟨_, ds, rfl, .tup (e.b.tup hs) (r.mono e.b), c2, ok', fun H2 e2 => ?_⟩
            have es : isSpans (.tuple ds) = risingD ds := by
              have : (ds.length : Int) ≤ 2 := by rw [← hl]; exact c
              simp [isSpans, this, c2]
            rw [← es]; exact q H2 (e.trans e2)
          · have es : isSpans (.tuple ds) = false := by simp [isSpans, c2]
            rw [← es]; exact q H' e
      · have es : isSpans (.tuple ds) = false := by
          have : ¬ (ds.length : Int) ≤ 2 := by rw [← hl]; exact c
          simp [isSpans, this]
        rw [← es]; exact q H (Ex.refl H)
    | bl b => exact w_F rfl (q H (Ex.refl H))
    | int i => exact w_F rfl (q H (Ex.refl H))
    | non => exact w_F rfl (q H (Ex.refl H))
    | str _ => exact w_F rfl (q H (Ex.refl H))
    | lst _ _ _ => exact w_F rfl (q H (Ex.refl H))
    | dct _ => exact w_F rfl (q H (Ex.refl H))
theorem ok_is_calendar (T : Tx K mg ad fdd) (G_is_spans : FnOk P w K mg base CX0 3 (ad 23) (fdd 23) ["thing"] (spSpans K)) (G_is_pattern : FnOk P w K mg base CX0 1 (ad 21) (fdd 21) ["thing"] (spPat K)) : FnOk P w K mg base CX0 4 (ad 17) (fdd 17) ["thing"] (spIsCal K) := by
  refine T.F_is_calendar.ok sc_is_calendar (fun vs H Q E h => ?_) (fun cdv A outer s H vs Q E hr h => ?_)
  · obtain ⟨v, d, rfl, _⟩ := h
    rfl

  · obtain ⟨v, d, rfl, hv, ok, q⟩ := h
    refine ⟨_, (pss_one (ps_ret (pe_and (pe_callB (show CallR _ _ (rIsi K) from call_isi) (by rfl) T.m_isinstance (by decide +kernel) (pa_cons (pv 0) (pa_cons (pe_bltn (v := .ty "tuple") rfl T.m_tuple (by decide +kernel) rfl) pa_nil))) (pe_and (pe_cmpR op_eq (pe_callB (show CallR _ _ (rLen K) from c_len) (by rfl) T.m_len (by decide +kernel) (pa_cons (pv 0) pa_nil)) pe_int (nomark _)) (pe_and (pe_call G_is_pattern (hr.mono (by decide)) (by rfl) T.g_is_pattern T.F_is_pattern.kp T.b_is_pattern .nil pass0 (pa_cons (pe_ix (show IxR _ (rIxT K) from ix_tup) (pv 0) pe_int (fun _ _ => rfl)) pa_nil)) (pe_and (pe_call G_is_spans (hr.mono (by decide)) (by rfl) T.g_is_spans T.F_is_spans.kp T.b_is_spans .nil pass0 (pa_cons (pe_ix (show IxR _ (rIxT K) from ix_tup) (pv 0) pe_int (fun _ _ => rfl)) pa_nil)) (pe_one (pe_call G_is_spans (hr.mono (by decide)) (by rfl) T.g_is_spans T.F_is_spans.kp T.b_is_spans .nil pass0 (pa_cons (pe_ix (show IxR _ (rIxT K) from ix_tup) (pv 0) pe_int (fun _ _ => rfl)) pa_nil))))))))), ?_⟩
    dsimp only [L2.start, N_is_calendar, cxOf, Cx.nox, Cx.wish]
    walk_at "go"
    refine w_isiTup hv ?_
    walk_at "go"
    cases hv with
    | @tup a xs ds hs r =>
      have hl := r.len
      refine w_T rfl ?_
      walk_at "go"
      refine w_lenT hs ?_
      walk_at "go"
      refine w_dec (fun c => ?_) (fun c => ?_)
      · have c1 : (xs.length : Int) = 3 := V.int.inj c
        obtain ⟨d1, d2, d3, rfl⟩ := len3 (l := ds) (by omega)
        obtain ⟨v1, v2, v3, rfl, r1, r2, r3⟩ := r.three
        simp only [okCal, List.all_cons, List.all_nil, Bool.and_true, Bool.and_eq_true] at ok
        obtain ⟨⟨⟨k1, _⟩, ⟨_, k2, k3⟩⟩, _⟩ := ok
        walk_at "go"
        refine w_ixT hs rfl ?_
        walk_at "go"
        refine ⟨v1, d1, rfl, r1, k1, ?_⟩
        walk_at "go"
        refine w_2 (fun c2 => ?_) (fun c2 => ?_)
        · walk_at "go"
          refine w_ixT hs rfl ?_
          walk_at "go"
          refine ⟨v2, d2, rfl, r2, k2, fun H1 e1 => ?_⟩
          walk_at "go"
          refine w_2 (fun c3 => ?_) (fun c3 => ?_)
          · walk_at "go"
            refine w_ixT (e1.b.tup hs) rfl ?_
            walk_at "go"
            refine ⟨v3, d3, rfl, r3.mono e1.b, k3, fun H2 e2 => ?_⟩
            have es : isCal (.tuple [d1, d2, d3]) = isSpans d3 := by simp [isCal, c2, c3]
            rw [← es]; exact q H2 (e1.trans e2)
          · have es : isCal (.tuple [d1, d2, d3]) = false := by simp [isCal, c3]
            rw [← es]; exact q H1 e1
        · have es : isCal (.tuple [d1, d2, d3]) = false := by simp [isCal, c2]
          rw [← es]; exact q H (Ex.refl H)
      · have es : isCal (.tuple ds) = false := by
          unfold isCal
          split
          · rename_i x y z e
            exfalso
            apply c
            cases e
            rw [hl]
            rfl
          · rfl
        rw [← es]; exact q H (Ex.refl H)
    | bl b => exact w_F rfl (q H (Ex.refl H))
    | int i => exact w_F rfl (q H (Ex.refl H))
    | non => exact w_F rfl (q H (Ex.refl H))
    | str _ => exact w_F rfl (q H (Ex.refl H))
    | lst _ _ _ => exact w_F rfl (q H (Ex.refl H))
    | dct _ => exact w_F rfl (q H (Ex.refl H))
theorem ok_need_calendar (T : Tx K mg ad fdd) (G_is_calendar : FnOk P w K mg base CX0 4 (ad 17) (fdd 17) ["thing"] (spIsCal K)) : FnOk P w K mg base CX0 5 (ad 22) (fdd 22) ["thing"] (spNeedCal K) := by
  refine T.F_need_calendar.ok sc_need_calendar (fun vs H Q E h => ?_) (fun cdv A outer s H vs Q E hr h => ?_)
  · obtain ⟨v, d, rfl, _⟩ := h
    rfl

  · obtain ⟨v, d, rfl, hv, ok, c, q⟩ := h
    refine ⟨_, (pss_one (ps_if (pt_not (pt_val (pe_call G_is_calendar (hr.mono (by decide)) (by rfl) T.g_is_calendar T.F_is_calendar.kp T.b_is_calendar .nil pass0 (pa_cons (pv 0) pa_nil))))
    (pss_one ps_never)
    pss_nil)), ?_⟩
    dsimp only [L2.start, N_need_calendar, cxOf, Cx.nox, Cx.wish]
    walk_at "go"
    refine ⟨v, d, rfl, hv, ok, fun H1 e1 => ?_⟩
    walk_at "go"
    refine w_nF c ?_
    walk_at "go"
    exact q H1 e1
end

/-! ### right calendars -/
def one (c : Nat) : Str := ⟨#[c]⟩
structure Cal where
  pat : Str
  shut : List (Int × Int)
  free : List (Int × Int)
def encSpan (s : Int × Int) : PyData := .tuple [.int s.1, .int s.2]
def encSpans (ss : List (Int × Int)) : PyData := .tuple (ss.map encSpan)
def encCal (c : Cal) : PyData := .tuple [.str c.pat, encSpans c.shut, encSpans c.free]
def Cal.Ok (c : Cal) : Prop := isCal (encCal c) = true
def inSpan (day : Int) (s : Int × Int) : Bool := decide (s.1 ≤ day) && decide (day ≤ s.2)
def patO (z : Str) (day : Int) : Bool := decide (z.cps.toList[(day % z.length).toNat]? = some 111)
def openC (c : Cal) (day : Int) : Bool := if c.shut.any (inSpan day) then false else if c.free.any (inSpan day) then true else patO c.pat day
theorem okCal_of {d : PyData} (h : isCal d = true) : okCal d = true := by
  unfold isCal at h
  split at h
  · rename_i p a b
    simp only [Bool.and_eq_true] at h
    obtain ⟨h1, h2, h3⟩ := h
    have e1 : shortD p = true ∧ okSpans p = true := by
      unfold isPat at h1
      split at h1
      · rename_i z
        simp only [Bool.and_eq_true, decide_eq_true_eq] at h1
        exact ⟨decide_eq_true (by omega), rfl⟩
      · cases h1
    have e2 : ∀ x, isSpans x = true → shortD x = true ∧ okSpans x = true := by
      intro x hx
      unfold isSpans at hx
      split at hx
      · rename_i ds
        simp only [Bool.and_eq_true, decide_eq_true_eq] at hx
        exact ⟨rfl, decide_eq_true (by omega)⟩
      · cases hx
    simp only [okCal, List.all_cons, List.all_nil, Bool.and_true, Bool.and_eq_true, e1, (e2 a h2).1, (e2 a h2).2, (e2 b h3).1, (e2 b h3).2]
    exact ⟨trivial, rfl⟩
  · cases h
theorem Cal.Ok.parts {c : Cal} (h : c.Ok) : isPat (.str c.pat) = true ∧ isSpans (encSpans c.shut) = true ∧ isSpans (encSpans c.free) = true := by
  unfold Cal.Ok encCal at h
  simp only [isCal, Bool.and_eq_true] at h
  exact h
theorem spans_in {ss : List (Int × Int)} (h : isSpans (encSpans ss) = true) : ss.length ≤ 2 ∧ ∀ s ∈ ss, -30 ≤ s.1 ∧ s.1 ≤ s.2 ∧ s.2 ≤ 30 := by
  unfold encSpans at h
  simp only [isSpans, Bool.and_eq_true, decide_eq_true_eq, List.length_map] at h
  refine ⟨by omega, fun s hs => ?_⟩
  have h2 := h.2.1
  rw [List.all_eq_true] at h2
  obtain ⟨a, b, e, r⟩ := isSpan_int (h2 _ (List.mem_map_of_mem hs))
  have e1 : s.1 = a ∧ s.2 = b := by
    unfold encSpan at e
    injection e with e
    injection e with e1 e2
    injection e2 with e2 _
    injection e1 with e1
    injection e2 with e2
    exact ⟨e1, e2⟩
  rw [e1.1, e1.2]; exact r
theorem far_spans {ss : List (Int × Int)} (h : isSpans (encSpans ss) = true) {day : Int} (hd : ¬(-30 ≤ day ∧ day ≤ 30)) : ss.any (inSpan day) = false := by
  rw [List.any_eq_false]
  intro s hs
  have q := (spans_in h).2 s hs
  unfold inSpan
  simp only [Bool.and_eq_true, decide_eq_true_eq]
  omega
theorem pat_len {z : Str} (h : isPat (.str z) = true) : 0 < z.length ∧ z.length ≤ 4 ∧ 111 ∈ z.cps.toList := by
  simp only [isPat, Bool.and_eq_true, decide_eq_true_eq] at h
  obtain ⟨h1, h2, _⟩ := h
  refine ⟨?_, by omega, h2⟩
  have : 0 < z.cps.toList.length := List.length_pos_of_mem h2
  rw [Array.length_toList] at this
  exact this
theorem len_cps (z : Str) : z.cps.toList.length = z.length := by rw [Array.length_toList]; rfl
theorem pat_at {z : Str} (h0 : 0 < z.length) (day : Int) : ∃ c, atI z.cps.toList (day % z.length) = some c ∧ patO z day = decide (V.str ⟨#[c]⟩ = V.str "o") := by
  have hl := len_cps z
  have h1 : 0 ≤ day % (z.length : Int) := Int.emod_nonneg _ (by omega)
  have h2 : day % (z.length : Int) < z.length := Int.emod_lt_of_pos _ (by omega)
  have h3 : (day % (z.length : Int)).toNat < z.cps.toList.length := by omega
  refine ⟨z.cps.toList[(day % (z.length : Int)).toNat], ?_, ?_⟩
  · unfold atI ixN
    rw [if_pos h1, if_pos (by omega)]
    exact List.getElem?_eq_getElem h3
  · unfold patO
    rw [List.getElem?_eq_getElem h3]
    have e : ∀ c : Nat, decide (some c = some 111) = decide (V.str ⟨#[c]⟩ = V.str "o") := fun c => by
      rw [Bool.eq_iff_iff, decide_eq_true_eq, decide_eq_true_eq]
      constructor
      · intro q; cases q; rfl
      · intro q
        injection q with q
        have q2 : (⟨#[c]⟩ : Str) = ⟨#[111]⟩ := q
        injection q2 with q2
        have q3 : [c] = [111] := congrArg Array.toList q2
        injection q3 with q3
        rw [q3]
    exact e _
/-- some day ahead is open by the pattern -/
theorem pat_open {z : Str} (h : isPat (.str z) = true) (d : Int) : ∃ k : Int, 0 ≤ k ∧ k ≤ 3 ∧ patO z (d + k) = true := by
  obtain ⟨h0, h4, hm⟩ := pat_len h
  have hl := len_cps z
  obtain ⟨j, hj, e⟩ := List.getElem_of_mem hm
  refine ⟨((j : Int) - d) % z.length, Int.emod_nonneg _ (by omega), ?_, ?_⟩
  · have := Int.emod_lt_of_pos ((j : Int) - d) (b := (z.length : Int)) (by omega)
    omega
  · unfold patO
    have e2 : (d + ((j : Int) - d) % (z.length : Int)) % (z.length : Int) = j := by
      rw [Int.add_emod, Int.emod_emod, ← Int.add_emod, show d + ((j : Int) - d) = j by omega]
      exact Int.emod_eq_of_lt (by omega) (by omega)
    rw [e2]
    simp [List.getElem?_eq_getElem hj, e]
theorem open_far {c : Cal} (ok : c.Ok) {day : Int} (hd : ¬(-30 ≤ day ∧ day ≤ 30)) : openC c day = patO c.pat day := by
  obtain ⟨_, h2, h3⟩ := ok.parts
  unfold openC
  rw [far_spans h2 hd, far_spans h3 hd]
  rfl
theorem some_next {c : Cal} (ok : c.Ok) (d : Int) : ∃ e, d ≤ e ∧ e - d ≤ 70 ∧ openC c e = true := by
  by_cases hd : d < -35
  · obtain ⟨k, k0, k3, hk⟩ := pat_open ok.parts.1 d
    exact ⟨d + k, by omega, by omega, by rw [open_far ok (by omega)]; exact hk⟩
  · by_cases h2 : d ≤ 31
    · obtain ⟨k, k0, k3, hk⟩ := pat_open ok.parts.1 31
      exact ⟨31 + k, by omega, by omega, by rw [open_far ok (by omega)]; exact hk⟩
    · obtain ⟨k, k0, k3, hk⟩ := pat_open ok.parts.1 d
      exact ⟨d + k, by omega, by omega, by rw [open_far ok (by omega)]; exact hk⟩
theorem some_last {c : Cal} (ok : c.Ok) (d : Int) : ∃ e, e ≤ d ∧ d - e ≤ 70 ∧ openC c e = true := by
  by_cases hd : 35 < d
  · obtain ⟨k, k0, k3, hk⟩ := pat_open ok.parts.1 (d - 3)
    exact ⟨d - 3 + k, by omega, by omega, by rw [open_far ok (by omega)]; exact hk⟩
  · by_cases h2 : -31 ≤ d
    · obtain ⟨k, k0, k3, hk⟩ := pat_open ok.parts.1 (-34)
      exact ⟨-34 + k, by omega, by omega, by rw [open_far ok (by omega)]; exact hk⟩
    · obtain ⟨k, k0, k3, hk⟩ := pat_open ok.parts.1 (d - 3)
      exact ⟨d - 3 + k, by omega, by omega, by rw [open_far ok (by omega)]; exact hk⟩
/-- e is the first open day from d on; the last one up to d -/
def Nxt (c : Cal) (d e : Int) : Prop := d ≤ e ∧ openC c e = true ∧ ∀ x, d ≤ x → x < e → openC c x = false
def Lst (c : Cal) (d e : Int) : Prop := e ≤ d ∧ openC c e = true ∧ ∀ x, e < x → x ≤ d → openC c x = false
theorem first_true (p : Nat → Bool) : ∀ n, p n = true → ∃ k, k ≤ n ∧ p k = true ∧ ∀ j, j < k → p j = false
  | 0, h => ⟨0, Nat.le_refl _, h, fun j hj => absurd hj (Nat.not_lt_zero _)⟩
  | n + 1, h => by
    by_cases h0 : p 0 = true
    · exact ⟨0, Nat.zero_le _, h0, fun j hj => absurd hj (Nat.not_lt_zero _)⟩
    · obtain ⟨k, h1, h2, h3⟩ := first_true (fun i => p (i + 1)) n h
      refine ⟨k + 1, by omega, h2, fun j hj => ?_⟩
      cases j with
      | zero => simpa using h0
      | succ j => exact h3 j (by omega)
theorem nxt_ex {c : Cal} (ok : c.Ok) (d : Int) : ∃ e, Nxt c d e ∧ e - d ≤ 70 := by
  obtain ⟨e, h1, h2, h3⟩ := some_next ok d
  obtain ⟨k, k1, k2, k3⟩ := first_true (fun i => openC c (d + i)) (e - d).toNat (by rw [show d + ((e - d).toNat : Int) = e by omega]; exact h3)
  refine ⟨d + k, ⟨by omega, k2, fun x x0 x1 => ?_⟩, by omega⟩
  have := k3 (x - d).toNat (by omega)
  rwa [show d + ((x - d).toNat : Int) = x by omega] at this
theorem lst_ex {c : Cal} (ok : c.Ok) (d : Int) : ∃ e, Lst c d e ∧ d - e ≤ 70 := by
  obtain ⟨e, h1, h2, h3⟩ := some_last ok d
  obtain ⟨k, k1, k2, k3⟩ := first_true (fun i => openC c (d - i)) (d - e).toNat (by rw [show d - ((d - e).toNat : Int) = e by omega]; exact h3)
  refine ⟨d - k, ⟨by omega, k2, fun x x0 x1 => ?_⟩, by omega⟩
  have := k3 (d - x).toNat (by omega)
  rwa [show d - ((d - x).toNat : Int) = x by omega] at this

def spInSpans (K : PySem.W.Frag) : Sp := fun vs H Q _ => ∃ v ss day, vs = [v, .int day] ∧ Rp K H v (encSpans ss) ∧ Q (.bl (ss.any (inSpan day))) H
def spOpenOn (K : PySem.W.Frag) : Sp := fun vs H Q _ => ∃ v c day, vs = [v, .int day] ∧ Rp K H v (encCal c) ∧ c.Ok ∧ Q (.bl (openC c day)) H
def spFrom (K : PySem.W.Frag) : Sp := fun vs H Q _ => ∃ v c d e, vs = [v, .int d] ∧ Rp K H v (encCal c) ∧ c.Ok ∧ Nxt c d e ∧ Q (.int e) H
def spUntil (K : PySem.W.Frag) : Sp := fun vs H Q _ => ∃ v c d e, vs = [v, .int d] ∧ Rp K H v (encCal c) ∧ c.Ok ∧ Lst c d e ∧ Q (.int e) H
def dayOk (d : Int) : Prop := -1000000000000000 ≤ d ∧ d ≤ 1000000000000000
def spIsOpen (K : PySem.W.Frag) : Sp := fun vs H Q _ => ∃ v c day, vs = [v, .int day] ∧ Rp K H v (encCal c) ∧ c.Ok ∧ dayOk day ∧ ∀ H', Ex H H' → Q (.bl (openC c day)) H'
def spNext (K : PySem.W.Frag) : Sp := fun vs H Q _ => ∃ v c d e, vs = [v, .int d] ∧ Rp K H v (encCal c) ∧ c.Ok ∧ dayOk d ∧ Nxt c d e ∧ ∀ H', Ex H H' → Q (.int e) H'
def spLast (K : PySem.W.Frag) : Sp := fun vs H Q _ => ∃ v c d e, vs = [v, .int d] ∧ Rp K H v (encCal c) ∧ c.Ok ∧ dayOk d ∧ Lst c d e ∧ ∀ H', Ex H H' → Q (.int e) H'
section
variable {P : Program} {w : World} {K : PySem.W.Frag} {mg : Str → Option Value} {base : Heap} {ad : Nat → Addr} {fdd : Nat → FuncData}
theorem ok_in_spans (T : Tx K mg ad fdd) : FnOk P w K mg base CX0 1 (ad 25) (fdd 25) ["spans", "day"] (spInSpans K) := by
  refine T.F_in_spans.ok sc_in_spans (fun vs H Q E h => ?_) (fun cdv A outer s H vs Q E hr h => ?_)
  · obtain ⟨v, ss, day, rfl, _⟩ := h
    rfl
  · obtain ⟨v, ss, day, rfl, hv, q⟩ := h
    obtain ⟨a, xs, rfl, hs, r⟩ := hv.isTup
    have hl := r.len
    rw [List.length_map] at hl
    refine ⟨_, (pss_cons (ps_for PassesOwn.never rfl (pi_tup (pv 0)) (show PG _ _ (gTup K 2 _) from pg_tup rfl (pgs_cons (pg_name (i := 2) sc_in_spans.nd rfl (by first | exact Or.inl rfl | exact Or.inr rfl)) (pgs_cons (pg_name (i := 3) sc_in_spans.nd rfl (by first | exact Or.inl rfl | exact Or.inr rfl)) pgs_nil)))
    (pss_one (ps_if (pt_chain op_le op_le (pv 2) (pv 1) (pv 3))
    (pss_one (ps_ret pe_bl))
    pss_nil)))
    (pss_one (ps_ret pe_bl))), ?_⟩
    dsimp only [L2.start, N_in_spans, cxOf, Cx.nox, Cx.wish]
    walk_at "go"
    refine w_loopT hs ?_
    refine for_tup (xs := xs) (fun i σ' H' => H' = H ∧ (∃ y2 y3, σ' = [some (.ref a), some (.int day), y2, y3]) ∧ (ss.take i).any (inSpan day) = false) ⟨rfl, ⟨_, _, rfl⟩, rfl⟩ (fun i σ' H' hi p => ?_) (fun i x σ' H' hx p => ?_) (fun σ' H' p => ?_)
    · obtain ⟨rfl, _⟩ := p
      exact hs
    · obtain ⟨rfl, ⟨y2, y3, rfl⟩, hn⟩ := p
      obtain ⟨d, g1, r1⟩ := r.at hx
      rw [List.getElem?_map] at g1
      obtain ⟨s, gs, rfl⟩ := Option.map_eq_some_iff.mp g1
      obtain ⟨p1, ys1, rfl, s1, q1⟩ := r1.isTup
      obtain ⟨_, _, rfl, t1, t2⟩ := q1.two
      cases t1.isInt; cases t2.isInt
      refine w_gTup2 s1 ?_
      have et : (ss.take (i + 1)).any (inSpan day) = inSpan day s := by
        rw [List.take_add_one, gs, List.any_append, hn]
        simp
      walk_at "go"
      refine w_dec (fun c => ?_) (fun c => ?_)
      · walk_at "go"
        refine w_dec (fun c2 => ?_) (fun c2 => ?_)
        · walk_at "go"
          have : ss.any (inSpan day) = true := by
            rw [List.any_eq_true]
            exact ⟨s, List.mem_of_getElem? gs, by simp [inSpan, c, c2]⟩
          rw [← this]; exact q
        · walk_at "go"
          refine ⟨rfl, ⟨_, _, rfl⟩, ?_⟩
          rw [et]; simp [inSpan, c2]
      · walk_at "go"
        refine iteF ?_
        walk_at "go"
        refine ⟨rfl, ⟨_, _, rfl⟩, ?_⟩
        rw [et]; simp [inSpan, c]
    · obtain ⟨rfl, ⟨y2, y3, rfl⟩, hn⟩ := p
      walk_at "go"
      rw [List.take_of_length_le (by omega)] at hn
      rw [← hn]; exact q
theorem ok_open_on (T : Tx K mg ad fdd) (G_in_spans : FnOk P w K mg base CX0 1 (ad 25) (fdd 25) ["spans", "day"] (spInSpans K)) : FnOk P w K mg base CX0 2 (ad 20) (fdd 20) ["calendar", "day"] (spOpenOn K) := by
  refine T.F_open_on.ok sc_open_on (fun vs H Q E h => ?_) (fun cdv A outer s H vs Q E hr h => ?_)
  · obtain ⟨v, c, day, rfl, _⟩ := h
    rfl

  · obtain ⟨v, c, day, rfl, hv, ok, q⟩ := h
    obtain ⟨a, xs, rfl, hs, r⟩ := hv.isTup
    obtain ⟨v1, v2, v3, rfl, r1, r2, r3⟩ := r.three
    cases r1.isStr
    obtain ⟨h0, h4, _⟩ := pat_len ok.parts.1
    have hz : c.pat.length ≤ sizeLine := list_lt (by omega)
    have hp : 0 < (c.pat.length : Int) := by omega
    obtain ⟨cc, hc, hO⟩ := pat_at h0 day
    refine ⟨_, (pss_cons (ps_asg (pv 0) (show PG _ _ (gTup K 3 _) from pg_tup rfl (pgs_cons (pg_name (i := 2) sc_open_on.nd rfl (by first | exact Or.inl rfl | exact Or.inr rfl)) (pgs_cons (pg_name (i := 3) sc_open_on.nd rfl (by first | exact Or.inl rfl | exact Or.inr rfl)) (pgs_cons (pg_name (i := 4) sc_open_on.nd rfl (by first | exact Or.inl rfl | exact Or.inr rfl)) pgs_nil)))))
    (pss_cons (ps_if (pt_chain op_le op_le (C8.pe_gc (v := .int (-30)) rfl T.m_FIRST_NEAR) (pv 1) (C8.pe_gc (v := .int (30)) rfl T.m_LAST_NEAR))
    (pss_cons (ps_if (pt_val (pe_call G_in_spans (hr.mono (by decide)) (by rfl) T.g_in_spans T.F_in_spans.kp T.b_in_spans .nil pass0 (pa_cons (pv 3) (pa_cons (pv 1) pa_nil))))
    (pss_one (ps_ret pe_bl))
    pss_nil)
    (pss_one (ps_if (pt_val (pe_call G_in_spans (hr.mono (by decide)) (by rfl) T.g_in_spans T.F_in_spans.kp T.b_in_spans .nil pass0 (pa_cons (pv 4) (pa_cons (pv 1) pa_nil))))
    (pss_one (ps_ret pe_bl))
    pss_nil)))
    pss_nil)
    (pss_one (ps_ret (pe_cmpR op_eq (pe_ix ix_str (pv 2) (pe_op op_mod (pv 1) (pe_callB (show CallR _ _ (rLen K) from c_len) (by rfl) T.m_len (by decide +kernel) (pa_cons (pv 2) pa_nil))) (fun _ _ => rfl)) pe_str (nomark _)))))), ?_⟩
    dsimp only [L2.start, N_open_on, cxOf, Cx.nox, Cx.wish]
    walk_at "go"
    refine w_gTup3 hs ?_
    walk_at "go"
    have Fin : ∀ b, (b = true → openC c day = patO c.pat day) → True := fun _ _ => trivial
    refine w_dec (fun c1 => ?_) (fun c1 => ?_)
    · walk_at "go"
      refine w_dec (fun c2 => ?_) (fun c2 => ?_)
      · walk_at "go"
        refine ⟨v2, c.shut, day, rfl, r2, ?_⟩
        walk_at "go"
        refine w_2 (fun c3 => ?_) (fun c3 => ?_)
        · walk_at "go"
          have e : openC c day = false := by unfold openC; rw [c3]; rfl
          rw [← e]; exact q
        · walk_at "go"
          refine ⟨v3, c.free, day, rfl, r3, ?_⟩
          walk_at "go"
          refine w_2 (fun c4 => ?_) (fun c4 => ?_)
          · walk_at "go"
            have e : openC c day = true := by unfold openC; rw [c3, c4]; rfl
            rw [← e]; exact q
          · have e : openC c day = patO c.pat day := by unfold openC; rw [c3, c4]; rfl
            walk_at "go"
            refine w_lenS hz ?_
            walk_at "go"
            refine w_ixS hz hc ?_
            walk_at "go"
            rw [← hO, ← e]; exact q
      · have e : openC c day = patO c.pat day := open_far ok (fun z => c2 z.2)
        walk_at "go"
        refine w_lenS hz ?_
        walk_at "go"
        refine w_ixS hz hc ?_
        walk_at "go"
        rw [← hO, ← e]; exact q
    · have e : openC c day = patO c.pat day := open_far ok (fun z => c1 z.1)
      walk_at "go"
      refine iteF ?_
      walk_at "go"
      refine w_lenS hz ?_
      walk_at "go"
      refine w_ixS hz hc ?_
      walk_at "go"
      rw [← hO, ← e]; exact q
end
end J
namespace J
open PySem PySem.Spec PyProof.Rows L2
local macro_rules | `(tactic| walk_at "go1") => `(tactic| first
  | with_reducible refine' w_seq ?_
  | with_reducible refine' w_next ?_
  | with_reducible refine' w_brk ?_
  | with_reducible refine' w_cont ?_
  | with_reducible refine' w_asg ?_
  | with_reducible refine' w_asgG ?_
  | with_reducible refine' w_gSub ?_
  | with_reducible refine' w_ret ?_
  | with_reducible refine' w_retN ?_
  | with_reducible refine' w_drop ?_
  | with_reducible refine' w_ifS ?_
  | ((with_reducible refine' w_isAug ?_); refine w_aug rfl ?_)
  | with_reducible refine' w_ipadd ?_
  | with_reducible refine' w_ipsub ?_
  | ((with_reducible refine' w_isVar ?_); refine w_var rfl ?_)
  | with_reducible refine' w_c ?_
  | with_reducible refine' w_nil ?_
  | with_reducible refine' w_cons ?_
  | with_reducible refine' w_op ?_
  | with_reducible refine' w_un ?_
  | with_reducible refine' w_cb ?_
  | with_reducible refine' w_call ?_
  | with_reducible refine' w_callK ?_
  | with_reducible refine' w_test ?_
  | with_reducible refine' w_tB ?_
  | with_reducible refine' w_and ?_
  | with_reducible refine' w_or ?_
  | with_reducible refine' w_not ?_
  | with_reducible refine' w_andV ?_
  | with_reducible refine' w_orV ?_
  | with_reducible refine' w_notV ?_
  | with_reducible refine' w_if ?_
  | with_reducible refine' w_chain ?_
  | with_reducible refine' w_exb ?_
  | with_reducible refine' w_add ?_
  | with_reducible refine' w_sub ?_
  | with_reducible refine' w_lt ?_
  | with_reducible refine' w_le ?_
  | with_reducible refine' w_gt ?_
  | with_reducible refine' w_ge ?_
  | ((with_reducible refine' w_mod ?h ?q); (case h => first | decide | omega))
  | ((with_reducible refine' w_fdiv ?h ?h2 ?q); (case h => first | decide | omega); (case h2 => first | decide | omega))
  | ((with_reducible refine' w_mulR ?h ?q); (case h => omega))
  | ((with_reducible refine' w_mulL ?h ?q); (case h => omega))
  | with_reducible refine' w_pow_6 ?_
  | with_reducible refine' w_pow_9 ?_
  | with_reducible refine' w_pow_12 ?_
  | with_reducible refine' w_pow_14 ?_
  | with_reducible refine' w_pow_15 ?_
  | with_reducible refine' w_pow_18 ?_
  | with_reducible refine' w_neg ?_
  | ((with_reducible refine' w_eq ?h ?q); (case h => exact rfl))
  | ((with_reducible refine' w_ne ?h ?q); (case h => exact rfl))
  | with_reducible refine' w_abs ?_
  | with_reducible refine' w_int ?_
  | with_reducible refine' w_max ?_
  | with_reducible refine' w_min ?_
  | with_reducible refine' w_count ?_
  | with_reducible refine' w_m1 ?_
  | with_reducible refine' w_bm ?_
  | with_reducible refine' w_listR3 ?_
  | with_reducible refine' w_exs ?_
  | with_reducible refine' w_inS ?_
  | with_reducible refine' w_notInS ?_
  | with_reducible refine' w_for ?_
  | with_reducible refine' w_while ?_
  | with_reducible refine' w_lc ?_
  | with_reducible refine' w_iTup ?_
  | with_reducible refine' w_iList ?_
  | with_reducible refine' w_iRng1 ?_
  | with_reducible refine' w_iRng2 ?_
  | with_reducible refine' w_gName ?_
  | with_reducible refine' w_tYes ?_
  | with_reducible refine' w_tupD ?_
  | with_reducible refine' w_tupF ?_
  | with_reducible refine' w_ltS ?_
  | with_reducible refine' w_leS ?_
  | with_reducible refine' w_dget ?_
  | with_reducible refine' w_dnotin ?_
  | with_reducible refine' w_sl ?_
  | with_reducible refine' w_part ?_
  | with_reducible refine' w_noPart ?_
  | with_reducible refine' w_some ?_
  | with_reducible refine' w_lstD ?_
  | with_reducible refine' w_revT ?_
  | with_reducible refine' w_par ?_
  )
local macro_rules | `(tactic| walk_at "go") => `(tactic| repeat (walk_at "go1"))

/-! ### how many days are open -/
def cntO : List Nat → Int
  | [] => 0
  | n :: r => (if n = 111 then 1 else 0) + cntO r
theorem cntO_eq (l : List Nat) : PyProof.Rows.cnt 111 l = cntO l := by
  induction l with
  | nil => rfl
  | cons n r ih =>
    rw [PyProof.Rows.cnt_cons 111 n r, ih]; rfl
theorem count_o (z : Str) : Txt.count z "o" = cntO z.cps.toList := by
  rw [← cntO_eq]
  exact PyProof.Rows.count_is z 111
theorem cntO_app : ∀ a b : List Nat, cntO (a ++ b) = cntO a + cntO b
  | [], b => by rw [List.nil_append]; show _ = 0 + _; omega
  | n :: r, b => by
    rw [List.cons_append]
    show _ + cntO (r ++ b) = (_ + cntO r) + cntO b
    rw [cntO_app r b]; omega
theorem cntO_bd : ∀ a : List Nat, 0 ≤ cntO a ∧ cntO a ≤ a.length
  | [] => ⟨Int.le_refl _, Int.le_refl _⟩
  | n :: r => by
    have := cntO_bd r
    show 0 ≤ (if n = 111 then (1 : Int) else 0) + cntO r ∧ (if n = 111 then (1 : Int) else 0) + cntO r ≤ ((r.length + 1 : Nat) : Int)
    split <;> omega
theorem cntO_pos : ∀ a : List Nat, 111 ∈ a → 1 ≤ cntO a
  | n :: r, h => by
    have := cntO_bd r
    show 1 ≤ (if n = 111 then (1 : Int) else 0) + cntO r
    rcases List.mem_cons.mp h with rfl | h
    · rw [if_pos rfl]; omega
    · have := cntO_pos r h
      split <;> omega
theorem cntO_take (l : List Nat) (k : Nat) : cntO (l.take (k + 1)) = cntO (l.take k) + if l[k]? = some 111 then 1 else 0 := by
  rw [List.take_add_one, cntO_app]
  congr 1
  cases e : l[k]? with
  | none => rfl
  | some n =>
    show (if n = 111 then (1 : Int) else 0) + 0 = _
    by_cases h : n = 111
    · rw [if_pos h, if_pos (by rw [h])]; rfl
    · rw [if_neg h, if_neg (by intro z; cases z; exact h rfl)]; rfl
def PR (z : Str) (d : Int) : Int := d / (z.length : Int) * cntO z.cps.toList + cntO (z.cps.toList.take (d % (z.length : Int)).toNat)
theorem div_of {L i q : Int} (h0 : 0 ≤ i) (h1 : i < L) : (i + L * q) / L = q ∧ (i + L * q) % L = i := by
  constructor
  · rw [Int.add_mul_ediv_left _ _ (by omega), Int.ediv_eq_zero_of_lt h0 h1]; omega
  · rw [Int.add_mul_emod_self_left]; exact Int.emod_eq_of_lt h0 h1
theorem PR_at {z : Str} (hp : 0 < z.length) {q : Int} {i : Nat} (h : i ≤ z.length) : PR z ((i : Int) + (z.length : Int) * q) = q * cntO z.cps.toList + cntO (z.cps.toList.take i) := by
  unfold PR
  by_cases h1 : i < z.length
  · obtain ⟨e1, e2⟩ := div_of (L := (z.length : Int)) (i := (i : Int)) (q := q) (by omega) (by omega)
    rw [e1, e2]; rfl
  · have e : i = z.length := by omega
    subst e
    obtain ⟨e1, e2⟩ := div_of (L := (z.length : Int)) (i := 0) (q := q + 1) (by omega) (by omega)
    rw [show ((z.length : Nat) : Int) + (z.length : Int) * q = 0 + (z.length : Int) * (q + 1) by rw [Int.mul_add]; omega, e1, e2]
    have ht : z.cps.toList.take z.length = z.cps.toList := List.take_of_length_le (by rw [len_cps]; exact Nat.le_refl _)
    rw [ht]
    show (q + 1) * _ + cntO [] = _
    rw [Int.add_mul]
    show _ + 0 = _
    omega
theorem PR_step {z : Str} (hp : 0 < z.length) (d : Int) : PR z (d + 1) = PR z d + if patO z d = true then 1 else 0 := by
  have h0 : 0 ≤ d % (z.length : Int) := Int.emod_nonneg _ (by omega)
  have h1 : d % (z.length : Int) < z.length := Int.emod_lt_of_pos _ (by omega)
  have hd : d % (z.length : Int) + (z.length : Int) * (d / (z.length : Int)) = d := Int.emod_add_mul_ediv ..
  have ep : (patO z d = true) = (z.cps.toList[(d % (z.length : Int)).toNat]? = some 111) := by
    unfold patO
    rw [decide_eq_true_eq]
  generalize hi : (d % (z.length : Int)).toNat = i at ep
  generalize d / (z.length : Int) = q at hd
  have a1 := PR_at hp (q := q) (i := i) (by omega)
  have a2 := PR_at hp (q := q) (i := i + 1) (by omega)
  rw [show ((i + 1 : Nat) : Int) + (z.length : Int) * q = d + 1 by omega, cntO_take] at a2
  rw [show (i : Int) + (z.length : Int) * q = d by omega] at a1
  rw [a1, a2, Int.add_assoc]
  simp only [ep]
theorem PR_turn {z : Str} (hp : 0 < z.length) (d k : Int) : PR z (d + k * (z.length : Int)) = PR z d + k * cntO z.cps.toList := by
  have e : d + k * (z.length : Int) = d + (z.length : Int) * k := by rw [Int.mul_comm k]
  unfold PR
  rw [e, Int.add_mul_ediv_left _ _ (by omega), Int.add_mul_emod_self_left, Int.add_mul]
  omega
theorem PR_zero (z : Str) : PR z 0 = 0 := by
  unfold PR
  rw [Int.zero_ediv, Int.zero_emod, Int.zero_mul]; rfl
/-- the days from lo on, n of them, of which p holds -/
def filtI (p : Int → Bool) (lo : Int) (n : Nat) : List Int := ((List.range n).map fun i : Nat => lo + (i : Int)).filter p
theorem filtI_succ (p : Int → Bool) (lo : Int) (n : Nat) : filtI p lo (n + 1) = filtI p lo n ++ (if p (lo + n) = true then [lo + n] else []) := by
  unfold filtI
  rw [List.range_succ, List.map_append, List.filter_append]
  congr 1
  show List.filter p [lo + (n : Int)] = _
  rw [List.filter_cons]; rfl
theorem filtI_le (p : Int → Bool) (lo : Int) (n : Nat) : (filtI p lo n).length ≤ n := by
  have := List.length_filter_le p ((List.range n).map fun i : Nat => lo + (i : Int))
  rw [List.length_map, List.length_range] at this
  exact this
theorem filtI_at (p : Int → Bool) (lo : Int) : ∀ (n k : Nat) (e : Int), (filtI p lo n)[k]? = some e → p e = true ∧ lo ≤ e ∧ e < lo + n ∧ (filtI p lo (e - lo).toNat).length = k
  | 0, k, e, h => by
    have : (filtI p lo 0)[k]? = none := by unfold filtI; simp
    rw [this] at h; cases h
  | n + 1, k, e, h => by
    rw [filtI_succ] at h
    by_cases hk : k < (filtI p lo n).length
    · rw [List.getElem?_append_left hk] at h
      obtain ⟨a, b, c, d⟩ := filtI_at p lo n k e h
      exact ⟨a, b, by omega, d⟩
    · rw [List.getElem?_append_right (by omega)] at h
      split at h
      · rename_i hp
        cases hk2 : k - (filtI p lo n).length with
        | zero =>
          rw [hk2] at h
          have : lo + (n : Int) = e := by simpa using h
          subst this
          refine ⟨hp, by omega, by omega, ?_⟩
          rw [show (lo + (n : Int) - lo).toNat = n by omega]; omega
        | succ m =>
          rw [hk2] at h
          simp at h
      · simp at h
def Rk (p : Int → Bool) (R : Int → Int) : Prop := ∀ d, R (d + 1) = R d + if p d = true then 1 else 0
theorem rk_tel {p : Int → Bool} {R : Int → Int} (h : Rk p R) (lo : Int) : ∀ n : Nat, R (lo + n) = R lo + ((filtI p lo n).length : Int)
  | 0 => by
    show R (lo + 0) = _ + 0
    rw [Int.add_zero, Int.add_zero]
  | n + 1 => by
    rw [show lo + ((n + 1 : Nat) : Int) = (lo + n) + 1 by omega, h, rk_tel h lo n, filtI_succ, List.length_append]
    split
    · show _ = R lo + ((_ + 1 : Nat) : Int); omega
    · show _ = R lo + ((_ + 0 : Nat) : Int); omega
theorem rk_seg {p : Int → Bool} {R : Int → Int} (h : Rk p R) {a b : Int} (hab : a ≤ b) : R b = R a + ((filtI p a (b - a).toNat).length : Int) := by
  rw [← rk_tel h a, show a + ((b - a).toNat : Int) = b by omega]
theorem rk_mono {p : Int → Bool} {R : Int → Int} (h : Rk p R) {a b : Int} (hab : a ≤ b) : R a ≤ R b ∧ R b - R a ≤ b - a := by
  have h1 := rk_seg h hab
  have h2 := filtI_le p a (b - a).toNat
  omega
theorem rk_lt {p : Int → Bool} {R : Int → Int} (h : Rk p R) {a b : Int} (hp : p a = true) (hab : R b ≤ R a) : b ≤ a := by
  by_cases z : b ≤ a
  · exact z
  · have h1 := (rk_mono h (a := a + 1) (b := b) (by omega)).1
    rw [h, if_pos hp] at h1
    omega
theorem rk_inj {p : Int → Bool} {R : Int → Int} (h : Rk p R) {a b : Int} (hp : p a = true) (hq : p b = true) (hab : R a = R b) : a = b := by
  have h1 := rk_lt h (a := a) (b := b) hp (by omega)
  have h2 := rk_lt h (a := b) (b := a) hq (by omega)
  omega
theorem PR_rk {z : Str} (hp : 0 < z.length) : Rk (patO z) (PR z) := PR_step hp
def RK (c : Cal) (d : Int) : Int := if d ≤ -30 then PR c.pat d else
  if d ≤ 30 then PR c.pat (-30) + ((filtI (openC c) (-30) (d + 30).toNat).length : Int) else PR c.pat (-30) + ((filtI (openC c) (-30) 61).length : Int) + PR c.pat d - PR c.pat 31
theorem RK_lo {c : Cal} {d : Int} (h : d ≤ -30) : RK c d = PR c.pat d := by unfold RK; rw [if_pos h]
theorem RK_mid {c : Cal} {d : Int} (h : -30 ≤ d) (h2 : d ≤ 31) : RK c d = PR c.pat (-30) + ((filtI (openC c) (-30) (d + 30).toNat).length : Int) := by
  unfold RK
  split
  · have : d = -30 := by omega
    subst this
    show _ = _ + 0
    omega
  · split
    · rfl
    · have : d = 31 := by omega
      subst this
      show _ + ((filtI (openC c) (-30) 61).length : Int) + _ - _ = _ + ((filtI (openC c) (-30) 61).length : Int)
      omega
theorem RK_hi {c : Cal} {d : Int} (h : 31 ≤ d) : RK c d = PR c.pat (-30) + ((filtI (openC c) (-30) 61).length : Int) + PR c.pat d - PR c.pat 31 := by
  unfold RK
  rw [if_neg (by omega), if_neg (by omega)]
theorem RK_rk {c : Cal} (ok : c.Ok) : Rk (openC c) (RK c) := by
  have hp := (pat_len ok.parts.1).1
  intro d
  by_cases h1 : d < -30
  · rw [RK_lo (by omega), RK_lo (by omega), open_far ok (by omega)]
    exact PR_step hp d
  · by_cases h2 : d ≤ 30
    · rw [RK_mid (by omega) (by omega), RK_mid (by omega) (by omega), show (d + 1 + 30).toNat = (d + 30).toNat + 1 by omega, filtI_succ, List.length_append, show (-30 : Int) + ((d + 30).toNat : Int) = d by omega]
      split
      · show _ + ((_ + 1 : Nat) : Int) = _; omega
      · show _ + ((_ + 0 : Nat) : Int) = _; omega
    · rw [RK_hi (by omega), RK_hi (by omega), open_far ok (by omega), PR_step hp d]
      omega
theorem RK_bd {c : Cal} (ok : c.Ok) (d : Int) : -(RK c d) ≤ (if d < 0 then -d else d) + 100 ∧ RK c d ≤ (if d < 0 then -d else d) + 100 := by
  have hp := (pat_len ok.parts.1).1
  have h1 := rk_mono (PR_rk hp) (a := -30) (b := 0) (by decide)
  rw [PR_zero] at h1
  have h2 := rk_mono (RK_rk ok) (a := -30) (b := 0) (by decide)
  rw [RK_lo (Int.le_refl (-30))] at h2
  split
  · have := rk_mono (RK_rk ok) (a := d) (b := 0) (by omega)
    omega
  · have := rk_mono (RK_rk ok) (a := 0) (b := d) (by omega)
    omega
/-- of a pattern the day with a rank -/
theorem pday {z : Str} (hz : isPat (.str z) = true) (r : Int) (i : Int) (h : (filtI (patO z) 0 z.length)[(r % cntO z.cps.toList).toNat]? = some i) :
    patO z (r / cntO z.cps.toList * (z.length : Int) + i) = true ∧ PR z (r / cntO z.cps.toList * (z.length : Int) + i) = r ∧ 0 ≤ i ∧ i ≤ 3 := by
  obtain ⟨h0, h4, hm⟩ := pat_len hz
  have hc := cntO_pos _ hm
  obtain ⟨a1, a2, a3, a4⟩ := filtI_at _ _ _ _ _ h
  have hr0 : 0 ≤ r % cntO z.cps.toList := Int.emod_nonneg _ (by omega)
  have hr := Int.emod_add_mul_ediv r (cntO z.cps.toList)
  rw [Int.mul_comm] at hr
  generalize r / cntO z.cps.toList = q at hr ⊢
  have e0 := rk_seg (PR_rk h0) (a := 0) (b := i) a2
  rw [PR_zero, a4] at e0
  refine ⟨?_, ?_, a2, by omega⟩
  · unfold patO at a1 ⊢
    rw [Int.add_comm, Int.add_mul_emod_self_right]
    exact a1
  · rw [Int.add_comm, PR_turn h0, e0]
    omega
theorem places_len {z : Str} (hz : isPat (.str z) = true) : ((filtI (patO z) 0 z.length).length : Int) = cntO z.cps.toList := by
  obtain ⟨h0, h4, hm⟩ := pat_len hz
  have h1 := rk_tel (PR_rk h0) 0 z.length
  rw [PR_zero] at h1
  have h2 := PR_at h0 (q := 0) (i := z.length) (Nat.le_refl _)
  rw [Int.mul_zero, Int.add_zero, Int.zero_mul, List.take_of_length_le (by rw [len_cps]; exact Nat.le_refl _)] at h2
  rw [Int.zero_add] at h1
  omega
theorem RK_near {c : Cal} {k : Nat} {e : Int} (h : (filtI (openC c) (-30) 61)[k]? = some e) : openC c e = true ∧ RK c e = PR c.pat (-30) + k ∧ -30 ≤ e ∧ e ≤ 30 := by
  obtain ⟨a1, a2, a3, a4⟩ := filtI_at _ _ _ _ _ h
  refine ⟨a1, ?_, a2, by omega⟩
  rw [RK_mid a2 (by omega), show e + 30 = e - (-30) by omega, a4]
theorem RK_below {c : Cal} (ok : c.Ok) {e r : Int} (h1 : patO c.pat e = true) (h2 : PR c.pat e = r) (h3 : r < PR c.pat (-30)) : openC c e = true ∧ RK c e = r := by
  have hp := (pat_len ok.parts.1).1
  have : e < -30 := by
    by_cases z : e < -30
    · exact z
    · have := (rk_mono (PR_rk hp) (a := -30) (b := e) (by omega)).1
      omega
  rw [open_far ok (by omega), RK_lo (by omega)]
  exact ⟨h1, h2⟩
theorem RK_above {c : Cal} (ok : c.Ok) {e r : Int} (h1 : patO c.pat e = true) (h2 : PR c.pat e = r - PR c.pat (-30) - ((filtI (openC c) (-30) 61).length : Int) + PR c.pat 31) (h3 : ¬ r < PR c.pat (-30) + ((filtI (openC c) (-30) 61).length : Int)) : openC c e = true ∧ RK c e = r := by
  have hp := (pat_len ok.parts.1).1
  have : 31 ≤ e := rk_lt (PR_rk hp) h1 (by omega)
  rw [open_far ok (by omega), RK_hi this]
  exact ⟨h1, by omega⟩
/-- what the law counts -/
theorem law_count {c : Cal} (ok : c.Ok) (a b : Int) (x1 x2 : Int) (n : Nat) (lo hi : Int)
    (h1 : x1 = if (if -31 < b then -31 else b) < a then 0 else PR c.pat ((if -31 < b then -31 else b) + 1) - PR c.pat a)
    (h2 : x2 = if b < (if 31 > a then 31 else a) then 0 else PR c.pat (b + 1) - PR c.pat (if 31 > a then 31 else a))
    (hlo : lo = if -30 > a then -30 else a) (hhi : hi = (if 30 < b then 30 else b) + 1) (h3 : n = (filtI (openC c) lo (hi - lo).toNat).length) :
    x1 + x2 + (n : Int) = if b < a then 0 else RK c (b + 1) - RK c a := by
  have seg : ∀ {u v : Int}, u ≤ v → ((filtI (openC c) u (v - u).toNat).length : Int) = RK c v - RK c u := fun h => by
    have := rk_seg (RK_rk ok) h; omega
  have hz : ∀ {u v : Int}, v ≤ u → ((filtI (openC c) u (v - u).toNat).length : Int) = 0 := fun {u v} h => by
    rw [show (v - u).toNat = 0 by omega]; rfl
  rw [h1, h2, h3]
  by_cases c0 : b < a
  · rw [if_pos c0, if_pos (by split <;> omega), if_pos (by split <;> omega), hz (by rw [hlo, hhi]; split <;> split <;> omega)]
    rfl
  · rw [if_neg c0]
    by_cases c1 : b < -30
    · rw [if_neg (show ¬ (-31 : Int) < b by omega), if_neg c0, if_pos (by split <;> omega), hz (by rw [hlo, hhi]; split <;> split <;> omega), RK_lo (by omega), RK_lo (by omega)]
      omega
    · by_cases c2 : a ≤ -31
      · have e1 : (if -31 < b then (-31 : Int) else b) = -31 := by split <;> omega
        rw [e1, if_neg (show ¬ (-31 : Int) < a by omega)]
        have e2 : (if 31 > a then (31 : Int) else a) = 31 := by split <;> omega
        have e3 : (if -30 > a then (-30 : Int) else a) = -30 := by split <;> omega
        rw [e2, hlo, e3, hhi]
        have k1 : PR c.pat (-31 + 1) = RK c (-30) := (RK_lo (by decide)).symm
        have k2 : PR c.pat a = RK c a := (RK_lo (by omega)).symm
        rw [k1, k2]
        by_cases c3 : 30 < b
        · rw [if_neg (by omega), if_pos c3, seg (by decide)]
          have r1 := RK_hi (c := c) (d := b + 1) (by omega)
          have r2 := RK_hi (c := c) (d := 31) (by decide)
          show _ + _ + (RK c 31 - _) = _
          omega
        · rw [if_pos (by omega), if_neg c3, seg (by omega)]
          omega
      · have e1 : (if (if -31 < b then (-31 : Int) else b) < a then (0 : Int) else PR c.pat ((if -31 < b then -31 else b) + 1) - PR c.pat a) = 0 := by
          rw [if_pos]; split <;> omega
        have e3 : (if -30 > a then (-30 : Int) else a) = a := by split <;> omega
        rw [e1, hlo, e3, hhi]
        by_cases c3 : 30 < b
        · by_cases c4 : 31 ≤ a
          · have e2 : (if 31 > a then (31 : Int) else a) = a := by split <;> omega
            rw [e2, if_neg c0, if_pos c3, hz (by omega), RK_hi (by omega), RK_hi (by omega)]
            omega
          · have e2 : (if 31 > a then (31 : Int) else a) = 31 := by split <;> omega
            rw [e2, if_neg (by omega), if_pos c3, seg (by omega)]
            have r1 := RK_hi (c := c) (d := b + 1) (by omega)
            have r2 := RK_hi (c := c) (d := 31) (by decide)
            show _ + _ + (RK c 31 - _) = _
            omega
        · have e2 : (if 31 > a then (31 : Int) else a) = 31 := by split <;> omega
          rw [e2, if_pos (by omega), if_neg c3, seg (by omega)]
          omega

def spNeedNum : Sp := fun vs H Q _ => ∃ n m : Int, vs = [.int n, .int m] ∧ 0 ≤ n ∧ n ≤ m ∧ Q .non H
def spPRank (K : PySem.W.Frag) : Sp := fun vs H Q _ => ∃ z d, vs = [.str z, .int d] ∧ isPat (.str z) = true ∧ ∀ H', Ex H H' → Q (.int (PR z d)) H'
def spPDay (K : PySem.W.Frag) : Sp := fun vs H Q _ => ∃ z r, vs = [.str z, .int r] ∧ isPat (.str z) = true ∧ ∀ e H', Ex H H' → patO z e = true → PR z e = r → -(4 * (if r < 0 then -r else r)) - 8 ≤ e ∧ e ≤ 4 * (if r < 0 then -r else r) + 8 → Q (.int e) H'
def spRank (K : PySem.W.Frag) : Sp := fun vs H Q _ => ∃ v c d, vs = [v, .int d] ∧ Rp K H v (encCal c) ∧ c.Ok ∧ ∀ H', Ex H H' → Q (.int (RK c d)) H'
def spRDay (K : PySem.W.Frag) : Sp := fun vs H Q _ => ∃ v c r, vs = [v, .int r] ∧ Rp K H v (encCal c) ∧ c.Ok ∧ (-10000000000000000 ≤ r ∧ r ≤ 10000000000000000) ∧ ∀ e H', Ex H H' → openC c e = true → RK c e = r → -100000000000000000 ≤ e ∧ e ≤ 100000000000000000 → Q (.int e) H'
def spNth (K : PySem.W.Frag) : Sp := fun vs H Q _ => ∃ v c d n, vs = [v, .int d, .int n] ∧ Rp K H v (encCal c) ∧ c.Ok ∧ dayOk d ∧ (0 ≤ n ∧ n ≤ 1000000000000000) ∧ ∀ e H', Ex H H' → openC c e = true → RK c e = RK c d + n → -100000000000000000 ≤ e ∧ e ≤ 100000000000000000 → Q (.int e) H'
def cntF (c : Cal) (a b : Int) : Int := if b < a then 0 else RK c (b + 1) - RK c a
def spCount (K : PySem.W.Frag) : Sp := fun vs H Q _ => ∃ v c a b, vs = [v, .int a, .int b] ∧ Rp K H v (encCal c) ∧ c.Ok ∧ dayOk a ∧ dayOk b ∧ ∀ H', Ex H H' → Q (.int (cntF c a b)) H'
def bigOk (d : Int) : Prop := -200000000000000000 ≤ d ∧ d ≤ 200000000000000000
def spLawPlain (K : PySem.W.Frag) : Sp := fun vs H Q _ => ∃ z a b, vs = [.str z, .int a, .int b] ∧ isPat (.str z) = true ∧ bigOk a ∧ bigOk b ∧ ∀ H', Ex H H' → Q (.int (if b < a then 0 else PR z (b + 1) - PR z a)) H'
def spLawCount (K : PySem.W.Frag) : Sp := fun vs H Q _ => ∃ v c a b, vs = [v, .int a, .int b] ∧ Rp K H v (encCal c) ∧ c.Ok ∧ bigOk a ∧ bigOk b ∧ ∀ H', Ex H H' → Q (.int (cntF c a b)) H'
end J
namespace J
open PySem PySem.Spec PyProof.Rows L2
local macro_rules | `(tactic| walk_at "go1") => `(tactic| first
  | with_reducible refine' w_seq ?_
  | with_reducible refine' w_next ?_
  | with_reducible refine' w_brk ?_
  | with_reducible refine' w_cont ?_
  | with_reducible refine' w_asg ?_
  | with_reducible refine' w_asgG ?_
  | with_reducible refine' w_gSub ?_
  | with_reducible refine' w_ret ?_
  | with_reducible refine' w_retN ?_
  | with_reducible refine' w_drop ?_
  | with_reducible refine' w_ifS ?_
  | ((with_reducible refine' w_isAug ?_); refine w_aug rfl ?_)
  | with_reducible refine' w_ipadd ?_
  | with_reducible refine' w_ipsub ?_
  | ((with_reducible refine' w_isVar ?_); refine w_var rfl ?_)
  | with_reducible refine' w_c ?_
  | with_reducible refine' w_nil ?_
  | with_reducible refine' w_cons ?_
  | with_reducible refine' w_op ?_
  | with_reducible refine' w_un ?_
  | with_reducible refine' w_cb ?_
  | with_reducible refine' w_call ?_
  | with_reducible refine' w_callK ?_
  | with_reducible refine' w_test ?_
  | with_reducible refine' w_tB ?_
  | with_reducible refine' w_and ?_
  | with_reducible refine' w_or ?_
  | with_reducible refine' w_not ?_
  | with_reducible refine' w_andV ?_
  | with_reducible refine' w_orV ?_
  | with_reducible refine' w_notV ?_
  | with_reducible refine' w_if ?_
  | with_reducible refine' w_chain ?_
  | with_reducible refine' w_exb ?_
  | with_reducible refine' w_add ?_
  | with_reducible refine' w_sub ?_
  | with_reducible refine' w_lt ?_
  | with_reducible refine' w_le ?_
  | with_reducible refine' w_gt ?_
  | with_reducible refine' w_ge ?_
  | ((with_reducible refine' w_mod ?h ?q); (case h => first | decide | omega))
  | ((with_reducible refine' w_fdiv ?h ?h2 ?q); (case h => first | decide | omega); (case h2 => first | decide | omega))
  | ((with_reducible refine' w_mulR ?h ?q); (case h => omega))
  | ((with_reducible refine' w_mulL ?h ?q); (case h => omega))
  | with_reducible refine' w_pow_6 ?_
  | with_reducible refine' w_pow_9 ?_
  | with_reducible refine' w_pow_12 ?_
  | with_reducible refine' w_pow_14 ?_
  | with_reducible refine' w_pow_15 ?_
  | with_reducible refine' w_pow_18 ?_
  | with_reducible refine' w_neg ?_
  | ((with_reducible refine' w_eq ?h ?q); (case h => exact rfl))
  | ((with_reducible refine' w_ne ?h ?q); (case h => exact rfl))
  | with_reducible refine' w_abs ?_
  | with_reducible refine' w_int ?_
  | with_reducible refine' w_max ?_
  | with_reducible refine' w_min ?_
  | with_reducible refine' w_count ?_
  | with_reducible refine' w_m1 ?_
  | with_reducible refine' w_bm ?_
  | with_reducible refine' w_listR3 ?_
  | with_reducible refine' w_exs ?_
  | with_reducible refine' w_inS ?_
  | with_reducible refine' w_notInS ?_
  | with_reducible refine' w_for ?_
  | with_reducible refine' w_while ?_
  | with_reducible refine' w_lc ?_
  | with_reducible refine' w_iTup ?_
  | with_reducible refine' w_iList ?_
  | with_reducible refine' w_iRng1 ?_
  | with_reducible refine' w_iRng2 ?_
  | with_reducible refine' w_gName ?_
  | with_reducible refine' w_tYes ?_
  | with_reducible refine' w_tupD ?_
  | with_reducible refine' w_tupF ?_
  | with_reducible refine' w_ltS ?_
  | with_reducible refine' w_leS ?_
  | with_reducible refine' w_dget ?_
  | with_reducible refine' w_dnotin ?_
  | with_reducible refine' w_sl ?_
  | with_reducible refine' w_part ?_
  | with_reducible refine' w_noPart ?_
  | with_reducible refine' w_some ?_
  | with_reducible refine' w_lstD ?_
  | with_reducible refine' w_revT ?_
  | with_reducible refine' w_par ?_
  )
local macro_rules | `(tactic| walk_at "go") => `(tactic| repeat (walk_at "go1"))
section
variable {P : Program} {w : World} {K : PySem.W.Frag} {mg : Str → Option Value} {base : Heap} {ad : Nat → Addr} {fdd : Nat → FuncData}
theorem ok_need_number (T : Tx K mg ad fdd) (G_is_whole : FnOk P w K mg base CX0 1 (ad 7) (fdd 7) ["thing", "low", "high"] (spWhole K)) : FnOk P w K mg base CX0 2 (ad 11) (fdd 11) ["thing", "most"] (spNeedNum) := by
  refine T.F_need_number.ok sc_need_number (fun vs H Q E h => ?_) (fun cdv A outer s H vs Q E hr h => ?_)
  · obtain ⟨n, m, rfl, _⟩ := h
    rfl
  · obtain ⟨n, m, rfl, h0, h1, q⟩ := h
    refine ⟨_, (pss_one (ps_if (pt_not (pt_val (pe_call G_is_whole (hr.mono (by decide)) (by rfl) T.g_is_whole T.F_is_whole.kp T.b_is_whole .nil pass0 (pa_cons (pv 0) (pa_cons pe_int (pa_cons (pv 1) pa_nil))))))
    (pss_one ps_never)
    pss_nil)), ?_⟩
    dsimp only [L2.start, N_need_number, cxOf, Cx.nox, Cx.wish]
    walk_at "go"
    refine ⟨.int n, .int n, _, _, rfl, .int n, ?_⟩
    walk_at "go"
    refine w_nF (by simp [isWhole]; omega) ?_
    walk_at "go"
    exact q
theorem ok_plain_rank (T : Tx K mg ad fdd) : FnOk P w K mg base CX0 1 (ad 26) (fdd 26) ["pattern", "day"] (spPRank K) := by
  refine T.F_plain_rank.ok sc_plain_rank (fun vs H Q E h => ?_) (fun cdv A outer s H vs Q E hr h => ?_)
  · obtain ⟨z, d, rfl, _⟩ := h
    rfl
  · obtain ⟨z, d, rfl, hz, q⟩ := h
    obtain ⟨h0, h4, hm⟩ := pat_len hz
    have hzl : z.length ≤ sizeLine := list_lt (by omega)
    have hr0 : 0 ≤ d % (z.length : Int) := Int.emod_nonneg _ (by omega)
    have hr1 : d % (z.length : Int) < z.length := Int.emod_lt_of_pos _ (by omega)
    have hq : PR z d = d / (z.length : Int) * Txt.count z "o" + Txt.count ⟨(z.cps.toList.take (d % (z.length : Int)).toNat).toArray⟩ "o" := by
      rw [count_o, count_o]; rfl
    have hcb : 0 ≤ Txt.count z "o" ∧ Txt.count z "o" ≤ 4 := by
      rw [count_o]
      have := cntO_bd z.cps.toList
      rw [len_cps] at this
      omega
    rw [hq] at q
    generalize hcn : Txt.count z "o" = cn at hcb q
    refine ⟨_, (pss_cons (ps_asg (pe_callB (show CallR _ _ rDivmod from c_divmod) (by rfl) T.m_divmod (by decide +kernel) (pa_cons (pv 1) (pa_cons (pe_callB (show CallR _ _ (rLen K) from c_len) (by rfl) T.m_len (by decide +kernel) (pa_cons (pv 0) pa_nil)) pa_nil))) (show PG _ _ (gTup K 2 _) from pg_tup rfl (pgs_cons (pg_name (i := 2) sc_plain_rank.nd rfl (by first | exact Or.inl rfl | exact Or.inr rfl)) (pgs_cons (pg_name (i := 3) sc_plain_rank.nd rfl (by first | exact Or.inl rfl | exact Or.inr rfl)) pgs_nil))))
    (pss_one (ps_ret (pe_op op_add (pe_op op_mul (pv 2) (pe_m1 PySem.F.slot_str_count PySem.F.type_str_count m_count (pv 0) pe_str)) (pe_m1 PySem.F.slot_str_count PySem.F.type_str_count m_count (pe_slice sl_str (pv 0) po_none (po_some (pv 3))) pe_str))))), ?_⟩
    dsimp only [L2.start, N_plain_rank, cxOf, Cx.nox, Cx.wish]
    walk_at "go"
    refine w_lenS hzl ?_
    walk_at "go"
    refine w_divmod (by omega) (by omega) fun p H1 np e1 hp => ?_
    walk_at "go"
    refine w_gTup2 (st_of hp) ?_
    walk_at "go"
    rw [hcn]
    walk_at "go"
    refine w_slS hzl hr0 (by omega) ?_
    walk_at "go"
    exact q H1 e1
theorem ok_plain_day (T : Tx K mg ad fdd) : FnOk P w K mg base CX0 1 (ad 27) (fdd 27) ["pattern", "rank"] (spPDay K) := by
  refine T.F_plain_day.ok sc_plain_day (fun vs H Q E h => ?_) (fun cdv A outer s H vs Q E hr h => ?_)
  · obtain ⟨z, r, rfl, _⟩ := h
    rfl
  · obtain ⟨z, r, rfl, hz, q⟩ := h
    obtain ⟨h0, h4, hm⟩ := pat_len hz
    have hzl : z.length ≤ sizeLine := list_lt (by omega)
    have hpl := places_len hz
    have hc1 := cntO_pos _ hm
    have hc4 := cntO_bd z.cps.toList
    rw [len_cps] at hc4
    have hpd := pday hz r
    generalize hps : filtI (patO z) 0 z.length = ps at hpl hpd
    refine ⟨_, (pss_cons (ps_setLc (i := 2) (own := [("at", 5)]) rfl sc_plain_day.nd rfl rfl (sw_true rfl rfl rfl (by decide +kernel)) (pi_range1 (by rfl) T.m_range (pa_cons (pe_callB (show CallR _ _ (rLen K) from c_len) (by rfl) T.m_len (by decide +kernel) (pa_cons (pv 0) pa_nil)) pa_nil)) (blkOk_by (own := [("at", 5)]) (N := N_plain_day) (sc := defScope s_plain_day) (by decide +kernel)) (fun _ _ _ _ _ => (pg_name (i := 5) sc_plain_day.nd rfl (by first | exact Or.inl rfl | exact Or.inr rfl))) (fun _ _ _ _ _ => (pts_one (pt_cmpR op_eq (pe_ix ix_str (pv 0) (pv 5) (fun _ _ => rfl)) pe_str (nomark _)))) (fun _ _ _ _ _ => (pv 5)))
    (pss_cons (ps_asg (pe_callB (show CallR _ _ rDivmod from c_divmod) (by rfl) T.m_divmod (by decide +kernel) (pa_cons (pv 1) (pa_cons (pe_callB (show CallR _ _ (rLen K) from c_len) (by rfl) T.m_len (by decide +kernel) (pa_cons (pv 2) pa_nil)) pa_nil))) (show PG _ _ (gTup K 2 _) from pg_tup rfl (pgs_cons (pg_name (i := 3) sc_plain_day.nd rfl (by first | exact Or.inl rfl | exact Or.inr rfl)) (pgs_cons (pg_name (i := 4) sc_plain_day.nd rfl (by first | exact Or.inl rfl | exact Or.inr rfl)) pgs_nil))))
    (pss_one (ps_ret (pe_op op_add (pe_op op_mul (pv 3) (pe_callB (show CallR _ _ (rLen K) from c_len) (by rfl) T.m_len (by decide +kernel) (pa_cons (pv 0) pa_nil))) (pe_ix (show IxR _ (rIxL K) from ix_list) (pv 2) (pv 4) (fun _ _ => rfl))))))), ?_⟩
    dsimp only [L2.start, N_plain_day, cxOf, Cx.nox, Cx.wish]
    walk_at "go"
    refine w_lenS hzl ?_
    walk_at "go"
    refine w_lcR ⟨by omega, by omega⟩ ?_
    refine lc_R (fun D i H' => Ex H H' ∧ H' D = some (.lst ((filtI (patO z) 0 i).map V.int))) (fun D nD => ⟨Ex.new nD, upd_same⟩) (fun D i H' nD hi p => ?_) (fun D H1 nD p => ?_)
    · obtain ⟨e, hD⟩ := p
      have hi' : i < z.length := by omega
      obtain ⟨cc, hcc, hO⟩ := pat_at h0 (0 + (i : Int))
      rw [Int.emod_eq_of_lt (by omega) (by omega)] at hcc
      walk_at "go"
      refine ⟨rfl, ?_⟩
      walk_at "go"
      refine w_ixS hzl hcc ?_
      walk_at "go"
      rw [← hO]
      refine w_2 (fun c1 => ?_) (fun c1 => ?_)
      · walk_at "go"
        refine ⟨_, hD, small1000 ?_, e.mut nD, ?_⟩
        · rw [List.length_map]
          have := filtI_le (patO z) 0 i
          omega
        · rw [upd_same, filtI_succ, if_pos c1, List.map_append]; rfl
      · refine ⟨e, ?_⟩
        rw [filtI_succ, if_neg (by rw [c1]; decide), List.append_nil]; exact hD
    · obtain ⟨e, hD⟩ := p
      rw [Int.toNat_natCast, hps] at hD
      walk_at "go"
      refine w_lenL (sq_of hD) ?_
      rw [List.length_map, hpl]
      walk_at "go"
      refine w_divmod (by omega) (by omega) fun p H2 np e2 hp => ?_
      walk_at "go"
      refine w_gTup2 (st_of hp) ?_
      have hr0 : 0 ≤ r % cntO z.cps.toList := Int.emod_nonneg _ (by omega)
      have hr1 : r % cntO z.cps.toList < cntO z.cps.toList := Int.emod_lt_of_pos _ (by omega)
      have hlt : (r % cntO z.cps.toList).toNat < ps.length := by omega
      obtain ⟨g1, g2, g3, g4⟩ := hpd ps[(r % cntO z.cps.toList).toNat] (List.getElem?_eq_getElem hlt)
      have hat : atI (ps.map V.int) (r % cntO z.cps.toList) = some (.int ps[(r % cntO z.cps.toList).toNat]) := by
        unfold atI ixN
        rw [if_pos hr0, if_pos (by rw [List.length_map]; omega)]
        show (ps.map V.int)[(r % cntO z.cps.toList).toNat]? = _
        rw [List.getElem?_map, List.getElem?_eq_getElem hlt]; rfl
      generalize ps[(r % cntO z.cps.toList).toNat] = i at g1 g2 g3 g4 hat
      have hqb : -(if r < 0 then -r else r) ≤ r / cntO z.cps.toList ∧ r / cntO z.cps.toList ≤ (if r < 0 then -r else r) := by
        have h1 := Int.emod_add_mul_ediv r (cntO z.cps.toList)
        generalize r / cntO z.cps.toList = q at h1 ⊢
        have : cntO z.cps.toList = 1 ∨ cntO z.cps.toList = 2 ∨ cntO z.cps.toList = 3 ∨ cntO z.cps.toList = 4 := by omega
        rcases this with x | x | x | x <;> rw [x] at h1 hr0 hr1 <;> split <;> omega
      have hbd : -(4 * (if r < 0 then -r else r)) - 8 ≤ r / cntO z.cps.toList * (z.length : Int) + i ∧ r / cntO z.cps.toList * (z.length : Int) + i ≤ 4 * (if r < 0 then -r else r) + 8 := by
        generalize (if r < 0 then -r else r) = ar at hqb ⊢
        generalize r / cntO z.cps.toList = q at hqb ⊢
        have : (z.length : Int) = 1 ∨ (z.length : Int) = 2 ∨ (z.length : Int) = 3 ∨ (z.length : Int) = 4 := by omega
        rcases this with x | x | x | x <;> rw [x] <;> omega
      walk_at "go"
      refine w_lenS hzl ?_
      walk_at "go"
      refine w_ixL (sq_of (e2 _ _ hD)) hat ?_
      walk_at "go"
      exact q _ H2 (e.trans e2) g1 g2 hbd
theorem ok_rank (T : Tx K mg ad fdd) (G_plain_rank : FnOk P w K mg base CX0 1 (ad 26) (fdd 26) ["pattern", "day"] (spPRank K)) (G_open_on : FnOk P w K mg base CX0 2 (ad 20) (fdd 20) ["calendar", "day"] (spOpenOn K)) : FnOk P w K mg base CX0 3 (ad 28) (fdd 28) ["calendar", "day"] (spRank K) := by
  refine T.F_rank.ok sc_rank (fun vs H Q E h => ?_) (fun cdv A outer s H vs Q E hr h => ?_)
  · obtain ⟨v, c, d, rfl, _⟩ := h
    rfl
  · obtain ⟨v, c, d, rfl, hv, ok, q⟩ := h
    have hv0 := hv
    obtain ⟨a, xs, rfl, hs, r⟩ := hv0.isTup
    obtain ⟨v1, v2, v3, rfl, r1, r2, r3⟩ := r.three
    cases r1.isStr
    have hz := ok.parts.1
    refine ⟨_, (pss_cons (ps_set (i := 2) sc_rank.nd rfl (by first | exact Or.inl rfl | exact Or.inr rfl) (pe_ix (show IxR _ (rIxT K) from ix_tup) (pv 0) pe_int (fun _ _ => rfl)))
    (pss_cons (ps_if (pt_cmpR op_le (pv 1) (C8.pe_gc (v := .int (-30)) rfl T.m_FIRST_NEAR) (nomark _))
    (pss_one (ps_ret (pe_call G_plain_rank (hr.mono (by decide)) (by rfl) T.g_plain_rank T.F_plain_rank.kp T.b_plain_rank .nil pass0 (pa_cons (pv 2) (pa_cons (pv 1) pa_nil)))))
    pss_nil)
    (pss_cons (ps_setLc (i := 3) (own := [("at", 5)]) rfl sc_rank.nd rfl rfl (sw_true rfl rfl rfl (by decide +kernel)) (pi_range2 (by rfl) T.m_range (pa_cons (C8.pe_gc (v := .int (-30)) rfl T.m_FIRST_NEAR) (pa_cons (pe_callB (c_min2 rfl) (by rfl) T.m_min (by decide +kernel) (pa_cons (pv 1) (pa_cons (pe_op op_add (C8.pe_gc (v := .int (30)) rfl T.m_LAST_NEAR) pe_int) pa_nil))) pa_nil))) (blkOk_by (own := [("at", 5)]) (N := N_rank) (sc := defScope s_rank) (by decide +kernel)) (fun _ _ _ _ _ => (pg_name (i := 5) sc_rank.nd rfl (by first | exact Or.inl rfl | exact Or.inr rfl))) (fun _ _ _ _ _ => (pts_one (pt_val (pe_call G_open_on (hr.mono (by decide)) (by rfl) T.g_open_on T.F_open_on.kp T.b_open_on .nil pass0 (pa_cons (pv 0) (pa_cons (pv 5) pa_nil)))))) (fun _ _ _ _ _ => (pv 5)))
    (pss_cons (ps_set (i := 4) sc_rank.nd rfl (by first | exact Or.inl rfl | exact Or.inr rfl) (pe_op op_add (pe_call G_plain_rank (hr.mono (by decide)) (by rfl) T.g_plain_rank T.F_plain_rank.kp T.b_plain_rank .nil pass0 (pa_cons (pv 2) (pa_cons (C8.pe_gc (v := .int (-30)) rfl T.m_FIRST_NEAR) pa_nil))) (pe_callB (show CallR _ _ (rLen K) from c_len) (by rfl) T.m_len (by decide +kernel) (pa_cons (pv 3) pa_nil))))
    (pss_cons (ps_if (pt_cmpR op_le (pv 1) (C8.pe_gc (v := .int (30)) rfl T.m_LAST_NEAR) (nomark _))
    (pss_one (ps_ret (pv 4)))
    pss_nil)
    (pss_one (ps_ret (pe_op op_sub (pe_op op_add (pv 4) (pe_call G_plain_rank (hr.mono (by decide)) (by rfl) T.g_plain_rank T.F_plain_rank.kp T.b_plain_rank .nil pass0 (pa_cons (pv 2) (pa_cons (pv 1) pa_nil)))) (pe_call G_plain_rank (hr.mono (by decide)) (by rfl) T.g_plain_rank T.F_plain_rank.kp T.b_plain_rank .nil pass0 (pa_cons (pv 2) (pa_cons (pe_op op_add (C8.pe_gc (v := .int (30)) rfl T.m_LAST_NEAR) pe_int) pa_nil))))))))))), ?_⟩
    dsimp only [L2.start, N_rank, cxOf, Cx.nox, Cx.wish]
    walk_at "go"
    refine w_ixT hs rfl ?_
    walk_at "go"
    refine w_dec (fun c0 => ?_) (fun c0 => ?_)
    · walk_at "go"
      refine ⟨c.pat, d, rfl, hz, fun H1 e1 => ?_⟩
      rw [RK_lo c0] at q
      exact q H1 e1
    walk_at "go"
    refine w_lcR2 ⟨by decide, by decide, by split <;> omega, by split <;> omega⟩ ?_
    have hn : ((if 30 + 1 < d then 30 + 1 else d) - (-30 : Int)).toNat ≤ 61 := by split <;> omega

    refine lc_R (fun D i H' => Ex H H' ∧ H' D = some (.lst ((filtI (openC c) (-30) i).map V.int))) (fun D nD => ⟨Ex.new nD, upd_same⟩) (fun D i H' nD hi p => ?_) (fun D H5 nD p => ?_)
    · obtain ⟨e, hD⟩ := p
      walk_at "go"
      refine ⟨rfl, ?_⟩
      walk_at "go"
      refine ⟨_, c, -30 + (i : Int), rfl, hv.mono e.b, ok, ?_⟩
      walk_at "go"
      refine w_2 (fun c1 => ?_) (fun c1 => ?_)
      · walk_at "go"
        refine ⟨_, hD, small1000 ?_, e.mut nD, ?_⟩
        · rw [List.length_map]
          have := filtI_le (openC c) (-30) i
          omega
        · rw [upd_same, filtI_succ, if_pos c1, List.map_append]; rfl
      · refine ⟨e, ?_⟩
        rw [filtI_succ, if_neg (by rw [c1]; decide), List.append_nil]; exact hD

    obtain ⟨e, hD⟩ := p
    walk_at "go"
    refine ⟨c.pat, -30, rfl, hz, fun H6 e6 => ?_⟩
    walk_at "go"
    refine w_lenL (sq_of (e6 _ _ hD)) ?_
    rw [List.length_map]
    walk_at "go"
    refine w_dec (fun c1 => ?_) (fun c1 => ?_)
    · walk_at "go"
      rw [if_neg (by omega), show d - (-30 : Int) = d + 30 by omega]
      rw [RK_mid (by omega) (by omega)] at q
      exact q H6 (e.trans e6)
    · walk_at "go"
      refine ⟨c.pat, d, rfl, hz, fun H7 e7 => ?_⟩
      walk_at "go"
      refine ⟨c.pat, 31, rfl, hz, fun H8 e8 => ?_⟩
      walk_at "go"
      have e61 : ((if 30 + 1 < d then 30 + 1 else d) - (-30 : Int)).toNat = 61 := by split <;> omega
      rw [e61]
      rw [RK_hi (by omega)] at q
      exact q H8 (((e.trans e6).trans e7).trans e8)
theorem ok_ranked_day (T : Tx K mg ad fdd) (G_plain_rank : FnOk P w K mg base CX0 1 (ad 26) (fdd 26) ["pattern", "day"] (spPRank K)) (G_plain_day : FnOk P w K mg base CX0 1 (ad 27) (fdd 27) ["pattern", "rank"] (spPDay K)) (G_open_on : FnOk P w K mg base CX0 2 (ad 20) (fdd 20) ["calendar", "day"] (spOpenOn K)) : FnOk P w K mg base CX0 3 (ad 29) (fdd 29) ["calendar", "rank"] (spRDay K) := by
  refine T.F_ranked_day.ok sc_ranked_day (fun vs H Q E h => ?_) (fun cdv A outer s H vs Q E hr h => ?_)
  · obtain ⟨v, c, r, rfl, _⟩ := h
    rfl
  · obtain ⟨v, c, r, rfl, hv, ok, hrb, q⟩ := h
    have hv0 := hv
    obtain ⟨a, xs, rfl, hs, rr⟩ := hv0.isTup
    obtain ⟨v1, v2, v3, rfl, r1, r2, r3⟩ := rr.three
    cases r1.isStr
    have hz := ok.parts.1
    have hp0 := (pat_len hz).1
    have hb1 := rk_mono (PR_rk hp0) (a := -30) (b := 0) (by decide)
    have hb2 := rk_mono (PR_rk hp0) (a := 0) (b := 31) (by decide)
    rw [PR_zero] at hb1 hb2
    refine ⟨_, (pss_cons (ps_set (i := 2) sc_ranked_day.nd rfl (by first | exact Or.inl rfl | exact Or.inr rfl) (pe_ix (show IxR _ (rIxT K) from ix_tup) (pv 0) pe_int (fun _ _ => rfl)))
    (pss_cons (ps_set (i := 3) sc_ranked_day.nd rfl (by first | exact Or.inl rfl | exact Or.inr rfl) (pe_call G_plain_rank (hr.mono (by decide)) (by rfl) T.g_plain_rank T.F_plain_rank.kp T.b_plain_rank .nil pass0 (pa_cons (pv 2) (pa_cons (C8.pe_gc (v := .int (-30)) rfl T.m_FIRST_NEAR) pa_nil))))
    (pss_cons (ps_if (pt_cmpR op_lt (pv 1) (pv 3) (nomark _))
    (pss_one (ps_ret (pe_call G_plain_day (hr.mono (by decide)) (by rfl) T.g_plain_day T.F_plain_day.kp T.b_plain_day .nil pass0 (pa_cons (pv 2) (pa_cons (pv 1) pa_nil)))))
    pss_nil)
    (pss_cons (ps_setLc (i := 4) (own := [("at", 5)]) rfl sc_ranked_day.nd rfl rfl (sw_true rfl rfl rfl (by decide +kernel)) (pi_range2 (by rfl) T.m_range (pa_cons (C8.pe_gc (v := .int (-30)) rfl T.m_FIRST_NEAR) (pa_cons (pe_op op_add (C8.pe_gc (v := .int (30)) rfl T.m_LAST_NEAR) pe_int) pa_nil))) (blkOk_by (own := [("at", 5)]) (N := N_ranked_day) (sc := defScope s_ranked_day) (by decide +kernel)) (fun _ _ _ _ _ => (pg_name (i := 5) sc_ranked_day.nd rfl (by first | exact Or.inl rfl | exact Or.inr rfl))) (fun _ _ _ _ _ => (pts_one (pt_val (pe_call G_open_on (hr.mono (by decide)) (by rfl) T.g_open_on T.F_open_on.kp T.b_open_on .nil pass0 (pa_cons (pv 0) (pa_cons (pv 5) pa_nil)))))) (fun _ _ _ _ _ => (pv 5)))
    (pss_cons (ps_if (pt_cmpR op_lt (pv 1) (pe_op op_add (pv 3) (pe_callB (show CallR _ _ (rLen K) from c_len) (by rfl) T.m_len (by decide +kernel) (pa_cons (pv 4) pa_nil))) (nomark _))
    (pss_one (ps_ret (pe_ix (show IxR _ (rIxL K) from ix_list) (pv 4) (pe_op op_sub (pv 1) (pv 3)) (fun _ _ => rfl))))
    pss_nil)
    (pss_one (ps_ret (pe_call G_plain_day (hr.mono (by decide)) (by rfl) T.g_plain_day T.F_plain_day.kp T.b_plain_day .nil pass0 (pa_cons (pv 2) (pa_cons (pe_op op_add (pe_op op_sub (pe_op op_sub (pv 1) (pv 3)) (pe_callB (show CallR _ _ (rLen K) from c_len) (by rfl) T.m_len (by decide +kernel) (pa_cons (pv 4) pa_nil))) (pe_call G_plain_rank (hr.mono (by decide)) (by rfl) T.g_plain_rank T.F_plain_rank.kp T.b_plain_rank .nil pass0 (pa_cons (pv 2) (pa_cons (pe_op op_add (C8.pe_gc (v := .int (30)) rfl T.m_LAST_NEAR) pe_int) pa_nil)))) pa_nil)))))))))), ?_⟩
    dsimp only [L2.start, N_ranked_day, cxOf, Cx.nox, Cx.wish]
    walk_at "go"
    refine w_ixT hs rfl ?_
    walk_at "go"
    refine ⟨c.pat, -30, rfl, hz, fun H1 e1 => ?_⟩
    walk_at "go"
    refine w_dec (fun c0 => ?_) (fun c0 => ?_)
    · walk_at "go"
      refine ⟨c.pat, r, rfl, hz, fun e H2 e2 g1 g2 g3 => ?_⟩
      obtain ⟨g4, g5⟩ := RK_below ok g1 g2 c0
      exact q e H2 (e1.trans e2) g4 g5 (by revert g3; split <;> omega)
    walk_at "go"
    refine w_lcR2 ⟨by decide, by decide, by decide, by decide⟩ ?_
    rw [show ((30 : Int) + 1 - (-30)).toNat = 61 from rfl]
    have hle := filtI_le (openC c) (-30) 61

    refine lc_R (fun D i H' => Ex H1 H' ∧ H' D = some (.lst ((filtI (openC c) (-30) i).map V.int))) (fun D nD => ⟨Ex.new nD, upd_same⟩) (fun D i H' nD hi p => ?_) (fun D H5 nD p => ?_)
    · obtain ⟨e, hD⟩ := p
      walk_at "go"
      refine ⟨rfl, ?_⟩
      walk_at "go"
      refine ⟨_, c, -30 + (i : Int), rfl, hv.mono (e1.trans e).b, ok, ?_⟩
      walk_at "go"
      refine w_2 (fun c1 => ?_) (fun c1 => ?_)
      · walk_at "go"
        refine ⟨_, hD, small1000 ?_, e.mut nD, ?_⟩
        · rw [List.length_map]
          have := filtI_le (openC c) (-30) i
          omega
        · rw [upd_same, filtI_succ, if_pos c1, List.map_append]; rfl
      · refine ⟨e, ?_⟩
        rw [filtI_succ, if_neg (by rw [c1]; decide), List.append_nil]; exact hD

    obtain ⟨e, hD⟩ := p
    walk_at "go"
    refine w_lenL (sq_of hD) ?_
    rw [List.length_map]
    walk_at "go"
    refine w_dec (fun c1 => ?_) (fun c1 => ?_)
    · walk_at "go"
      have hlt : (r - PR c.pat (-30)).toNat < (filtI (openC c) (-30) 61).length := by omega
      have hnear := RK_near (List.getElem?_eq_getElem hlt)
      have hat : atI ((filtI (openC c) (-30) 61).map V.int) (r - PR c.pat (-30)) = some (.int (filtI (openC c) (-30) 61)[(r - PR c.pat (-30)).toNat]) := by
        unfold atI ixN
        rw [if_pos (by omega), if_pos (by rw [List.length_map]; omega)]
        show ((filtI (openC c) (-30) 61).map V.int)[(r - PR c.pat (-30)).toNat]? = _
        rw [List.getElem?_map, List.getElem?_eq_getElem hlt]; rfl
      generalize (filtI (openC c) (-30) 61)[(r - PR c.pat (-30)).toNat] = f at hat hnear
      obtain ⟨g1, g2, g3, g4⟩ := hnear
      refine w_ixL (sq_of hD) hat ?_
      walk_at "go"
      exact q f H5 (e1.trans e) g1 (by omega) ⟨by omega, by omega⟩
    · walk_at "go"
      refine w_lenL (sq_of hD) ?_
      rw [List.length_map]
      walk_at "go"
      refine ⟨c.pat, 31, rfl, hz, fun H6 e6 => ?_⟩
      walk_at "go"
      refine ⟨c.pat, _, rfl, hz, fun f H7 e7 g1 g2 g3 => ?_⟩
      obtain ⟨g4, g5⟩ := RK_above ok g1 g2 c1
      exact q f H7 (((e1.trans e).trans e6).trans e7) g4 g5 (by revert g3; split <;> omega)
theorem ok_nth_open (T : Tx K mg ad fdd) (G_need_calendar : FnOk P w K mg base CX0 5 (ad 22) (fdd 22) ["thing"] (spNeedCal K)) (G_need_day : FnOk P w K mg base CX0 2 (ad 10) (fdd 10) ["thing"] (spNeedDay)) (G_need_number : FnOk P w K mg base CX0 2 (ad 11) (fdd 11) ["thing", "most"] (spNeedNum)) (G_rank : FnOk P w K mg base CX0 3 (ad 28) (fdd 28) ["calendar", "day"] (spRank K)) (G_ranked_day : FnOk P w K mg base CX0 3 (ad 29) (fdd 29) ["calendar", "rank"] (spRDay K)) : FnOk P w K mg base CX0 6 (ad 18) (fdd 18) ["calendar", "day", "number"] (spNth K) := by
  refine T.F_nth_open.ok sc_nth_open (fun vs H Q E h => ?_) (fun cdv A outer s H vs Q E hr h => ?_)
  · obtain ⟨v, c, d, n, rfl, _⟩ := h
    rfl
  · obtain ⟨v, c, d, n, rfl, hv, ok, hd, hn, q⟩ := h
    have hb := RK_bd ok d
    obtain ⟨hd0, hd1⟩ := hd
    refine ⟨_, (pss_cons (ps_expr (pe_call G_need_calendar (hr.mono (by decide)) (by rfl) T.g_need_calendar T.F_need_calendar.kp T.b_need_calendar .nil pass0 (pa_cons (pv 0) pa_nil)))
    (pss_cons (ps_expr (pe_call G_need_day (hr.mono (by decide)) (by rfl) T.g_need_day T.F_need_day.kp T.b_need_day .nil pass0 (pa_cons (pv 1) pa_nil)))
    (pss_cons (ps_expr (pe_call G_need_number (hr.mono (by decide)) (by rfl) T.g_need_number T.F_need_number.kp T.b_need_number .nil pass0 (pa_cons (pv 2) (pa_cons (C8.pe_gc (v := .int (1000000000000000)) rfl T.m_FAR_NUMBER) pa_nil))))
    (pss_one (ps_ret (pe_call G_ranked_day (hr.mono (by decide)) (by rfl) T.g_ranked_day T.F_ranked_day.kp T.b_ranked_day .nil pass0 (pa_cons (pv 0) (pa_cons (pe_op op_add (pe_call G_rank (hr.mono (by decide)) (by rfl) T.g_rank T.F_rank.kp T.b_rank .nil pass0 (pa_cons (pv 0) (pa_cons (pv 1) pa_nil))) (pv 2)) pa_nil)))))))), ?_⟩
    dsimp only [L2.start, N_nth_open, cxOf, Cx.nox, Cx.wish]
    walk_at "go"
    refine ⟨v, _, rfl, hv, okCal_of ok, ok, fun H1 e1 => ?_⟩
    walk_at "go"
    refine ⟨d, rfl, hd0, hd1, ?_⟩
    walk_at "go"
    refine ⟨n, _, rfl, hn.1, hn.2, ?_⟩
    walk_at "go"
    refine ⟨v, c, d, rfl, hv.mono e1.b, ok, fun H2 e2 => ?_⟩
    walk_at "go"
    refine ⟨v, c, RK c d + n, rfl, hv.mono (e1.trans e2).b, ok, by revert hb; split <;> omega, fun e H3 e3 g1 g2 g3 => ?_⟩
    exact q e H3 ((e1.trans e2).trans e3) g1 g2 g3
theorem ok_count_open (T : Tx K mg ad fdd) (G_need_calendar : FnOk P w K mg base CX0 5 (ad 22) (fdd 22) ["thing"] (spNeedCal K)) (G_need_day : FnOk P w K mg base CX0 2 (ad 10) (fdd 10) ["thing"] (spNeedDay)) (G_rank : FnOk P w K mg base CX0 3 (ad 28) (fdd 28) ["calendar", "day"] (spRank K)) : FnOk P w K mg base CX0 6 (ad 19) (fdd 19) ["calendar", "first", "last"] (spCount K) := by
  refine T.F_count_open.ok sc_count_open (fun vs H Q E h => ?_) (fun cdv A outer s H vs Q E hr h => ?_)
  · obtain ⟨v, c, a, b, rfl, _⟩ := h
    rfl
  · obtain ⟨v, c, a, b, rfl, hv, ok, ha, hb, q⟩ := h
    refine ⟨_, (pss_cons (ps_expr (pe_call G_need_calendar (hr.mono (by decide)) (by rfl) T.g_need_calendar T.F_need_calendar.kp T.b_need_calendar .nil pass0 (pa_cons (pv 0) pa_nil)))
    (pss_cons (ps_expr (pe_call G_need_day (hr.mono (by decide)) (by rfl) T.g_need_day T.F_need_day.kp T.b_need_day .nil pass0 (pa_cons (pv 1) pa_nil)))
    (pss_cons (ps_expr (pe_call G_need_day (hr.mono (by decide)) (by rfl) T.g_need_day T.F_need_day.kp T.b_need_day .nil pass0 (pa_cons (pv 2) pa_nil)))
    (pss_cons (ps_if (pt_cmpR op_lt (pv 2) (pv 1) (nomark _))
    (pss_one (ps_ret pe_int))
    pss_nil)
    (pss_one (ps_ret (pe_op op_sub (pe_call G_rank (hr.mono (by decide)) (by rfl) T.g_rank T.F_rank.kp T.b_rank .nil pass0 (pa_cons (pv 0) (pa_cons (pe_op op_add (pv 2) pe_int) pa_nil))) (pe_call G_rank (hr.mono (by decide)) (by rfl) T.g_rank T.F_rank.kp T.b_rank .nil pass0 (pa_cons (pv 0) (pa_cons (pv 1) pa_nil)))))))))), ?_⟩
    dsimp only [L2.start, N_count_open, cxOf, Cx.nox, Cx.wish]
    walk_at "go"
    refine ⟨v, _, rfl, hv, okCal_of ok, ok, fun H1 e1 => ?_⟩
    walk_at "go"
    refine ⟨a, rfl, ha.1, ha.2, ?_⟩
    walk_at "go"
    refine ⟨b, rfl, hb.1, hb.2, ?_⟩
    walk_at "go"
    refine w_dec (fun c0 => ?_) (fun c0 => ?_)
    · walk_at "go"
      unfold cntF at q
      rw [if_pos c0] at q
      exact q H1 e1
    · walk_at "go"
      refine ⟨v, c, b + 1, rfl, hv.mono e1.b, ok, fun H2 e2 => ?_⟩
      walk_at "go"
      refine ⟨v, c, a, rfl, hv.mono (e1.trans e2).b, ok, fun H3 e3 => ?_⟩
      walk_at "go"
      unfold cntF at q
      rw [if_neg c0] at q
      exact q H3 ((e1.trans e2).trans e3)
end
end J
namespace J
open PySem PySem.Spec PyProof.Rows L2
local macro_rules | `(tactic| walk_at "go1") => `(tactic| first
  | with_reducible refine' w_seq ?_
  | with_reducible refine' w_next ?_
  | with_reducible refine' w_brk ?_
  | with_reducible refine' w_cont ?_
  | with_reducible refine' w_asg ?_
  | with_reducible refine' w_asgG ?_
  | with_reducible refine' w_gSub ?_
  | with_reducible refine' w_ret ?_
  | with_reducible refine' w_retN ?_
  | with_reducible refine' w_drop ?_
  | with_reducible refine' w_ifS ?_
  | ((with_reducible refine' w_isAug ?_); refine w_aug rfl ?_)
  | with_reducible refine' w_ipadd ?_
  | with_reducible refine' w_ipsub ?_
  | ((with_reducible refine' w_isVar ?_); refine w_var rfl ?_)
  | with_reducible refine' w_c ?_
  | with_reducible refine' w_nil ?_
  | with_reducible refine' w_cons ?_
  | with_reducible refine' w_op ?_
  | with_reducible refine' w_un ?_
  | with_reducible refine' w_cb ?_
  | with_reducible refine' w_call ?_
  | with_reducible refine' w_callK ?_
  | with_reducible refine' w_test ?_
  | with_reducible refine' w_tB ?_
  | with_reducible refine' w_and ?_
  | with_reducible refine' w_or ?_
  | with_reducible refine' w_not ?_
  | with_reducible refine' w_andV ?_
  | with_reducible refine' w_orV ?_
  | with_reducible refine' w_notV ?_
  | with_reducible refine' w_if ?_
  | with_reducible refine' w_chain ?_
  | with_reducible refine' w_exb ?_
  | with_reducible refine' w_add ?_
  | with_reducible refine' w_sub ?_
  | with_reducible refine' w_lt ?_
  | with_reducible refine' w_le ?_
  | with_reducible refine' w_gt ?_
  | with_reducible refine' w_ge ?_
  | ((with_reducible refine' w_mod ?h ?q); (case h => first | decide | omega))
  | ((with_reducible refine' w_fdiv ?h ?h2 ?q); (case h => first | decide | omega); (case h2 => first | decide | omega))
  | ((with_reducible refine' w_mulR ?h ?q); (case h => omega))
  | ((with_reducible refine' w_mulL ?h ?q); (case h => omega))
  | with_reducible refine' w_pow_6 ?_
  | with_reducible refine' w_pow_9 ?_
  | with_reducible refine' w_pow_12 ?_
  | with_reducible refine' w_pow_14 ?_
  | with_reducible refine' w_pow_15 ?_
  | with_reducible refine' w_pow_18 ?_
  | with_reducible refine' w_neg ?_
  | ((with_reducible refine' w_eq ?h ?q); (case h => exact rfl))
  | ((with_reducible refine' w_ne ?h ?q); (case h => exact rfl))
  | with_reducible refine' w_abs ?_
  | with_reducible refine' w_int ?_
  | with_reducible refine' w_max ?_
  | with_reducible refine' w_min ?_
  | with_reducible refine' w_count ?_
  | with_reducible refine' w_m1 ?_
  | with_reducible refine' w_bm ?_
  | with_reducible refine' w_listR3 ?_
  | with_reducible refine' w_exs ?_
  | with_reducible refine' w_inS ?_
  | with_reducible refine' w_notInS ?_
  | with_reducible refine' w_for ?_
  | with_reducible refine' w_while ?_
  | with_reducible refine' w_lc ?_
  | with_reducible refine' w_iTup ?_
  | with_reducible refine' w_iList ?_
  | with_reducible refine' w_iRng1 ?_
  | with_reducible refine' w_iRng2 ?_
  | with_reducible refine' w_gName ?_
  | with_reducible refine' w_tYes ?_
  | with_reducible refine' w_tupD ?_
  | with_reducible refine' w_tupF ?_
  | with_reducible refine' w_ltS ?_
  | with_reducible refine' w_leS ?_
  | with_reducible refine' w_dget ?_
  | with_reducible refine' w_dnotin ?_
  | with_reducible refine' w_sl ?_
  | with_reducible refine' w_part ?_
  | with_reducible refine' w_noPart ?_
  | with_reducible refine' w_some ?_
  | with_reducible refine' w_lstD ?_
  | with_reducible refine' w_revT ?_
  | with_reducible refine' w_par ?_
  )
local macro_rules | `(tactic| walk_at "go") => `(tactic| repeat (walk_at "go1"))

/-! ### the hand -/
def Hand (H : Hp) (h sc : Addr) : Prop := ∃ (ns : List Int) (i b m c : Int), H h = some (.lst [.ref sc, .int i, .int b, .int m, .int c]) ∧ H sc = some (.lst (ns.map V.int)) ∧ 0 ≤ i ∧ 0 ≤ b ∧ 0 ≤ m ∧ m < 2147483563
theorem Hand.ne {H : Hp} {h sc : Addr} {ns : List Int} {x y z u : V} (e : H h = some (.lst [.ref sc, x, y, z, u])) (e2 : H sc = some (.lst (ns.map V.int))) : sc ≠ h := by
  intro q
  rw [q, e] at e2
  cases ns with
  | nil => cases e2
  | cons n r => cases e2
theorem Hand.ex {H H' : Hp} {h sc : Addr} (e : Ex H H') (q : Hand H h sc) : Hand H' h sc := by
  obtain ⟨ns, i, b, m, c, h1, h2, r⟩ := q
  exact ⟨ns, i, b, m, c, e _ _ h1, e _ _ h2, r⟩
theorem Hand.upd {H : Hp} {h sc D : Addr} {o : HO} (q : Hand H h sc) (n1 : D ≠ h) (n2 : D ≠ sc) : Hand (upd H D o) h sc := by
  obtain ⟨ns, i, b, m, c, h1, h2, r⟩ := q
  exact ⟨ns, i, b, m, c, by rw [upd_ne n1.symm]; exact h1, by rw [upd_ne n2.symm]; exact h2, r⟩
theorem Hand.off {H : Hp} {h sc D : Addr} (q : Hand H h sc) (n : H D = none) : D ≠ h ∧ D ≠ sc := by
  obtain ⟨ns, i, b, m, c, h1, h2, r⟩ := q
  exact ⟨(ne_of_none h1 n).symm, (ne_of_none h2 n).symm⟩
/-- the hand's places change -/
theorem Xb.put {H : Hp} {h : Addr} {xs : List V} (e : H h = some (.lst xs)) (s : handSh (.lst xs) = true) (o : HO) : Xb H (L2.upd H h o) := ⟨fun a u q n => by
  by_cases z : a = h
  · subst z; rw [e] at q; cases q; rw [s] at n; cases n
  · rw [upd_ne z]; exact q, fun a n => (upd_free n).1⟩
theorem atI_ints {ns : List Int} {i : Int} (h0 : 0 ≤ i) (h1 : i < ns.length) : ∃ v : Int, atI (ns.map V.int) i = some (.int v) := by
  have h2 : i.toNat < ns.length := by omega
  refine ⟨ns[i.toNat], ?_⟩
  unfold atI ixN
  rw [if_pos h0, if_pos (by rw [List.length_map]; exact h1)]
  show (ns.map V.int)[i.toNat]? = _
  rw [List.getElem?_map, List.getElem?_eq_getElem h2]; rfl
def spHand (K : PySem.W.Frag) : Sp := fun vs H Q _ => ∃ (a : Addr) (ns : List Int), vs = [.ref a] ∧ SqL K H a (ns.map V.int) ∧ ∀ p sc H', H p = none → Ex H H' → Hand H' p sc → Q (.ref p) H'
def spDraw (lo hi : Int) : Sp := fun vs H Q _ => ∃ (h sc : Addr) (n : Int), vs = [.ref h, .int n] ∧ Hand H h sc ∧ lo ≤ n ∧ n ≤ hi ∧ ∀ (k : Int) H', 0 ≤ k → k < n → Hand H' h sc → Xb H H' → Q (.int k) H'

/-! ### pairs that stand in the heap -/
def kOf (H : Hp) (x : V) : Int × Int := match x with
  | .ref t => match H t with
    | some (.tup [.int a, .int b]) => (a, b)
    | _ => (0, 0)
  | _ => (0, 0)
def Prs (H : Hp) (vs : List V) : Prop := ∀ x ∈ vs, ∃ t, x = .ref t ∧ H t = some (.tup [.int (kOf H x).1, .int (kOf H x).2])
theorem kOf_at {H : Hp} {t : Addr} {a b : Int} (h : H t = some (.tup [.int a, .int b])) : kOf H (.ref t) = (a, b) := by
  unfold kOf
  simp only [h]
theorem Prs.kOf_eq {H H' : Hp} {vs : List V} (p : Prs H vs) (e : ∀ t xs, H t = some (.tup xs) → H' t = some (.tup xs)) : ∀ x ∈ vs, kOf H' x = kOf H x := fun x hx => by
  obtain ⟨t, rfl, h⟩ := p x hx
  rw [kOf_at (e _ _ h)]
theorem Prs.map_eq {H H' : Hp} {vs : List V} (p : Prs H vs) (e : ∀ t xs, H t = some (.tup xs) → H' t = some (.tup xs)) : vs.map (kOf H') = vs.map (kOf H) := List.map_congr_left fun x hx => p.kOf_eq e x hx
theorem Prs.mono {H H' : Hp} {vs : List V} (p : Prs H vs) (e : ∀ t xs, H t = some (.tup xs) → H' t = some (.tup xs)) : Prs H' vs := fun x hx => by
  have k := p.kOf_eq e x hx
  obtain ⟨t, rfl, h⟩ := p x hx
  exact ⟨t, rfl, by rw [k]; exact e _ _ h⟩
theorem Prs.rp {K : PySem.W.Frag} {H : Hp} : ∀ {vs : List V}, Prs H vs → RpAll K H vs ((vs.map (kOf H)).map encSpan)
  | [], _ => .nil
  | x :: vs, p => by
    obtain ⟨t, rfl, h⟩ := p _ (List.mem_cons_self ..)
    exact .cons (.tup (st_of h) (.cons (.int _) (.cons (.int _) .nil))) (Prs.rp fun y hy => p y (List.mem_cons_of_mem _ hy))
theorem Xb.tups {H H' : Hp} (e : Xb H H') : ∀ t xs, H t = some (.tup xs) → H' t = some (.tup xs) := fun _ _ h => e _ _ h rfl
theorem tups_upd {H : Hp} {l : Addr} {ys zs : List V} (h : H l = some (.lst ys)) : ∀ t xs, H t = some (.tup xs) → (upd H l (.lst zs)) t = some (.tup xs) := fun t xs ht => by
  rw [upd_ne (fun e => by rw [e, h] at ht; cases ht)]
  exact ht
theorem encSpan_eqv (s t : Int × Int) : PyData.eqv (encSpan s) (encSpan t) = decide (s = t) := by
  have e1 : PyData.eqv (encSpan s) (encSpan t) = ((s.1 == t.1) && ((s.2 == t.2) && true)) := by
    unfold encSpan
    simp only [PyData.eqv, PyData.eqvAll]
  rw [e1, Bool.eq_iff_iff]
  simp [Prod.ext_iff]
theorem canLay_spans : ∀ ss : List (Int × Int), PyData.canLayAll0 (ss.map encSpan) = true
  | [] => by simp [PyData.canLayAll0]
  | s :: ss => by
    rw [List.map_cons]
    simp only [PyData.canLayAll0, encSpan, PyData.canLay0, Bool.and_true, Bool.true_and]
    exact canLay_spans ss
theorem depth_spans : ∀ ss : List (Int × Int), PyData.depthAll (ss.map encSpan) ≤ 1
  | [] => by simp [PyData.depthAll]
  | s :: ss => by
    rw [List.map_cons]
    have := depth_spans ss
    simp only [PyData.depthAll, encSpan, PyData.depth]
    omega
theorem shaped_span (s : Int × Int) : SeqAt.shaped (encSpan s) = true := by
  unfold SeqAt.shaped encSpan
  simp [PyData.canLay0, PyData.canLayAll0, PyData.depth, PyData.depthAll]
theorem shaped_spans (ss : List (Int × Int)) : SeqAt.shaped (.list (ss.map encSpan)) = true := by
  unfold SeqAt.shaped
  have h1 := canLay_spans ss
  have h2 := depth_spans ss
  have e1 : PyData.canLay0 (.list (ss.map encSpan)) = PyData.canLayAll0 (ss.map encSpan) := by simp only [PyData.canLay0]
  have e2 : PyData.depth (.list (ss.map encSpan)) = PyData.depthAll (ss.map encSpan) + 1 := by simp only [PyData.depth]
  rw [e1, e2, h1, decide_eq_true (by omega)]
  rfl
theorem any_span (ss : List (Int × Int)) (s : Int × Int) : ((ss.map encSpan).any fun z => PyData.eqv z (encSpan s)) = decide (s ∈ ss) := by
  rw [List.any_map, Bool.eq_iff_iff, List.any_eq_true, decide_eq_true_eq]
  constructor
  · rintro ⟨t, ht, e⟩
    have := encSpan_eqv t s
    simp only [Function.comp] at e
    rw [this] at e
    rw [← of_decide_eq_true e]; exact ht
  · intro h
    refine ⟨s, h, ?_⟩
    simp only [Function.comp]
    rw [encSpan_eqv]
    exact decide_eq_true rfl
def spanOk (s : Int × Int) : Prop := -30 ≤ s.1 ∧ s.1 ≤ s.2 ∧ s.2 ≤ 30
theorem isSpan_enc {s : Int × Int} (h : spanOk s) : isSpan (encSpan s) = true := by
  obtain ⟨h1, h2, h3⟩ := h
  have e1 : s.1 ≤ 30 := by omega
  have e2 : -30 ≤ s.2 := by omega
  simp [isSpan, encSpan, isWhole, h1, h2, h3, e1]
theorem isSpans_of {ys : List (Int × Int)} (hl : ys.length ≤ 2) (ho : ∀ s ∈ ys, spanOk s) (hn : ys.Nodup) (hs : ys.Pairwise fun a b => SrtO.lexB b a = false) : isSpans (encSpans ys) = true := by
  unfold encSpans
  have h1 : (ys.map encSpan).all isSpan = true := by
    rw [List.all_eq_true]
    intro d hd
    obtain ⟨s, hs, rfl⟩ := List.mem_map.mp hd
    exact isSpan_enc (ho s hs)
  have h2 : risingD (ys.map encSpan) = true := by
    match ys, hl, hn, hs with
    | [], _, _, _ => rfl
    | [_], _, _, _ => rfl
    | [x, y], _, hn, hs =>
      have hxy : x ≠ y := by
        have := (List.nodup_cons.mp hn).1
        simpa using this
      have hq : SrtO.lexB y x = false := by
        have := (List.pairwise_cons.mp hs).1 y (by simp)
        exact this
      have hq2 := SrtO.lexB_no.mp hq
      show (lexD (encSpan x) (encSpan y) && true) = true
      rw [Bool.and_true]
      show HT.lexLt [x.1, x.2] [y.1, y.2] = true
      rw [HT.lexLt_cons, HT.lexLt_cons, HT.lexLt_nil_nil]
      by_cases a : x.1 = y.1
      · rw [if_pos a]
        by_cases b : x.2 = y.2
        · exact absurd (Prod.ext a b) hxy
        · rw [if_neg b]
          exact decide_eq_true (by omega)
      · rw [if_neg a]
        exact decide_eq_true (by omega)
    | _ :: _ :: _ :: _, hl, _, _ => simp at hl
  simp only [isSpans, h1, h2, Bool.and_true, decide_eq_true_eq, List.length_map]
  omega
def spLawSpans (K : PySem.W.Frag) : Sp := fun vs H Q _ => ∃ h sc, vs = [.ref h] ∧ Hand H h sc ∧ ∀ v ss H', Hand H' h sc → Xb H H' → Rp K H' v (encSpans ss) → isSpans (encSpans ss) = true → Q v H'
def spLawCal (K : PySem.W.Frag) : Sp := fun vs H Q _ => ∃ h sc, vs = [.ref h] ∧ Hand H h sc ∧ ∀ v c H', Hand H' h sc → Xb H H' → Rp K H' v (encCal c) → c.Ok → Q v H'
section
variable {P : Program} {w : World} {K : PySem.W.Frag} {mg : Str → Option Value} {base : Heap} {ad : Nat → Addr} {fdd : Nat → FuncData}
theorem ok_law_hand (T : Tx K mg ad fdd) : FnOk P w K mg base CX0 1 (ad 31) (fdd 31) ["_law_script"] (spHand K) := by
  refine T.F_law_hand.ok sc_law_hand (fun vs H Q E h => ?_) (fun cdv A outer s H vs Q E hr h => ?_)
  · obtain ⟨a, ns, rfl, _⟩ := h
    rfl
  · obtain ⟨a, ns, rfl, hs, q⟩ := h
    refine ⟨_, (pss_one (ps_ret (pe_lst (pa_cons (pe_callTy (show CallR _ _ (rListOf K) from c_listOf) (by rfl) T.m_list (by decide +kernel) (pa_cons (pv 0) pa_nil)) (pa_cons pe_int (pa_cons pe_int (pa_cons pe_int (pa_cons pe_int pa_nil)))))))), ?_⟩
    dsimp only [L2.start, N_law_hand, cxOf, Cx.nox, Cx.wish]
    walk_at "go"
    refine w_listL hs fun l H2 nl e2 hl _ => ?_
    walk_at "go"
    refine w_new (by exact Nat.le_of_ble_eq_true rfl) fun p H3 np e3 hp _ => ?_
    exact q p l H3 (fresh_back e2 np) (e2.trans e3) ⟨ns, 0, 0, 0, 0, hp, e3 _ _ hl, by decide, by decide, by decide, by decide⟩
theorem ok_law_draw (T : Tx K mg ad fdd) : FnOk P w K mg base CX0 1 (ad 32) (fdd 32) ["_law_hand_here", "_law_size"] (spDraw 1 1000000) := by
  refine T.F_law_draw.ok sc_law_draw (fun vs H Q E h => ?_) (fun cdv A outer s H vs Q E hr h => ?_)
  · obtain ⟨a, sc, n, rfl, _⟩ := h
    rfl
  · obtain ⟨a, sc, n, rfl, ⟨ns, i, b, m, c, h1, h2, hi, hb, hm0, hm1⟩, hn0, hn1, q⟩ := h
    have hsc : sc ≠ a := Hand.ne h1 h2
    refine ⟨_, (pss_cons (ps_if (pt_cmpR op_gt (pe_ix (show IxR _ (rIxL K) from ix_list) (pv 0) pe_int (fun _ _ => rfl)) pe_int (nomark _))
    (pss_cons (ps_set (i := 2) sc_law_draw.nd rfl (by first | exact Or.inl rfl | exact Or.inr rfl) (pe_op op_mod (pe_callTy c_int (by rfl) T.m_int (by decide +kernel) (pa_cons (pe_ix (show IxR _ (rIxL K) from ix_list) (pv 0) pe_int (fun _ _ => rfl)) pa_nil)) (pv 1)))
    (pss_cons (ps_asg (pe_op op_fdivW (pe_ix (show IxR _ (rIxL K) from ix_list) (pv 0) pe_int (fun _ _ => rfl)) (pv 1)) (pg_sub (pv 0) pe_int set_list))
    (pss_one (ps_ret (pv 2)))))
    pss_nil)
    (pss_cons (ps_set (i := 3) sc_law_draw.nd rfl (by first | exact Or.inl rfl | exact Or.inr rfl) pe_int)
    (pss_cons (ps_if (pt_cmpR op_lt (pe_ix (show IxR _ (rIxL K) from ix_list) (pv 0) pe_int (fun _ _ => rfl)) (pe_callB (show CallR _ _ (rLen K) from c_len) (by rfl) T.m_len (by decide +kernel) (pa_cons (pe_ix (show IxR _ (rIxL K) from ix_list) (pv 0) pe_int (fun _ _ => rfl)) pa_nil)) (nomark _))
    (pss_cons (ps_set (i := 3) sc_law_draw.nd rfl (by first | exact Or.inl rfl | exact Or.inr rfl) (pe_ix ix_list (pe_ix ix_list (pv 0) pe_int (fun _ _ => rfl)) (pe_ix ix_list (pv 0) pe_int (fun _ _ => rfl)) (fun _ _ => rfl)))
    (pss_one (ps_asg (pe_op op_add (pe_ix (show IxR _ (rIxL K) from ix_list) (pv 0) pe_int (fun _ _ => rfl)) pe_int) (pg_sub (pv 0) pe_int set_list))))
    pss_nil)
    (pss_cons (ps_if (pt_cmpR op_ge (pe_callB c_abs (by rfl) T.m_abs (by decide +kernel) (pa_cons (pv 3) pa_nil)) (pe_op op_pow pe_int pe_int) (nomark _))
    (pss_cons (ps_asg (pe_op op_fdivW (pe_callB c_abs (by rfl) T.m_abs (by decide +kernel) (pa_cons (pv 3) pa_nil)) (pv 1)) (pg_sub (pv 0) pe_int set_list))
    (pss_one (ps_ret (pe_op op_mod (pe_callTy c_int (by rfl) T.m_int (by decide +kernel) (pa_cons (pe_callB c_abs (by rfl) T.m_abs (by decide +kernel) (pa_cons (pv 3) pa_nil)) pa_nil)) (pv 1)))))
    pss_nil)
    (pss_cons (ps_asg (pe_op op_add (pe_ix (show IxR _ (rIxL K) from ix_list) (pv 0) pe_int (fun _ _ => rfl)) pe_int) (pg_sub (pv 0) pe_int set_list))
    (pss_cons (ps_set (i := 4) sc_law_draw.nd rfl (by first | exact Or.inl rfl | exact Or.inr rfl) (pe_op op_mod (pe_callTy c_int (by rfl) T.m_int (by decide +kernel) (pa_cons (pe_op op_add (pe_op op_add (pe_op op_add (pe_op op_mul (pe_ix (show IxR _ (rIxL K) from ix_list) (pv 0) pe_int (fun _ _ => rfl)) pe_int) (pe_op op_mul (pv 3) pe_int)) (pe_op op_mul (pe_ix (show IxR _ (rIxL K) from ix_list) (pv 0) pe_int (fun _ _ => rfl)) pe_int)) pe_int) pa_nil)) pe_int))
    (pss_cons (ps_set (i := 4) sc_law_draw.nd rfl (by first | exact Or.inl rfl | exact Or.inr rfl) (pe_op op_mod (pe_callTy c_int (by rfl) T.m_int (by decide +kernel) (pa_cons (pe_op op_add (pe_op op_mul (pe_op op_mod (pe_op op_mul (pv 4) (pv 4)) pe_int) (pv 4)) (pv 3)) pa_nil)) pe_int))
    (pss_cons (ps_asg (pv 4) (pg_sub (pv 0) pe_int set_list))
    (pss_cons (ps_if (pt_cmpR op_gt (pv 1) (pe_op op_pow pe_int pe_int) (nomark _))
    (pss_one ps_never)
    pss_nil)
    (pss_one (ps_ret (pe_op op_mod (pe_op op_fdivW (pv 4) pe_int) (pv 1))))))))))))), ?_⟩
    dsimp only [L2.start, N_law_draw, cxOf, Cx.nox, Cx.wish]
    walk_at "go"
    refine w_ixL (sq_of h1) rfl ?_
    walk_at "go"
    refine w_dec (fun c0 => ?_) (fun c0 => ?_)
    · walk_at "go"
      refine w_ixL (sq_of h1) rfl ?_
      walk_at "go"
      refine w_ixL (sq_of h1) rfl ?_
      walk_at "go"
      refine w_setL h1 rfl ?_
      walk_at "go"
      refine q _ _ (Int.emod_nonneg _ (by omega)) (Int.emod_lt_of_pos _ (by omega)) ⟨ns, i, b / n, m, c, upd_same, ?_, hi, Int.ediv_nonneg hb (by omega), hm0, hm1⟩ (Xb.put h1 rfl _)
      rw [upd_ne hsc]; exact h2
    · walk_at "go"
      refine w_ixL (sq_of h1) rfl ?_
      walk_at "go"
      refine w_ixL (sq_of h1) rfl ?_
      walk_at "go"
      refine w_lenL (sq_of h2) ?_
      walk_at "go"
      refine w_dec (fun c1 => ?_) (fun c1 => ?_)
      · walk_at "go"
        refine w_ixL (sq_of h1) rfl ?_
        walk_at "go"
        refine w_ixL (sq_of h1) rfl ?_
        walk_at "go"
        obtain ⟨v, hv⟩ := atI_ints (ns := ns) hi (by simpa using c1)
        refine w_ixL (sq_of h2) hv ?_
        walk_at "go"
        refine w_ixL (sq_of h1) rfl ?_
        walk_at "go"
        refine w_setL h1 rfl ?_
        have e1 := Xb.put h1 rfl (.lst [.ref sc, .int (i + 1), .int b, .int m, .int c])
        have a1 : upd H a (.lst [.ref sc, .int (i + 1), .int b, .int m, .int c]) a = _ := upd_same
        have a2 : upd H a (.lst [.ref sc, .int (i + 1), .int b, .int m, .int c]) sc = some (.lst (ns.map V.int)) := by rw [upd_ne hsc]; exact h2
        have hi' : 0 ≤ i + 1 := by omega
        walk_at "go"
        refine w_dec (fun c2 => ?_) (fun c2 => ?_)
        · walk_at "go"
          refine w_setL a1 rfl ?_
          walk_at "go"
          refine q _ _ (Int.emod_nonneg _ (by omega)) (Int.emod_lt_of_pos _ (by omega)) ⟨ns, _, _, m, c, upd_same, ?_, hi', Int.ediv_nonneg ?_ (by omega), hm0, hm1⟩ (e1.trans (Xb.put a1 rfl _))
          · rw [upd_ne hsc]; exact a2
          · omega
        · walk_at "go"
          refine w_ixL (sq_of a1) rfl ?_
          walk_at "go"
          refine w_setL a1 rfl ?_
          walk_at "go"
          refine w_ixL (sq_of upd_same) rfl ?_
          walk_at "go"
          refine w_ixL (sq_of upd_same) rfl ?_
          walk_at "go"
          generalize hM1 : (m * 40014 + v * 69069 + (c + 1) * 22193 + 7919) % 2147483563 = M1
          have hM1a : 0 ≤ M1 := by omega
          have hM1b : M1 < 2147483563 := by omega
          walk_at "go"
          generalize hM2 : (M1 * M1 % 2147483399 * M1 + v) % 2147483399 = M2
          have hM2a : 0 ≤ M2 := by omega
          have hM2b : M2 < 2147483399 := by omega
          refine w_setL upd_same rfl ?_
          walk_at "go"
          refine w_dec (fun c3 => absurd c3 (by omega)) (fun _ => ?_)
          walk_at "go"
          refine q _ _ (Int.emod_nonneg _ (by omega)) (Int.emod_lt_of_pos _ (by omega)) ⟨ns, _, b, M2, c + 1, upd_same, ?_, hi', hb, hM2a, by omega⟩ ((e1.trans (Xb.put a1 rfl _)).trans (Xb.put upd_same rfl _))
          rw [upd_ne hsc, upd_ne hsc]; exact a2
      · have e1 := Xb.refl H
        have a1 := h1
        have a2 := h2
        have hi' := hi
        walk_at "go"
        refine w_dec (fun c2 => ?_) (fun c2 => ?_)
        · walk_at "go"
          refine w_setL a1 rfl ?_
          walk_at "go"
          refine q _ _ (Int.emod_nonneg _ (by omega)) (Int.emod_lt_of_pos _ (by omega)) ⟨ns, _, _, m, c, upd_same, ?_, hi', Int.ediv_nonneg ?_ (by omega), hm0, hm1⟩ (e1.trans (Xb.put a1 rfl _))
          · rw [upd_ne hsc]; exact a2
          · omega
        · walk_at "go"
          refine w_ixL (sq_of a1) rfl ?_
          walk_at "go"
          refine w_setL a1 rfl ?_
          walk_at "go"
          refine w_ixL (sq_of upd_same) rfl ?_
          walk_at "go"
          refine w_ixL (sq_of upd_same) rfl ?_
          walk_at "go"
          generalize hM1 : (m * 40014 + 0 * 69069 + (c + 1) * 22193 + 7919) % 2147483563 = M1
          have hM1a : 0 ≤ M1 := by omega
          have hM1b : M1 < 2147483563 := by omega
          walk_at "go"
          generalize hM2 : (M1 * M1 % 2147483399 * M1 + 0) % 2147483399 = M2
          have hM2a : 0 ≤ M2 := by omega
          have hM2b : M2 < 2147483399 := by omega
          refine w_setL upd_same rfl ?_
          walk_at "go"
          refine w_dec (fun c3 => absurd c3 (by omega)) (fun _ => ?_)
          walk_at "go"
          refine q _ _ (Int.emod_nonneg _ (by omega)) (Int.emod_lt_of_pos _ (by omega)) ⟨ns, _, b, M2, c + 1, upd_same, ?_, hi', hb, hM2a, by omega⟩ ((e1.trans (Xb.put a1 rfl _)).trans (Xb.put upd_same rfl _))
          rw [upd_ne hsc, upd_ne hsc]; exact a2
theorem ok_law_drawB (T : Tx K mg ad fdd) (G_law_draw : FnOk P w K mg base CX0 1 (ad 32) (fdd 32) ["_law_hand_here", "_law_size"] (spDraw 1 1000000)) : FnOk P w K mg base CX0 2 (ad 32) (fdd 32) ["_law_hand_here", "_law_size"] (spDraw 1 900000000000) := by
  refine T.F_law_draw.ok sc_law_draw (fun vs H Q E h => ?_) (fun cdv A outer s H vs Q E hr h => ?_)
  · obtain ⟨a, sc, n, rfl, _⟩ := h
    rfl
  · obtain ⟨a, sc, n, rfl, ⟨ns, i, b, m, c, h1, h2, hi, hb, hm0, hm1⟩, hn0, hn1, q⟩ := h
    have hsc : sc ≠ a := Hand.ne h1 h2
    refine ⟨_, (pss_cons (ps_if (pt_cmpR op_gt (pe_ix (show IxR _ (rIxL K) from ix_list) (pv 0) pe_int (fun _ _ => rfl)) pe_int (nomark _))
    (pss_cons (ps_set (i := 2) sc_law_draw.nd rfl (by first | exact Or.inl rfl | exact Or.inr rfl) (pe_op op_mod (pe_callTy c_int (by rfl) T.m_int (by decide +kernel) (pa_cons (pe_ix (show IxR _ (rIxL K) from ix_list) (pv 0) pe_int (fun _ _ => rfl)) pa_nil)) (pv 1)))
    (pss_cons (ps_asg (pe_op op_fdivW (pe_ix (show IxR _ (rIxL K) from ix_list) (pv 0) pe_int (fun _ _ => rfl)) (pv 1)) (pg_sub (pv 0) pe_int set_list))
    (pss_one (ps_ret (pv 2)))))
    pss_nil)
    (pss_cons (ps_set (i := 3) sc_law_draw.nd rfl (by first | exact Or.inl rfl | exact Or.inr rfl) pe_int)
    (pss_cons (ps_if (pt_cmpR op_lt (pe_ix (show IxR _ (rIxL K) from ix_list) (pv 0) pe_int (fun _ _ => rfl)) (pe_callB (show CallR _ _ (rLen K) from c_len) (by rfl) T.m_len (by decide +kernel) (pa_cons (pe_ix (show IxR _ (rIxL K) from ix_list) (pv 0) pe_int (fun _ _ => rfl)) pa_nil)) (nomark _))
    (pss_cons (ps_set (i := 3) sc_law_draw.nd rfl (by first | exact Or.inl rfl | exact Or.inr rfl) (pe_ix ix_list (pe_ix ix_list (pv 0) pe_int (fun _ _ => rfl)) (pe_ix ix_list (pv 0) pe_int (fun _ _ => rfl)) (fun _ _ => rfl)))
    (pss_one (ps_asg (pe_op op_add (pe_ix (show IxR _ (rIxL K) from ix_list) (pv 0) pe_int (fun _ _ => rfl)) pe_int) (pg_sub (pv 0) pe_int set_list))))
    pss_nil)
    (pss_cons (ps_if (pt_cmpR op_ge (pe_callB c_abs (by rfl) T.m_abs (by decide +kernel) (pa_cons (pv 3) pa_nil)) (pe_op op_pow pe_int pe_int) (nomark _))
    (pss_cons (ps_asg (pe_op op_fdivW (pe_callB c_abs (by rfl) T.m_abs (by decide +kernel) (pa_cons (pv 3) pa_nil)) (pv 1)) (pg_sub (pv 0) pe_int set_list))
    (pss_one (ps_ret (pe_op op_mod (pe_callTy c_int (by rfl) T.m_int (by decide +kernel) (pa_cons (pe_callB c_abs (by rfl) T.m_abs (by decide +kernel) (pa_cons (pv 3) pa_nil)) pa_nil)) (pv 1)))))
    pss_nil)
    (pss_cons (ps_asg (pe_op op_add (pe_ix (show IxR _ (rIxL K) from ix_list) (pv 0) pe_int (fun _ _ => rfl)) pe_int) (pg_sub (pv 0) pe_int set_list))
    (pss_cons (ps_set (i := 4) sc_law_draw.nd rfl (by first | exact Or.inl rfl | exact Or.inr rfl) (pe_op op_mod (pe_callTy c_int (by rfl) T.m_int (by decide +kernel) (pa_cons (pe_op op_add (pe_op op_add (pe_op op_add (pe_op op_mul (pe_ix (show IxR _ (rIxL K) from ix_list) (pv 0) pe_int (fun _ _ => rfl)) pe_int) (pe_op op_mul (pv 3) pe_int)) (pe_op op_mul (pe_ix (show IxR _ (rIxL K) from ix_list) (pv 0) pe_int (fun _ _ => rfl)) pe_int)) pe_int) pa_nil)) pe_int))
    (pss_cons (ps_set (i := 4) sc_law_draw.nd rfl (by first | exact Or.inl rfl | exact Or.inr rfl) (pe_op op_mod (pe_callTy c_int (by rfl) T.m_int (by decide +kernel) (pa_cons (pe_op op_add (pe_op op_mul (pe_op op_mod (pe_op op_mul (pv 4) (pv 4)) pe_int) (pv 4)) (pv 3)) pa_nil)) pe_int))
    (pss_cons (ps_asg (pv 4) (pg_sub (pv 0) pe_int set_list))
    (pss_cons (ps_if (pt_cmpR op_gt (pv 1) (pe_op op_pow pe_int pe_int) (nomark _))
    (pss_one (ps_ret (pe_op op_mod (pe_callTy c_int (by rfl) T.m_int (by decide +kernel) (pa_cons (pe_op op_add (pe_op op_mod (pe_op op_fdivW (pv 4) pe_int) (pe_op op_pow pe_int pe_int)) (pe_op op_mul (pe_op op_pow pe_int pe_int) (pe_call G_law_draw (hr.mono (by decide)) (by rfl) T.g_law_draw T.F_law_draw.kp T.b_law_draw .nil pass0 (pa_cons (pv 0) (pa_cons (pe_op op_add (pe_op op_fdivW (pv 1) (pe_op op_pow pe_int pe_int)) pe_int) pa_nil))))) pa_nil)) (pv 1))))
    pss_nil)
    (pss_one (ps_ret (pe_op op_mod (pe_op op_fdivW (pv 4) pe_int) (pv 1))))))))))))), ?_⟩
    dsimp only [L2.start, N_law_draw, cxOf, Cx.nox, Cx.wish]
    walk_at "go"
    refine w_ixL (sq_of h1) rfl ?_
    walk_at "go"
    refine w_dec (fun c0 => ?_) (fun c0 => ?_)
    · walk_at "go"
      refine w_ixL (sq_of h1) rfl ?_
      walk_at "go"
      refine w_ixL (sq_of h1) rfl ?_
      walk_at "go"
      refine w_setL h1 rfl ?_
      walk_at "go"
      refine q _ _ (Int.emod_nonneg _ (by omega)) (Int.emod_lt_of_pos _ (by omega)) ⟨ns, i, b / n, m, c, upd_same, ?_, hi, Int.ediv_nonneg hb (by omega), hm0, hm1⟩ (Xb.put h1 rfl _)
      rw [upd_ne hsc]; exact h2
    · walk_at "go"
      refine w_ixL (sq_of h1) rfl ?_
      walk_at "go"
      refine w_ixL (sq_of h1) rfl ?_
      walk_at "go"
      refine w_lenL (sq_of h2) ?_
      walk_at "go"
      refine w_dec (fun c1 => ?_) (fun c1 => ?_)
      · walk_at "go"
        refine w_ixL (sq_of h1) rfl ?_
        walk_at "go"
        refine w_ixL (sq_of h1) rfl ?_
        walk_at "go"
        obtain ⟨v, hv⟩ := atI_ints (ns := ns) hi (by simpa using c1)
        refine w_ixL (sq_of h2) hv ?_
        walk_at "go"
        refine w_ixL (sq_of h1) rfl ?_
        walk_at "go"
        refine w_setL h1 rfl ?_
        have e1 := Xb.put h1 rfl (.lst [.ref sc, .int (i + 1), .int b, .int m, .int c])
        have a1 : upd H a (.lst [.ref sc, .int (i + 1), .int b, .int m, .int c]) a = _ := upd_same
        have a2 : upd H a (.lst [.ref sc, .int (i + 1), .int b, .int m, .int c]) sc = some (.lst (ns.map V.int)) := by rw [upd_ne hsc]; exact h2
        have hi' : 0 ≤ i + 1 := by omega
        walk_at "go"
        refine w_dec (fun c2 => ?_) (fun c2 => ?_)
        · walk_at "go"
          refine w_setL a1 rfl ?_
          walk_at "go"
          refine q _ _ (Int.emod_nonneg _ (by omega)) (Int.emod_lt_of_pos _ (by omega)) ⟨ns, _, _, m, c, upd_same, ?_, hi', Int.ediv_nonneg ?_ (by omega), hm0, hm1⟩ (e1.trans (Xb.put a1 rfl _))
          · rw [upd_ne hsc]; exact a2
          · omega
        · walk_at "go"
          refine w_ixL (sq_of a1) rfl ?_
          walk_at "go"
          refine w_setL a1 rfl ?_
          walk_at "go"
          refine w_ixL (sq_of upd_same) rfl ?_
          walk_at "go"
          refine w_ixL (sq_of upd_same) rfl ?_
          walk_at "go"
          generalize hM1 : (m * 40014 + v * 69069 + (c + 1) * 22193 + 7919) % 2147483563 = M1
          have hM1a : 0 ≤ M1 := by omega
          have hM1b : M1 < 2147483563 := by omega
          walk_at "go"
          generalize hM2 : (M1 * M1 % 2147483399 * M1 + v) % 2147483399 = M2
          have hM2a : 0 ≤ M2 := by omega
          have hM2b : M2 < 2147483399 := by omega
          refine w_setL upd_same rfl ?_
          walk_at "go"
          refine w_dec (fun c3 => ?_) (fun _ => ?_)
          · walk_at "go"
            refine ⟨_, sc, n / 1000000 + 1, rfl, ⟨ns, _, b, M2, c + 1, upd_same, ?_, hi', hb, hM2a, by omega⟩, by omega, by omega, fun k9 H9 k90 k91 hh9 e9 => ?_⟩
            · rw [upd_ne hsc, upd_ne hsc]; exact a2
            walk_at "go"
            exact q _ _ (Int.emod_nonneg _ (by omega)) (Int.emod_lt_of_pos _ (by omega)) hh9 (((e1.trans (Xb.put a1 rfl _)).trans (Xb.put upd_same rfl _)).trans e9)
          walk_at "go"
          refine q _ _ (Int.emod_nonneg _ (by omega)) (Int.emod_lt_of_pos _ (by omega)) ⟨ns, _, b, M2, c + 1, upd_same, ?_, hi', hb, hM2a, by omega⟩ ((e1.trans (Xb.put a1 rfl _)).trans (Xb.put upd_same rfl _))
          rw [upd_ne hsc, upd_ne hsc]; exact a2
      · have e1 := Xb.refl H
        have a1 := h1
        have a2 := h2
        have hi' := hi
        walk_at "go"
        refine w_dec (fun c2 => ?_) (fun c2 => ?_)
        · walk_at "go"
          refine w_setL a1 rfl ?_
          walk_at "go"
          refine q _ _ (Int.emod_nonneg _ (by omega)) (Int.emod_lt_of_pos _ (by omega)) ⟨ns, _, _, m, c, upd_same, ?_, hi', Int.ediv_nonneg ?_ (by omega), hm0, hm1⟩ (e1.trans (Xb.put a1 rfl _))
          · rw [upd_ne hsc]; exact a2
          · omega
        · walk_at "go"
          refine w_ixL (sq_of a1) rfl ?_
          walk_at "go"
          refine w_setL a1 rfl ?_
          walk_at "go"
          refine w_ixL (sq_of upd_same) rfl ?_
          walk_at "go"
          refine w_ixL (sq_of upd_same) rfl ?_
          walk_at "go"
          generalize hM1 : (m * 40014 + 0 * 69069 + (c + 1) * 22193 + 7919) % 2147483563 = M1
          have hM1a : 0 ≤ M1 := by omega
          have hM1b : M1 < 2147483563 := by omega
          walk_at "go"
          generalize hM2 : (M1 * M1 % 2147483399 * M1 + 0) % 2147483399 = M2
          have hM2a : 0 ≤ M2 := by omega
          have hM2b : M2 < 2147483399 := by omega
          refine w_setL upd_same rfl ?_
          walk_at "go"
          refine w_dec (fun c3 => ?_) (fun _ => ?_)
          · walk_at "go"
            refine ⟨_, sc, n / 1000000 + 1, rfl, ⟨ns, _, b, M2, c + 1, upd_same, ?_, hi', hb, hM2a, by omega⟩, by omega, by omega, fun k9 H9 k90 k91 hh9 e9 => ?_⟩
            · rw [upd_ne hsc, upd_ne hsc]; exact a2
            walk_at "go"
            exact q _ _ (Int.emod_nonneg _ (by omega)) (Int.emod_lt_of_pos _ (by omega)) hh9 (((e1.trans (Xb.put a1 rfl _)).trans (Xb.put upd_same rfl _)).trans e9)
          walk_at "go"
          refine q _ _ (Int.emod_nonneg _ (by omega)) (Int.emod_lt_of_pos _ (by omega)) ⟨ns, _, b, M2, c + 1, upd_same, ?_, hi', hb, hM2a, by omega⟩ ((e1.trans (Xb.put a1 rfl _)).trans (Xb.put upd_same rfl _))
          rw [upd_ne hsc, upd_ne hsc]; exact a2
theorem ok_law_drawC (T : Tx K mg ad fdd) (G_law_draw : FnOk P w K mg base CX0 2 (ad 32) (fdd 32) ["_law_hand_here", "_law_size"] (spDraw 1 900000000000)) : FnOk P w K mg base CX0 3 (ad 32) (fdd 32) ["_law_hand_here", "_law_size"] (spDraw 1 800000000000000000) := by
  refine T.F_law_draw.ok sc_law_draw (fun vs H Q E h => ?_) (fun cdv A outer s H vs Q E hr h => ?_)
  · obtain ⟨a, sc, n, rfl, _⟩ := h
    rfl
  · obtain ⟨a, sc, n, rfl, ⟨ns, i, b, m, c, h1, h2, hi, hb, hm0, hm1⟩, hn0, hn1, q⟩ := h
    have hsc : sc ≠ a := Hand.ne h1 h2
    refine ⟨_, (pss_cons (ps_if (pt_cmpR op_gt (pe_ix (show IxR _ (rIxL K) from ix_list) (pv 0) pe_int (fun _ _ => rfl)) pe_int (nomark _))
    (pss_cons (ps_set (i := 2) sc_law_draw.nd rfl (by first | exact Or.inl rfl | exact Or.inr rfl) (pe_op op_mod (pe_callTy c_int (by rfl) T.m_int (by decide +kernel) (pa_cons (pe_ix (show IxR _ (rIxL K) from ix_list) (pv 0) pe_int (fun _ _ => rfl)) pa_nil)) (pv 1)))
    (pss_cons (ps_asg (pe_op op_fdivW (pe_ix (show IxR _ (rIxL K) from ix_list) (pv 0) pe_int (fun _ _ => rfl)) (pv 1)) (pg_sub (pv 0) pe_int set_list))
    (pss_one (ps_ret (pv 2)))))
    pss_nil)
    (pss_cons (ps_set (i := 3) sc_law_draw.nd rfl (by first | exact Or.inl rfl | exact Or.inr rfl) pe_int)
    (pss_cons (ps_if (pt_cmpR op_lt (pe_ix (show IxR _ (rIxL K) from ix_list) (pv 0) pe_int (fun _ _ => rfl)) (pe_callB (show CallR _ _ (rLen K) from c_len) (by rfl) T.m_len (by decide +kernel) (pa_cons (pe_ix (show IxR _ (rIxL K) from ix_list) (pv 0) pe_int (fun _ _ => rfl)) pa_nil)) (nomark _))
    (pss_cons (ps_set (i := 3) sc_law_draw.nd rfl (by first | exact Or.inl rfl | exact Or.inr rfl) (pe_ix ix_list (pe_ix ix_list (pv 0) pe_int (fun _ _ => rfl)) (pe_ix ix_list (pv 0) pe_int (fun _ _ => rfl)) (fun _ _ => rfl)))
    (pss_one (ps_asg (pe_op op_add (pe_ix (show IxR _ (rIxL K) from ix_list) (pv 0) pe_int (fun _ _ => rfl)) pe_int) (pg_sub (pv 0) pe_int set_list))))
    pss_nil)
    (pss_cons (ps_if (pt_cmpR op_ge (pe_callB c_abs (by rfl) T.m_abs (by decide +kernel) (pa_cons (pv 3) pa_nil)) (pe_op op_pow pe_int pe_int) (nomark _))
    (pss_cons (ps_asg (pe_op op_fdivW (pe_callB c_abs (by rfl) T.m_abs (by decide +kernel) (pa_cons (pv 3) pa_nil)) (pv 1)) (pg_sub (pv 0) pe_int set_list))
    (pss_one (ps_ret (pe_op op_mod (pe_callTy c_int (by rfl) T.m_int (by decide +kernel) (pa_cons (pe_callB c_abs (by rfl) T.m_abs (by decide +kernel) (pa_cons (pv 3) pa_nil)) pa_nil)) (pv 1)))))
    pss_nil)
    (pss_cons (ps_asg (pe_op op_add (pe_ix (show IxR _ (rIxL K) from ix_list) (pv 0) pe_int (fun _ _ => rfl)) pe_int) (pg_sub (pv 0) pe_int set_list))
    (pss_cons (ps_set (i := 4) sc_law_draw.nd rfl (by first | exact Or.inl rfl | exact Or.inr rfl) (pe_op op_mod (pe_callTy c_int (by rfl) T.m_int (by decide +kernel) (pa_cons (pe_op op_add (pe_op op_add (pe_op op_add (pe_op op_mul (pe_ix (show IxR _ (rIxL K) from ix_list) (pv 0) pe_int (fun _ _ => rfl)) pe_int) (pe_op op_mul (pv 3) pe_int)) (pe_op op_mul (pe_ix (show IxR _ (rIxL K) from ix_list) (pv 0) pe_int (fun _ _ => rfl)) pe_int)) pe_int) pa_nil)) pe_int))
    (pss_cons (ps_set (i := 4) sc_law_draw.nd rfl (by first | exact Or.inl rfl | exact Or.inr rfl) (pe_op op_mod (pe_callTy c_int (by rfl) T.m_int (by decide +kernel) (pa_cons (pe_op op_add (pe_op op_mul (pe_op op_mod (pe_op op_mul (pv 4) (pv 4)) pe_int) (pv 4)) (pv 3)) pa_nil)) pe_int))
    (pss_cons (ps_asg (pv 4) (pg_sub (pv 0) pe_int set_list))
    (pss_cons (ps_if (pt_cmpR op_gt (pv 1) (pe_op op_pow pe_int pe_int) (nomark _))
    (pss_one (ps_ret (pe_op op_mod (pe_callTy c_int (by rfl) T.m_int (by decide +kernel) (pa_cons (pe_op op_add (pe_op op_mod (pe_op op_fdivW (pv 4) pe_int) (pe_op op_pow pe_int pe_int)) (pe_op op_mul (pe_op op_pow pe_int pe_int) (pe_call G_law_draw (hr.mono (by decide)) (by rfl) T.g_law_draw T.F_law_draw.kp T.b_law_draw .nil pass0 (pa_cons (pv 0) (pa_cons (pe_op op_add (pe_op op_fdivW (pv 1) (pe_op op_pow pe_int pe_int)) pe_int) pa_nil))))) pa_nil)) (pv 1))))
    pss_nil)
    (pss_one (ps_ret (pe_op op_mod (pe_op op_fdivW (pv 4) pe_int) (pv 1))))))))))))), ?_⟩
    dsimp only [L2.start, N_law_draw, cxOf, Cx.nox, Cx.wish]
    walk_at "go"
    refine w_ixL (sq_of h1) rfl ?_
    walk_at "go"
    refine w_dec (fun c0 => ?_) (fun c0 => ?_)
    · walk_at "go"
      refine w_ixL (sq_of h1) rfl ?_
      walk_at "go"
      refine w_ixL (sq_of h1) rfl ?_
      walk_at "go"
      refine w_setL h1 rfl ?_
      walk_at "go"
      refine q _ _ (Int.emod_nonneg _ (by omega)) (Int.emod_lt_of_pos _ (by omega)) ⟨ns, i, b / n, m, c, upd_same, ?_, hi, Int.ediv_nonneg hb (by omega), hm0, hm1⟩ (Xb.put h1 rfl _)
      rw [upd_ne hsc]; exact h2
    · walk_at "go"
      refine w_ixL (sq_of h1) rfl ?_
      walk_at "go"
      refine w_ixL (sq_of h1) rfl ?_
      walk_at "go"
      refine w_lenL (sq_of h2) ?_
      walk_at "go"
      refine w_dec (fun c1 => ?_) (fun c1 => ?_)
      · walk_at "go"
        refine w_ixL (sq_of h1) rfl ?_
        walk_at "go"
        refine w_ixL (sq_of h1) rfl ?_
        walk_at "go"
        obtain ⟨v, hv⟩ := atI_ints (ns := ns) hi (by simpa using c1)
        refine w_ixL (sq_of h2) hv ?_
        walk_at "go"
        refine w_ixL (sq_of h1) rfl ?_
        walk_at "go"
        refine w_setL h1 rfl ?_
        have e1 := Xb.put h1 rfl (.lst [.ref sc, .int (i + 1), .int b, .int m, .int c])
        have a1 : upd H a (.lst [.ref sc, .int (i + 1), .int b, .int m, .int c]) a = _ := upd_same
        have a2 : upd H a (.lst [.ref sc, .int (i + 1), .int b, .int m, .int c]) sc = some (.lst (ns.map V.int)) := by rw [upd_ne hsc]; exact h2
        have hi' : 0 ≤ i + 1 := by omega
        walk_at "go"
        refine w_dec (fun c2 => ?_) (fun c2 => ?_)
        · walk_at "go"
          refine w_setL a1 rfl ?_
          walk_at "go"
          refine q _ _ (Int.emod_nonneg _ (by omega)) (Int.emod_lt_of_pos _ (by omega)) ⟨ns, _, _, m, c, upd_same, ?_, hi', Int.ediv_nonneg ?_ (by omega), hm0, hm1⟩ (e1.trans (Xb.put a1 rfl _))
          · rw [upd_ne hsc]; exact a2
          · omega
        · walk_at "go"
          refine w_ixL (sq_of a1) rfl ?_
          walk_at "go"
          refine w_setL a1 rfl ?_
          walk_at "go"
          refine w_ixL (sq_of upd_same) rfl ?_
          walk_at "go"
          refine w_ixL (sq_of upd_same) rfl ?_
          walk_at "go"
          generalize hM1 : (m * 40014 + v * 69069 + (c + 1) * 22193 + 7919) % 2147483563 = M1
          have hM1a : 0 ≤ M1 := by omega
          have hM1b : M1 < 2147483563 := by omega
          walk_at "go"
          generalize hM2 : (M1 * M1 % 2147483399 * M1 + v) % 2147483399 = M2
          have hM2a : 0 ≤ M2 := by omega
          have hM2b : M2 < 2147483399 := by omega
          refine w_setL upd_same rfl ?_
          walk_at "go"
          refine w_dec (fun c3 => ?_) (fun _ => ?_)
          · walk_at "go"
            refine ⟨_, sc, n / 1000000 + 1, rfl, ⟨ns, _, b, M2, c + 1, upd_same, ?_, hi', hb, hM2a, by omega⟩, by omega, by omega, fun k9 H9 k90 k91 hh9 e9 => ?_⟩
            · rw [upd_ne hsc, upd_ne hsc]; exact a2
            walk_at "go"
            exact q _ _ (Int.emod_nonneg _ (by omega)) (Int.emod_lt_of_pos _ (by omega)) hh9 (((e1.trans (Xb.put a1 rfl _)).trans (Xb.put upd_same rfl _)).trans e9)
          walk_at "go"
          refine q _ _ (Int.emod_nonneg _ (by omega)) (Int.emod_lt_of_pos _ (by omega)) ⟨ns, _, b, M2, c + 1, upd_same, ?_, hi', hb, hM2a, by omega⟩ ((e1.trans (Xb.put a1 rfl _)).trans (Xb.put upd_same rfl _))
          rw [upd_ne hsc, upd_ne hsc]; exact a2
      · have e1 := Xb.refl H
        have a1 := h1
        have a2 := h2
        have hi' := hi
        walk_at "go"
        refine w_dec (fun c2 => ?_) (fun c2 => ?_)
        · walk_at "go"
          refine w_setL a1 rfl ?_
          walk_at "go"
          refine q _ _ (Int.emod_nonneg _ (by omega)) (Int.emod_lt_of_pos _ (by omega)) ⟨ns, _, _, m, c, upd_same, ?_, hi', Int.ediv_nonneg ?_ (by omega), hm0, hm1⟩ (e1.trans (Xb.put a1 rfl _))
          · rw [upd_ne hsc]; exact a2
          · omega
        · walk_at "go"
          refine w_ixL (sq_of a1) rfl ?_
          walk_at "go"
          refine w_setL a1 rfl ?_
          walk_at "go"
          refine w_ixL (sq_of upd_same) rfl ?_
          walk_at "go"
          refine w_ixL (sq_of upd_same) rfl ?_
          walk_at "go"
          generalize hM1 : (m * 40014 + 0 * 69069 + (c + 1) * 22193 + 7919) % 2147483563 = M1
          have hM1a : 0 ≤ M1 := by omega
          have hM1b : M1 < 2147483563 := by omega
          walk_at "go"
          generalize hM2 : (M1 * M1 % 2147483399 * M1 + 0) % 2147483399 = M2
          have hM2a : 0 ≤ M2 := by omega
          have hM2b : M2 < 2147483399 := by omega
          refine w_setL upd_same rfl ?_
          walk_at "go"
          refine w_dec (fun c3 => ?_) (fun _ => ?_)
          · walk_at "go"
            refine ⟨_, sc, n / 1000000 + 1, rfl, ⟨ns, _, b, M2, c + 1, upd_same, ?_, hi', hb, hM2a, by omega⟩, by omega, by omega, fun k9 H9 k90 k91 hh9 e9 => ?_⟩
            · rw [upd_ne hsc, upd_ne hsc]; exact a2
            walk_at "go"
            exact q _ _ (Int.emod_nonneg _ (by omega)) (Int.emod_lt_of_pos _ (by omega)) hh9 (((e1.trans (Xb.put a1 rfl _)).trans (Xb.put upd_same rfl _)).trans e9)
          walk_at "go"
          refine q _ _ (Int.emod_nonneg _ (by omega)) (Int.emod_lt_of_pos _ (by omega)) ⟨ns, _, b, M2, c + 1, upd_same, ?_, hi', hb, hM2a, by omega⟩ ((e1.trans (Xb.put a1 rfl _)).trans (Xb.put upd_same rfl _))
          rw [upd_ne hsc, upd_ne hsc]; exact a2
theorem ok_law_spans (T : Tx K mg ad fdd) (G_law_draw : FnOk P w K mg base CX0 1 (ad 32) (fdd 32) ["_law_hand_here", "_law_size"] (spDraw 1 1000000)) : FnOk P w K mg base CX0 2 (ad 33) (fdd 33) ["_law_hand_here"] (spLawSpans K) := by
  refine T.F_law_spans.ok sc_law_spans (fun vs H Q E h => ?_) (fun cdv A outer s H vs Q E hr h => ?_)
  · obtain ⟨a, sc, rfl, _⟩ := h
    rfl

  · obtain ⟨a, sc, rfl, hh, q⟩ := h
    refine ⟨_, (pss_cons (ps_set (i := 1) sc_law_spans.nd rfl (by first | exact Or.inl rfl | exact Or.inr rfl) (pe_lst pa_nil))
    (pss_cons (ps_for PassesOwn.never rfl (pi_range1 (by rfl) T.m_range (pa_cons (pe_call G_law_draw (hr.mono (by decide)) (by rfl) T.g_law_draw T.F_law_draw.kp T.b_law_draw .nil pass0 (pa_cons (pv 0) (pa_cons pe_int pa_nil))) pa_nil)) (pg_name (i := 2) sc_law_spans.nd rfl (by first | exact Or.inl rfl | exact Or.inr rfl))
    (pss_cons (ps_set (i := 3) sc_law_spans.nd rfl (by first | exact Or.inl rfl | exact Or.inr rfl) (pe_op op_sub (pe_call G_law_draw (hr.mono (by decide)) (by rfl) T.g_law_draw T.F_law_draw.kp T.b_law_draw .nil pass0 (pa_cons (pv 0) (pa_cons pe_int pa_nil))) pe_int))
    (pss_cons (ps_set (i := 4) sc_law_spans.nd rfl (by first | exact Or.inl rfl | exact Or.inr rfl) (pe_ix (show IxR _ (rIxL K) from ix_list) (pe_lst (pa_cons (pe_call G_law_draw (hr.mono (by decide)) (by rfl) T.g_law_draw T.F_law_draw.kp T.b_law_draw .nil pass0 (pa_cons (pv 0) (pa_cons pe_int pa_nil))) (pa_cons (pe_call G_law_draw (hr.mono (by decide)) (by rfl) T.g_law_draw T.F_law_draw.kp T.b_law_draw .nil pass0 (pa_cons (pv 0) (pa_cons pe_int pa_nil))) (pa_cons (pe_call G_law_draw (hr.mono (by decide)) (by rfl) T.g_law_draw T.F_law_draw.kp T.b_law_draw .nil pass0 (pa_cons (pv 0) (pa_cons pe_int pa_nil))) pa_nil)))) (pe_call G_law_draw (hr.mono (by decide)) (by rfl) T.g_law_draw T.F_law_draw.kp T.b_law_draw .nil pass0 (pa_cons (pv 0) (pa_cons pe_int pa_nil))) (fun _ _ => rfl)))
    (pss_cons (ps_set (i := 5) sc_law_spans.nd rfl (by first | exact Or.inl rfl | exact Or.inr rfl) (pe_tup (pa_cons (pv 3) (pa_cons (pe_callB (c_min2 rfl) (by rfl) T.m_min (by decide +kernel) (pa_cons pe_int (pa_cons (pe_op op_add (pv 3) (pv 4)) pa_nil))) pa_nil))))
    (pss_one (ps_if (pt_cmpR (show OpR _ _ (rNotInD K) from op_notInD (hu65 hr)) (pv 5) (pv 1) (by rfl))
    (pss_one (ps_expr (show PE _ _ (tBM K "list" _ _ _) from pe_bm PySem.F.plainAttrs_list PySem.F.slot_list_append PySem.F.type_list_append mt_append (pv 1) (pa_cons (pv 5) pa_nil))))
    pss_nil))))))
    (pss_one (ps_ret (pe_callTy (show CallR _ _ (rTupleOf K) from c_tupleOf) (by rfl) T.m_tuple (by decide +kernel) (pa_cons (pe_callB (show CallR _ _ (rSortedPO K) from cr_sortedPO) (by rfl) T.m_sorted (by decide +kernel) (pa_cons (pv 1) pa_nil)) pa_nil)))))), ?_⟩
    dsimp only [L2.start, N_law_spans, cxOf, Cx.nox, Cx.wish]
    walk_at "go"
    refine w_new (by exact Nat.le_of_ble_eq_true rfl) fun l H1 nl e1 hl _ => ?_
    have hh1 := hh.ex e1
    obtain ⟨l1, l2⟩ := hh.off nl
    walk_at "go"
    refine ⟨a, sc, 3, rfl, hh1, by decide, by decide, fun n H2 n0 n3 hh2 e2 => ?_⟩
    walk_at "go"
    refine w_loopR ⟨by omega, by omega⟩ ?_
    refine for_range (fun i σ' H' => Hand H' a sc ∧ Xb H H' ∧ (∃ y2 y3 y4 y5, σ' = [some (.ref a), some (.ref l), y2, y3, y4, y5]) ∧ ∃ vs : List V, H' l = some (.lst vs) ∧ Prs H' vs ∧ vs.length ≤ i ∧ (∀ s ∈ vs.map (kOf H'), spanOk s) ∧ (vs.map (kOf H')).Nodup) ⟨hh2, e1.b.trans e2, ⟨_, _, _, _, rfl⟩, [], e2 _ _ hl rfl, (fun x hx => by cases hx), Nat.le_refl _, (fun x hx => by cases hx), List.nodup_nil⟩ (fun i σ' H' hi p => ?_) (fun σ' H' p => ?_)
    · obtain ⟨hh3, e3, ⟨y2, y3, y4, y5, rfl⟩, vs, hvs, hp, hlen, hok, hnd⟩ := p
      have shl : ∀ {J : Hp}, Prs J vs → handSh (.lst vs) = false := fun {J} pj => by
        match vs, hlen, pj with
        | [], _, _ => rfl
        | [x], _, pj =>
          obtain ⟨t, rfl, _⟩ := pj _ (List.mem_cons_self ..)
          rfl
        | [x, y], _, pj =>
          obtain ⟨t, rfl, _⟩ := pj x (by simp)
          obtain ⟨t2, rfl, _⟩ := pj y (by simp)
          rfl
        | _ :: _ :: _ :: _, hlen, _ =>
          simp at hlen
          omega
      walk_at "go"
      refine ⟨a, sc, 61, rfl, hh3, by decide, by decide, fun k1 H4 k10 k11 hh4 e4 => ?_⟩
      walk_at "go"
      refine ⟨a, sc, 3, rfl, hh4, by decide, by decide, fun k2 H5 k20 k21 hh5 e5 => ?_⟩
      walk_at "go"
      refine ⟨a, sc, 12, rfl, hh5, by decide, by decide, fun k3 H6 k30 k31 hh6 e6 => ?_⟩
      walk_at "go"
      refine ⟨a, sc, 61, rfl, hh6, by decide, by decide, fun k4 H7 k40 k41 hh7 e7 => ?_⟩
      walk_at "go"
      refine w_new (by exact Nat.le_of_ble_eq_true rfl) fun p8 H8 np8 e8 hp8 _ => ?_
      have hh8 := hh7.ex e8
      walk_at "go"
      refine ⟨a, sc, 3, rfl, hh8, by decide, by decide, fun k5 H9 k50 k51 hh9 e9 => ?_⟩
      walk_at "go"
      have hsz : ∃ sz : Int, atI [V.int k2, V.int k3, V.int k4] k5 = some (.int sz) ∧ 0 ≤ sz := by
        have : k5 = 0 ∨ k5 = 1 ∨ k5 = 2 := by omega
        rcases this with rfl | rfl | rfl
        · exact ⟨k2, rfl, k20⟩
        · exact ⟨k3, rfl, k30⟩
        · exact ⟨k4, rfl, k40⟩
      obtain ⟨sz, hsz, sz0⟩ := hsz
      refine w_ixL (sq_of (e9 _ _ hp8 rfl)) hsz ?_
      walk_at "go"
      generalize hmn : (if k1 - 30 + sz < 30 then k1 - 30 + sz else 30) = mn
      have hmn1 : k1 - 30 ≤ mn ∧ mn ≤ 30 := by
        rw [← hmn]
        split <;> omega
      refine w_new (by exact Nat.le_of_ble_eq_true rfl) fun p10 H10 np10 e10 hp10 _ => ?_
      have hh10 := hh9.ex e10
      have eX : Xb H' H10 := ((((e4.trans e5).trans e6).trans e7).trans e8.b).trans (e9.trans e10.b)
      have hvs10 : H10 l = some (.lst vs) := eX _ _ hvs (shl hp)
      have hp' : Prs H10 vs := hp.mono eX.tups
      have hm' : vs.map (kOf H10) = vs.map (kOf H') := hp.map_eq eX.tups
      walk_at "go"
      refine w_notInD (d := encSpan (k1 - 30, mn)) (es := (vs.map (kOf H10)).map encSpan) (Rp.dp (.tup (st_of hp10) (.cons (.int _) (.cons (.int _) .nil))) (fun _ z => by cases z) rfl) (.lst (sq_of hvs10) (hp'.rp.dp (canLay_spans _))) (shaped_span _) (shaped_spans _) ?_
      rw [any_span]
      walk_at "go"
      refine w_ndec (fun c1 => ?_) (fun c1 => ?_)
      · walk_at "go"
        refine w_tyL hvs10 ?_
        walk_at "go"
        refine w_append hvs10 (by omega) ?_
        walk_at "go"
        have n10 : p10 ≠ l := fun z => by rw [z, hvs10] at hp10; cases hp10
        have hT := tups_upd (zs := vs ++ [V.ref p10]) hvs10
        have hk : kOf (upd H10 l (.lst (vs ++ [V.ref p10]))) (.ref p10) = (k1 - 30, mn) := kOf_at (hT _ _ hp10)
        have hm2 : (vs ++ [V.ref p10]).map (kOf (upd H10 l (.lst (vs ++ [V.ref p10])))) = vs.map (kOf H') ++ [(k1 - 30, mn)] := by
          rw [List.map_append, hp'.map_eq hT, hm', List.map_cons, hk]; rfl
        refine ⟨hh10.upd l1 l2, (e3.trans eX).mut nl, ⟨_, _, _, _, rfl⟩, vs ++ [V.ref p10], upd_same, ?_, ?_, ?_, ?_⟩
        · intro x hx
          rcases List.mem_append.mp hx with hx | hx
          · exact hp'.mono hT x hx
          · cases List.mem_singleton.mp hx
            exact ⟨p10, rfl, by rw [hk]; exact hT _ _ hp10⟩
        · rw [List.length_append]
          show vs.length + 1 ≤ i + 1
          omega
        · rw [hm2]
          intro s hs
          rcases List.mem_append.mp hs with hs | hs
          · exact hok s hs
          · cases List.mem_singleton.mp hs
            exact ⟨by omega, by omega, by omega⟩
        · rw [hm2, List.nodup_append]
          refine ⟨hnd, List.pairwise_singleton _ _, fun x hx y hy => ?_⟩
          cases List.mem_singleton.mp hy
          rw [hm'] at c1
          exact fun z => c1 (z ▸ hx)
      · walk_at "go"
        exact ⟨hh10, e3.trans eX, ⟨_, _, _, _, rfl⟩, vs, hvs10, hp', by omega, by rw [hm']; exact hok, by rw [hm']; exact hnd⟩
    · obtain ⟨hh3, e3, ⟨y2, y3, y4, y5, rfl⟩, vs, hvs, hp, hlen, hok, hnd⟩ := p
      walk_at "go"
      refine ⟨l, vs, kOf H', rfl, sq_of hvs, hp, fun ys p4 hsr hst np4 => ?_⟩
      walk_at "go"
      have e4 : Ex H' (upd H' p4 (.lst ys)) := Ex.new np4
      refine w_tupleL (sq_of upd_same) fun p5 H5 np5 e5 hp5 _ => ?_
      have hpy : Prs H' ys := fun x hx => hp x (hst.perm.mem_iff.mp hx)
      have eX : Xb H' H5 := e4.b.trans e5.b
      have hperm : (ys.map (kOf H')).Perm (vs.map (kOf H')) := hst.perm.map _
      have hlen2 : (ys.map (kOf H')).length ≤ 2 := by
        rw [hperm.length_eq, List.length_map]
        omega
      refine q (.ref p5) (ys.map (kOf H5)) H5 (hh3.ex (e4.trans e5)) (e3.trans eX) (.tup (st_of hp5) (hpy.mono eX.tups).rp) ?_
      rw [hpy.map_eq eX.tups]
      refine isSpans_of hlen2 (fun s hs => hok s (hperm.mem_iff.mp hs)) (hperm.nodup_iff.mpr hnd) ?_
      exact List.pairwise_map.mpr hsr
end

theorem pat_codes : ∀ (cs : List Nat), cs.length ≤ 4 → (∀ c ∈ cs, c = 111 ∨ c = 45) → 111 ∈ cs → isPat (.str ⟨cs.toArray⟩) = true
  | [], _, _, h3 => by cases h3
  | [a], _, h2, h3 => by
    rcases h2 a (by simp) with rfl | rfl <;> first | decide +kernel | (exfalso; revert h3; decide)
  | [a, b], _, h2, h3 => by
    rcases h2 a (by simp) with rfl | rfl <;> rcases h2 b (by simp) with rfl | rfl <;> first | decide +kernel | (exfalso; revert h3; decide)
  | [a, b, c], _, h2, h3 => by
    rcases h2 a (by simp) with rfl | rfl <;> rcases h2 b (by simp) with rfl | rfl <;> rcases h2 c (by simp) with rfl | rfl <;> first | decide +kernel | (exfalso; revert h3; decide)
  | [a, b, c, d], _, h2, h3 => by
    rcases h2 a (by simp) with rfl | rfl <;> rcases h2 b (by simp) with rfl | rfl <;> rcases h2 c (by simp) with rfl | rfl <;> rcases h2 d (by simp) with rfl | rfl <;> first | decide +kernel | (exfalso; revert h3; decide)
  | _ :: _ :: _ :: _ :: _ :: _, h1, _, _ => by simp at h1
theorem joinL_ones : ∀ cs : List Nat, TL.joinL [] (cs.map fun c => [c]) = cs
  | [] => rfl
  | [_] => rfl
  | x :: y :: r => by
    show [x] ++ ([] ++ TL.joinL [] ((y :: r).map fun c => [c])) = _
    rw [joinL_ones (y :: r)]; rfl
theorem join_ones (cs : List Nat) : Txt.join "" (cs.map one) = ⟨cs.toArray⟩ := by
  have h := TL.tl_join "" (cs.map one)
  rw [List.map_map] at h
  have e : (cs.map (TL.tl ∘ one)) = cs.map fun c => [c] := List.map_congr_left fun c _ => rfl
  rw [e] at h
  have e2 : TL.joinL (TL.tl "") (cs.map fun c => [c]) = cs := joinL_ones cs
  rw [e2] at h
  rw [TL.join_eq]
  have h2 : (Str.join "" (cs.map one)).cps = cs.toArray := (Array.toArray_toList (xs := (Str.join "" (cs.map one)).cps)).symm.trans (congrArg List.toArray h)
  cases hz : Str.join "" (cs.map one) with
  | mk z => rw [hz] at h2; exact congrArg Str.mk h2
theorem sum_ones (cs : List Nat) : ((cs.map one).map (·.length)).sum = cs.length := by
  induction cs with
  | nil => rfl
  | cons c r ih =>
    rw [List.map_cons, List.map_cons, List.sum_cons, ih, List.length_cons]
    show 1 + r.length = _
    omega
section
variable {P : Program} {w : World} {K : PySem.W.Frag} {mg : Str → Option Value} {base : Heap} {ad : Nat → Addr} {fdd : Nat → FuncData}
theorem ok_law_calendar (T : Tx K mg ad fdd) (G_law_draw : FnOk P w K mg base CX0 1 (ad 32) (fdd 32) ["_law_hand_here", "_law_size"] (spDraw 1 1000000)) (G_law_spans : FnOk P w K mg base CX0 2 (ad 33) (fdd 33) ["_law_hand_here"] (spLawSpans K)) : FnOk P w K mg base CX0 3 (ad 34) (fdd 34) ["_law_hand_here"] (spLawCal K) := by
  refine T.F_law_calendar.ok sc_law_calendar (fun vs H Q E h => ?_) (fun cdv A outer s H vs Q E hr h => ?_)
  · obtain ⟨a, sc, rfl, _⟩ := h
    rfl

  · obtain ⟨a, sc, rfl, hh, q⟩ := h
    refine ⟨_, (pss_cons (ps_set (i := 1) sc_law_calendar.nd rfl (by first | exact Or.inl rfl | exact Or.inr rfl) (pe_op op_add pe_int (pe_call G_law_draw (hr.mono (by decide)) (by rfl) T.g_law_draw T.F_law_draw.kp T.b_law_draw .nil pass0 (pa_cons (pv 0) (pa_cons pe_int pa_nil)))))
    (pss_cons (ps_set (i := 2) sc_law_calendar.nd rfl (by first | exact Or.inl rfl | exact Or.inr rfl) (pe_call G_law_draw (hr.mono (by decide)) (by rfl) T.g_law_draw T.F_law_draw.kp T.b_law_draw .nil pass0 (pa_cons (pv 0) (pa_cons (pv 1) pa_nil))))
    (pss_cons (ps_set (i := 3) sc_law_calendar.nd rfl (by first | exact Or.inl rfl | exact Or.inr rfl) (pe_m1 PySem.F.slot_str_join PySem.F.type_str_join (show MtR _ _ (rJoin K) from m_join) pe_str (pe_lc (own := [("_law_k", 4)]) rfl sc_law_calendar.nd (pi_range1 (by rfl) T.m_range (pa_cons (pv 1) pa_nil)) (blkOk_by (own := [("_law_k", 4)]) (N := N_law_calendar) (sc := defScope s_law_calendar) (by decide +kernel)) (fun _ _ _ _ _ => (pg_name (i := 4) sc_law_calendar.nd rfl (by first | exact Or.inl rfl | exact Or.inr rfl))) (fun _ _ _ _ _ => pts_nil) (fun _ _ _ _ _ => (pe_ifExp (pt_cmpR op_eq (pv 4) (pv 2) (nomark _)) pe_str (pe_ix ix_str pe_str (pe_call G_law_draw (hr.mono (by decide)) (by rfl) T.g_law_draw T.F_law_draw.kp T.b_law_draw .nil pass0 (pa_cons (pv 0) (pa_cons pe_int pa_nil))) (fun _ _ => rfl)))))))
    (pss_one (ps_ret (pe_tup (pa_cons (pv 3) (pa_cons (pe_call G_law_spans (hr.mono (by decide)) (by rfl) T.g_law_spans T.F_law_spans.kp T.b_law_spans .nil pass0 (pa_cons (pv 0) pa_nil)) (pa_cons (pe_call G_law_spans (hr.mono (by decide)) (by rfl) T.g_law_spans T.F_law_spans.kp T.b_law_spans .nil pass0 (pa_cons (pv 0) pa_nil)) pa_nil))))))))), ?_⟩
    dsimp only [L2.start, N_law_calendar, cxOf, Cx.nox, Cx.wish]
    walk_at "go"
    refine ⟨a, sc, 4, rfl, hh, by decide, by decide, fun k1 H1 k10 k11 hh1 e1 => ?_⟩
    walk_at "go"
    refine ⟨a, sc, 1 + k1, rfl, hh1, by omega, by omega, fun k2 H2 k20 k21 hh2 e2 => ?_⟩
    walk_at "go"
    refine w_lcR ⟨by omega, by omega⟩ ?_
    refine lc_R (fun D i H' => Hand H' a sc ∧ Xb H2 H' ∧ ∃ cs : List Nat, H' D = some (.lst ((cs.map one).map V.str)) ∧ cs.length = i ∧ (∀ c ∈ cs, c = 111 ∨ c = 45) ∧ (k2 < i → 111 ∈ cs)) (fun D nD => ⟨hh2.upd (hh2.off nD).1 (hh2.off nD).2, (Ex.new nD).b, [], upd_same, rfl, (fun c hc => by cases hc), fun z => by omega⟩) (fun D i H' nD hi p => ?_) (fun D H' nD p => ?_)
    · obtain ⟨hh3, e3, cs, hD, hl, hc, hm⟩ := p
      have hfin : ∀ (c : Nat) (H4 : Hp), Hand H4 a sc → Xb H' H4 → (c = 111 ∨ c = 45) → ((0 + (i : Int) = k2) → c = 111) → ∃ acc, H4 D = some (HO.lst acc) ∧ acc.length < sizeLine ∧ (Hand (upd H4 D (.lst (acc ++ [V.str (one c)]))) a sc ∧ Xb H2 (upd H4 D (.lst (acc ++ [V.str (one c)]))) ∧ ∃ cs : List Nat, (upd H4 D (.lst (acc ++ [V.str (one c)]))) D = some (.lst ((cs.map one).map V.str)) ∧ cs.length = i + 1 ∧ (∀ c ∈ cs, c = 111 ∨ c = 45) ∧ (k2 < ((i + 1 : Nat) : Int) → 111 ∈ cs)) := by
        intro c H4 hh4 e4 hc1 hc2
        refine ⟨_, e4 _ _ hD (sh_strs _), small1000 ?_, hh4.upd (hh2.off nD).1 (hh2.off nD).2, (e3.trans e4).mut nD, cs ++ [c], ?_, ?_, ?_, ?_⟩
        · rw [List.length_map, List.length_map]; omega
        · rw [upd_same, List.map_append, List.map_append]; rfl
        · rw [List.length_append]; show cs.length + 1 = _; omega
        · intro x hx
          rcases List.mem_append.mp hx with hx | hx
          · exact hc x hx
          · cases List.mem_singleton.mp hx; exact hc1
        · intro z
          by_cases z2 : k2 < i
          · exact List.mem_append_left _ (hm z2)
          · rw [hc2 (by omega)]
            exact List.mem_append_right _ (List.mem_singleton.mpr rfl)
      walk_at "go"
      refine ⟨rfl, ?_⟩
      walk_at "go"
      refine iteT ?_
      walk_at "go"
      refine w_dec (fun c1 => ?_) (fun c1 => ?_)
      · walk_at "go"
        exact hfin 111 H' hh3 (Xb.refl _) (.inl rfl) fun _ => rfl
      · walk_at "go"
        refine ⟨a, sc, 2, rfl, hh3, by decide, by decide, fun k3 H4 k30 k31 hh4 e4 => ?_⟩
        walk_at "go"
        have : k3 = 0 ∨ k3 = 1 := by omega
        rcases this with rfl | rfl
        · refine w_ixS (cc := 111) (by decide) (by decide +kernel) ?_
          exact hfin 111 H4 hh4 e4 (.inl rfl) fun _ => rfl
        · refine w_ixS (cc := 45) (by decide) (by decide +kernel) ?_
          exact hfin 45 H4 hh4 e4 (.inr rfl) fun z => absurd (congrArg V.int z) c1
    · obtain ⟨hh3, e3, cs, hD, hl, hc, hm⟩ := p
      walk_at "go"
      refine w_join (ys := cs.map one) (sq_of hD) ?_ ?_
      · rw [sum_ones]
        show cs.length + (cs.map one).length * 0 ≤ 16777216
        omega
      rw [join_ones]
      have hp : isPat (.str ⟨cs.toArray⟩) = true := pat_codes cs (by omega) hc (hm (by omega))
      walk_at "go"
      refine ⟨a, sc, rfl, hh3, fun v1 ss1 H4 hh4 e4 r1 ok1 => ?_⟩
      walk_at "go"
      refine ⟨a, sc, rfl, hh4, fun v2 ss2 H5 hh5 e5 r2 ok2 => ?_⟩
      walk_at "go"
      refine w_new (by exact Nat.le_of_ble_eq_true rfl) fun p6 H6 np6 e6 hp6 _ => ?_
      refine q (.ref p6) ⟨⟨cs.toArray⟩, ss1, ss2⟩ H6 (hh5.ex e6) (((((e1.trans e2).trans e3).trans e4).trans e5).trans e6.b) (.tup (st_of hp6) (.cons (.str _) (.cons (r1.mono (e5.trans e6.b)) (.cons (r2.mono e6.b) .nil)))) ?_
      unfold Cal.Ok encCal
      simp only [isCal, hp, ok1, ok2, Bool.and_self]
end

def spLawOpen (K : PySem.W.Frag) : Sp := fun vs H Q _ => ∃ v c day, vs = [v, .int day] ∧ Rp K H v (encCal c) ∧ c.Ok ∧ ∀ H', Ex H H' → Q (.bl (openC c day)) H'
theorem eqv_list_nil (ss : List (Int × Int)) : PyData.eqv (.list (ss.map encSpan)) (.list []) = ss.isEmpty := by
  cases ss with
  | nil => simp [PyData.eqv, PyData.eqvAll]
  | cons d r => simp [PyData.eqv, PyData.eqvAll]
theorem filter_take {α : Type} (p : α → Bool) (l : List α) (i : Nat) (x : α) (h : l[i]? = some x) : (l.take (i + 1)).filter p = (l.take i).filter p ++ (if p x = true then [x] else []) := by
  rw [List.take_add_one, h, List.filter_append]
  by_cases c : p x = true
  · simp [c]
  · simp [c]
theorem filter_empty {α : Type} (p : α → Bool) (l : List α) : (l.filter p).isEmpty = !l.any p := by
  induction l with
  | nil => rfl
  | cons x r ih =>
    rw [List.any_cons]
    by_cases c : p x = true
    · simp [List.filter_cons, c]
    · simp only [Bool.not_eq_true] at c
      simp [List.filter_cons, c, ih]

def spLawDay : Sp := fun vs H Q _ => ∃ h sc, vs = [.ref h] ∧ Hand H h sc ∧ ∀ (d : Int) H', Hand H' h sc → Xb H H' → dayOk d → Q (.int d) H'
def spLawNear (K : PySem.W.Frag) : Sp := fun vs H Q _ => ∃ v c d st e, vs = [v, .int d, .int st] ∧ Rp K H v (encCal c) ∧ c.Ok ∧ ((st = 1 ∧ Nxt c d e ∧ e - d ≤ 70) ∨ (st = -1 ∧ Lst c d e ∧ d - e ≤ 70)) ∧ ∀ H', Ex H H' → Q (.int e) H'

def dayS (d : Int) : Prop := -200000000000000 ≤ d ∧ d ≤ 200000000000000
def spLawDayS : Sp := fun vs H Q _ => ∃ h sc, vs = [.ref h] ∧ Hand H h sc ∧ ∀ (d : Int) H', Hand H' h sc → Xb H H' → dayS d → Q (.int d) H'
section
variable {P : Program} {w : World} {K : PySem.W.Frag} {mg : Str → Option Value} {base : Heap} {ad : Nat → Addr} {fdd : Nat → FuncData}
theorem ok_law_open (T : Tx K mg ad fdd) : FnOk P w K mg base CX0 1 (ad 35) (fdd 35) ["_law_calendar_here", "_law_day_here"] (spLawOpen K) := by
  refine T.F_law_open.ok sc_law_open (fun vs H Q E h => ?_) (fun cdv A outer s H vs Q E hr h => ?_)
  · obtain ⟨v, c, day, rfl, _⟩ := h
    rfl

  · obtain ⟨v, c, day, rfl, hv, ok, q⟩ := h
    obtain ⟨a, xs, rfl, hs, r⟩ := hv.isTup
    obtain ⟨v1, v2, v3, rfl, r1, r2, r3⟩ := r.three
    cases r1.isStr
    obtain ⟨h0, h4, _⟩ := pat_len ok.parts.1
    have hz : c.pat.length ≤ sizeLine := list_lt (by omega)
    have hp : 0 < (c.pat.length : Int) := by omega
    obtain ⟨cc, hc, hO⟩ := pat_at h0 day
    obtain ⟨a2, xs2, rfl, hs2, q2⟩ := r2.isTup
    obtain ⟨a3, xs3, rfl, hs3, q3⟩ := r3.isTup
    have hl2 := q2.len
    have hl3 := q3.len
    rw [List.length_map] at hl2 hl3
    have n2 := (spans_in ok.parts.2.1).1
    have n3 := (spans_in ok.parts.2.2).1
    have e0 := Ex.refl H
    refine ⟨_, (pss_cons (ps_asg (pv 0) (show PG _ _ (gTup K 3 _) from pg_tup rfl (pgs_cons (pg_name (i := 2) sc_law_open.nd rfl (by first | exact Or.inl rfl | exact Or.inr rfl)) (pgs_cons (pg_name (i := 3) sc_law_open.nd rfl (by first | exact Or.inl rfl | exact Or.inr rfl)) (pgs_cons (pg_name (i := 4) sc_law_open.nd rfl (by first | exact Or.inl rfl | exact Or.inr rfl)) pgs_nil)))))
    (pss_cons (ps_if (pt_cmpR (show OpR _ _ (rNeD K) from op_neD hr.units) (pe_lc (own := [("_law_one", 5)]) rfl sc_law_open.nd (pi_tup (pv 3)) (blkOk_by (own := [("_law_one", 5)]) (N := N_law_open) (sc := defScope s_law_open) (by decide +kernel)) (fun _ _ _ _ _ => (pg_name (i := 5) sc_law_open.nd rfl (by first | exact Or.inl rfl | exact Or.inr rfl))) (fun _ _ _ _ _ => (pts_one (pt_chain op_le op_le (pe_ix (show IxR _ (rIxT K) from ix_tup) (pv 5) pe_int (fun _ _ => rfl)) (pv 1) (pe_ix (show IxR _ (rIxT K) from ix_tup) (pv 5) pe_int (fun _ _ => rfl))))) (fun _ _ _ _ _ => (pv 5))) (pe_lst pa_nil) (nomark _))
    (pss_one (ps_ret pe_bl))
    pss_nil)
    (pss_cons (ps_if (pt_cmpR (show OpR _ _ (rNeD K) from op_neD hr.units) (pe_lc (own := [("_law_one", 5)]) rfl sc_law_open.nd (pi_tup (pv 4)) (blkOk_by (own := [("_law_one", 5)]) (N := N_law_open) (sc := defScope s_law_open) (by decide +kernel)) (fun _ _ _ _ _ => (pg_name (i := 5) sc_law_open.nd rfl (by first | exact Or.inl rfl | exact Or.inr rfl))) (fun _ _ _ _ _ => (pts_one (pt_chain op_le op_le (pe_ix (show IxR _ (rIxT K) from ix_tup) (pv 5) pe_int (fun _ _ => rfl)) (pv 1) (pe_ix (show IxR _ (rIxT K) from ix_tup) (pv 5) pe_int (fun _ _ => rfl))))) (fun _ _ _ _ _ => (pv 5))) (pe_lst pa_nil) (nomark _))
    (pss_one (ps_ret pe_bl))
    pss_nil)
    (pss_one (ps_ret (pe_cmpR op_eq (pe_ix ix_str (pv 2) (pe_op op_mod (pe_callTy c_int (by rfl) T.m_int (by decide +kernel) (pa_cons (pv 1) pa_nil)) (pe_callB (show CallR _ _ (rLen K) from c_len) (by rfl) T.m_len (by decide +kernel) (pa_cons (pv 2) pa_nil))) (fun _ _ => rfl)) pe_str (nomark _))))))), ?_⟩
    dsimp only [L2.start, N_law_open, cxOf, Cx.nox, Cx.wish]
    walk_at "go"
    refine w_gTup3 hs ?_
    walk_at "go"
    refine w_lcT (e0.b.tup hs2) ?_
    refine lc_T (xs := xs2) (fun D i H' => Ex H H' ∧ ∃ vs, H' D = some (.lst vs) ∧ RpAll K H vs (((c.shut.take i).filter (inSpan day)).map encSpan) ∧ vs.length ≤ i) (fun D nD => ⟨e0.mut (fresh_back e0 nD), [], upd_same, .nil, Nat.le_refl _⟩) (fun D i H' hi p => p.1.b.tup hs2) (fun D i x H' nD hx p => ?_) (fun D H' nD p => ?_)
    · obtain ⟨e, vs, hD, hr, hlen⟩ := p
      obtain ⟨d, g1, r1⟩ := q2.at hx
      rw [List.getElem?_map] at g1
      obtain ⟨s, gs, rfl⟩ := Option.map_eq_some_iff.mp g1
      obtain ⟨p1, ys1, rfl, s1, q1⟩ := r1.isTup
      obtain ⟨_, _, rfl, t1, t2⟩ := q1.two
      cases t1.isInt; cases t2.isInt
      have hi : i < c.shut.length := (List.getElem?_eq_some_iff.mp gs).1
      walk_at "go"
      refine ⟨rfl, ?_⟩
      walk_at "go"
      refine w_ixT (e.b.tup s1) rfl ?_
      walk_at "go"
      refine w_dec (fun c1 => ?_) (fun c1 => ?_)
      · walk_at "go"
        refine w_ixT (e.b.tup s1) rfl ?_
        walk_at "go"
        refine w_dec (fun c2 => ?_) (fun c2 => ?_)
        · have cs : inSpan day s = true := by simp [inSpan, c1, c2]
          walk_at "go"
          refine ⟨_, hD, small1000 (by omega), e.mut (fresh_back e0 nD), vs ++ [.ref p1], upd_same, ?_, by rw [List.length_append]; show vs.length + 1 ≤ _; omega⟩
          rw [filter_take _ _ _ _ gs, if_pos cs, List.map_append]
          exact hr.app (.cons r1 .nil)
        · have cs : ¬ inSpan day s = true := by simp [inSpan, c2]
          refine ⟨e, vs, hD, ?_, by omega⟩
          rw [filter_take _ _ _ _ gs, if_neg cs, List.append_nil]; exact hr
      · have cs : ¬ inSpan day s = true := by simp [inSpan, c1]
        walk_at "go"
        refine iteF ?_
        refine ⟨e, vs, hD, ?_, by omega⟩
        rw [filter_take _ _ _ _ gs, if_neg cs, List.append_nil]; exact hr
    obtain ⟨eD, vs, hD, hr, hlen⟩ := p
    rw [List.take_of_length_le (by omega)] at hr
    walk_at "go"
    refine w_new (by exact Nat.le_of_ble_eq_true rfl) fun pn Hn npn en hpn _ => ?_
    have eF : Ex H Hn := eD.trans en
    walk_at "go"
    refine w_neD (d := .list ((c.shut.filter (inSpan day)).map encSpan)) (e := .list []) (.lst (sq_of (en _ _ hD)) ((hr.mono eF.b).dp (canLay_spans _))) (.lst (sq_of hpn) .nil) (shaped_spans _) (shaped_spans []) ?_
    rw [eqv_list_nil, filter_empty]
    walk_at "go"
    refine w_n2 (fun z1 => ?_) (fun z1 => ?_)
    · have z2 : c.shut.any (inSpan day) = true := by simpa using z1
      walk_at "go"
      have e : openC c day = false := by unfold openC; rw [z2]; rfl
      rw [← e]; exact q _ eF
    have z2 : c.shut.any (inSpan day) = false := by simpa using z1
    walk_at "go"
    refine w_lcT (eF.b.tup hs3) ?_
    refine lc_T (xs := xs3) (fun D i H' => Ex H H' ∧ ∃ vs, H' D = some (.lst vs) ∧ RpAll K H vs (((c.free.take i).filter (inSpan day)).map encSpan) ∧ vs.length ≤ i) (fun D nD => ⟨eF.mut (fresh_back eF nD), [], upd_same, .nil, Nat.le_refl _⟩) (fun D i H' hi p => p.1.b.tup hs3) (fun D i x H' nD hx p => ?_) (fun D H' nD p => ?_)
    · obtain ⟨e, vs, hD, hr, hlen⟩ := p
      obtain ⟨d, g1, r1⟩ := q3.at hx
      rw [List.getElem?_map] at g1
      obtain ⟨s, gs, rfl⟩ := Option.map_eq_some_iff.mp g1
      obtain ⟨p1, ys1, rfl, s1, q1⟩ := r1.isTup
      obtain ⟨_, _, rfl, t1, t2⟩ := q1.two
      cases t1.isInt; cases t2.isInt
      have hi : i < c.free.length := (List.getElem?_eq_some_iff.mp gs).1
      walk_at "go"
      refine ⟨rfl, ?_⟩
      walk_at "go"
      refine w_ixT (e.b.tup s1) rfl ?_
      walk_at "go"
      refine w_dec (fun c1 => ?_) (fun c1 => ?_)
      · walk_at "go"
        refine w_ixT (e.b.tup s1) rfl ?_
        walk_at "go"
        refine w_dec (fun c2 => ?_) (fun c2 => ?_)
        · have cs : inSpan day s = true := by simp [inSpan, c1, c2]
          walk_at "go"
          refine ⟨_, hD, small1000 (by omega), e.mut (fresh_back eF nD), vs ++ [.ref p1], upd_same, ?_, by rw [List.length_append]; show vs.length + 1 ≤ _; omega⟩
          rw [filter_take _ _ _ _ gs, if_pos cs, List.map_append]
          exact hr.app (.cons r1 .nil)
        · have cs : ¬ inSpan day s = true := by simp [inSpan, c2]
          refine ⟨e, vs, hD, ?_, by omega⟩
          rw [filter_take _ _ _ _ gs, if_neg cs, List.append_nil]; exact hr
      · have cs : ¬ inSpan day s = true := by simp [inSpan, c1]
        walk_at "go"
        refine iteF ?_
        refine ⟨e, vs, hD, ?_, by omega⟩
        rw [filter_take _ _ _ _ gs, if_neg cs, List.append_nil]; exact hr
    obtain ⟨eD, vs, hD, hr, hlen⟩ := p
    rw [List.take_of_length_le (by omega)] at hr
    walk_at "go"
    refine w_new (by exact Nat.le_of_ble_eq_true rfl) fun pn Hn npn en hpn _ => ?_
    have eG : Ex H Hn := eD.trans en
    walk_at "go"
    refine w_neD (d := .list ((c.free.filter (inSpan day)).map encSpan)) (e := .list []) (.lst (sq_of (en _ _ hD)) ((hr.mono eG.b).dp (canLay_spans _))) (.lst (sq_of hpn) .nil) (shaped_spans _) (shaped_spans []) ?_
    rw [eqv_list_nil, filter_empty]
    walk_at "go"
    refine w_n2 (fun z3 => ?_) (fun z3 => ?_)
    · have z4 : c.free.any (inSpan day) = true := by simpa using z3
      walk_at "go"
      have e : openC c day = true := by unfold openC; rw [z2, z4]; rfl
      rw [← e]; exact q _ eG
    have z4 : c.free.any (inSpan day) = false := by simpa using z3
    walk_at "go"
    refine w_lenS hz ?_
    walk_at "go"
    refine w_ixS hz hc ?_
    walk_at "go"
    have e : openC c day = patO c.pat day := by unfold openC; rw [z2, z4]; rfl
    rw [← hO, ← e]; exact q _ eG
theorem ok_law_day (T : Tx K mg ad fdd) (G_law_draw : FnOk P w K mg base CX0 1 (ad 32) (fdd 32) ["_law_hand_here", "_law_size"] (spDraw 1 1000000)) : FnOk P w K mg base CX0 2 (ad 36) (fdd 36) ["_law_hand_here"] (spLawDayS) := by
  refine T.F_law_day.ok sc_law_day (fun vs H Q E h => ?_) (fun cdv A outer s H vs Q E hr h => ?_)
  · obtain ⟨a, sc, rfl, _⟩ := h
    rfl

  · obtain ⟨a, sc, rfl, hh, q⟩ := h
    refine ⟨_, (pss_cons (ps_set (i := 1) sc_law_day.nd rfl (by first | exact Or.inl rfl | exact Or.inr rfl) (pe_lst (pa_cons (pe_op op_sub (pe_call G_law_draw (hr.mono (by decide)) (by rfl) T.g_law_draw T.F_law_draw.kp T.b_law_draw .nil pass0 (pa_cons (pv 0) (pa_cons pe_int pa_nil))) pe_int) (pa_cons (pe_op op_add (pe_op op_pow pe_int pe_int) (pe_call G_law_draw (hr.mono (by decide)) (by rfl) T.g_law_draw T.F_law_draw.kp T.b_law_draw .nil pass0 (pa_cons (pv 0) (pa_cons pe_int pa_nil)))) (pa_cons (pe_op op_sub (pe_un un_neg (pe_op op_pow pe_int pe_int)) (pe_call G_law_draw (hr.mono (by decide)) (by rfl) T.g_law_draw T.F_law_draw.kp T.b_law_draw .nil pass0 (pa_cons (pv 0) (pa_cons pe_int pa_nil)))) (pa_cons (pe_op op_pow pe_int pe_int) pa_nil))))))
    (pss_one (ps_ret (pe_ix (show IxR _ (rIxL K) from ix_list) (pv 1) (pe_ix (show IxR _ (rIxL K) from ix_list) (pe_lst (pa_cons pe_int (pa_cons pe_int (pa_cons pe_int (pa_cons pe_int (pa_cons pe_int (pa_cons pe_int pa_nil))))))) (pe_call G_law_draw (hr.mono (by decide)) (by rfl) T.g_law_draw T.F_law_draw.kp T.b_law_draw .nil pass0 (pa_cons (pv 0) (pa_cons pe_int pa_nil))) (fun _ _ => rfl)) (fun _ _ => rfl))))), ?_⟩
    dsimp only [L2.start, N_law_day, cxOf, Cx.nox, Cx.wish]
    walk_at "go"
    refine ⟨a, sc, 101, rfl, hh, by decide, by decide, fun k1 H1 k10 k11 hh1 e1 => ?_⟩
    walk_at "go"
    refine ⟨a, sc, 99, rfl, hh1, by decide, by decide, fun k2 H2 k20 k21 hh2 e2 => ?_⟩
    walk_at "go"
    refine ⟨a, sc, 99, rfl, hh2, by decide, by decide, fun k3 H3 k30 k31 hh3 e3 => ?_⟩
    walk_at "go"
    refine w_new (by exact Nat.le_of_ble_eq_true rfl) fun p4 H4 np4 e4 hp4 _ => ?_
    have hh4 := hh3.ex e4
    walk_at "go"
    refine w_new (by exact Nat.le_of_ble_eq_true rfl) fun p5 H5 np5 e5 hp5 _ => ?_
    have hh5 := hh4.ex e5
    walk_at "go"
    refine ⟨a, sc, 6, rfl, hh5, by decide, by decide, fun k6 H6 k60 k61 hh6 e6 => ?_⟩
    walk_at "go"
    have eX := (((e1.trans e2).trans e3).trans (e4.trans e5).b).trans e6
    have hk : ∃ j : Int, atI [V.int 0, V.int 0, V.int 0, V.int 1, V.int 2, V.int 3] k6 = some (.int j) ∧ 0 ≤ j ∧ j ≤ 3 := by
      have : k6 = 0 ∨ k6 = 1 ∨ k6 = 2 ∨ k6 = 3 ∨ k6 = 4 ∨ k6 = 5 := by omega
      rcases this with rfl | rfl | rfl | rfl | rfl | rfl
      · exact ⟨0, rfl, by decide, by decide⟩
      · exact ⟨0, rfl, by decide, by decide⟩
      · exact ⟨0, rfl, by decide, by decide⟩
      · exact ⟨1, rfl, by decide, by decide⟩
      · exact ⟨2, rfl, by decide, by decide⟩
      · exact ⟨3, rfl, by decide, by decide⟩
    obtain ⟨j, hj, j0, j3⟩ := hk
    refine w_ixL (sq_of (e6 _ _ hp5 rfl)) hj ?_
    walk_at "go"
    have h5 : H6 p4 = some _ := e6 _ _ (e5 _ _ hp4) rfl
    have : j = 0 ∨ j = 1 ∨ j = 2 ∨ j = 3 := by omega
    rcases this with rfl | rfl | rfl | rfl <;> refine w_ixL (sq_of h5) rfl ?_ <;> exact q _ H6 hh6 eX ⟨by omega, by omega⟩
end
end J
namespace J
open PySem PySem.Spec PyProof.Rows L2
local macro_rules | `(tactic| walk_at "go1") => `(tactic| first
  | with_reducible refine' w_seq ?_
  | with_reducible refine' w_next ?_
  | with_reducible refine' w_brk ?_
  | with_reducible refine' w_cont ?_
  | with_reducible refine' w_asg ?_
  | with_reducible refine' w_asgG ?_
  | with_reducible refine' w_gSub ?_
  | with_reducible refine' w_ret ?_
  | with_reducible refine' w_retN ?_
  | with_reducible refine' w_drop ?_
  | with_reducible refine' w_ifS ?_
  | ((with_reducible refine' w_isAug ?_); refine w_aug rfl ?_)
  | with_reducible refine' w_ipadd ?_
  | with_reducible refine' w_ipsub ?_
  | ((with_reducible refine' w_isVar ?_); refine w_var rfl ?_)
  | with_reducible refine' w_c ?_
  | with_reducible refine' w_nil ?_
  | with_reducible refine' w_cons ?_
  | with_reducible refine' w_op ?_
  | with_reducible refine' w_un ?_
  | with_reducible refine' w_cb ?_
  | with_reducible refine' w_call ?_
  | with_reducible refine' w_callK ?_
  | with_reducible refine' w_test ?_
  | with_reducible refine' w_tB ?_
  | with_reducible refine' w_and ?_
  | with_reducible refine' w_or ?_
  | with_reducible refine' w_not ?_
  | with_reducible refine' w_andV ?_
  | with_reducible refine' w_orV ?_
  | with_reducible refine' w_notV ?_
  | with_reducible refine' w_if ?_
  | with_reducible refine' w_chain ?_
  | with_reducible refine' w_exb ?_
  | with_reducible refine' w_add ?_
  | with_reducible refine' w_sub ?_
  | with_reducible refine' w_lt ?_
  | with_reducible refine' w_le ?_
  | with_reducible refine' w_gt ?_
  | with_reducible refine' w_ge ?_
  | ((with_reducible refine' w_mod ?h ?q); (case h => first | decide | omega))
  | ((with_reducible refine' w_fdiv ?h ?h2 ?q); (case h => first | decide | omega); (case h2 => first | decide | omega))
  | ((with_reducible refine' w_mulR ?h ?q); (case h => omega))
  | ((with_reducible refine' w_mulL ?h ?q); (case h => omega))
  | with_reducible refine' w_pow_6 ?_
  | with_reducible refine' w_pow_9 ?_
  | with_reducible refine' w_pow_12 ?_
  | with_reducible refine' w_pow_14 ?_
  | with_reducible refine' w_pow_15 ?_
  | with_reducible refine' w_pow_18 ?_
  | with_reducible refine' w_neg ?_
  | ((with_reducible refine' w_eq ?h ?q); (case h => exact rfl))
  | ((with_reducible refine' w_ne ?h ?q); (case h => exact rfl))
  | with_reducible refine' w_abs ?_
  | with_reducible refine' w_int ?_
  | with_reducible refine' w_max ?_
  | with_reducible refine' w_min ?_
  | with_reducible refine' w_count ?_
  | with_reducible refine' w_m1 ?_
  | with_reducible refine' w_bm ?_
  | with_reducible refine' w_listR3 ?_
  | with_reducible refine' w_exs ?_
  | with_reducible refine' w_inS ?_
  | with_reducible refine' w_notInS ?_
  | with_reducible refine' w_for ?_
  | with_reducible refine' w_while ?_
  | with_reducible refine' w_lc ?_
  | with_reducible refine' w_iTup ?_
  | with_reducible refine' w_iList ?_
  | with_reducible refine' w_iRng1 ?_
  | with_reducible refine' w_iRng2 ?_
  | with_reducible refine' w_gName ?_
  | with_reducible refine' w_tYes ?_
  | with_reducible refine' w_tupD ?_
  | with_reducible refine' w_tupF ?_
  | with_reducible refine' w_ltS ?_
  | with_reducible refine' w_leS ?_
  | with_reducible refine' w_dget ?_
  | with_reducible refine' w_dnotin ?_
  | with_reducible refine' w_sl ?_
  | with_reducible refine' w_part ?_
  | with_reducible refine' w_noPart ?_
  | with_reducible refine' w_some ?_
  | with_reducible refine' w_lstD ?_
  | with_reducible refine' w_revT ?_
  | with_reducible refine' w_par ?_
  )
local macro_rules | `(tactic| walk_at "go") => `(tactic| repeat (walk_at "go1"))
section
variable {P : Program} {w : World} {K : PySem.W.Frag} {mg : Str → Option Value} {base : Heap} {ad : Nat → Addr} {fdd : Nat → FuncData}
theorem ok_law_plain (T : Tx K mg ad fdd) : FnOk P w K mg base CX0 1 (ad 37) (fdd 37) ["_law_signs", "_law_first", "_law_last"] (spLawPlain K) := by
  refine T.F_law_plain.ok sc_law_plain (fun vs H Q E h => ?_) (fun cdv A outer s H vs Q E hr h => ?_)
  · obtain ⟨z, a, b, rfl, _⟩ := h
    rfl
  · obtain ⟨z, a, b, rfl, hz, ha, hb, q⟩ := h
    obtain ⟨ha0, ha1⟩ := ha
    obtain ⟨hb0, hb1⟩ := hb
    obtain ⟨h0, h4, hm⟩ := pat_len hz
    have hzl : z.length ≤ sizeLine := list_lt (by omega)
    have hcb : 0 ≤ Txt.count z "o" ∧ Txt.count z "o" ≤ 4 := by
      rw [count_o]
      have := cntO_bd z.cps.toList
      rw [len_cps] at this
      omega
    have hcn2 := count_o z
    generalize hcn : Txt.count z "o" = cn at hcb hcn2
    refine ⟨_, (pss_cons (ps_if (pt_cmpR op_lt (pv 2) (pv 1) (nomark _))
    (pss_one (ps_ret pe_int))
    pss_nil)
    (pss_cons (ps_set (i := 3) sc_law_plain.nd rfl (by first | exact Or.inl rfl | exact Or.inr rfl) (pe_op op_fdivW (pe_op op_add (pe_op op_sub (pv 2) (pv 1)) pe_int) (pe_callB (show CallR _ _ (rLen K) from c_len) (by rfl) T.m_len (by decide +kernel) (pa_cons (pv 0) pa_nil))))
    (pss_cons (ps_set (i := 4) sc_law_plain.nd rfl (by first | exact Or.inl rfl | exact Or.inr rfl) (pe_listRg rfl (by rfl) T.m_list (prg_2 (by rfl) T.m_range (pe_op op_add (pv 1) (pe_op op_mul (pv 3) (pe_callB (show CallR _ _ (rLen K) from c_len) (by rfl) T.m_len (by decide +kernel) (pa_cons (pv 0) pa_nil)))) (pe_op op_add (pv 2) pe_int))))
    (pss_one (ps_ret (pe_op op_add (pe_op op_mul (pv 3) (pe_m1 PySem.F.slot_str_count PySem.F.type_str_count m_count (pv 0) pe_str)) (pe_callB (show CallR _ _ (rLen K) from c_len) (by rfl) T.m_len (by decide +kernel) (pa_cons (pe_lc (own := [("_law_day_here", 5)]) rfl sc_law_plain.nd (pi_list (pv 4)) (blkOk_by (own := [("_law_day_here", 5)]) (N := N_law_plain) (sc := defScope s_law_plain) (by decide +kernel)) (fun _ _ _ _ _ => (pg_name (i := 5) sc_law_plain.nd rfl (by first | exact Or.inl rfl | exact Or.inr rfl))) (fun _ _ _ _ _ => (pts_one (pt_cmpR op_eq (pe_ix ix_str (pv 0) (pe_op op_mod (pe_callTy c_int (by rfl) T.m_int (by decide +kernel) (pa_cons (pv 5) pa_nil)) (pe_callB (show CallR _ _ (rLen K) from c_len) (by rfl) T.m_len (by decide +kernel) (pa_cons (pv 0) pa_nil))) (fun _ _ => rfl)) pe_str (nomark _)))) (fun _ _ _ _ _ => (pv 5))) pa_nil)))))))), ?_⟩
    dsimp only [L2.start, N_law_plain, cxOf, Cx.nox, Cx.wish]
    walk_at "go"
    refine w_dec (fun c0 => ?_) (fun c0 => ?_)
    · walk_at "go"
      rw [if_pos c0] at q
      exact q H (Ex.refl H)
    rw [if_neg c0] at q
    walk_at "go"
    refine w_lenS hzl ?_
    walk_at "go"
    refine w_listRg2 ?_
    walk_at "go"
    refine w_lenS hzl ?_
    have hq0 := Int.emod_add_mul_ediv (b - a + 1) (z.length : Int)
    have hr0 : 0 ≤ (b - a + 1) % (z.length : Int) := Int.emod_nonneg _ (by omega)
    have hr1 : (b - a + 1) % (z.length : Int) < z.length := Int.emod_lt_of_pos _ (by omega)
    have hturn := PR_turn h0 a ((b - a + 1) / (z.length : Int))
    rw [Int.mul_comm] at hq0
    generalize hk : (b - a + 1) / (z.length : Int) = k at *
    generalize hkl : k * (z.length : Int) = kl at *
    walk_at "go"
    rw [hkl]
    refine w_lrg ⟨by omega, by omega, by omega, by omega, by omega⟩ fun l H1 nl e1 hl => ?_
    walk_at "go"
    rw [hcn]
    walk_at "go"
    refine w_lcL (sq_of hl) ?_
    refine lc_L (xs := rgV (a + kl) (b + 1)) (fun D i H' => Ex H1 H' ∧ H' D = some (.lst ((filtI (patO z) (a + kl) i).map V.int))) (fun D nD => ⟨Ex.new nD, upd_same⟩) (fun D i H' hi p => sq_of (p.1 _ _ hl)) (fun D i x H' nD hx p => ?_) (fun D H2 nD p => ?_)
    · obtain ⟨e, hD⟩ := p
      have hx2 : x = .int (a + kl + (i : Int)) ∧ i ≤ 4 := by
        have hi := (List.getElem?_eq_some_iff.mp hx).1
        rw [rgV_length] at hi
        unfold rgV at hx
        rw [List.getElem?_map, List.getElem?_range hi] at hx
        refine ⟨?_, by omega⟩
        cases hx; rfl
      obtain ⟨rfl, hi4⟩ := hx2
      obtain ⟨cc, hcc, hO⟩ := pat_at h0 (a + kl + (i : Int))
      walk_at "go"
      refine ⟨rfl, ?_⟩
      walk_at "go"
      refine w_lenS hzl ?_
      walk_at "go"
      refine w_ixS hzl hcc ?_
      walk_at "go"
      rw [← hO]
      refine w_2 (fun c1 => ?_) (fun c1 => ?_)
      · walk_at "go"
        refine ⟨_, hD, small1000 ?_, e.mut nD, ?_⟩
        · rw [List.length_map]
          have := filtI_le (patO z) (a + kl) i
          omega
        · rw [upd_same, filtI_succ, if_pos c1, List.map_append]; rfl
      · refine ⟨e, ?_⟩
        rw [filtI_succ, if_neg (by rw [c1]; decide), List.append_nil]; exact hD
    · obtain ⟨e, hD⟩ := p
      rw [rgV_length] at hD
      walk_at "go"
      refine w_lenL (sq_of hD) ?_
      rw [List.length_map]
      walk_at "go"
      have hs := rk_seg (PR_rk h0) (a := a + kl) (b := b + 1) (by omega)
      have he : PR z (b + 1) - PR z a = k * cn + ((filtI (patO z) (a + kl) (b + 1 - (a + kl)).toNat).length : Int) := by
        rw [hcn2]; omega
      rw [he] at q
      exact q H2 (e1.trans e)
theorem ok_law_count (T : Tx K mg ad fdd) (G_law_plain : FnOk P w K mg base CX0 1 (ad 37) (fdd 37) ["_law_signs", "_law_first", "_law_last"] (spLawPlain K)) (G_law_open : FnOk P w K mg base CX0 1 (ad 35) (fdd 35) ["_law_calendar_here", "_law_day_here"] (spLawOpen K)) : FnOk P w K mg base CX0 2 (ad 38) (fdd 38) ["_law_calendar_here", "_law_first", "_law_last"] (spLawCount K) := by
  refine T.F_law_count.ok sc_law_count (fun vs H Q E h => ?_) (fun cdv A outer s H vs Q E hr h => ?_)
  · obtain ⟨v, c, a, b, rfl, _⟩ := h
    rfl
  · obtain ⟨v, c, a, b, rfl, hv, ok, ha, hb, q⟩ := h
    obtain ⟨ha0, ha1⟩ := ha
    obtain ⟨hb0, hb1⟩ := hb
    have hv0 := hv
    obtain ⟨p0, xs, rfl, hs, rr⟩ := hv0.isTup
    obtain ⟨v1, v2, v3, rfl, r1, r2, r3⟩ := rr.three
    cases r1.isStr
    have hz := ok.parts.1
    refine ⟨_, (pss_cons (ps_set (i := 3) sc_law_count.nd rfl (by first | exact Or.inl rfl | exact Or.inr rfl) (pe_ix (show IxR _ (rIxT K) from ix_tup) (pv 0) pe_int (fun _ _ => rfl)))
    (pss_cons (ps_set (i := 4) sc_law_count.nd rfl (by first | exact Or.inl rfl | exact Or.inr rfl) (pe_op op_add (pe_call G_law_plain (hr.mono (by decide)) (by rfl) T.g_law_plain T.F_law_plain.kp T.b_law_plain .nil pass0 (pa_cons (pv 3) (pa_cons (pv 1) (pa_cons (pe_callB (c_min2 rfl) (by rfl) T.m_min (by decide +kernel) (pa_cons (pv 2) (pa_cons (pe_un un_neg pe_int) pa_nil))) pa_nil)))) (pe_call G_law_plain (hr.mono (by decide)) (by rfl) T.g_law_plain T.F_law_plain.kp T.b_law_plain .nil pass0 (pa_cons (pv 3) (pa_cons (pe_callB (c_max2 rfl) (by rfl) T.m_max (by decide +kernel) (pa_cons (pv 1) (pa_cons pe_int pa_nil))) (pa_cons (pv 2) pa_nil))))))
    (pss_one (ps_ret (pe_op op_add (pv 4) (pe_callB (show CallR _ _ (rLen K) from c_len) (by rfl) T.m_len (by decide +kernel) (pa_cons (pe_lc (own := [("_law_day_here", 5)]) rfl sc_law_count.nd (pi_range2 (by rfl) T.m_range (pa_cons (pe_callB (c_max2 rfl) (by rfl) T.m_max (by decide +kernel) (pa_cons (pv 1) (pa_cons (pe_un un_neg pe_int) pa_nil))) (pa_cons (pe_op op_add (pe_callB (c_min2 rfl) (by rfl) T.m_min (by decide +kernel) (pa_cons (pv 2) (pa_cons pe_int pa_nil))) pe_int) pa_nil))) (blkOk_by (own := [("_law_day_here", 5)]) (N := N_law_count) (sc := defScope s_law_count) (by decide +kernel)) (fun _ _ _ _ _ => (pg_name (i := 5) sc_law_count.nd rfl (by first | exact Or.inl rfl | exact Or.inr rfl))) (fun _ _ _ _ _ => (pts_one (pt_val (pe_call G_law_open (hr.mono (by decide)) (by rfl) T.g_law_open T.F_law_open.kp T.b_law_open .nil pass0 (pa_cons (pv 0) (pa_cons (pv 5) pa_nil)))))) (fun _ _ _ _ _ => (pv 5))) pa_nil))))))), ?_⟩
    dsimp only [L2.start, N_law_count, cxOf, Cx.nox, Cx.wish]
    walk_at "go"
    refine w_ixT hs rfl ?_
    walk_at "go"
    refine ⟨c.pat, a, _, rfl, hz, ⟨ha0, ha1⟩, ⟨by split <;> omega, by split <;> omega⟩, fun H1 e1 => ?_⟩
    walk_at "go"
    refine ⟨c.pat, _, b, rfl, hz, ⟨by split <;> omega, by split <;> omega⟩, ⟨hb0, hb1⟩, fun H2 e2 => ?_⟩
    have key := fun n h3 => law_count ok a b _ _ n _ _ rfl rfl rfl rfl h3
    generalize hx1 : (if (if -31 < b then -31 else b) < a then (0 : Int) else PR c.pat ((if -31 < b then -31 else b) + 1) - PR c.pat a) = x1 at key ⊢
    generalize hx2 : (if b < (if 31 > a then 31 else a) then (0 : Int) else PR c.pat (b + 1) - PR c.pat (if 31 > a then 31 else a)) = x2 at key ⊢
    have hlo : -(2 ^ 62) ≤ (if -30 > a then -30 else a) ∧ (if -30 > a then -30 else a) < (2 : Int) ^ 62 ∧ -30 ≤ (if -30 > a then -30 else a) := ⟨by split <;> omega, by split <;> omega, by split <;> omega⟩
    have hhi : -(2 ^ 62) ≤ (if 30 < b then 30 else b) + 1 ∧ (if 30 < b then 30 else b) + 1 < (2 : Int) ^ 62 ∧ (if 30 < b then 30 else b) + 1 ≤ 31 := ⟨by split <;> omega, by split <;> omega, by split <;> omega⟩
    walk_at "go"
    generalize (if -30 > a then -30 else a) = lo at key hlo ⊢
    generalize (if 30 < b then 30 else b) + 1 = hi at key hhi ⊢
    refine w_lcR2 ⟨hlo.1, hlo.2.1, hhi.1, hhi.2.1⟩ ?_
    have hn : (hi - lo).toNat ≤ 61 := by omega
    refine lc_R (fun D i H' => Ex H2 H' ∧ H' D = some (.lst ((filtI (openC c) lo i).map V.int))) (fun D nD => ⟨Ex.new nD, upd_same⟩) (fun D i H' nD hi p => ?_) (fun D H5 nD p => ?_)
    · obtain ⟨e, hD⟩ := p
      walk_at "go"
      refine ⟨rfl, ?_⟩
      walk_at "go"
      refine ⟨_, c, lo + (i : Int), rfl, hv.mono ((e1.trans e2).trans e).b, ok, fun H6 e6 => ?_⟩
      walk_at "go"
      refine w_2 (fun c1 => ?_) (fun c1 => ?_)
      · walk_at "go"
        refine ⟨_, e6 _ _ hD, small1000 ?_, (e.trans e6).mut nD, ?_⟩
        · rw [List.length_map]
          have := filtI_le (openC c) lo i
          omega
        · rw [upd_same, filtI_succ, if_pos c1, List.map_append]; rfl
      · refine ⟨e.trans e6, ?_⟩
        rw [filtI_succ, if_neg (by rw [c1]; decide), List.append_nil]; exact e6 _ _ hD
    · obtain ⟨e, hD⟩ := p
      walk_at "go"
      refine w_lenL (sq_of hD) ?_
      rw [List.length_map]
      walk_at "go"
      have hk := key _ rfl
      unfold cntF at q
      rw [← hk] at q
      exact q H5 ((e1.trans e2).trans e)
end
end J
namespace J
open PySem PySem.Spec PyProof.Rows L2
local macro_rules | `(tactic| walk_at "go1") => `(tactic| first
  | with_reducible refine' w_seq ?_
  | with_reducible refine' w_next ?_
  | with_reducible refine' w_brk ?_
  | with_reducible refine' w_cont ?_
  | with_reducible refine' w_asg ?_
  | with_reducible refine' w_asgG ?_
  | with_reducible refine' w_gSub ?_
  | with_reducible refine' w_ret ?_
  | with_reducible refine' w_retN ?_
  | with_reducible refine' w_drop ?_
  | with_reducible refine' w_ifS ?_
  | ((with_reducible refine' w_isAug ?_); refine w_aug rfl ?_)
  | with_reducible refine' w_ipadd ?_
  | with_reducible refine' w_ipsub ?_
  | ((with_reducible refine' w_isVar ?_); refine w_var rfl ?_)
  | with_reducible refine' w_c ?_
  | with_reducible refine' w_nil ?_
  | with_reducible refine' w_cons ?_
  | with_reducible refine' w_op ?_
  | with_reducible refine' w_un ?_
  | with_reducible refine' w_cb ?_
  | with_reducible refine' w_call ?_
  | with_reducible refine' w_callK ?_
  | with_reducible refine' w_test ?_
  | with_reducible refine' w_tB ?_
  | with_reducible refine' w_and ?_
  | with_reducible refine' w_or ?_
  | with_reducible refine' w_not ?_
  | with_reducible refine' w_andV ?_
  | with_reducible refine' w_orV ?_
  | with_reducible refine' w_notV ?_
  | with_reducible refine' w_if ?_
  | with_reducible refine' w_chain ?_
  | with_reducible refine' w_exb ?_
  | with_reducible refine' w_add ?_
  | with_reducible refine' w_sub ?_
  | with_reducible refine' w_lt ?_
  | with_reducible refine' w_le ?_
  | with_reducible refine' w_gt ?_
  | with_reducible refine' w_ge ?_
  | ((with_reducible refine' w_mod ?h ?q); (case h => first | decide | omega))
  | ((with_reducible refine' w_fdiv ?h ?h2 ?q); (case h => first | decide | omega); (case h2 => first | decide | omega))
  | ((with_reducible refine' w_mulR ?h ?q); (case h => omega))
  | ((with_reducible refine' w_mulL ?h ?q); (case h => omega))
  | with_reducible refine' w_pow_6 ?_
  | with_reducible refine' w_pow_9 ?_
  | with_reducible refine' w_pow_12 ?_
  | with_reducible refine' w_pow_14 ?_
  | with_reducible refine' w_pow_15 ?_
  | with_reducible refine' w_pow_18 ?_
  | with_reducible refine' w_neg ?_
  | ((with_reducible refine' w_eq ?h ?q); (case h => exact rfl))
  | ((with_reducible refine' w_ne ?h ?q); (case h => exact rfl))
  | with_reducible refine' w_abs ?_
  | with_reducible refine' w_int ?_
  | with_reducible refine' w_max ?_
  | with_reducible refine' w_min ?_
  | with_reducible refine' w_count ?_
  | with_reducible refine' w_m1 ?_
  | with_reducible refine' w_bm ?_
  | with_reducible refine' w_listR3 ?_
  | with_reducible refine' w_exs ?_
  | with_reducible refine' w_inS ?_
  | with_reducible refine' w_notInS ?_
  | with_reducible refine' w_for ?_
  | with_reducible refine' w_while ?_
  | with_reducible refine' w_lc ?_
  | with_reducible refine' w_iTup ?_
  | with_reducible refine' w_iList ?_
  | with_reducible refine' w_iRng1 ?_
  | with_reducible refine' w_iRng2 ?_
  | with_reducible refine' w_gName ?_
  | with_reducible refine' w_tYes ?_
  | with_reducible refine' w_tupD ?_
  | with_reducible refine' w_tupF ?_
  | with_reducible refine' w_ltS ?_
  | with_reducible refine' w_leS ?_
  | with_reducible refine' w_dget ?_
  | with_reducible refine' w_dnotin ?_
  | with_reducible refine' w_sl ?_
  | with_reducible refine' w_part ?_
  | with_reducible refine' w_noPart ?_
  | with_reducible refine' w_some ?_
  | with_reducible refine' w_lstD ?_
  | with_reducible refine' w_revT ?_
  | with_reducible refine' w_par ?_
  )
local macro_rules | `(tactic| walk_at "go") => `(tactic| repeat (walk_at "go1"))

def spLaw (K : PySem.W.Frag) : Sp := fun vs H Q _ => ∃ (a : Addr) (ns : List Int), vs = [.ref a] ∧ SqL K H a (ns.map V.int) ∧ ns.length ≤ 63 ∧ ∀ H', Q (.bl true) H'
def oCal : Cal := ⟨"o", [], []⟩
theorem oCal_ok : oCal.Ok := by
  show isCal (encCal oCal) = true
  decide +kernel
theorem oCal_1 : cntF oCal 3 2 = 0 := by
  unfold cntF; rw [if_pos (by decide)]
theorem oCal_2 : cntF oCal 3 3 = 1 := by
  unfold cntF
  rw [if_neg (by decide), RK_rk oCal_ok 3, if_pos (by decide +kernel)]
  omega
theorem cntF_found {c : Cal} (ok : c.Ok) {a f n : Int} (hn : 0 ≤ n) (g1 : openC c f = true) (g2 : RK c f = RK c a + n) : a ≤ f ∧ cntF c a f = n + 1 := by
  have h1 : a ≤ f := rk_lt (RK_rk ok) g1 (by omega)
  refine ⟨h1, ?_⟩
  unfold cntF
  rw [if_neg (by omega), RK_rk ok f, if_pos g1]
  omega
section
variable {P : Program} {w : World} {K : PySem.W.Frag} {mg : Str → Option Value} {base : Heap} {ad : Nat → Addr} {fdd : Nat → FuncData}
theorem ok_law (T : Tx K mg ad fdd) (G_law_hand : FnOk P w K mg base CX0 1 (ad 31) (fdd 31) ["_law_script"] (spHand K)) (G_law_drawC : FnOk P w K mg base CX0 3 (ad 32) (fdd 32) ["_law_hand_here", "_law_size"] (spDraw 1 800000000000000000)) (G_law_calendar : FnOk P w K mg base CX0 3 (ad 34) (fdd 34) ["_law_hand_here"] (spLawCal K)) (G_law_open : FnOk P w K mg base CX0 1 (ad 35) (fdd 35) ["_law_calendar_here", "_law_day_here"] (spLawOpen K)) (G_law_day : FnOk P w K mg base CX0 2 (ad 36) (fdd 36) ["_law_hand_here"] (spLawDayS)) (G_law_count : FnOk P w K mg base CX0 2 (ad 38) (fdd 38) ["_law_calendar_here", "_law_first", "_law_last"] (spLawCount K)) (G_nth_open : FnOk P w K mg base CX0 6 (ad 18) (fdd 18) ["calendar", "day", "number"] (spNth K)) (G_count_open : FnOk P w K mg base CX0 6 (ad 19) (fdd 19) ["calendar", "first", "last"] (spCount K)) : FnOk P w K mg base CX0 7 (ad 39) (fdd 39) ["_law_script"] (spLaw K) := by
  refine T.F_law.ok sc_law (fun vs H Q E h => ?_) (fun cdv A outer s H vs Q E hr h => ?_)
  · obtain ⟨a, ns, rfl, _⟩ := h
    rfl
  · obtain ⟨a, ns, rfl, hs, hn, q⟩ := h
    refine ⟨_, (pss_cons (ps_set (i := 1) sc_law.nd rfl (by first | exact Or.inl rfl | exact Or.inr rfl) (pe_call G_law_hand (hr.mono (by decide)) (by rfl) T.g_law_hand T.F_law_hand.kp T.b_law_hand .nil pass0 (pa_cons (pv 0) pa_nil)))
    (pss_cons (ps_for PassesOwn.never rfl (pi_range1 (by rfl) T.m_range (pa_cons (pe_callB (c_max2 rfl) (by rfl) T.m_max (by decide +kernel) (pa_cons pe_int (pa_cons (pe_callB (c_min2 rfl) (by rfl) T.m_min (by decide +kernel) (pa_cons pe_int (pa_cons (pe_callB (show CallR _ _ (rLen K) from c_len) (by rfl) T.m_len (by decide +kernel) (pa_cons (pv 0) pa_nil)) pa_nil))) pa_nil))) pa_nil)) (pg_name (i := 2) sc_law.nd rfl (by first | exact Or.inl rfl | exact Or.inr rfl))
    (pss_cons (ps_set (i := 3) sc_law.nd rfl (by first | exact Or.inl rfl | exact Or.inr rfl) (pe_call G_law_calendar (hr.mono (by decide)) (by rfl) T.g_law_calendar T.F_law_calendar.kp T.b_law_calendar .nil pass0 (pa_cons (pv 1) pa_nil)))
    (pss_one (ps_for PassesOwn.never rfl (pi_range1 (by rfl) T.m_range (pa_cons pe_int pa_nil)) (pg_name (i := 4) sc_law.nd rfl (by first | exact Or.inl rfl | exact Or.inr rfl))
    (pss_cons (ps_par (i := 5) (j := 6) (by rfl) sc_law.nd rfl rfl (by decide) rfl rfl (pa_cons (pe_call G_law_day (hr.mono (by decide)) (by rfl) T.g_law_day T.F_law_day.kp T.b_law_day .nil pass0 (pa_cons (pv 1) pa_nil)) (pa_cons (pe_op op_sub (pe_call G_law_drawC (hr.mono (by decide)) (by rfl) T.g_law_draw T.F_law_draw.kp T.b_law_draw .nil pass0 (pa_cons (pv 1) (pa_cons pe_int pa_nil))) pe_int) pa_nil)) (by rfl))
    (pss_cons (ps_if (pt_cmpR op_eq (pe_call G_law_drawC (hr.mono (by decide)) (by rfl) T.g_law_draw T.F_law_draw.kp T.b_law_draw .nil pass0 (pa_cons (pv 1) (pa_cons pe_int pa_nil))) pe_int (nomark _))
    (pss_one (ps_par (i := 5) (j := 6) (by rfl) sc_law.nd rfl rfl (by decide) rfl rfl (pa_cons (pv 6) (pa_cons (pv 5) pa_nil)) (by rfl)))
    pss_nil)
    (pss_cons (ps_if (pt_cmpR op_lt (pv 4) pe_int (nomark _))
    (pss_one (ps_set (i := 5) sc_law.nd rfl (by first | exact Or.inl rfl | exact Or.inr rfl) (pe_op op_sub (pe_op op_add (pv 6) (pe_call G_law_drawC (hr.mono (by decide)) (by rfl) T.g_law_draw T.F_law_draw.kp T.b_law_draw .nil pass0 (pa_cons (pv 1) (pa_cons pe_int pa_nil)))) pe_int)))
    pss_nil)
    (pss_cons (ps_if (pt_cmpR op_ne (pe_call G_count_open (hr.mono (by decide)) (by rfl) T.g_count_open T.F_count_open.kp T.b_count_open .nil pass0 (pa_cons (pv 3) (pa_cons (pv 5) (pa_cons (pv 6) pa_nil)))) (pe_call G_law_count (hr.mono (by decide)) (by rfl) T.g_law_count T.F_law_count.kp T.b_law_count .nil pass0 (pa_cons (pv 3) (pa_cons (pv 5) (pa_cons (pv 6) pa_nil)))) (nomark _))
    (pss_one (ps_ret pe_bl))
    pss_nil)
    (pss_cons (ps_set (i := 7) sc_law.nd rfl (by first | exact Or.inl rfl | exact Or.inr rfl) (pe_call G_law_drawC (hr.mono (by decide)) (by rfl) T.g_law_draw T.F_law_draw.kp T.b_law_draw .nil pass0 (pa_cons (pv 1) (pa_cons (pe_ix (show IxR _ (rIxL K) from ix_list) (pe_lst (pa_cons pe_int (pa_cons pe_int (pa_cons (pe_op op_add (pe_op op_pow pe_int pe_int) pe_int) pa_nil)))) (pe_call G_law_drawC (hr.mono (by decide)) (by rfl) T.g_law_draw T.F_law_draw.kp T.b_law_draw .nil pass0 (pa_cons (pv 1) (pa_cons pe_int pa_nil))) (fun _ _ => rfl)) pa_nil))))
    (pss_cons (ps_set (i := 8) sc_law.nd rfl (by first | exact Or.inl rfl | exact Or.inr rfl) (pe_call G_nth_open (hr.mono (by decide)) (by rfl) T.g_nth_open T.F_nth_open.kp T.b_nth_open .nil pass0 (pa_cons (pv 3) (pa_cons (pv 5) (pa_cons (pv 7) pa_nil)))))
    (pss_cons (ps_if (PW.pt (pw_or (pt_not (pt_val (pe_callB (show CallR _ _ (rIsi K) from call_isi) (by rfl) T.m_isinstance (by decide +kernel) (pa_cons (pv 8) (pa_cons (pe_bltn (v := .ty "int") rfl T.m_int (by decide +kernel) rfl) pa_nil))))) (pw_or (pt_val (pe_callB (show CallR _ _ (rIsi K) from call_isi) (by rfl) T.m_isinstance (by decide +kernel) (pa_cons (pv 8) (pa_cons (pe_bltn (v := .ty "bool") rfl T.m_bool (by decide +kernel) rfl) pa_nil)))) (pw_or (pt_cmpR op_lt (pv 8) (pv 5) (nomark _)) (pw_or1 (pt_not (pt_val (pe_call G_law_open (hr.mono (by decide)) (by rfl) T.g_law_open T.F_law_open.kp T.b_law_open .nil pass0 (pa_cons (pv 3) (pa_cons (pv 8) pa_nil))))))))))
    (pss_one (ps_ret pe_bl))
    pss_nil)
    (pss_cons (ps_if (pt_cmpR op_ne (pe_call G_law_count (hr.mono (by decide)) (by rfl) T.g_law_count T.F_law_count.kp T.b_law_count .nil pass0 (pa_cons (pv 3) (pa_cons (pv 5) (pa_cons (pv 8) pa_nil)))) (pe_op op_add (pv 7) pe_int) (nomark _))
    (pss_one (ps_ret pe_bl))
    pss_nil)
    (pss_cons (ps_if (pt_cmpR op_ne (pe_callK0 G_nth_open (hr.mono (by decide)) (by rfl) T.g_nth_open T.F_nth_open.kp (T.kb_nth_open_0_number_day_calendar) pass0 (pk_cons (pv 7) (pk_cons (pv 5) (pk_cons (pv 3) pk_nil)))) (pv 8) (nomark _))
    (pss_one (ps_ret pe_bl))
    pss_nil)
    (pss_one (ps_if (pt_cmpR op_ne (pe_callK0 G_count_open (hr.mono (by decide)) (by rfl) T.g_count_open T.F_count_open.kp (T.kb_count_open_0_last_first_calendar) pass0 (pk_cons (pv 6) (pk_cons (pv 5) (pk_cons (pv 3) pk_nil)))) (pe_call G_law_count (hr.mono (by decide)) (by rfl) T.g_law_count T.F_law_count.kp T.b_law_count .nil pass0 (pa_cons (pv 3) (pa_cons (pv 5) (pa_cons (pv 6) pa_nil)))) (nomark _))
    (pss_one (ps_ret pe_bl))
    pss_nil)))))))))))))))
    (pss_one (ps_ret (pe_and (pe_cmpR op_eq (pe_call G_count_open (hr.mono (by decide)) (by rfl) T.g_count_open T.F_count_open.kp T.b_count_open .nil pass0 (pa_cons (pe_tup (pa_cons pe_str (pa_cons (pe_tupF pa_nil) (pa_cons (pe_tupF pa_nil) pa_nil)))) (pa_cons pe_int (pa_cons pe_int pa_nil)))) pe_int (nomark _)) (pe_one (pe_cmpR op_eq (pe_call G_count_open (hr.mono (by decide)) (by rfl) T.g_count_open T.F_count_open.kp T.b_count_open .nil pass0 (pa_cons (pe_tup (pa_cons pe_str (pa_cons (pe_tupF pa_nil) (pa_cons (pe_tupF pa_nil) pa_nil)))) (pa_cons pe_int (pa_cons pe_int pa_nil)))) pe_int (nomark _)))))))), ?_⟩
    dsimp only [L2.start, N_law, cxOf, Cx.nox, Cx.wish]
    walk_at "go"
    refine ⟨a, ns, rfl, hs, fun h sc H1 nh e1 hh1 => ?_⟩
    walk_at "go"
    refine w_lenL (e1.sqL hs) ?_
    walk_at "go"
    refine w_loopR ?_ ?_
    · rw [List.length_map]; split <;> split <;> omega
    refine for_range (fun i σ' H' => Hand H' h sc ∧ ∃ y2 y3 y4 y5 y6 y7 y8, σ' = [some (.ref a), some (.ref h), y2, y3, y4, y5, y6, y7, y8]) ⟨hh1, _, _, _, _, _, _, _, rfl⟩ (fun i0 σ' H2 hi p => ?_) (fun σ' H2 p => ?_)
    · obtain ⟨hh2, y2, y3, y4, y5, y6, y7, y8, rfl⟩ := p
      walk_at "go"
      refine ⟨h, sc, rfl, hh2, fun vc c H3 hh3 e3 hv3 ok => ?_⟩
      walk_at "go"
      refine w_loopR ⟨by decide, by decide⟩ ?_
      refine for_range (fun i σ' H' => Hand H' h sc ∧ Rp K H' vc (encCal c) ∧ ∃ y4 y5 y6 y7 y8, σ' = [some (.ref a), some (.ref h), some (.int (0 + (i0 : Int))), some vc, y4, y5, y6, y7, y8]) ⟨hh3, hv3, _, _, _, _, _, rfl⟩ (fun i1 σ' H7 hi p => ?_) (fun σ' H7 p => ?_)
      · obtain ⟨hh7, hv7, y4, y5, y6, y7, y8, rfl⟩ := p
        walk_at "go"
        refine ⟨h, sc, rfl, hh7, fun d H8 hh8 e8 hd => ?_⟩
        obtain ⟨hd0, hd1⟩ := hd
        walk_at "go"
        refine ⟨h, sc, 121, rfl, hh8, by decide, by decide, fun k9 H9 k90 k91 hh9 e9 => ?_⟩
        walk_at "go"
        refine ⟨_, _, rfl, ?_⟩
        walk_at "go"
        refine ⟨h, sc, 2, rfl, hh9, by decide, by decide, fun k10 H10 k100 k101 hh10 e10 => ?_⟩
        have hv10 := hv7.mono ((e8.trans e9).trans e10)
        walk_at "go"
        refine w_dec (fun c3 => ?_) (fun c3 => ?_)
        · walk_at "go"
          refine ⟨_, _, rfl, ?_⟩
          walk_at "go"
          refine w_dec (fun c4 => ?_) (fun c4 => ?_)
          · walk_at "go"
            refine ⟨h, sc, 41, rfl, hh10, by decide, by decide, fun k14 H14 k140 k141 hh14 e14 => ?_⟩
            walk_at "go"
            have ho1 : -300000000000000 ≤ (d + k14 - 20) ∧ (d + k14 - 20) ≤ 300000000000000 := ⟨by omega, by omega⟩
            have ho2 : -300000000000000 ≤ d ∧ d ≤ 300000000000000 := ⟨by omega, by omega⟩
            generalize (d + k14 - 20) = one at ho1 ⊢
            generalize d = other at ho2 ⊢
            have d1 : dayOk one := ⟨by omega, by omega⟩
            have d2 : dayOk other := ⟨by omega, by omega⟩
            have b1 : bigOk one := ⟨by omega, by omega⟩
            have b2 : bigOk other := ⟨by omega, by omega⟩
            have hvA := (hv10.mono e14)
            have hhA := hh14
            refine ⟨vc, c, one, other, rfl, hvA, ok, d1, d2, fun H21 e21 => ?_⟩
            walk_at "go"
            refine ⟨vc, c, one, other, rfl, hvA.mono e21.b, ok, b1, b2, fun H22 e22 => ?_⟩
            have eA := e21.trans e22
            have hvB := hvA.mono eA.b
            have hhB := hhA.ex eA
            walk_at "go"
            refine w_ndec (fun z => absurd rfl z) (fun _ => ?_)
            walk_at "go"
            refine w_new (by exact Nat.le_of_ble_eq_true rfl) fun p23 H23 np23 e23 hp23 _ => ?_
            walk_at "go"
            refine ⟨h, sc, 3, rfl, hhB.ex e23, by decide, by decide, fun k24 H24 k240 k241 hh24 e24 => ?_⟩
            walk_at "go"
            have hk : ∃ j : Int, atI [V.int 3, V.int 41, V.int (1000000000000000 + 1)] k24 = some (.int j) ∧ 1 ≤ j ∧ j ≤ 1000000000000001 := by
              have : k24 = 0 ∨ k24 = 1 ∨ k24 = 2 := by omega
              rcases this with rfl | rfl | rfl
              · exact ⟨3, rfl, by decide, by decide⟩
              · exact ⟨41, rfl, by decide, by decide⟩
              · exact ⟨1000000000000000 + 1, rfl, by decide, by decide⟩
            obtain ⟨m, hm, m0, m1⟩ := hk
            refine w_ixL (sq_of (e24 _ _ hp23 rfl)) hm ?_
            walk_at "go"
            refine ⟨h, sc, m, rfl, hh24, m0, by omega, fun n H25 n0 n1 hh25 e25 => ?_⟩
            have hvC := hvB.mono ((e23.b.trans e24).trans e25)
            walk_at "go"
            refine ⟨vc, c, one, n, rfl, hvC, ok, d1, ⟨n0, by omega⟩, fun f H26 e26 g1 g2 g3 => ?_⟩
            obtain ⟨hof, hcf⟩ := cntF_found ok n0 g1 g2
            have hvD := hvC.mono e26.b
            walk_at "go"
            refine w_isiInt (.int f) ?_
            walk_at "go"
            refine w_nF rfl ?_
            walk_at "go"
            refine w_isiBool (.int f) ?_
            walk_at "go"
            refine w_F rfl ?_
            walk_at "go"
            refine w_dec (fun z => absurd z (by omega)) (fun _ => ?_)
            walk_at "go"
            refine ⟨vc, c, f, rfl, hvD, ok, fun H27 e27 => ?_⟩
            walk_at "go"
            refine w_nF g1 ?_
            walk_at "go"
            have hvE := hvD.mono e27.b
            have bf : bigOk f := ⟨by omega, by omega⟩
            refine ⟨vc, c, one, f, rfl, hvE, ok, b1, bf, fun H28 e28 => ?_⟩
            rw [hcf]
            walk_at "go"
            refine w_ndec (fun z => absurd rfl z) (fun _ => ?_)
            walk_at "go"
            have hvF := hvE.mono e28.b
            refine ⟨vc, c, one, n, rfl, hvF, ok, d1, ⟨n0, by omega⟩, fun f2 H29 e29 g1' g2' g3' => ?_⟩
            have hff : f2 = f := rk_inj (RK_rk ok) g1' g1 (by omega)
            subst hff
            walk_at "go"
            refine w_ndec (fun z => absurd rfl z) (fun _ => ?_)
            walk_at "go"
            have hvG := hvF.mono e29.b
            refine ⟨vc, c, one, other, rfl, hvG, ok, d1, d2, fun H30 e30 => ?_⟩
            walk_at "go"
            refine ⟨vc, c, one, other, rfl, hvG.mono e30.b, ok, b1, b2, fun H31 e31 => ?_⟩
            walk_at "go"
            refine w_ndec (fun z => absurd rfl z) (fun _ => ?_)
            walk_at "go"
            have eZ := ((((e26.trans e27).trans e28).trans e29).trans e30).trans e31
            exact ⟨hh25.ex eZ, hvC.mono eZ.b, _, _, _, _, _, rfl⟩

          · walk_at "go"
            have ho1 : -300000000000000 ≤ (k9 - 60) ∧ (k9 - 60) ≤ 300000000000000 := ⟨by omega, by omega⟩
            have ho2 : -300000000000000 ≤ d ∧ d ≤ 300000000000000 := ⟨by omega, by omega⟩
            generalize (k9 - 60) = one at ho1 ⊢
            generalize d = other at ho2 ⊢
            have d1 : dayOk one := ⟨by omega, by omega⟩
            have d2 : dayOk other := ⟨by omega, by omega⟩
            have b1 : bigOk one := ⟨by omega, by omega⟩
            have b2 : bigOk other := ⟨by omega, by omega⟩
            have hvA := hv10
            have hhA := hh10
            refine ⟨vc, c, one, other, rfl, hvA, ok, d1, d2, fun H21 e21 => ?_⟩
            walk_at "go"
            refine ⟨vc, c, one, other, rfl, hvA.mono e21.b, ok, b1, b2, fun H22 e22 => ?_⟩
            have eA := e21.trans e22
            have hvB := hvA.mono eA.b
            have hhB := hhA.ex eA
            walk_at "go"
            refine w_ndec (fun z => absurd rfl z) (fun _ => ?_)
            walk_at "go"
            refine w_new (by exact Nat.le_of_ble_eq_true rfl) fun p23 H23 np23 e23 hp23 _ => ?_
            walk_at "go"
            refine ⟨h, sc, 3, rfl, hhB.ex e23, by decide, by decide, fun k24 H24 k240 k241 hh24 e24 => ?_⟩
            walk_at "go"
            have hk : ∃ j : Int, atI [V.int 3, V.int 41, V.int (1000000000000000 + 1)] k24 = some (.int j) ∧ 1 ≤ j ∧ j ≤ 1000000000000001 := by
              have : k24 = 0 ∨ k24 = 1 ∨ k24 = 2 := by omega
              rcases this with rfl | rfl | rfl
              · exact ⟨3, rfl, by decide, by decide⟩
              · exact ⟨41, rfl, by decide, by decide⟩
              · exact ⟨1000000000000000 + 1, rfl, by decide, by decide⟩
            obtain ⟨m, hm, m0, m1⟩ := hk
            refine w_ixL (sq_of (e24 _ _ hp23 rfl)) hm ?_
            walk_at "go"
            refine ⟨h, sc, m, rfl, hh24, m0, by omega, fun n H25 n0 n1 hh25 e25 => ?_⟩
            have hvC := hvB.mono ((e23.b.trans e24).trans e25)
            walk_at "go"
            refine ⟨vc, c, one, n, rfl, hvC, ok, d1, ⟨n0, by omega⟩, fun f H26 e26 g1 g2 g3 => ?_⟩
            obtain ⟨hof, hcf⟩ := cntF_found ok n0 g1 g2
            have hvD := hvC.mono e26.b
            walk_at "go"
            refine w_isiInt (.int f) ?_
            walk_at "go"
            refine w_nF rfl ?_
            walk_at "go"
            refine w_isiBool (.int f) ?_
            walk_at "go"
            refine w_F rfl ?_
            walk_at "go"
            refine w_dec (fun z => absurd z (by omega)) (fun _ => ?_)
            walk_at "go"
            refine ⟨vc, c, f, rfl, hvD, ok, fun H27 e27 => ?_⟩
            walk_at "go"
            refine w_nF g1 ?_
            walk_at "go"
            have hvE := hvD.mono e27.b
            have bf : bigOk f := ⟨by omega, by omega⟩
            refine ⟨vc, c, one, f, rfl, hvE, ok, b1, bf, fun H28 e28 => ?_⟩
            rw [hcf]
            walk_at "go"
            refine w_ndec (fun z => absurd rfl z) (fun _ => ?_)
            walk_at "go"
            have hvF := hvE.mono e28.b
            refine ⟨vc, c, one, n, rfl, hvF, ok, d1, ⟨n0, by omega⟩, fun f2 H29 e29 g1' g2' g3' => ?_⟩
            have hff : f2 = f := rk_inj (RK_rk ok) g1' g1 (by omega)
            subst hff
            walk_at "go"
            refine w_ndec (fun z => absurd rfl z) (fun _ => ?_)
            walk_at "go"
            have hvG := hvF.mono e29.b
            refine ⟨vc, c, one, other, rfl, hvG, ok, d1, d2, fun H30 e30 => ?_⟩
            walk_at "go"
            refine ⟨vc, c, one, other, rfl, hvG.mono e30.b, ok, b1, b2, fun H31 e31 => ?_⟩
            walk_at "go"
            refine w_ndec (fun z => absurd rfl z) (fun _ => ?_)
            walk_at "go"
            have eZ := ((((e26.trans e27).trans e28).trans e29).trans e30).trans e31
            exact ⟨hh25.ex eZ, hvC.mono eZ.b, _, _, _, _, _, rfl⟩

        · walk_at "go"
          refine w_dec (fun c4 => ?_) (fun c4 => ?_)
          · walk_at "go"
            refine ⟨h, sc, 41, rfl, hh10, by decide, by decide, fun k14 H14 k140 k141 hh14 e14 => ?_⟩
            walk_at "go"
            have ho1 : -300000000000000 ≤ ((k9 - 60) + k14 - 20) ∧ ((k9 - 60) + k14 - 20) ≤ 300000000000000 := ⟨by omega, by omega⟩
            have ho2 : -300000000000000 ≤ (k9 - 60) ∧ (k9 - 60) ≤ 300000000000000 := ⟨by omega, by omega⟩
            generalize ((k9 - 60) + k14 - 20) = one at ho1 ⊢
            generalize (k9 - 60) = other at ho2 ⊢
            have d1 : dayOk one := ⟨by omega, by omega⟩
            have d2 : dayOk other := ⟨by omega, by omega⟩
            have b1 : bigOk one := ⟨by omega, by omega⟩
            have b2 : bigOk other := ⟨by omega, by omega⟩
            have hvA := (hv10.mono e14)
            have hhA := hh14
            refine ⟨vc, c, one, other, rfl, hvA, ok, d1, d2, fun H21 e21 => ?_⟩
            walk_at "go"
            refine ⟨vc, c, one, other, rfl, hvA.mono e21.b, ok, b1, b2, fun H22 e22 => ?_⟩
            have eA := e21.trans e22
            have hvB := hvA.mono eA.b
            have hhB := hhA.ex eA
            walk_at "go"
            refine w_ndec (fun z => absurd rfl z) (fun _ => ?_)
            walk_at "go"
            refine w_new (by exact Nat.le_of_ble_eq_true rfl) fun p23 H23 np23 e23 hp23 _ => ?_
            walk_at "go"
            refine ⟨h, sc, 3, rfl, hhB.ex e23, by decide, by decide, fun k24 H24 k240 k241 hh24 e24 => ?_⟩
            walk_at "go"
            have hk : ∃ j : Int, atI [V.int 3, V.int 41, V.int (1000000000000000 + 1)] k24 = some (.int j) ∧ 1 ≤ j ∧ j ≤ 1000000000000001 := by
              have : k24 = 0 ∨ k24 = 1 ∨ k24 = 2 := by omega
              rcases this with rfl | rfl | rfl
              · exact ⟨3, rfl, by decide, by decide⟩
              · exact ⟨41, rfl, by decide, by decide⟩
              · exact ⟨1000000000000000 + 1, rfl, by decide, by decide⟩
            obtain ⟨m, hm, m0, m1⟩ := hk
            refine w_ixL (sq_of (e24 _ _ hp23 rfl)) hm ?_
            walk_at "go"
            refine ⟨h, sc, m, rfl, hh24, m0, by omega, fun n H25 n0 n1 hh25 e25 => ?_⟩
            have hvC := hvB.mono ((e23.b.trans e24).trans e25)
            walk_at "go"
            refine ⟨vc, c, one, n, rfl, hvC, ok, d1, ⟨n0, by omega⟩, fun f H26 e26 g1 g2 g3 => ?_⟩
            obtain ⟨hof, hcf⟩ := cntF_found ok n0 g1 g2
            have hvD := hvC.mono e26.b
            walk_at "go"
            refine w_isiInt (.int f) ?_
            walk_at "go"
            refine w_nF rfl ?_
            walk_at "go"
            refine w_isiBool (.int f) ?_
            walk_at "go"
            refine w_F rfl ?_
            walk_at "go"
            refine w_dec (fun z => absurd z (by omega)) (fun _ => ?_)
            walk_at "go"
            refine ⟨vc, c, f, rfl, hvD, ok, fun H27 e27 => ?_⟩
            walk_at "go"
            refine w_nF g1 ?_
            walk_at "go"
            have hvE := hvD.mono e27.b
            have bf : bigOk f := ⟨by omega, by omega⟩
            refine ⟨vc, c, one, f, rfl, hvE, ok, b1, bf, fun H28 e28 => ?_⟩
            rw [hcf]
            walk_at "go"
            refine w_ndec (fun z => absurd rfl z) (fun _ => ?_)
            walk_at "go"
            have hvF := hvE.mono e28.b
            refine ⟨vc, c, one, n, rfl, hvF, ok, d1, ⟨n0, by omega⟩, fun f2 H29 e29 g1' g2' g3' => ?_⟩
            have hff : f2 = f := rk_inj (RK_rk ok) g1' g1 (by omega)
            subst hff
            walk_at "go"
            refine w_ndec (fun z => absurd rfl z) (fun _ => ?_)
            walk_at "go"
            have hvG := hvF.mono e29.b
            refine ⟨vc, c, one, other, rfl, hvG, ok, d1, d2, fun H30 e30 => ?_⟩
            walk_at "go"
            refine ⟨vc, c, one, other, rfl, hvG.mono e30.b, ok, b1, b2, fun H31 e31 => ?_⟩
            walk_at "go"
            refine w_ndec (fun z => absurd rfl z) (fun _ => ?_)
            walk_at "go"
            have eZ := ((((e26.trans e27).trans e28).trans e29).trans e30).trans e31
            exact ⟨hh25.ex eZ, hvC.mono eZ.b, _, _, _, _, _, rfl⟩

          · walk_at "go"
            have ho1 : -300000000000000 ≤ d ∧ d ≤ 300000000000000 := ⟨by omega, by omega⟩
            have ho2 : -300000000000000 ≤ (k9 - 60) ∧ (k9 - 60) ≤ 300000000000000 := ⟨by omega, by omega⟩
            generalize d = one at ho1 ⊢
            generalize (k9 - 60) = other at ho2 ⊢
            have d1 : dayOk one := ⟨by omega, by omega⟩
            have d2 : dayOk other := ⟨by omega, by omega⟩
            have b1 : bigOk one := ⟨by omega, by omega⟩
            have b2 : bigOk other := ⟨by omega, by omega⟩
            have hvA := hv10
            have hhA := hh10
            refine ⟨vc, c, one, other, rfl, hvA, ok, d1, d2, fun H21 e21 => ?_⟩
            walk_at "go"
            refine ⟨vc, c, one, other, rfl, hvA.mono e21.b, ok, b1, b2, fun H22 e22 => ?_⟩
            have eA := e21.trans e22
            have hvB := hvA.mono eA.b
            have hhB := hhA.ex eA
            walk_at "go"
            refine w_ndec (fun z => absurd rfl z) (fun _ => ?_)
            walk_at "go"
            refine w_new (by exact Nat.le_of_ble_eq_true rfl) fun p23 H23 np23 e23 hp23 _ => ?_
            walk_at "go"
            refine ⟨h, sc, 3, rfl, hhB.ex e23, by decide, by decide, fun k24 H24 k240 k241 hh24 e24 => ?_⟩
            walk_at "go"
            have hk : ∃ j : Int, atI [V.int 3, V.int 41, V.int (1000000000000000 + 1)] k24 = some (.int j) ∧ 1 ≤ j ∧ j ≤ 1000000000000001 := by
              have : k24 = 0 ∨ k24 = 1 ∨ k24 = 2 := by omega
              rcases this with rfl | rfl | rfl
              · exact ⟨3, rfl, by decide, by decide⟩
              · exact ⟨41, rfl, by decide, by decide⟩
              · exact ⟨1000000000000000 + 1, rfl, by decide, by decide⟩
            obtain ⟨m, hm, m0, m1⟩ := hk
            refine w_ixL (sq_of (e24 _ _ hp23 rfl)) hm ?_
            walk_at "go"
            refine ⟨h, sc, m, rfl, hh24, m0, by omega, fun n H25 n0 n1 hh25 e25 => ?_⟩
            have hvC := hvB.mono ((e23.b.trans e24).trans e25)
            walk_at "go"
            refine ⟨vc, c, one, n, rfl, hvC, ok, d1, ⟨n0, by omega⟩, fun f H26 e26 g1 g2 g3 => ?_⟩
            obtain ⟨hof, hcf⟩ := cntF_found ok n0 g1 g2
            have hvD := hvC.mono e26.b
            walk_at "go"
            refine w_isiInt (.int f) ?_
            walk_at "go"
            refine w_nF rfl ?_
            walk_at "go"
            refine w_isiBool (.int f) ?_
            walk_at "go"
            refine w_F rfl ?_
            walk_at "go"
            refine w_dec (fun z => absurd z (by omega)) (fun _ => ?_)
            walk_at "go"
            refine ⟨vc, c, f, rfl, hvD, ok, fun H27 e27 => ?_⟩
            walk_at "go"
            refine w_nF g1 ?_
            walk_at "go"
            have hvE := hvD.mono e27.b
            have bf : bigOk f := ⟨by omega, by omega⟩
            refine ⟨vc, c, one, f, rfl, hvE, ok, b1, bf, fun H28 e28 => ?_⟩
            rw [hcf]
            walk_at "go"
            refine w_ndec (fun z => absurd rfl z) (fun _ => ?_)
            walk_at "go"
            have hvF := hvE.mono e28.b
            refine ⟨vc, c, one, n, rfl, hvF, ok, d1, ⟨n0, by omega⟩, fun f2 H29 e29 g1' g2' g3' => ?_⟩
            have hff : f2 = f := rk_inj (RK_rk ok) g1' g1 (by omega)
            subst hff
            walk_at "go"
            refine w_ndec (fun z => absurd rfl z) (fun _ => ?_)
            walk_at "go"
            have hvG := hvF.mono e29.b
            refine ⟨vc, c, one, other, rfl, hvG, ok, d1, d2, fun H30 e30 => ?_⟩
            walk_at "go"
            refine ⟨vc, c, one, other, rfl, hvG.mono e30.b, ok, b1, b2, fun H31 e31 => ?_⟩
            walk_at "go"
            refine w_ndec (fun z => absurd rfl z) (fun _ => ?_)
            walk_at "go"
            have eZ := ((((e26.trans e27).trans e28).trans e29).trans e30).trans e31
            exact ⟨hh25.ex eZ, hvC.mono eZ.b, _, _, _, _, _, rfl⟩

      · obtain ⟨hh7, hv7, y4, y5, y6, y7, y8, rfl⟩ := p
        walk_at "go"
        exact ⟨hh7, _, _, _, _, _, _, _, rfl⟩
    · obtain ⟨hh2, y2, y3, y4, y5, y6, y7, y8, rfl⟩ := p
      walk_at "go"
      refine w_newF (xs := []) (by exact Nat.le_of_ble_eq_true rfl) fun p3 o3 H3 np3 e3 ho3 hp3 => ?_
      walk_at "go"
      refine w_newF (xs := []) (by exact Nat.le_of_ble_eq_true rfl) fun p4 o4 H4 np4 e4 ho4 hp4 => ?_
      walk_at "go"
      refine w_new (by exact Nat.le_of_ble_eq_true rfl) fun p5 H5 np5 e5 hp5 _ => ?_
      walk_at "go"
      refine ⟨.ref p5, oCal, 3, 2, rfl, .tup (st_of hp5) (.cons (.str _) (.cons (.tup (e5.b.tup (e4.b.tup (sf_of hp3))) .nil) (.cons (.tup (e5.b.tup (sf_of hp4)) .nil) .nil))), oCal_ok, ⟨by decide, by decide⟩, ⟨by decide, by decide⟩, fun H6 e6 => ?_⟩
      rw [oCal_1]
      walk_at "go"
      refine w_dec (fun _ => ?_) (fun z => absurd rfl z)
      walk_at "go"
      refine w_newF (xs := []) (by exact Nat.le_of_ble_eq_true rfl) fun p7 o7 H7 np7 e7 ho7 hp7 => ?_
      walk_at "go"
      refine w_newF (xs := []) (by exact Nat.le_of_ble_eq_true rfl) fun p8 o8 H8 np8 e8 ho8 hp8 => ?_
      walk_at "go"
      refine w_new (by exact Nat.le_of_ble_eq_true rfl) fun p9 H9 np9 e9 hp9 _ => ?_
      walk_at "go"
      refine ⟨.ref p9, oCal, 3, 3, rfl, .tup (st_of hp9) (.cons (.str _) (.cons (.tup (e9.b.tup (e8.b.tup (sf_of hp7))) .nil) (.cons (.tup (e9.b.tup (sf_of hp8)) .nil) .nil))), oCal_ok, ⟨by decide, by decide⟩, ⟨by decide, by decide⟩, fun H10 e10 => ?_⟩
      rw [oCal_2]
      walk_at "go"
      exact q H10
end
end J
namespace J
open PySem PySem.Spec PyProof.Rows L2
local macro_rules | `(tactic| walk_at "go1") => `(tactic| first
  | with_reducible refine' w_seq ?_
  | with_reducible refine' w_next ?_
  | with_reducible refine' w_brk ?_
  | with_reducible refine' w_cont ?_
  | with_reducible refine' w_asg ?_
  | with_reducible refine' w_asgG ?_
  | with_reducible refine' w_gSub ?_
  | with_reducible refine' w_ret ?_
  | with_reducible refine' w_retN ?_
  | with_reducible refine' w_drop ?_
  | with_reducible refine' w_ifS ?_
  | ((with_reducible refine' w_isAug ?_); refine w_aug rfl ?_)
  | with_reducible refine' w_ipadd ?_
  | with_reducible refine' w_ipsub ?_
  | ((with_reducible refine' w_isVar ?_); refine w_var rfl ?_)
  | with_reducible refine' w_c ?_
  | with_reducible refine' w_nil ?_
  | with_reducible refine' w_cons ?_
  | with_reducible refine' w_op ?_
  | with_reducible refine' w_un ?_
  | with_reducible refine' w_cb ?_
  | with_reducible refine' w_call ?_
  | with_reducible refine' w_callK ?_
  | with_reducible refine' w_test ?_
  | with_reducible refine' w_tB ?_
  | with_reducible refine' w_and ?_
  | with_reducible refine' w_or ?_
  | with_reducible refine' w_not ?_
  | with_reducible refine' w_andV ?_
  | with_reducible refine' w_orV ?_
  | with_reducible refine' w_notV ?_
  | with_reducible refine' w_if ?_
  | with_reducible refine' w_chain ?_
  | with_reducible refine' w_exb ?_
  | with_reducible refine' w_add ?_
  | with_reducible refine' w_sub ?_
  | with_reducible refine' w_lt ?_
  | with_reducible refine' w_le ?_
  | with_reducible refine' w_gt ?_
  | with_reducible refine' w_ge ?_
  | ((with_reducible refine' w_mod ?h ?q); (case h => first | decide | omega))
  | ((with_reducible refine' w_fdiv ?h ?h2 ?q); (case h => first | decide | omega); (case h2 => first | decide | omega))
  | ((with_reducible refine' w_mulR ?h ?q); (case h => omega))
  | ((with_reducible refine' w_mulL ?h ?q); (case h => omega))
  | with_reducible refine' w_pow_6 ?_
  | with_reducible refine' w_pow_9 ?_
  | with_reducible refine' w_pow_12 ?_
  | with_reducible refine' w_pow_14 ?_
  | with_reducible refine' w_pow_15 ?_
  | with_reducible refine' w_pow_18 ?_
  | with_reducible refine' w_neg ?_
  | ((with_reducible refine' w_eq ?h ?q); (case h => exact rfl))
  | ((with_reducible refine' w_ne ?h ?q); (case h => exact rfl))
  | with_reducible refine' w_abs ?_
  | with_reducible refine' w_int ?_
  | with_reducible refine' w_max ?_
  | with_reducible refine' w_min ?_
  | with_reducible refine' w_count ?_
  | with_reducible refine' w_m1 ?_
  | with_reducible refine' w_bm ?_
  | with_reducible refine' w_listR3 ?_
  | with_reducible refine' w_exs ?_
  | with_reducible refine' w_inS ?_
  | with_reducible refine' w_notInS ?_
  | with_reducible refine' w_for ?_
  | with_reducible refine' w_while ?_
  | with_reducible refine' w_lc ?_
  | with_reducible refine' w_iTup ?_
  | with_reducible refine' w_iList ?_
  | with_reducible refine' w_iRng1 ?_
  | with_reducible refine' w_iRng2 ?_
  | with_reducible refine' w_gName ?_
  | with_reducible refine' w_tYes ?_
  | with_reducible refine' w_tupD ?_
  | with_reducible refine' w_tupF ?_
  | with_reducible refine' w_ltS ?_
  | with_reducible refine' w_leS ?_
  | with_reducible refine' w_dget ?_
  | with_reducible refine' w_dnotin ?_
  | with_reducible refine' w_sl ?_
  | with_reducible refine' w_part ?_
  | with_reducible refine' w_noPart ?_
  | with_reducible refine' w_some ?_
  | with_reducible refine' w_lstD ?_
  | with_reducible refine' w_revT ?_
  | with_reducible refine' w_par ?_
  )
local macro_rules | `(tactic| walk_at "go") => `(tactic| repeat (walk_at "go1"))
theorem kbp_kb_nth_open_0_number_day_calendar {K : PySem.W.Frag} (fd : FuncData) (h : ∀ (s : Shared) (w0 w1 w2 : Value), BindsTo s fd ⟨[], [("number", w0), ("day", w1), ("calendar", w2)]⟩ [("calendar", w2), ("day", w1), ("number", w0)]) : KBinds K fd ["calendar", "day", "number"] ["number", "day", "calendar"] (kg_kb_nth_open_0_number_day_calendar) (kgV_kb_nth_open_0_number_day_calendar) := by
  refine ⟨fun s us ws _ hl => ?_, fun {vs us zs ws} r rz => ?_⟩
  · unfold kg_kb_nth_open_0_number_day_calendar at hl ⊢
    split at hl
    · exact h s _ _ _
    · cases hl
  · cases r with
    | nil =>
      cases rz with
      | nil => exact .nil
      | cons hw0 rz =>
        cases rz with
        | nil => exact .nil
        | cons hw1 rz =>
          cases rz with
          | nil => exact .nil
          | cons hw2 rz =>
            cases rz with
            | nil =>
              exact .cons hw2 (.cons hw1 (.cons hw0 (.nil)))
            | cons _ _ => exact .nil
    | cons _ _ => exact .nil
theorem kbp_kb_count_open_0_last_first_calendar {K : PySem.W.Frag} (fd : FuncData) (h : ∀ (s : Shared) (w0 w1 w2 : Value), BindsTo s fd ⟨[], [("last", w0), ("first", w1), ("calendar", w2)]⟩ [("calendar", w2), ("first", w1), ("last", w0)]) : KBinds K fd ["calendar", "first", "last"] ["last", "first", "calendar"] (kg_kb_count_open_0_last_first_calendar) (kgV_kb_count_open_0_last_first_calendar) := by
  refine ⟨fun s us ws _ hl => ?_, fun {vs us zs ws} r rz => ?_⟩
  · unfold kg_kb_count_open_0_last_first_calendar at hl ⊢
    split at hl
    · exact h s _ _ _
    · cases hl
  · cases r with
    | nil =>
      cases rz with
      | nil => exact .nil
      | cons hw0 rz =>
        cases rz with
        | nil => exact .nil
        | cons hw1 rz =>
          cases rz with
          | nil => exact .nil
          | cons hw2 rz =>
            cases rz with
            | nil =>
              exact .cons hw2 (.cons hw1 (.cons hw0 (.nil)))
            | cons _ _ => exact .nil
    | cons _ _ => exact .nil
section
theorem all_mk {l : PySem.W.OpenLaw} {w : World} {K : PySem.W.Frag} {h : Heap} {mg : Str → Option Value} {fa : Addr} (X : K.In h) (G : h.Ns mainGlobals mg) (hfa : mg "law" = some (.ref fa))
    {f7 : Addr} {od7 an7 : Option Addr} {sl7 : Array (Option Value)} {oc7 kV7 dc7 pm7 cd7 ct7 : Value} {f8 : Addr} {od8 an8 : Option Addr} {sl8 : Array (Option Value)} {oc8 kV8 dc8 pm8 cd8 ct8 : Value} {f9 : Addr} {od9 an9 : Option Addr} {sl9 : Array (Option Value)} {oc9 kV9 dc9 pm9 cd9 ct9 : Value} {f10 : Addr} {od10 an10 : Option Addr} {sl10 : Array (Option Value)} {oc10 kV10 dc10 pm10 cd10 ct10 : Value} {f11 : Addr} {od11 an11 : Option Addr} {sl11 : Array (Option Value)} {oc11 kV11 dc11 pm11 cd11 ct11 : Value} {f17 : Addr} {od17 an17 : Option Addr} {sl17 : Array (Option Value)} {oc17 kV17 dc17 pm17 cd17 ct17 : Value} {f18 : Addr} {od18 an18 : Option Addr} {sl18 : Array (Option Value)} {oc18 kV18 dc18 pm18 cd18 ct18 : Value} {f19 : Addr} {od19 an19 : Option Addr} {sl19 : Array (Option Value)} {oc19 kV19 dc19 pm19 cd19 ct19 : Value} {f20 : Addr} {od20 an20 : Option Addr} {sl20 : Array (Option Value)} {oc20 kV20 dc20 pm20 cd20 ct20 : Value} {f21 : Addr} {od21 an21 : Option Addr} {sl21 : Array (Option Value)} {oc21 kV21 dc21 pm21 cd21 ct21 : Value} {f22 : Addr} {od22 an22 : Option Addr} {sl22 : Array (Option Value)} {oc22 kV22 dc22 pm22 cd22 ct22 : Value} {f23 : Addr} {od23 an23 : Option Addr} {sl23 : Array (Option Value)} {oc23 kV23 dc23 pm23 cd23 ct23 : Value} {f24 : Addr} {od24 an24 : Option Addr} {sl24 : Array (Option Value)} {oc24 kV24 dc24 pm24 cd24 ct24 : Value} {f25 : Addr} {od25 an25 : Option Addr} {sl25 : Array (Option Value)} {oc25 kV25 dc25 pm25 cd25 ct25 : Value} {f26 : Addr} {od26 an26 : Option Addr} {sl26 : Array (Option Value)} {oc26 kV26 dc26 pm26 cd26 ct26 : Value} {f27 : Addr} {od27 an27 : Option Addr} {sl27 : Array (Option Value)} {oc27 kV27 dc27 pm27 cd27 ct27 : Value} {f28 : Addr} {od28 an28 : Option Addr} {sl28 : Array (Option Value)} {oc28 kV28 dc28 pm28 cd28 ct28 : Value} {f29 : Addr} {od29 an29 : Option Addr} {sl29 : Array (Option Value)} {oc29 kV29 dc29 pm29 cd29 ct29 : Value} {f31 : Addr} {od31 an31 : Option Addr} {sl31 : Array (Option Value)} {oc31 kV31 dc31 pm31 cd31 ct31 : Value} {f32 : Addr} {od32 an32 : Option Addr} {sl32 : Array (Option Value)} {oc32 kV32 dc32 pm32 cd32 ct32 : Value} {f33 : Addr} {od33 an33 : Option Addr} {sl33 : Array (Option Value)} {oc33 kV33 dc33 pm33 cd33 ct33 : Value} {f34 : Addr} {od34 an34 : Option Addr} {sl34 : Array (Option Value)} {oc34 kV34 dc34 pm34 cd34 ct34 : Value} {f35 : Addr} {od35 an35 : Option Addr} {sl35 : Array (Option Value)} {oc35 kV35 dc35 pm35 cd35 ct35 : Value} {f36 : Addr} {od36 an36 : Option Addr} {sl36 : Array (Option Value)} {oc36 kV36 dc36 pm36 cd36 ct36 : Value} {f37 : Addr} {od37 an37 : Option Addr} {sl37 : Array (Option Value)} {oc37 kV37 dc37 pm37 cd37 ct37 : Value} {f38 : Addr} {od38 an38 : Option Addr} {sl38 : Array (Option Value)} {oc38 kV38 dc38 pm38 cd38 ct38 : Value} {f39 : Addr} {od39 an39 : Option Addr} {sl39 : Array (Option Value)} {oc39 kV39 dc39 pm39 cd39 ct39 : Value} {t_FAR_DAY : Tok} {t_FAR_NUMBER : Tok} {t_FIRST_NEAR : Tok} {t_LAST_NEAR : Tok} {t_MOST_SPANS : Tok}
    (a7 : PySem.W.nsIn K mainGlobals "is_whole" = some (some (.ref f7))) (l7 : K.lookup f7 = some ⟨oc7, od7, .func (PySem.W.fnOf "is_whole" "is_whole" (defArgs s_is_whole) (defBody s_is_whole) (defScope s_is_whole) .none kV7 dc7 pm7 an7 cd7 ct7), sl7⟩) (c7 : PySem.W.codeIn K cd7 "is_whole" = true) (k7 : PySem.W.keepIn K (.ref f7) = true)
    (a8 : PySem.W.nsIn K mainGlobals "is_pair" = some (some (.ref f8))) (l8 : K.lookup f8 = some ⟨oc8, od8, .func (PySem.W.fnOf "is_pair" "is_pair" (defArgs s_is_pair) (defBody s_is_pair) (defScope s_is_pair) .none kV8 dc8 pm8 an8 cd8 ct8), sl8⟩) (c8 : PySem.W.codeIn K cd8 "is_pair" = true) (k8 : PySem.W.keepIn K (.ref f8) = true)
    (a9 : PySem.W.nsIn K mainGlobals "is_rising" = some (some (.ref f9))) (l9 : K.lookup f9 = some ⟨oc9, od9, .func (PySem.W.fnOf "is_rising" "is_rising" (defArgs s_is_rising) (defBody s_is_rising) (defScope s_is_rising) .none kV9 dc9 pm9 an9 cd9 ct9), sl9⟩) (c9 : PySem.W.codeIn K cd9 "is_rising" = true) (k9 : PySem.W.keepIn K (.ref f9) = true)
    (a10 : PySem.W.nsIn K mainGlobals "need_day" = some (some (.ref f10))) (l10 : K.lookup f10 = some ⟨oc10, od10, .func (PySem.W.fnOf "need_day" "need_day" (defArgs s_need_day) (defBody s_need_day) (defScope s_need_day) .none kV10 dc10 pm10 an10 cd10 ct10), sl10⟩) (c10 : PySem.W.codeIn K cd10 "need_day" = true) (k10 : PySem.W.keepIn K (.ref f10) = true)
    (a11 : PySem.W.nsIn K mainGlobals "need_number" = some (some (.ref f11))) (l11 : K.lookup f11 = some ⟨oc11, od11, .func (PySem.W.fnOf "need_number" "need_number" (defArgs s_need_number) (defBody s_need_number) (defScope s_need_number) .none kV11 dc11 pm11 an11 cd11 ct11), sl11⟩) (c11 : PySem.W.codeIn K cd11 "need_number" = true) (k11 : PySem.W.keepIn K (.ref f11) = true)
    (a17 : PySem.W.nsIn K mainGlobals "is_calendar" = some (some (.ref f17))) (l17 : K.lookup f17 = some ⟨oc17, od17, .func (PySem.W.fnOf "is_calendar" "is_calendar" (defArgs s_is_calendar) (defBody s_is_calendar) (defScope s_is_calendar) .none kV17 dc17 pm17 an17 cd17 ct17), sl17⟩) (c17 : PySem.W.codeIn K cd17 "is_calendar" = true) (k17 : PySem.W.keepIn K (.ref f17) = true)
    (a18 : PySem.W.nsIn K mainGlobals "nth_open" = some (some (.ref f18))) (l18 : K.lookup f18 = some ⟨oc18, od18, .func (PySem.W.fnOf "nth_open" "nth_open" (defArgs s_nth_open) (defBody s_nth_open) (defScope s_nth_open) .none kV18 dc18 pm18 an18 cd18 ct18), sl18⟩) (c18 : PySem.W.codeIn K cd18 "nth_open" = true) (k18 : PySem.W.keepIn K (.ref f18) = true)
    (a19 : PySem.W.nsIn K mainGlobals "count_open" = some (some (.ref f19))) (l19 : K.lookup f19 = some ⟨oc19, od19, .func (PySem.W.fnOf "count_open" "count_open" (defArgs s_count_open) (defBody s_count_open) (defScope s_count_open) .none kV19 dc19 pm19 an19 cd19 ct19), sl19⟩) (c19 : PySem.W.codeIn K cd19 "count_open" = true) (k19 : PySem.W.keepIn K (.ref f19) = true)
    (a20 : PySem.W.nsIn K mainGlobals "open_on" = some (some (.ref f20))) (l20 : K.lookup f20 = some ⟨oc20, od20, .func (PySem.W.fnOf "open_on" "open_on" (defArgs s_open_on) (defBody s_open_on) (defScope s_open_on) .none kV20 dc20 pm20 an20 cd20 ct20), sl20⟩) (c20 : PySem.W.codeIn K cd20 "open_on" = true) (k20 : PySem.W.keepIn K (.ref f20) = true)
    (a21 : PySem.W.nsIn K mainGlobals "is_pattern" = some (some (.ref f21))) (l21 : K.lookup f21 = some ⟨oc21, od21, .func (PySem.W.fnOf "is_pattern" "is_pattern" (defArgs s_is_pattern) (defBody s_is_pattern) (defScope s_is_pattern) .none kV21 dc21 pm21 an21 cd21 ct21), sl21⟩) (c21 : PySem.W.codeIn K cd21 "is_pattern" = true) (k21 : PySem.W.keepIn K (.ref f21) = true)
    (a22 : PySem.W.nsIn K mainGlobals "need_calendar" = some (some (.ref f22))) (l22 : K.lookup f22 = some ⟨oc22, od22, .func (PySem.W.fnOf "need_calendar" "need_calendar" (defArgs s_need_calendar) (defBody s_need_calendar) (defScope s_need_calendar) .none kV22 dc22 pm22 an22 cd22 ct22), sl22⟩) (c22 : PySem.W.codeIn K cd22 "need_calendar" = true) (k22 : PySem.W.keepIn K (.ref f22) = true)
    (a23 : PySem.W.nsIn K mainGlobals "_is_spans" = some (some (.ref f23))) (l23 : K.lookup f23 = some ⟨oc23, od23, .func (PySem.W.fnOf "_is_spans" "_is_spans" (defArgs s_is_spans) (defBody s_is_spans) (defScope s_is_spans) .none kV23 dc23 pm23 an23 cd23 ct23), sl23⟩) (c23 : PySem.W.codeIn K cd23 "_is_spans" = true) (k23 : PySem.W.keepIn K (.ref f23) = true)
    (a24 : PySem.W.nsIn K mainGlobals "_is_span" = some (some (.ref f24))) (l24 : K.lookup f24 = some ⟨oc24, od24, .func (PySem.W.fnOf "_is_span" "_is_span" (defArgs s_is_span) (defBody s_is_span) (defScope s_is_span) .none kV24 dc24 pm24 an24 cd24 ct24), sl24⟩) (c24 : PySem.W.codeIn K cd24 "_is_span" = true) (k24 : PySem.W.keepIn K (.ref f24) = true)
    (a25 : PySem.W.nsIn K mainGlobals "_in_spans" = some (some (.ref f25))) (l25 : K.lookup f25 = some ⟨oc25, od25, .func (PySem.W.fnOf "_in_spans" "_in_spans" (defArgs s_in_spans) (defBody s_in_spans) (defScope s_in_spans) .none kV25 dc25 pm25 an25 cd25 ct25), sl25⟩) (c25 : PySem.W.codeIn K cd25 "_in_spans" = true) (k25 : PySem.W.keepIn K (.ref f25) = true)
    (a26 : PySem.W.nsIn K mainGlobals "_plain_rank" = some (some (.ref f26))) (l26 : K.lookup f26 = some ⟨oc26, od26, .func (PySem.W.fnOf "_plain_rank" "_plain_rank" (defArgs s_plain_rank) (defBody s_plain_rank) (defScope s_plain_rank) .none kV26 dc26 pm26 an26 cd26 ct26), sl26⟩) (c26 : PySem.W.codeIn K cd26 "_plain_rank" = true) (k26 : PySem.W.keepIn K (.ref f26) = true)
    (a27 : PySem.W.nsIn K mainGlobals "_plain_day" = some (some (.ref f27))) (l27 : K.lookup f27 = some ⟨oc27, od27, .func (PySem.W.fnOf "_plain_day" "_plain_day" (defArgs s_plain_day) (defBody s_plain_day) (defScope s_plain_day) .none kV27 dc27 pm27 an27 cd27 ct27), sl27⟩) (c27 : PySem.W.codeIn K cd27 "_plain_day" = true) (k27 : PySem.W.keepIn K (.ref f27) = true)
    (a28 : PySem.W.nsIn K mainGlobals "_rank" = some (some (.ref f28))) (l28 : K.lookup f28 = some ⟨oc28, od28, .func (PySem.W.fnOf "_rank" "_rank" (defArgs s_rank) (defBody s_rank) (defScope s_rank) .none kV28 dc28 pm28 an28 cd28 ct28), sl28⟩) (c28 : PySem.W.codeIn K cd28 "_rank" = true) (k28 : PySem.W.keepIn K (.ref f28) = true)
    (a29 : PySem.W.nsIn K mainGlobals "_ranked_day" = some (some (.ref f29))) (l29 : K.lookup f29 = some ⟨oc29, od29, .func (PySem.W.fnOf "_ranked_day" "_ranked_day" (defArgs s_ranked_day) (defBody s_ranked_day) (defScope s_ranked_day) .none kV29 dc29 pm29 an29 cd29 ct29), sl29⟩) (c29 : PySem.W.codeIn K cd29 "_ranked_day" = true) (k29 : PySem.W.keepIn K (.ref f29) = true)
    (a31 : PySem.W.nsIn K mainGlobals "_law_hand" = some (some (.ref f31))) (l31 : K.lookup f31 = some ⟨oc31, od31, .func (PySem.W.fnOf "_law_hand" "_law_hand" (defArgs s_law_hand) (defBody s_law_hand) (defScope s_law_hand) .none kV31 dc31 pm31 an31 cd31 ct31), sl31⟩) (c31 : PySem.W.codeIn K cd31 "_law_hand" = true) (k31 : PySem.W.keepIn K (.ref f31) = true)
    (a32 : PySem.W.nsIn K mainGlobals "_law_draw" = some (some (.ref f32))) (l32 : K.lookup f32 = some ⟨oc32, od32, .func (PySem.W.fnOf "_law_draw" "_law_draw" (defArgs s_law_draw) (defBody s_law_draw) (defScope s_law_draw) .none kV32 dc32 pm32 an32 cd32 ct32), sl32⟩) (c32 : PySem.W.codeIn K cd32 "_law_draw" = true) (k32 : PySem.W.keepIn K (.ref f32) = true)
    (a33 : PySem.W.nsIn K mainGlobals "_law_spans" = some (some (.ref f33))) (l33 : K.lookup f33 = some ⟨oc33, od33, .func (PySem.W.fnOf "_law_spans" "_law_spans" (defArgs s_law_spans) (defBody s_law_spans) (defScope s_law_spans) .none kV33 dc33 pm33 an33 cd33 ct33), sl33⟩) (c33 : PySem.W.codeIn K cd33 "_law_spans" = true) (k33 : PySem.W.keepIn K (.ref f33) = true)
    (a34 : PySem.W.nsIn K mainGlobals "_law_calendar" = some (some (.ref f34))) (l34 : K.lookup f34 = some ⟨oc34, od34, .func (PySem.W.fnOf "_law_calendar" "_law_calendar" (defArgs s_law_calendar) (defBody s_law_calendar) (defScope s_law_calendar) .none kV34 dc34 pm34 an34 cd34 ct34), sl34⟩) (c34 : PySem.W.codeIn K cd34 "_law_calendar" = true) (k34 : PySem.W.keepIn K (.ref f34) = true)
    (a35 : PySem.W.nsIn K mainGlobals "_law_open" = some (some (.ref f35))) (l35 : K.lookup f35 = some ⟨oc35, od35, .func (PySem.W.fnOf "_law_open" "_law_open" (defArgs s_law_open) (defBody s_law_open) (defScope s_law_open) .none kV35 dc35 pm35 an35 cd35 ct35), sl35⟩) (c35 : PySem.W.codeIn K cd35 "_law_open" = true) (k35 : PySem.W.keepIn K (.ref f35) = true)
    (a36 : PySem.W.nsIn K mainGlobals "_law_day" = some (some (.ref f36))) (l36 : K.lookup f36 = some ⟨oc36, od36, .func (PySem.W.fnOf "_law_day" "_law_day" (defArgs s_law_day) (defBody s_law_day) (defScope s_law_day) .none kV36 dc36 pm36 an36 cd36 ct36), sl36⟩) (c36 : PySem.W.codeIn K cd36 "_law_day" = true) (k36 : PySem.W.keepIn K (.ref f36) = true)
    (a37 : PySem.W.nsIn K mainGlobals "_law_plain" = some (some (.ref f37))) (l37 : K.lookup f37 = some ⟨oc37, od37, .func (PySem.W.fnOf "_law_plain" "_law_plain" (defArgs s_law_plain) (defBody s_law_plain) (defScope s_law_plain) .none kV37 dc37 pm37 an37 cd37 ct37), sl37⟩) (c37 : PySem.W.codeIn K cd37 "_law_plain" = true) (k37 : PySem.W.keepIn K (.ref f37) = true)
    (a38 : PySem.W.nsIn K mainGlobals "_law_count" = some (some (.ref f38))) (l38 : K.lookup f38 = some ⟨oc38, od38, .func (PySem.W.fnOf "_law_count" "_law_count" (defArgs s_law_count) (defBody s_law_count) (defScope s_law_count) .none kV38 dc38 pm38 an38 cd38 ct38), sl38⟩) (c38 : PySem.W.codeIn K cd38 "_law_count" = true) (k38 : PySem.W.keepIn K (.ref f38) = true)
    (a39 : PySem.W.nsIn K mainGlobals "law" = some (some (.ref f39))) (l39 : K.lookup f39 = some ⟨oc39, od39, .func (PySem.W.fnOf "law" "law" (defArgs s_law) (defBody s_law) (defScope s_law) .none kV39 dc39 pm39 an39 cd39 ct39), sl39⟩) (c39 : PySem.W.codeIn K cd39 "law" = true) (k39 : PySem.W.keepIn K (.ref f39) = true)
    (z_FAR_DAY : PySem.W.nsIn K mainGlobals "FAR_DAY" = some (some (Value.int (1000000000000000) t_FAR_DAY)))
    (z_FAR_NUMBER : PySem.W.nsIn K mainGlobals "FAR_NUMBER" = some (some (Value.int (1000000000000000) t_FAR_NUMBER)))
    (z_FIRST_NEAR : PySem.W.nsIn K mainGlobals "FIRST_NEAR" = some (some (Value.int (-30) t_FIRST_NEAR)))
    (z_LAST_NEAR : PySem.W.nsIn K mainGlobals "LAST_NEAR" = some (some (Value.int (30) t_LAST_NEAR)))
    (z_MOST_SPANS : PySem.W.nsIn K mainGlobals "MOST_SPANS" = some (some (Value.int (2) t_MOST_SPANS)))
    (z_abs : PySem.W.nsIn K mainGlobals "abs" = some none)
    (z_all : PySem.W.nsIn K mainGlobals "all" = some none)
    (z_bool : PySem.W.nsIn K mainGlobals "bool" = some none)
    (z_divmod : PySem.W.nsIn K mainGlobals "divmod" = some none)
    (z_int : PySem.W.nsIn K mainGlobals "int" = some none)
    (z_isinstance : PySem.W.nsIn K mainGlobals "isinstance" = some none)
    (z_len : PySem.W.nsIn K mainGlobals "len" = some none)
    (z_list : PySem.W.nsIn K mainGlobals "list" = some none)
    (z_max : PySem.W.nsIn K mainGlobals "max" = some none)
    (z_min : PySem.W.nsIn K mainGlobals "min" = some none)
    (z_range : PySem.W.nsIn K mainGlobals "range" = some none)
    (z_sorted : PySem.W.nsIn K mainGlobals "sorted" = some none)
    (z_str : PySem.W.nsIn K mainGlobals "str" = some none)
    (z_tuple : PySem.W.nsIn K mainGlobals "tuple" = some none) :
    ∃ fd : FuncData, (∀ (s : Shared) (v : Value), BindsTo s fd ⟨[v], []⟩ [("_law_script", v)]) ∧ ∀ base : Heap, K.In base → base.Ns mainGlobals mg → FnOk l.prog w K mg base CX0 7 fa fd ["_law_script"] (spLaw K) := by
  have e := hfa.symm.trans (PySem.W.mg_of X G a39)
  cases e
  have F7 := fun_mk (st := s_is_whole) l7 c7 k7
  have B7 := F7.binds (ps := ["thing", "low", "high"]) fun _ _ _ _ _ _ us hl => match us, hl with | [_, _, _], _ => rfl
  have F8 := fun_mk (st := s_is_pair) l8 c8 k8
  have B8 := F8.binds (ps := ["thing"]) fun _ _ _ _ _ _ us hl => match us, hl with | [_], _ => rfl
  have F9 := fun_mk (st := s_is_rising) l9 c9 k9
  have B9 := F9.binds (ps := ["things"]) fun _ _ _ _ _ _ us hl => match us, hl with | [_], _ => rfl
  have F10 := fun_mk (st := s_need_day) l10 c10 k10
  have B10 := F10.binds (ps := ["thing"]) fun _ _ _ _ _ _ us hl => match us, hl with | [_], _ => rfl
  have F11 := fun_mk (st := s_need_number) l11 c11 k11
  have B11 := F11.binds (ps := ["thing", "most"]) fun _ _ _ _ _ _ us hl => match us, hl with | [_, _], _ => rfl
  have F17 := fun_mk (st := s_is_calendar) l17 c17 k17
  have B17 := F17.binds (ps := ["thing"]) fun _ _ _ _ _ _ us hl => match us, hl with | [_], _ => rfl
  have F18 := fun_mk (st := s_nth_open) l18 c18 k18
  have B18 := F18.binds (ps := ["calendar", "day", "number"]) fun _ _ _ _ _ _ us hl => match us, hl with | [_, _, _], _ => rfl
  have F19 := fun_mk (st := s_count_open) l19 c19 k19
  have B19 := F19.binds (ps := ["calendar", "first", "last"]) fun _ _ _ _ _ _ us hl => match us, hl with | [_, _, _], _ => rfl
  have F20 := fun_mk (st := s_open_on) l20 c20 k20
  have B20 := F20.binds (ps := ["calendar", "day"]) fun _ _ _ _ _ _ us hl => match us, hl with | [_, _], _ => rfl
  have F21 := fun_mk (st := s_is_pattern) l21 c21 k21
  have B21 := F21.binds (ps := ["thing"]) fun _ _ _ _ _ _ us hl => match us, hl with | [_], _ => rfl
  have F22 := fun_mk (st := s_need_calendar) l22 c22 k22
  have B22 := F22.binds (ps := ["thing"]) fun _ _ _ _ _ _ us hl => match us, hl with | [_], _ => rfl
  have F23 := fun_mk (st := s_is_spans) l23 c23 k23
  have B23 := F23.binds (ps := ["thing"]) fun _ _ _ _ _ _ us hl => match us, hl with | [_], _ => rfl
  have F24 := fun_mk (st := s_is_span) l24 c24 k24
  have B24 := F24.binds (ps := ["thing"]) fun _ _ _ _ _ _ us hl => match us, hl with | [_], _ => rfl
  have F25 := fun_mk (st := s_in_spans) l25 c25 k25
  have B25 := F25.binds (ps := ["spans", "day"]) fun _ _ _ _ _ _ us hl => match us, hl with | [_, _], _ => rfl
  have F26 := fun_mk (st := s_plain_rank) l26 c26 k26
  have B26 := F26.binds (ps := ["pattern", "day"]) fun _ _ _ _ _ _ us hl => match us, hl with | [_, _], _ => rfl
  have F27 := fun_mk (st := s_plain_day) l27 c27 k27
  have B27 := F27.binds (ps := ["pattern", "rank"]) fun _ _ _ _ _ _ us hl => match us, hl with | [_, _], _ => rfl
  have F28 := fun_mk (st := s_rank) l28 c28 k28
  have B28 := F28.binds (ps := ["calendar", "day"]) fun _ _ _ _ _ _ us hl => match us, hl with | [_, _], _ => rfl
  have F29 := fun_mk (st := s_ranked_day) l29 c29 k29
  have B29 := F29.binds (ps := ["calendar", "rank"]) fun _ _ _ _ _ _ us hl => match us, hl with | [_, _], _ => rfl
  have F31 := fun_mk (st := s_law_hand) l31 c31 k31
  have B31 := F31.binds (ps := ["_law_script"]) fun _ _ _ _ _ _ us hl => match us, hl with | [_], _ => rfl
  have F32 := fun_mk (st := s_law_draw) l32 c32 k32
  have B32 := F32.binds (ps := ["_law_hand_here", "_law_size"]) fun _ _ _ _ _ _ us hl => match us, hl with | [_, _], _ => rfl
  have F33 := fun_mk (st := s_law_spans) l33 c33 k33
  have B33 := F33.binds (ps := ["_law_hand_here"]) fun _ _ _ _ _ _ us hl => match us, hl with | [_], _ => rfl
  have F34 := fun_mk (st := s_law_calendar) l34 c34 k34
  have B34 := F34.binds (ps := ["_law_hand_here"]) fun _ _ _ _ _ _ us hl => match us, hl with | [_], _ => rfl
  have F35 := fun_mk (st := s_law_open) l35 c35 k35
  have B35 := F35.binds (ps := ["_law_calendar_here", "_law_day_here"]) fun _ _ _ _ _ _ us hl => match us, hl with | [_, _], _ => rfl
  have F36 := fun_mk (st := s_law_day) l36 c36 k36
  have B36 := F36.binds (ps := ["_law_hand_here"]) fun _ _ _ _ _ _ us hl => match us, hl with | [_], _ => rfl
  have F37 := fun_mk (st := s_law_plain) l37 c37 k37
  have B37 := F37.binds (ps := ["_law_signs", "_law_first", "_law_last"]) fun _ _ _ _ _ _ us hl => match us, hl with | [_, _, _], _ => rfl
  have F38 := fun_mk (st := s_law_count) l38 c38 k38
  have B38 := F38.binds (ps := ["_law_calendar_here", "_law_first", "_law_last"]) fun _ _ _ _ _ _ us hl => match us, hl with | [_, _, _], _ => rfl
  have F39 := fun_mk (st := s_law) l39 c39 k39
  have B39 := F39.binds (ps := ["_law_script"]) fun _ _ _ _ _ _ us hl => match us, hl with | [_], _ => rfl
  let ad : Nat → Addr := fun n => ([fa, fa, fa, fa, fa, fa, fa, f7, f8, f9, f10, f11, fa, fa, fa, fa, fa, f17, f18, f19, f20, f21, f22, f23, f24, f25, f26, f27, f28, f29, fa, f31, f32, f33, f34, f35, f36, f37, f38, fa]).getD n fa
  let fdd : Nat → FuncData := fun n => ([PySem.W.fnOf "law" "law" (defArgs s_law) (defBody s_law) (defScope s_law) .none kV39 dc39 pm39 an39 cd39 ct39,
    PySem.W.fnOf "law" "law" (defArgs s_law) (defBody s_law) (defScope s_law) .none kV39 dc39 pm39 an39 cd39 ct39,
    PySem.W.fnOf "law" "law" (defArgs s_law) (defBody s_law) (defScope s_law) .none kV39 dc39 pm39 an39 cd39 ct39,
    PySem.W.fnOf "law" "law" (defArgs s_law) (defBody s_law) (defScope s_law) .none kV39 dc39 pm39 an39 cd39 ct39,
    PySem.W.fnOf "law" "law" (defArgs s_law) (defBody s_law) (defScope s_law) .none kV39 dc39 pm39 an39 cd39 ct39,
    PySem.W.fnOf "law" "law" (defArgs s_law) (defBody s_law) (defScope s_law) .none kV39 dc39 pm39 an39 cd39 ct39,
    PySem.W.fnOf "law" "law" (defArgs s_law) (defBody s_law) (defScope s_law) .none kV39 dc39 pm39 an39 cd39 ct39,
    PySem.W.fnOf "is_whole" "is_whole" (defArgs s_is_whole) (defBody s_is_whole) (defScope s_is_whole) .none kV7 dc7 pm7 an7 cd7 ct7,
    PySem.W.fnOf "is_pair" "is_pair" (defArgs s_is_pair) (defBody s_is_pair) (defScope s_is_pair) .none kV8 dc8 pm8 an8 cd8 ct8,
    PySem.W.fnOf "is_rising" "is_rising" (defArgs s_is_rising) (defBody s_is_rising) (defScope s_is_rising) .none kV9 dc9 pm9 an9 cd9 ct9,
    PySem.W.fnOf "need_day" "need_day" (defArgs s_need_day) (defBody s_need_day) (defScope s_need_day) .none kV10 dc10 pm10 an10 cd10 ct10,
    PySem.W.fnOf "need_number" "need_number" (defArgs s_need_number) (defBody s_need_number) (defScope s_need_number) .none kV11 dc11 pm11 an11 cd11 ct11,
    PySem.W.fnOf "law" "law" (defArgs s_law) (defBody s_law) (defScope s_law) .none kV39 dc39 pm39 an39 cd39 ct39,
    PySem.W.fnOf "law" "law" (defArgs s_law) (defBody s_law) (defScope s_law) .none kV39 dc39 pm39 an39 cd39 ct39,
    PySem.W.fnOf "law" "law" (defArgs s_law) (defBody s_law) (defScope s_law) .none kV39 dc39 pm39 an39 cd39 ct39,
    PySem.W.fnOf "law" "law" (defArgs s_law) (defBody s_law) (defScope s_law) .none kV39 dc39 pm39 an39 cd39 ct39,
    PySem.W.fnOf "law" "law" (defArgs s_law) (defBody s_law) (defScope s_law) .none kV39 dc39 pm39 an39 cd39 ct39,
    PySem.W.fnOf "is_calendar" "is_calendar" (defArgs s_is_calendar) (defBody s_is_calendar) (defScope s_is_calendar) .none kV17 dc17 pm17 an17 cd17 ct17,
    PySem.W.fnOf "nth_open" "nth_open" (defArgs s_nth_open) (defBody s_nth_open) (defScope s_nth_open) .none kV18 dc18 pm18 an18 cd18 ct18,
    PySem.W.fnOf "count_open" "count_open" (defArgs s_count_open) (defBody s_count_open) (defScope s_count_open) .none kV19 dc19 pm19 an19 cd19 ct19,
    PySem.W.fnOf "open_on" "open_on" (defArgs s_open_on) (defBody s_open_on) (defScope s_open_on) .none kV20 dc20 pm20 an20 cd20 ct20,
    PySem.W.fnOf "is_pattern" "is_pattern" (defArgs s_is_pattern) (defBody s_is_pattern) (defScope s_is_pattern) .none kV21 dc21 pm21 an21 cd21 ct21,
    PySem.W.fnOf "need_calendar" "need_calendar" (defArgs s_need_calendar) (defBody s_need_calendar) (defScope s_need_calendar) .none kV22 dc22 pm22 an22 cd22 ct22,
    PySem.W.fnOf "_is_spans" "_is_spans" (defArgs s_is_spans) (defBody s_is_spans) (defScope s_is_spans) .none kV23 dc23 pm23 an23 cd23 ct23,
    PySem.W.fnOf "_is_span" "_is_span" (defArgs s_is_span) (defBody s_is_span) (defScope s_is_span) .none kV24 dc24 pm24 an24 cd24 ct24,
    PySem.W.fnOf "_in_spans" "_in_spans" (defArgs s_in_spans) (defBody s_in_spans) (defScope s_in_spans) .none kV25 dc25 pm25 an25 cd25 ct25,
    PySem.W.fnOf "_plain_rank" "_plain_rank" (defArgs s_plain_rank) (defBody s_plain_rank) (defScope s_plain_rank) .none kV26 dc26 pm26 an26 cd26 ct26,
    PySem.W.fnOf "_plain_day" "_plain_day" (defArgs s_plain_day) (defBody s_plain_day) (defScope s_plain_day) .none kV27 dc27 pm27 an27 cd27 ct27,
    PySem.W.fnOf "_rank" "_rank" (defArgs s_rank) (defBody s_rank) (defScope s_rank) .none kV28 dc28 pm28 an28 cd28 ct28,
    PySem.W.fnOf "_ranked_day" "_ranked_day" (defArgs s_ranked_day) (defBody s_ranked_day) (defScope s_ranked_day) .none kV29 dc29 pm29 an29 cd29 ct29,
    PySem.W.fnOf "law" "law" (defArgs s_law) (defBody s_law) (defScope s_law) .none kV39 dc39 pm39 an39 cd39 ct39,
    PySem.W.fnOf "_law_hand" "_law_hand" (defArgs s_law_hand) (defBody s_law_hand) (defScope s_law_hand) .none kV31 dc31 pm31 an31 cd31 ct31,
    PySem.W.fnOf "_law_draw" "_law_draw" (defArgs s_law_draw) (defBody s_law_draw) (defScope s_law_draw) .none kV32 dc32 pm32 an32 cd32 ct32,
    PySem.W.fnOf "_law_spans" "_law_spans" (defArgs s_law_spans) (defBody s_law_spans) (defScope s_law_spans) .none kV33 dc33 pm33 an33 cd33 ct33,
    PySem.W.fnOf "_law_calendar" "_law_calendar" (defArgs s_law_calendar) (defBody s_law_calendar) (defScope s_law_calendar) .none kV34 dc34 pm34 an34 cd34 ct34,
    PySem.W.fnOf "_law_open" "_law_open" (defArgs s_law_open) (defBody s_law_open) (defScope s_law_open) .none kV35 dc35 pm35 an35 cd35 ct35,
    PySem.W.fnOf "_law_day" "_law_day" (defArgs s_law_day) (defBody s_law_day) (defScope s_law_day) .none kV36 dc36 pm36 an36 cd36 ct36,
    PySem.W.fnOf "_law_plain" "_law_plain" (defArgs s_law_plain) (defBody s_law_plain) (defScope s_law_plain) .none kV37 dc37 pm37 an37 cd37 ct37,
    PySem.W.fnOf "_law_count" "_law_count" (defArgs s_law_count) (defBody s_law_count) (defScope s_law_count) .none kV38 dc38 pm38 an38 cd38 ct38,
    PySem.W.fnOf "law" "law" (defArgs s_law) (defBody s_law) (defScope s_law) .none kV39 dc39 pm39 an39 cd39 ct39]).getD n (PySem.W.fnOf "law" "law" (defArgs s_law) (defBody s_law) (defScope s_law) .none kV39 dc39 pm39 an39 cd39 ct39)
  have T : Tx K mg ad fdd := {
    m_FAR_DAY := ⟨_, PySem.W.mg_of X G z_FAR_DAY, ⟨_, rfl⟩⟩
    m_FAR_NUMBER := ⟨_, PySem.W.mg_of X G z_FAR_NUMBER, ⟨_, rfl⟩⟩
    m_FIRST_NEAR := ⟨_, PySem.W.mg_of X G z_FIRST_NEAR, ⟨_, rfl⟩⟩
    m_LAST_NEAR := ⟨_, PySem.W.mg_of X G z_LAST_NEAR, ⟨_, rfl⟩⟩
    m_MOST_SPANS := ⟨_, PySem.W.mg_of X G z_MOST_SPANS, ⟨_, rfl⟩⟩
    m_abs := PySem.W.mg_none_of X G z_abs
    m_all := PySem.W.mg_none_of X G z_all
    m_bool := PySem.W.mg_none_of X G z_bool
    m_divmod := PySem.W.mg_none_of X G z_divmod
    m_int := PySem.W.mg_none_of X G z_int
    m_isinstance := PySem.W.mg_none_of X G z_isinstance
    m_len := PySem.W.mg_none_of X G z_len
    m_list := PySem.W.mg_none_of X G z_list
    m_max := PySem.W.mg_none_of X G z_max
    m_min := PySem.W.mg_none_of X G z_min
    m_range := PySem.W.mg_none_of X G z_range
    m_sorted := PySem.W.mg_none_of X G z_sorted
    m_str := PySem.W.mg_none_of X G z_str
    m_tuple := PySem.W.mg_none_of X G z_tuple
    F_is_whole := F7
    g_is_whole := PySem.W.mg_of X G a7
    b_is_whole := B7
    F_is_pair := F8
    g_is_pair := PySem.W.mg_of X G a8
    b_is_pair := B8
    F_is_rising := F9
    g_is_rising := PySem.W.mg_of X G a9
    b_is_rising := B9
    F_need_day := F10
    g_need_day := PySem.W.mg_of X G a10
    b_need_day := B10
    F_need_number := F11
    g_need_number := PySem.W.mg_of X G a11
    b_need_number := B11
    F_is_calendar := F17
    g_is_calendar := PySem.W.mg_of X G a17
    b_is_calendar := B17
    F_nth_open := F18
    g_nth_open := PySem.W.mg_of X G a18
    b_nth_open := B18
    F_count_open := F19
    g_count_open := PySem.W.mg_of X G a19
    b_count_open := B19
    F_open_on := F20
    g_open_on := PySem.W.mg_of X G a20
    b_open_on := B20
    F_is_pattern := F21
    g_is_pattern := PySem.W.mg_of X G a21
    b_is_pattern := B21
    F_need_calendar := F22
    g_need_calendar := PySem.W.mg_of X G a22
    b_need_calendar := B22
    F_is_spans := F23
    g_is_spans := PySem.W.mg_of X G a23
    b_is_spans := B23
    F_is_span := F24
    g_is_span := PySem.W.mg_of X G a24
    b_is_span := B24
    F_in_spans := F25
    g_in_spans := PySem.W.mg_of X G a25
    b_in_spans := B25
    F_plain_rank := F26
    g_plain_rank := PySem.W.mg_of X G a26
    b_plain_rank := B26
    F_plain_day := F27
    g_plain_day := PySem.W.mg_of X G a27
    b_plain_day := B27
    F_rank := F28
    g_rank := PySem.W.mg_of X G a28
    b_rank := B28
    F_ranked_day := F29
    g_ranked_day := PySem.W.mg_of X G a29
    b_ranked_day := B29
    F_law_hand := F31
    g_law_hand := PySem.W.mg_of X G a31
    b_law_hand := B31
    F_law_draw := F32
    g_law_draw := PySem.W.mg_of X G a32
    b_law_draw := B32
    F_law_spans := F33
    g_law_spans := PySem.W.mg_of X G a33
    b_law_spans := B33
    F_law_calendar := F34
    g_law_calendar := PySem.W.mg_of X G a34
    b_law_calendar := B34
    F_law_open := F35
    g_law_open := PySem.W.mg_of X G a35
    b_law_open := B35
    F_law_day := F36
    g_law_day := PySem.W.mg_of X G a36
    b_law_day := B36
    F_law_plain := F37
    g_law_plain := PySem.W.mg_of X G a37
    b_law_plain := B37
    F_law_count := F38
    g_law_count := PySem.W.mg_of X G a38
    b_law_count := B38
    F_law := F39
    g_law := PySem.W.mg_of X G a39
    b_law := B39
    kb_nth_open_0_number_day_calendar := kbp_kb_nth_open_0_number_day_calendar _ fun s w0 w1 w2 => .of_eq rfl
    kb_count_open_0_last_first_calendar := kbp_kb_count_open_0_last_first_calendar _ fun s w0 w1 w2 => .of_eq rfl }
  exact ⟨PySem.W.fnOf "law" "law" (defArgs s_law) (defBody s_law) (defScope s_law) .none kV39 dc39 pm39 an39 cd39 ct39, fun s v => .of_eq rfl, fun base _ _ => by
    have G_is_whole := ok_is_whole (P := l.prog) (w := w) (base := base) T 
    have G_need_day := ok_need_day (P := l.prog) (w := w) (base := base) T G_is_whole
    have G_is_pattern := ok_is_pattern (P := l.prog) (w := w) (base := base) T 
    have G_is_pair := ok_is_pair (P := l.prog) (w := w) (base := base) T 
    have G_is_span := ok_is_span (P := l.prog) (w := w) (base := base) T G_is_whole G_is_pair
    have G_is_rising := ok_is_rising (P := l.prog) (w := w) (base := base) T 
    have G_is_spans := ok_is_spans (P := l.prog) (w := w) (base := base) T G_is_span G_is_rising
    have G_is_calendar := ok_is_calendar (P := l.prog) (w := w) (base := base) T G_is_spans G_is_pattern
    have G_need_calendar := ok_need_calendar (P := l.prog) (w := w) (base := base) T G_is_calendar
    have G_in_spans := ok_in_spans (P := l.prog) (w := w) (base := base) T 
    have G_open_on := ok_open_on (P := l.prog) (w := w) (base := base) T G_in_spans
    have G_need_number := ok_need_number (P := l.prog) (w := w) (base := base) T G_is_whole
    have G_plain_rank := ok_plain_rank (P := l.prog) (w := w) (base := base) T 
    have G_plain_day := ok_plain_day (P := l.prog) (w := w) (base := base) T 
    have G_rank := ok_rank (P := l.prog) (w := w) (base := base) T G_plain_rank G_open_on
    have G_ranked_day := ok_ranked_day (P := l.prog) (w := w) (base := base) T G_plain_rank G_plain_day G_open_on
    have G_nth_open := ok_nth_open (P := l.prog) (w := w) (base := base) T G_need_calendar G_need_day G_need_number G_rank G_ranked_day
    have G_count_open := ok_count_open (P := l.prog) (w := w) (base := base) T G_need_calendar G_need_day G_rank
    have G_law_hand := ok_law_hand (P := l.prog) (w := w) (base := base) T 
    have G_law_draw := ok_law_draw (P := l.prog) (w := w) (base := base) T 
    have G_law_drawB := ok_law_drawB (P := l.prog) (w := w) (base := base) T G_law_draw
    have G_law_drawC := ok_law_drawC (P := l.prog) (w := w) (base := base) T G_law_drawB
    have G_law_spans := ok_law_spans (P := l.prog) (w := w) (base := base) T G_law_draw
    have G_law_calendar := ok_law_calendar (P := l.prog) (w := w) (base := base) T G_law_draw G_law_spans
    have G_law_open := ok_law_open (P := l.prog) (w := w) (base := base) T 
    have G_law_day := ok_law_day (P := l.prog) (w := w) (base := base) T G_law_draw
    have G_law_plain := ok_law_plain (P := l.prog) (w := w) (base := base) T 
    have G_law_count := ok_law_count (P := l.prog) (w := w) (base := base) T G_law_plain G_law_open
    exact ok_law (P := l.prog) (w := w) (base := base) T G_law_hand G_law_drawC G_law_calendar G_law_open G_law_day G_law_count G_nth_open G_count_open⟩
end
end J
open PySem PySem.W PyProof.Rows
set_option maxHeartbeats 0 in
theorem PySem.Challenge.cw_officepapers_k03_open_days_counted_and_n_holds : PySem.Challenge.rw_officepapers_k03_open_days_counted_and_n.Holds := by
  w_on; o_law; k_head; (case hw => w_witness2)
  k_fill
  refine L2.walk_of (l := PySem.Challenge.rw_officepapers_k03_open_days_counted_and_n) (n := 63) (k := 7) (x := "_law_script") (CX := fun _ => L2.CX0) (sp := fun w => J.spLaw _) rfl (by decide) rfl ⟨rfl, by decide, by decide⟩ (fun w h Y => PySem.W.kIn_of Y) ?F (fun _ _ a ns hl _ hS => ⟨a, ns, rfl, hS, hl, fun _ => rfl⟩) (fun _ _ _ _ _ h => h)
  case F =>
    intro w mg fa h KX G hmg
    refine' J.all_mk KX G hmg ?a7 ?l7 ?c7 ?k7 ?a8 ?l8 ?c8 ?k8 ?a9 ?l9 ?c9 ?k9 ?a10 ?l10 ?c10 ?k10 ?a11 ?l11 ?c11 ?k11 ?a17 ?l17 ?c17 ?k17 ?a18 ?l18 ?c18 ?k18 ?a19 ?l19 ?c19 ?k19 ?a20 ?l20 ?c20 ?k20 ?a21 ?l21 ?c21 ?k21 ?a22 ?l22 ?c22 ?k22 ?a23 ?l23 ?c23 ?k23 ?a24 ?l24 ?c24 ?k24 ?a25 ?l25 ?c25 ?k25 ?a26 ?l26 ?c26 ?k26 ?a27 ?l27 ?c27 ?k27 ?a28 ?l28 ?c28 ?k28 ?a29 ?l29 ?c29 ?k29 ?a31 ?l31 ?c31 ?k31 ?a32 ?l32 ?c32 ?k32 ?a33 ?l33 ?c33 ?k33 ?a34 ?l34 ?c34 ?k34 ?a35 ?l35 ?c35 ?k35 ?a36 ?l36 ?c36 ?k36 ?a37 ?l37 ?c37 ?k37 ?a38 ?l38 ?c38 ?k38 ?a39 ?l39 ?c39 ?k39 ?z_FAR_DAY ?z_FAR_NUMBER ?z_FIRST_NEAR ?z_LAST_NEAR ?z_MOST_SPANS ?z_abs ?z_all ?z_bool ?z_divmod ?z_int ?z_isinstance ?z_len ?z_list ?z_max ?z_min ?z_range ?z_sorted ?z_str ?z_tuple
    (case a7 => k_is); (case l7 => k_is); (case c7 => k_is); (case k7 => k_is); (case a8 => k_is); (case l8 => k_is); (case c8 => k_is); (case k8 => k_is); (case a9 => k_is); (case l9 => k_is); (case c9 => k_is); (case k9 => k_is); (case a10 => k_is); (case l10 => k_is); (case c10 => k_is); (case k10 => k_is); (case a11 => k_is); (case l11 => k_is); (case c11 => k_is); (case k11 => k_is); (case a17 => k_is); (case l17 => k_is); (case c17 => k_is); (case k17 => k_is); (case a18 => k_is); (case l18 => k_is); (case c18 => k_is); (case k18 => k_is); (case a19 => k_is); (case l19 => k_is); (case c19 => k_is); (case k19 => k_is); (case a20 => k_is); (case l20 => k_is); (case c20 => k_is); (case k20 => k_is); (case a21 => k_is); (case l21 => k_is); (case c21 => k_is); (case k21 => k_is); (case a22 => k_is); (case l22 => k_is); (case c22 => k_is); (case k22 => k_is); (case a23 => k_is); (case l23 => k_is); (case c23 => k_is); (case k23 => k_is); (case a24 => k_is); (case l24 => k_is); (case c24 => k_is); (case k24 => k_is); (case a25 => k_is); (case l25 => k_is); (case c25 => k_is); (case k25 => k_is); (case a26 => k_is); (case l26 => k_is); (case c26 => k_is); (case k26 => k_is); (case a27 => k_is); (case l27 => k_is); (case c27 => k_is); (case k27 => k_is); (case a28 => k_is); (case l28 => k_is); (case c28 => k_is); (case k28 => k_is); (case a29 => k_is); (case l29 => k_is); (case c29 => k_is); (case k29 => k_is); (case a31 => k_is); (case l31 => k_is); (case c31 => k_is); (case k31 => k_is); (case a32 => k_is); (case l32 => k_is); (case c32 => k_is); (case k32 => k_is); (case a33 => k_is); (case l33 => k_is); (case c33 => k_is); (case k33 => k_is); (case a34 => k_is); (case l34 => k_is); (case c34 => k_is); (case k34 => k_is); (case a35 => k_is); (case l35 => k_is); (case c35 => k_is); (case k35 => k_is); (case a36 => k_is); (case l36 => k_is); (case c36 => k_is); (case k36 => k_is); (case a37 => k_is); (case l37 => k_is); (case c37 => k_is); (case k37 => k_is); (case a38 => k_is); (case l38 => k_is); (case c38 => k_is); (case k38 => k_is); (case a39 => k_is); (case l39 => k_is); (case c39 => k_is); (case k39 => k_is); (case z_FAR_DAY => k_is); (case z_FAR_NUMBER => k_is); (case z_FIRST_NEAR => k_is); (case z_LAST_NEAR => k_is); (case z_MOST_SPANS => k_is); (case z_abs => k_is); (case z_all => k_is); (case z_bool => k_is); (case z_divmod => k_is); (case z_int => k_is); (case z_isinstance => k_is); (case z_len => k_is); (case z_list => k_is); (case z_max => k_is); (case z_min => k_is); (case z_range => k_is); (case z_sorted => k_is); (case z_str => k_is); (case z_tuple => k_is)
