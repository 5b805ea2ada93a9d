import PyProof.Rows.All
import Wide.All
import OpenK.AllK
import Wide.FinOn
import HandS.ForMost
import HandS.Conv
import HandS.Codes
import HandS.Deep
import HandS.Sort
import HandS.Wide
import HandS.IsInst
import HandS.Walk
import HandS.Style
import HandS.Steps
import HandS.SortRule
import KE.KDictPairs
import PyProof.ListStr
import HandS.FStr
import HandS.TupAny
import HandS.TupLe
import HandS.DictComp
import PySem.Challenge.RW_officepapers_k07_routes_repeated
set_option Elab.async false
set_option linter.all false
set_option maxRecDepth 100000
set_option maxHeartbeats 4000000
set_option Elab.async false
set_option linter.all false
set_option maxRecDepth 100000
namespace J
open PySem PySem.Spec PyProof.Rows L2

/-! ### what persists -/
/-- the law's hand: five places, a list and four ints -/
def handSh : HO → Bool
  | .lst [.ref _, .int _, .int _, .int _, .int _] => true
  | _ => false
def Ex (H H' : Hp) : Prop := ∀ a o, H a = some o → H' a = some o
structure Xb (H H' : Hp) : Prop where
  keep : ∀ a o, H a = some o → handSh o = false → H' a = some o
  free : ∀ a, H' a = none → H a = none
instance {H H' : Hp} : CoeFun (Xb H H') (fun _ => ∀ a o, H a = some o → handSh o = false → H' a = some o) := ⟨Xb.keep⟩
theorem Ex.refl (H : Hp) : Ex H H := fun _ _ h => h
theorem Ex.trans {H H1 H2 : Hp} (a : Ex H H1) (b : Ex H1 H2) : Ex H H2 := fun x o h => b x o (a x o h)
theorem fresh_back {H H' : Hp} {p : Addr} (e : Ex H H') (h : H' p = none) : H p = none := by
  cases h1 : H p with
  | none => rfl
  | some o =>
    rw [e p o h1] at h
    cases h
theorem Ex.b {H H' : Hp} (e : Ex H H') : Xb H H' := ⟨fun a o h _ => e a o h, fun _ n => fresh_back e n⟩
theorem Ex.sqL {H H' : Hp} (e : Ex H H') {K : PySem.W.Frag} {a : Addr} {xs : List V} (h : SqL K H a xs) : SqL K H' a xs := by
  rcases h with (h | ⟨o, h⟩) | h
  · exact .inl (.inl (e _ _ h))
  · exact .inl (.inr ⟨o, e _ _ h⟩)
  · exact .inr h
theorem Xb.refl (H : Hp) : Xb H H := ⟨fun _ _ h _ => h, fun _ n => n⟩
theorem Xb.trans {H H1 H2 : Hp} (a : Xb H H1) (b : Xb H1 H2) : Xb H H2 := ⟨fun x o h n => b x o (a x o h n) n, fun x n => a.free x (b.free x n)⟩
theorem Ex.new {H : Hp} {p : Addr} {o : HO} (h : H p = none) : Ex H (upd H p o) := fun a u e => by
  rw [upd_ne (ne_of_none e h)]
  exact e
theorem Ex.mut {H H' : Hp} {p : Addr} {o : HO} (e : Ex H H') (h : H p = none) : Ex H (upd H' p o) := fun a u ha => by
  rw [upd_ne (ne_of_none ha h)]
  exact e a u ha
theorem upd_free {H : Hp} {p a : Addr} {o : HO} (h : upd H p o a = none) : H a = none ∧ a ≠ p := by
  by_cases z : a = p
  · subst z; rw [upd_same] at h; cases h
  · rw [upd_ne z] at h; exact ⟨h, z⟩
theorem Xb.mut {H H' : Hp} {p : Addr} {o : HO} (e : Xb H H') (h : H p = none) : Xb H (upd H' p o) := ⟨fun a u ha n => by
  rw [upd_ne (ne_of_none ha h)]
  exact e a u ha n, fun a n => e.free a (upd_free n).1⟩
theorem Xb.tup {H H' : Hp} (e : Xb H H') {K : PySem.W.Frag} {a : Addr} {xs : List V} (h : SqT K H a xs) : SqT K H' a xs := by
  rcases h with (h | ⟨o, h⟩) | h
  · exact .inl (.inl (e _ _ h rfl))
  · exact .inl (.inr ⟨o, e _ _ h rfl⟩)
  · exact .inr h

/-! ### values that stand for data -/
mutual
inductive Rp (K : PySem.W.Frag) (H : Hp) : V → PyData → Prop
  | non : Rp K H .non .none
  | bl (b : Bool) : Rp K H (.bl b) (.bool b)
  | int (i : Int) : Rp K H (.int i) (.int i)
  | str (x : Str) : Rp K H (.str x) (.str x)
  | tup {a : Addr} {xs : List V} {ds : List PyData} : SqT K H a xs → RpAll K H xs ds → Rp K H (.ref a) (.tuple ds)
  | lst {a : Addr} {xs : List V} {ds : List PyData} : H a = some (.lst xs) → handSh (.lst xs) = false → RpAll K H xs ds → Rp K H (.ref a) (.list ds)
  | dct {a : Addr} : H a = some (.dK []) → Rp K H (.ref a) (.dict [])
inductive RpAll (K : PySem.W.Frag) (H : Hp) : List V → List PyData → Prop
  | nil : RpAll K H [] []
  | cons {v : V} {vs : List V} {d : PyData} {ds : List PyData} : Rp K H v d → RpAll K H vs ds → RpAll K H (v :: vs) (d :: ds)
end
section
variable {K : PySem.W.Frag} {H H' : Hp}
mutual
theorem Rp.mono (e : Xb H H') : ∀ {v : V} {d : PyData}, Rp K H v d → Rp K H' v d
  | _, _, .non => .non
  | _, _, .bl b => .bl b
  | _, _, .int i => .int i
  | _, _, .str x => .str x
  | _, _, .tup h r => .tup (e.tup h) (RpAll.mono e r)
  | _, _, .lst h n r => .lst (e _ _ h n) n (RpAll.mono e r)
  | _, _, .dct h => .dct (e _ _ h rfl)
theorem RpAll.mono (e : Xb H H') : ∀ {vs : List V} {ds : List PyData}, RpAll K H vs ds → RpAll K H' vs ds
  | _, _, .nil => .nil
  | _, _, .cons h r => .cons (Rp.mono e h) (RpAll.mono e r)
end
theorem RpAll.len : ∀ {vs : List V} {ds : List PyData}, RpAll K H vs ds → vs.length = ds.length
  | _, _, .nil => rfl
  | _, _, .cons _ r => congrArg Nat.succ (RpAll.len r)
theorem RpAll.at : ∀ {vs : List V} {ds : List PyData} {i : Nat} {v : V}, RpAll K H vs ds → vs[i]? = some v → ∃ d, ds[i]? = some d ∧ Rp K H v d
  | _, _, _, _, .nil, h => by simp at h
  | _, _, 0, _, .cons h _, e => ⟨_, rfl, by cases e; exact h⟩
  | _, _, i + 1, _, .cons _ r, e => RpAll.at (i := i) r e
theorem RpAll.at' : ∀ {vs : List V} {ds : List PyData} {i : Nat} {d : PyData}, RpAll K H vs ds → ds[i]? = some d → ∃ v, vs[i]? = some v ∧ Rp K H v d
  | _, _, _, _, .nil, h => by simp at h
  | _, _, 0, _, .cons h _, e => ⟨_, rfl, by cases e; exact h⟩
  | _, _, i + 1, _, .cons _ r, e => RpAll.at' (i := i) r e
theorem RpAll.app : ∀ {vs ws : List V} {ds es : List PyData}, RpAll K H vs ds → RpAll K H ws es → RpAll K H (vs ++ ws) (ds ++ es)
  | _, _, _, _, .nil, r => r
  | _, _, _, _, .cons h t, r => .cons h (RpAll.app t r)
theorem RpAll.take : ∀ {vs : List V} {ds : List PyData} (n : Nat), RpAll K H vs ds → RpAll K H (vs.take n) (ds.take n)
  | _, _, 0, _ => by simp; exact .nil
  | _, _, n + 1, .nil => .nil
  | _, _, n + 1, .cons h t => .cons h (RpAll.take n t)
theorem RpAll.drop : ∀ {vs : List V} {ds : List PyData} (n : Nat), RpAll K H vs ds → RpAll K H (vs.drop n) (ds.drop n)
  | _, _, 0, r => r
  | _, _, n + 1, .nil => .nil
  | _, _, n + 1, .cons _ t => RpAll.drop n t
theorem RpAll.ints (ns : List Int) : RpAll K H (ns.map V.int) (ns.map PyData.int) := by
  induction ns with
  | nil => exact .nil
  | cons n r ih => exact .cons (.int n) ih
mutual
theorem Rp.dp : ∀ {v : V} {d : PyData}, Rp K H v d → (∀ l, d ≠ .dict l) → PyData.canLay0 d = true → Dp K H v d
  | _, _, .non, _, _ => .non
  | _, _, .bl b, _, _ => .bl b
  | _, _, .int i, _, _ => .int i
  | _, _, .str x, _, _ => .str x
  | _, _, .tup h r, _, c => .tup h (RpAll.dp r (by simpa [PyData.canLay0] using c))
  | _, _, .lst h _ r, _, c => .lst (.inl (.inl h)) (RpAll.dp r (by simpa [PyData.canLay0] using c))
  | _, _, .dct _, n, _ => absurd rfl (n _)
theorem RpAll.dp : ∀ {vs : List V} {ds : List PyData}, RpAll K H vs ds → PyData.canLayAll0 ds = true → DpAll K H vs ds
  | _, _, .nil, _ => .nil
  | _, _, .cons h r, c => by
    have c2 := c
    simp only [PyData.canLayAll0, Bool.and_eq_true] at c2
    exact .cons (Rp.dp h (fun l e => by subst e; simp [PyData.canLay0] at c2) c2.1) (RpAll.dp r c2.2)
end
end

/-! ### readings, a step at a time -/
/-- a new object of so many parts -/
def NewB (f : List V → HO) (xs : List V) (H : Hp) (Q : VK) : Prop := xs.length ≤ sizeLine ∧ ∀ p, H p = none → Q (.ref p) (upd H p (f xs))
section
variable {K : PySem.W.Frag} {σ : L2.St} {H : Hp} {i j : Int} {n : Nat} {v x y : V} {Q : VK} {D : Ends} {ta tb tc te : TE} {t u c : TT} {tu tw : TS} {r r' : R2} {tr tk : TA} {QA : List V → Hp → Prop} {QB : Bool → Hp → Prop} {A B : Prop} {b : Bool} {p : Prop}
theorem w_seq (h : tu { D with nx := tw D } σ H) : tSeq tu tw D σ H := h
theorem w_next (h : D.nx σ H) : tNext D σ H := h
theorem w_brk (h : D.bk σ H) : tBreak D σ H := h
theorem w_cont (h : D.ct σ H) : tCont D σ H := h
theorem w_asg (h : te σ H fun v H1 => D.nx (σ.set n (some v)) H1) : tAsg te (gName n) D σ H := h
theorem w_asgG {g : TG} (h : te σ H fun v H1 => g v σ H1 D.nx) : tAsg te g D σ H := h
theorem w_gSub {s : TSet} {q : L2.St → Hp → Prop} (h : ta σ H fun o H1 => tb σ H1 fun i H2 => s o i v H2 fun H3 => q σ H3) : gSub ta tb s v σ H q := h
theorem w_ret (h : te σ H D.rt) : tRet te D σ H := h
theorem w_retN (h : D.rt .non H) : tRetN D σ H := h
theorem w_drop (h : te σ H fun _ H1 => D.nx σ H1) : tDrop te D σ H := h
theorem w_ifS (h : c σ H fun b H1 => if b = true then tu D σ H1 else tw D σ H1) : tIfS c tu tw D σ H := h
theorem w_aug {ti : TIp} (h0 : σ[n]? = some (some x)) (h : te σ H fun y H1 => ti x y H1 fun z H2 => D.nx (σ.set n (some z)) H2) : tAug n te ti D σ H := ⟨x, h0, h⟩
theorem w_ipadd {k : VK} (q : k (.int (i + j)) H) : ipI (fun i j => i + j) (.int i) (.int j) H k := ⟨i, j, rfl, rfl, q⟩
theorem w_ipsub {k : VK} (q : k (.int (i - j)) H) : ipI (fun i j => i - j) (.int i) (.int j) H k := ⟨i, j, rfl, rfl, q⟩
theorem w_isVar (h : tVar n σ H Q) : tVar n σ H Q := h
theorem w_isAug {ti : TIp} (h : tAug n te ti D σ H) : tAug n te ti D σ H := h
theorem w_var (h : σ[n]? = some (some v)) (q : Q v H) : tVar n σ H Q := ⟨v, h, q⟩
theorem w_c (q : Q v H) : tC v σ H Q := q
theorem w_nil (q : QA [] H) : tNil σ H QA := q
theorem w_cons (h : ta σ H fun x H1 => tr σ H1 fun xs H2 => QA (x :: xs) H2) : tCons ta tr σ H QA := h
theorem w_op (h : ta σ H fun x H1 => tb σ H1 fun y H2 => r x y H2 Q) : tOp r ta tb σ H Q := h
theorem w_un {f : V → Hp → VK → Prop} (h : ta σ H fun x H1 => f x H1 Q) : tUn f ta σ H Q := h
theorem w_cb {f : List V → Hp → VK → Prop} (h : tr σ H fun vs H1 => f vs H1 Q) : tCB f tr σ H Q := h
theorem w_call {sp : Sp} {E : XK} (h : tr σ H fun vs H1 => sp (vs ++ []) H1 Q E) : tCall sp [] E tr σ H Q := h
theorem w_callK {sp : Sp} {g : List V → List V → List V} {E : XK} (h : tr σ H fun vs H1 => tk σ H1 fun zs H2 => sp (g vs zs) H2 Q E) : tCallK sp g E tr tk σ H Q := h
theorem w_test (h : te σ H fun x H' => ∃ k, x = .bl k ∧ QB k H') : tTest te σ H QB := h
theorem w_tB (h : te σ H fun x H' => ∃ k, x = .bl k ∧ QB k H') : tB te σ H QB := h
theorem w_and (h : t σ H fun c H1 => if c = true then u σ H1 QB else QB false H1) : tAnd t u σ H QB := h
theorem w_or (h : t σ H fun c H1 => if c = true then QB true H1 else u σ H1 QB) : tOr t u σ H QB := h
theorem w_not (h : t σ H fun c H1 => QB (!c) H1) : tNot t σ H QB := h
theorem w_andV (h : ta σ H fun x H1 => ∃ c, x = .bl c ∧ if c = true then tb σ H1 Q else Q (.bl false) H1) : tAndV ta tb σ H Q := h
theorem w_orV (h : ta σ H fun x H1 => ∃ c, x = .bl c ∧ if c = true then Q (.bl true) H1 else tb σ H1 Q) : tOrV ta tb σ H Q := h
theorem w_notV (h : ta σ H fun x H1 => ∃ c, x = .bl c ∧ Q (.bl (!c)) H1) : tNotV ta σ H Q := h
theorem w_if (h : t σ H fun c H1 => if c = true then ta σ H1 Q else tb σ H1 Q) : tIf t ta tb σ H Q := h
theorem w_chain (h : ta σ H fun x H1 => tb σ H1 fun y H2 => r x y H2 fun z H3 => ∃ k, z = .bl k ∧ (if k = true then tc σ H3 fun w' H4 => r' y w' H4 Q else Q (.bl false) H3)) : tChain r r' ta tb tc σ H Q := h
theorem w_exb {q : Bool → Prop} (h : q b) : ∃ k, V.bl b = .bl k ∧ q k := ⟨b, rfl, h⟩
theorem w_add (q : Q (.int (i + j)) H) : rI0 (fun i j => .int (i + j)) (.int i) (.int j) H Q := ⟨i, j, rfl, rfl, q⟩
theorem w_sub (q : Q (.int (i - j)) H) : rI0 (fun i j => .int (i - j)) (.int i) (.int j) H Q := ⟨i, j, rfl, rfl, q⟩
theorem w_lt (q : Q (.bl (decide (i < j))) H) : rI0 (fun i j => .bl (decide (i < j))) (.int i) (.int j) H Q := ⟨i, j, rfl, rfl, q⟩
theorem w_le (q : Q (.bl (decide (i ≤ j))) H) : rI0 (fun i j => .bl (decide (i ≤ j))) (.int i) (.int j) H Q := ⟨i, j, rfl, rfl, q⟩
theorem w_gt (q : Q (.bl (decide (j < i))) H) : rI0 (fun i j => .bl (decide (j < i))) (.int i) (.int j) H Q := ⟨i, j, rfl, rfl, q⟩
theorem w_ge (q : Q (.bl (decide (j ≤ i))) H) : rI0 (fun i j => .bl (decide (j ≤ i))) (.int i) (.int j) H Q := ⟨i, j, rfl, rfl, q⟩
theorem w_mod (h : 0 < j) (q : Q (.int (i % j)) H) : rI (fun _ j => 0 < j) (fun i j => .int (i % j)) (.int i) (.int j) H Q := ⟨i, j, rfl, rfl, h, q⟩
theorem w_fdiv (h0 : 0 < j) (h1 : j < 2 ^ 200) (q : Q (.int (i / j)) H) : rI CDivW (fun i j => .int (i / j)) (.int i) (.int j) H Q := ⟨i, j, rfl, rfl, wide_div h0 (b := 200) (by omega) (by decide) (by decide), q⟩
theorem w_mulR (h : -18446744073709551616 < j ∧ j < 18446744073709551616) (q : Q (.int (i * j)) H) : rI CMul (fun i j => .int (i * j)) (.int i) (.int j) H Q := ⟨i, j, rfl, rfl, Or.inr h, q⟩
theorem w_mulL (h : -18446744073709551616 < i ∧ i < 18446744073709551616) (q : Q (.int (i * j)) H) : rI CMul (fun i j => .int (i * j)) (.int i) (.int j) H Q := ⟨i, j, rfl, rfl, Or.inl h, q⟩
theorem w_mul (h : CMul i j) (q : Q (.int (i * j)) H) : rI CMul (fun i j => .int (i * j)) (.int i) (.int j) H Q := ⟨i, j, rfl, rfl, h, q⟩
theorem w_pow (h : CPow i j) (q : Q (.int (i ^ j.toNat)) H) : rI CPow (fun i j => .int (i ^ j.toNat)) (.int i) (.int j) H Q := ⟨i, j, rfl, rfl, h, q⟩
theorem w_pow_6 (q : Q (.int 1000000) H) : rI CPow (fun i j => .int (i ^ j.toNat)) (.int 10) (.int 6) H Q := ⟨10, 6, rfl, rfl, ⟨by decide, by decide, by decide⟩, q⟩
theorem w_pow_9 (q : Q (.int 1000000000) H) : rI CPow (fun i j => .int (i ^ j.toNat)) (.int 10) (.int 9) H Q := ⟨10, 9, rfl, rfl, ⟨by decide, by decide, by decide⟩, q⟩
theorem w_pow_12 (q : Q (.int 1000000000000) H) : rI CPow (fun i j => .int (i ^ j.toNat)) (.int 10) (.int 12) H Q := ⟨10, 12, rfl, rfl, ⟨by decide, by decide, by decide⟩, q⟩
theorem w_pow_14 (q : Q (.int 100000000000000) H) : rI CPow (fun i j => .int (i ^ j.toNat)) (.int 10) (.int 14) H Q := ⟨10, 14, rfl, rfl, ⟨by decide, by decide, by decide⟩, q⟩
theorem w_pow_15 (q : Q (.int 1000000000000000) H) : rI CPow (fun i j => .int (i ^ j.toNat)) (.int 10) (.int 15) H Q := ⟨10, 15, rfl, rfl, ⟨by decide, by decide, by decide⟩, q⟩
theorem w_pow_18 (q : Q (.int 1000000000000000000) H) : rI CPow (fun i j => .int (i ^ j.toNat)) (.int 10) (.int 18) H Q := ⟨10, 18, rfl, rfl, ⟨by decide, by decide, by decide⟩, q⟩
theorem w_neg (q : Q (.int (-i)) H) : rU (fun i => .int (-i)) (.int i) H Q := ⟨i, rfl, q⟩
theorem w_eq (h : scal x y = true) (q : Q (.bl (decide (x = y))) H) : rEq x y H Q := ⟨h, q⟩
theorem w_ne (h : scal x y = true) (q : Q (.bl (!decide (x = y))) H) : rNe x y H Q := ⟨h, q⟩
theorem w_ixL {a : Addr} {xs : List V} (h : SqL K H a xs) (e : atI xs i = some v) (q : Q v H) : rIxL K (.ref a) (.int i) H Q := ⟨a, xs, i, v, rfl, rfl, h, e, q⟩
theorem w_ixT {a : Addr} {xs : List V} (h : SqT K H a xs) (e : atI xs i = some v) (q : Q v H) : rIxT K (.ref a) (.int i) H Q := ⟨a, xs, i, v, rfl, rfl, h, e, q⟩
theorem w_ixS {z : Str} {cc : Nat} (h : z.length ≤ sizeLine) (e : atI z.cps.toList i = some cc) (q : Q (.str ⟨#[cc]⟩) H) : rIxS (.str z) (.int i) H Q := ⟨z, i, cc, rfl, rfl, h, e, q⟩
theorem w_setL {a : Addr} {xs : List V} {q : Hp → Prop} {m : Nat} (h : H a = some (.lst xs)) (e : ixN xs.length i = some m) (k : q (upd H a (.lst (xs.set m v)))) : rSetL (.ref a) (.int i) v H q := ⟨a, xs, i, m, rfl, rfl, h, e, k⟩
theorem w_tupD (h : tr σ H fun xs H1 => NewB HO.tup xs H1 Q) : tTup tr σ H Q := h
theorem w_lstD (h : tr σ H fun xs H1 => NewB HO.lst xs H1 Q) : tLst tr σ H Q := h
/-- a new object, its heap by a letter -/
theorem w_new {xs : List V} {f : List V → HO} (hl : xs.length ≤ 1000) (h : ∀ q H2, H q = none → Ex H H2 → H2 q = some (f xs) → (∀ a, a ≠ q → H2 a = H a) → Q (.ref q) H2) : NewB f xs H Q :=
  ⟨Nat.le_of_lt (small1000 hl), fun p hp => h p _ hp (Ex.new hp) upd_same fun a ha => upd_ne ha⟩
theorem w_new0 {o : HO} (h : ∀ q H2, H q = none → Ex H H2 → H2 q = some o → (∀ a, a ≠ q → H2 a = H a) → Q (.ref q) H2) : ∀ p, H p = none → Q (.ref p) (upd H p o) :=
  fun p hp => h p _ hp (Ex.new hp) upd_same fun a ha => upd_ne ha
theorem w_dec [Decidable p] (h1 : p → A) (h2 : ¬ p → B) : if decide p = true then A else B := ite2 (fun h => h1 (of_decide_eq_true h)) fun h => h2 (fun q => h (decide_eq_true q))
theorem w_ndec [Decidable p] (h1 : ¬ p → A) (h2 : p → B) : if (!decide p) = true then A else B := by
  by_cases h : p
  · simp only [h, decide_true, Bool.not_true, Bool.false_eq_true, if_false]; exact h2 h
  · simp only [h, decide_false, Bool.not_false, if_true]; exact h1 h
theorem w_T (h : b = true) (a : A) : if b = true then A else B := by rw [if_pos h]; exact a
theorem w_F (h : b = false) (a : B) : if b = true then A else B := by rw [if_neg (by rw [h]; decide)]; exact a
theorem w_2 (h1 : b = true → A) (h2 : b = false → B) : if b = true then A else B := by
  cases b with
  | true => exact iteT (h1 rfl)
  | false => exact iteF (h2 rfl)
theorem w_nT (h : b = false) (a : A) : if (!b) = true then A else B := by rw [h]; exact iteT a
theorem w_nF (h : b = true) (a : B) : if (!b) = true then A else B := by rw [h]; exact iteF a
theorem w_n2 (h1 : b = false → A) (h2 : b = true → B) : if (!b) = true then A else B := by
  cases b with
  | true => exact iteF (h2 rfl)
  | false => exact iteT (h1 rfl)
theorem sq_of {a : Addr} {xs : List V} (h : H a = some (.lst xs)) : SqL K H a xs := .inl (.inl h)
theorem st_of {a : Addr} {xs : List V} (h : H a = some (.tup xs)) : SqT K H a xs := .inl (.inl h)
end
theorem hu65 {A : Around} {k : Nat} (hr : Room k A) : A.units + 65 < cLine := by
  have := hr.un
  omega
section
variable {X : Cx} {CX : CXT} {k : Nat} {f : Addr} {fd : FuncData} {ps ks : List Str} {sp : Sp} {E : XK} {x : Str} {p pos : Pos} {kws : List Keyword} {tk : TA} {g : List Value → List Value → List Value} {gV : List V → List V → List V}
/-- f(k = v, ..): keywords alone -/
theorem pe_callK0 (F : FnOk X.prog X.w X.K X.mg X.base CX k f fd ps sp) (hr : Room k X.A) (hg : Gl X x) (hm : X.mg x = some (.ref f)) (hk : PySem.W.keepIn X.K (.ref f) = true) (hb : KBinds X.K fd ps ks g gV) (hx : Passes CX X E)
    (hkw : PK X kws tk) (hall : (backToKw pos (keywordEach kws X.env)).all (·.1.isSome) = true := by rfl) (hks : (backToKw pos (keywordEach kws X.env)).filterMap (·.1) = ks := by rfl)
    (hdb : (x == ("__debug__" : Str)) = false := by decide) (hpl : ((backTo pos (starEach [] X.env)).any (·.1) || (backToKw pos (keywordEach kws X.env)).any (·.1.isNone)) = false := by rfl) :
    PE X (.Call (.Name x p) [] kws pos) (tCallK sp gV E tNil tk) := by
  refine ⟨fun pins s σ H Q I h => ?_⟩
  refine wpAny_Call_Name_kw (ld_glob I hg hm ?_ hdb)
  refine PySem.W.callWith_KW0 (h₀ := X.base) I.ok.mod.kin hk hall ?_ hpl
  refine thn (hkw.run pos pins s σ H _ I h) fun ws s2 ⟨zs, H2, I2, rz, q2⟩ => ⟨I2.kIn, ?_⟩
  rw [hks]
  exact run_fnk F hr hb hx I2 .nil rz q2
end

/-! ### calls on values, by names -/
def rAbs : List V → Hp → VK → Prop := fun xs H Q => ∃ i, xs = [.int i] ∧ Q (.int (if i < 0 then -i else i)) H
def rInt : List V → Hp → VK → Prop := fun xs H Q => (∃ i, xs = [.int i] ∧ Q (.int i) H) ∨ ∃ k, xs = [.bl k] ∧ Q (.int (if k then 1 else 0)) H
def rMax2 : List V → Hp → VK → Prop := fun xs H Q => ∃ i j, xs = [.int i, .int j] ∧ Q (.int (if j > i then j else i)) H
def rMin2 : List V → Hp → VK → Prop := fun xs H Q => ∃ i j, xs = [.int i, .int j] ∧ Q (.int (if j < i then j else i)) H
def rLen (K : PySem.W.Frag) : List V → Hp → VK → Prop := fun xs H Q => ∃ x n, xs = [x] ∧ LenV K x H n ∧ Q (.int n) H
def rListOf (K : PySem.W.Frag) : List V → Hp → VK → Prop := fun xs H Q => ∃ p ys, xs = [.ref p] ∧ (SqL K H p ys ∨ SqT K H p ys) ∧ ∀ l, H l = none → Q (.ref l) (upd H l (.lst ys))
def rTupleOf (K : PySem.W.Frag) : List V → Hp → VK → Prop := fun xs H Q => ∃ p ys, xs = [.ref p] ∧ ((SqL K H p ys ∧ ∀ l, H l = none → Q (.ref l) (upd H l (.tup ys))) ∨ (SqT K H p ys ∧ Q (.ref p) H))
def rCount : V → List V → Hp → VK → Prop := fun x xs H Q => ∃ a b, x = .str a ∧ xs = [.str b] ∧ Q (.int (Txt.count a b)) H
def rJoin (K : PySem.W.Frag) : V → List V → Hp → VK → Prop := fun x xs H Q => ∃ a p, ∃ ys : List Str, x = .str a ∧ xs = [.ref p] ∧ (SqL K H p (ys.map V.str) ∨ SqT K H p (ys.map V.str)) ∧ (ys.map (·.length)).sum + ys.length * a.length ≤ 16777216 ∧ Q (.str (Txt.join a ys)) H
section
variable {X : Cx}
theorem c_abs : CallR X (.builtin "abs") rAbs := call_abs
theorem c_int : CallR X (.type "int") rInt := call_int1
theorem c_max2 (hc : X.calm = true) : CallR X (.builtin "max") rMax2 := call_max2 hc
theorem c_min2 (hc : X.calm = true) : CallR X (.builtin "min") rMin2 := call_min2 hc
theorem c_len : CallR X (.builtin "len") (rLen X.K) := call_len
theorem c_listOf : CallR X (.type "list") (rListOf X.K) := call_list_of
theorem c_tupleOf : CallR X (.type "tuple") (rTupleOf X.K) := call_tuple_of
theorem m_count : MtR X "str.count" rCount := mt_count
theorem m_join : MtR X "str.join" (rJoin X.K) := mt_join
end
section
variable {K : PySem.W.Frag} {H : Hp} {i j : Int} {Q : VK} {a : Addr} {xs : List V} {z y : Str}
theorem w_abs (q : Q (.int (if i < 0 then -i else i)) H) : rAbs [.int i] H Q := ⟨i, rfl, q⟩
theorem w_int (q : Q (.int i) H) : rInt [.int i] H Q := .inl ⟨i, rfl, q⟩
theorem w_max (q : Q (.int (if j > i then j else i)) H) : rMax2 [.int i, .int j] H Q := ⟨i, j, rfl, q⟩
theorem w_min (q : Q (.int (if j < i then j else i)) H) : rMin2 [.int i, .int j] H Q := ⟨i, j, rfl, q⟩
theorem w_lenL (h : SqL K H a xs) (q : Q (.int xs.length) H) : rLen K [.ref a] H Q := ⟨.ref a, xs.length, rfl, .inl ⟨xs, h, rfl⟩, q⟩
theorem w_lenT (h : SqT K H a xs) (q : Q (.int xs.length) H) : rLen K [.ref a] H Q := ⟨.ref a, xs.length, rfl, .inr ⟨xs, h, rfl⟩, q⟩
theorem w_lenS (h : z.length ≤ sizeLine) (q : Q (.int z.length) H) : rLen K [.str z] H Q := ⟨.str z, z.length, rfl, ⟨h, rfl⟩, q⟩
theorem w_listL (h : SqL K H a xs) (q : ∀ l H2, H l = none → Ex H H2 → H2 l = some (.lst xs) → (∀ a, a ≠ l → H2 a = H a) → Q (.ref l) H2) : rListOf K [.ref a] H Q := ⟨a, xs, rfl, .inl h, w_new0 q⟩
theorem w_listT (h : SqT K H a xs) (q : ∀ l H2, H l = none → Ex H H2 → H2 l = some (.lst xs) → (∀ a, a ≠ l → H2 a = H a) → Q (.ref l) H2) : rListOf K [.ref a] H Q := ⟨a, xs, rfl, .inr h, w_new0 q⟩
theorem w_tupleL (h : SqL K H a xs) (q : ∀ l H2, H l = none → Ex H H2 → H2 l = some (.tup xs) → (∀ a, a ≠ l → H2 a = H a) → Q (.ref l) H2) : rTupleOf K [.ref a] H Q := ⟨a, xs, rfl, .inl ⟨h, w_new0 q⟩⟩
theorem w_count (q : Q (.int (Txt.count z y)) H) : rCount (.str z) [.str y] H Q := ⟨z, y, rfl, rfl, q⟩
theorem w_m1 {r : V → List V → Hp → VK → Prop} {to te : TE} {σ : L2.St} (h : to σ H fun x H1 => (∃ a, x = .str a) ∧ te σ H1 fun y H2 => r x [y] H2 Q) : tM1 r to te σ H Q := h
theorem w_inS {c : Nat} (q : Q (.bl (decide (c ∈ z.cps.toList))) H) : rInS (.str ⟨#[c]⟩) (.str z) H Q := ⟨c, z, rfl, rfl, q⟩
theorem w_notInS {c : Nat} (q : Q (.bl (!decide (c ∈ z.cps.toList))) H) : rNotInS (.str ⟨#[c]⟩) (.str z) H Q := ⟨c, z, rfl, rfl, q⟩
theorem w_isi {x : V} {t : String} {b : Bool} {c : String} (ty : TyX K H x (.type t)) (e : kitB t c = some b) (q : Q (.bl b) H) : rIsi K [x, .ty c] H Q := ⟨x, .ty c, .type t, .type c, b, rfl, .ty c, ty, kit_ty e, q⟩
end
end J

namespace J
open PySem PySem.Spec PyProof.Rows L2
/-! ### loops and comprehensions -/
def LoopB (J : It) (g : TG) (tb : TS) (D : Ends) (σ : L2.St) (H1 : Hp) : Prop := ∃ W : Nat → Nat → L2.St → Hp → Prop, (∃ m, W 0 m σ H1) ∧ ∀ i m σ H, W i m σ H →
  (J.stop i H ∧ D.nx σ H) ∨ (J.go i H ∧ ∃ N : L2.St → Hp → Prop, (∀ σ' H', N σ' H' → ∃ m', m' < m ∧ W (i + 1) m' σ' H') ∧ ∀ x H', J.yld i H x H' → g x σ H' fun σ2 H2 => tb { D with nx := N, ct := N, bk := D.nx } σ2 H2)
def LcB (J : It) (g : TG) (tt : TT) (te : TE) (vs : List Nat) (σ : L2.St) (H1 : Hp) (Q : VK) : Prop := ∀ D, H1 D = none → ∃ W : Nat → Nat → Hp → Prop, (∃ m, W 0 m (upd H1 D (.lst []))) ∧ ∀ i m H, W i m H →
  (J.stop i H ∧ Q (.ref D) H) ∨ (J.go i H ∧ ∃ Nx : Hp → Prop, (∀ H', Nx H' → ∃ m', m' < m ∧ W (i + 1) m' H') ∧ ∀ x H', J.yld i H x H' → g x (wipe σ vs) H' fun σ2 H2 => wipe σ2 vs = wipe σ vs ∧ tt σ2 H2 fun b H3 =>
    if b = true then te σ2 H3 fun y H4 => ∃ acc, H4 D = some (.lst acc) ∧ acc.length < sizeLine ∧ Nx (upd H4 D (.lst (acc ++ [y]))) else Nx H3)
def WhB (c : TT) (tb : TS) (D : Ends) (σ : L2.St) (H : Hp) : Prop := ∃ W : Nat → L2.St → Hp → Prop, (∃ m, W m σ H) ∧ ∀ m σ H, W m σ H →
  c σ H fun b H1 => if b = true then ∃ N : L2.St → Hp → Prop, (∀ σ' H', N σ' H' → ∃ m', m' < m ∧ W m' σ' H') ∧ tb { D with nx := N, ct := N, bk := D.nx } σ H1 else D.nx σ H1
section
variable {K : PySem.W.Frag} {σ : L2.St} {H : Hp} {Q : VK} {D : Ends} {tl te : TE} {tt c : TT} {g : TG} {tb : TS} {ta : TA} {vs : List Nat} {wi : TI} {R : It → Hp → Prop} {QB : Bool → Hp → Prop} {k : L2.St → Hp → Prop} {v x y z : V} {i j m : Nat} {a : Addr}
theorem w_for (h : wi σ H fun J H1 => LoopB J g tb D σ H1) : tFor wi g tb D σ H := h
theorem w_while (h : WhB c tb D σ H) : tWhile c tb D σ H := h
theorem w_lc (h : wi σ H fun J H1 => LcB J g tt te vs σ H1 Q) : tLc wi g tt te vs σ H Q := h
theorem w_iTup (h : tl σ H fun x H1 => ∃ a, x = .ref a ∧ (∃ xs, SqT K H1 a xs) ∧ R (Itt K a) H1) : iTup K tl σ H R := h
theorem w_iList (h : tl σ H fun x H1 => ∃ a, x = .ref a ∧ (∃ xs, SqL K H1 a xs) ∧ R (Itl K a) H1) : iList K tl σ H R := h
theorem w_iRng1 (h : ta σ H fun vs H1 => ∃ j : Int, vs = [.int j] ∧ -(2 ^ 62) ≤ j ∧ j < 2 ^ 62 ∧ R (Itr 0 j.toNat) H1) : iRng1 ta σ H R := h
theorem w_iRng2 (h : ta σ H fun vs H1 => ∃ i j : Int, vs = [.int i, .int j] ∧ (-(2 ^ 62) ≤ i ∧ i < 2 ^ 62 ∧ -(2 ^ 62) ≤ j ∧ j < 2 ^ 62) ∧ R (Itr i (j - i).toNat) H1) : iRng2 ta σ H R := h
theorem w_gName (h : k (σ.set i (some v)) H) : gName i v σ H k := h
theorem w_gTup2 (h : SqT K H a [x, y]) (q : k ((σ.set i (some x)).set j (some y)) H) : gTup K 2 (gCons (gName i) (gCons (gName j) gNil)) (.ref a) σ H k := ⟨a, _, rfl, h, rfl, x, _, rfl, y, _, rfl, rfl, q⟩
theorem w_gTup3 (h : SqT K H a [x, y, z]) (q : k (((σ.set i (some x)).set j (some y)).set m (some z)) H) : gTup K 3 (gCons (gName i) (gCons (gName j) (gCons (gName m) gNil))) (.ref a) σ H k := ⟨a, _, rfl, h, rfl, x, _, rfl, y, _, rfl, z, _, rfl, rfl, q⟩
theorem w_tYes (h : QB true H) : tYes σ H QB := h
theorem w_loopT {xs : List V} (hs : SqT K H a xs) (h : LoopB (Itt K a) g tb D σ H) : ∃ a', V.ref a = .ref a' ∧ (∃ xs, SqT K H a' xs) ∧ LoopB (Itt K a') g tb D σ H := ⟨a, rfl, ⟨xs, hs⟩, h⟩
theorem w_loopL {xs : List V} (hs : SqL K H a xs) (h : LoopB (Itl K a) g tb D σ H) : ∃ a', V.ref a = .ref a' ∧ (∃ xs, SqL K H a' xs) ∧ LoopB (Itl K a') g tb D σ H := ⟨a, rfl, ⟨xs, hs⟩, h⟩
theorem w_lcT {xs : List V} (hs : SqT K H a xs) (h : LcB (Itt K a) g tt te vs σ H Q) : ∃ a', V.ref a = .ref a' ∧ (∃ xs, SqT K H a' xs) ∧ LcB (Itt K a') g tt te vs σ H Q := ⟨a, rfl, ⟨xs, hs⟩, h⟩
theorem w_lcL {xs : List V} (hs : SqL K H a xs) (h : LcB (Itl K a) g tt te vs σ H Q) : ∃ a', V.ref a = .ref a' ∧ (∃ xs, SqL K H a' xs) ∧ LcB (Itl K a') g tt te vs σ H Q := ⟨a, rfl, ⟨xs, hs⟩, h⟩
theorem w_loopR {n : Int} (h0 : -1000000000 ≤ n ∧ n ≤ 1000000000) (h : LoopB (Itr 0 n.toNat) g tb D σ H) : ∃ j : Int, [V.int n] = [.int j] ∧ -(2 ^ 62) ≤ j ∧ j < 2 ^ 62 ∧ LoopB (Itr 0 j.toNat) g tb D σ H := ⟨n, rfl, by omega, by omega, h⟩
theorem w_lcR {n : Int} (h0 : -1000000000 ≤ n ∧ n ≤ 1000000000) (h : LcB (Itr 0 n.toNat) g tt te vs σ H Q) : ∃ j : Int, [V.int n] = [.int j] ∧ -(2 ^ 62) ≤ j ∧ j < 2 ^ 62 ∧ LcB (Itr 0 j.toNat) g tt te vs σ H Q := ⟨n, rfl, by omega, by omega, h⟩
theorem lc_T {xs : List V} (Pv : Addr → Nat → Hp → Prop) (h0 : ∀ D, H D = none → Pv D 0 (upd H D (.lst []))) (hl : ∀ D i H', i ≤ xs.length → Pv D i H' → SqT K H' a xs)
    (hs : ∀ D i x H', H D = none → xs[i]? = some x → Pv D i H' → g x (wipe σ vs) H' fun σ2 H2 => wipe σ2 vs = wipe σ vs ∧ tt σ2 H2 fun b H3 =>
      if b = true then te σ2 H3 fun y H4 => ∃ acc, H4 D = some (.lst acc) ∧ acc.length < sizeLine ∧ Pv D (i + 1) (upd H4 D (.lst (acc ++ [y]))) else Pv D (i + 1) H3) (hd : ∀ D H', H D = none → Pv D xs.length H' → Q (.ref D) H') : LcB (Itt K a) g tt te vs σ H Q :=
  fun D nD => lc_tup (Pv D) (h0 D nD) (hl D) (fun i x H' hx p => hs D i x H' nD hx p) fun H' p => hd D H' nD p
theorem lc_L {xs : List V} (Pv : Addr → Nat → Hp → Prop) (h0 : ∀ D, H D = none → Pv D 0 (upd H D (.lst []))) (hl : ∀ D i H', i ≤ xs.length → Pv D i H' → SqL K H' a xs)
    (hs : ∀ D i x H', H D = none → xs[i]? = some x → Pv D i H' → g x (wipe σ vs) H' fun σ2 H2 => wipe σ2 vs = wipe σ vs ∧ tt σ2 H2 fun b H3 =>
      if b = true then te σ2 H3 fun y H4 => ∃ acc, H4 D = some (.lst acc) ∧ acc.length < sizeLine ∧ Pv D (i + 1) (upd H4 D (.lst (acc ++ [y]))) else Pv D (i + 1) H3) (hd : ∀ D H', H D = none → Pv D xs.length H' → Q (.ref D) H') : LcB (Itl K a) g tt te vs σ H Q :=
  fun D nD => lc_list (Pv D) (h0 D nD) (hl D) (fun i x H' hx p => hs D i x H' nD hx p) fun H' p => hd D H' nD p
theorem lc_R {lo : Int} {n : Nat} (Pv : Addr → Nat → Hp → Prop) (h0 : ∀ D, H D = none → Pv D 0 (upd H D (.lst [])))
    (hs : ∀ D i H', H D = none → i < n → Pv D i H' → g (.int (lo + i)) (wipe σ vs) H' fun σ2 H2 => wipe σ2 vs = wipe σ vs ∧ tt σ2 H2 fun b H3 =>
      if b = true then te σ2 H3 fun y H4 => ∃ acc, H4 D = some (.lst acc) ∧ acc.length < sizeLine ∧ Pv D (i + 1) (upd H4 D (.lst (acc ++ [y]))) else Pv D (i + 1) H3) (hd : ∀ D H', H D = none → Pv D n H' → Q (.ref D) H') : LcB (Itr lo n) g tt te vs σ H Q :=
  fun D nD => lc_range (Pv D) (h0 D nD) (fun i H' hi p => hs D i H' nD hi p) fun H' p => hd D H' nD p
/-- the end of a comprehension's turn -/
theorem w_acc {D : Addr} {acc : List V} {P : Hp → Prop} (h : H D = some (.lst acc)) (hl : acc.length < 1000) (p : P (upd H D (.lst (acc ++ [v])))) : ∃ acc, H D = some (.lst acc) ∧ acc.length < sizeLine ∧ P (upd H D (.lst (acc ++ [v]))) := ⟨acc, h, small1000 (Nat.le_of_lt hl), p⟩
theorem w_all {bs : List Bool} (h : SqL K H a (bs.map V.bl)) (q : Q (.bl (bs.all id)) H) : rAll K [.ref a] H Q := ⟨a, bs, rfl, h, q⟩
theorem w_ltT {b : Addr} {ns ms : List Int} (h1 : SqT K H a (ns.map V.int)) (h2 : SqT K H b (ms.map V.int)) (q : Q (.bl (HT.lexLt ns ms)) H) : rLtT K (.ref a) (.ref b) H Q := ⟨a, b, ns, ms, rfl, rfl, h1, h2, q⟩
end
def tyName : PyData → String
  | .none => "NoneType" | .bool _ => "bool" | .int _ => "int" | .str _ => "str" | .list _ => "list" | .tuple _ => "tuple" | .dict _ => "dict"
theorem Rp.ty {K : PySem.W.Frag} {H : Hp} {v : V} {d : PyData} (h : Rp K H v d) : TyX K H v (.type (tyName d)) := by
  cases h with
  | non => exact .base .non
  | bl b => exact .base (.bl b)
  | int i => exact .base (.int i)
  | str x => exact .base (.str x)
  | lst e _ _ => exact .base (.lst e)
  | dct e => exact .base (.dK e)
  | tup hs _ =>
    rcases hs with (h | ⟨o, h⟩) | ⟨o, its, n, e, c, _⟩
    · exact .base (.tup h)
    · exact .fTuple h
    · exact .kTuple e c
def isTupD : PyData → Bool
  | .tuple _ => true | _ => false
theorem kit_tup : ∀ d : PyData, kitB (tyName d) "tuple" = some (isTupD d)
  | .none => by decide +kernel
  | .bool _ => by simp only [tyName, isTupD]; decide +kernel
  | .int _ => by simp only [tyName, isTupD]; decide +kernel
  | .str _ => by simp only [tyName, isTupD]; decide +kernel
  | .list _ => by simp only [tyName, isTupD]; decide +kernel
  | .tuple _ => by simp only [tyName, isTupD]; decide +kernel
  | .dict _ => by simp only [tyName, isTupD]; decide +kernel
def isStrD : PyData → Bool
  | .str _ => true | _ => false
theorem kit_str : ∀ d : PyData, kitB (tyName d) "str" = some (isStrD d)
  | .none => by decide +kernel
  | .bool _ => by simp only [tyName, isStrD]; decide +kernel
  | .int _ => by simp only [tyName, isStrD]; decide +kernel
  | .str _ => by simp only [tyName, isStrD]; decide +kernel
  | .list _ => by simp only [tyName, isStrD]; decide +kernel
  | .tuple _ => by simp only [tyName, isStrD]; decide +kernel
  | .dict _ => by simp only [tyName, isStrD]; decide +kernel
def isIntD : PyData → Bool
  | .int _ => true | .bool _ => true | _ => false
theorem kit_int : ∀ d : PyData, kitB (tyName d) "int" = some (isIntD d)
  | .none => by decide +kernel
  | .bool _ => by simp only [tyName, isIntD]; decide +kernel
  | .int _ => by simp only [tyName, isIntD]; decide +kernel
  | .str _ => by simp only [tyName, isIntD]; decide +kernel
  | .list _ => by simp only [tyName, isIntD]; decide +kernel
  | .tuple _ => by simp only [tyName, isIntD]; decide +kernel
  | .dict _ => by simp only [tyName, isIntD]; decide +kernel
def isBoolD : PyData → Bool
  | .bool _ => true | _ => false
theorem kit_bool : ∀ d : PyData, kitB (tyName d) "bool" = some (isBoolD d)
  | .none => by decide +kernel
  | .bool _ => by simp only [tyName, isBoolD]; decide +kernel
  | .int _ => by simp only [tyName, isBoolD]; decide +kernel
  | .str _ => by simp only [tyName, isBoolD]; decide +kernel
  | .list _ => by simp only [tyName, isBoolD]; decide +kernel
  | .tuple _ => by simp only [tyName, isBoolD]; decide +kernel
  | .dict _ => by simp only [tyName, isBoolD]; decide +kernel
section
variable {K : PySem.W.Frag} {H : Hp} {Q : VK} {v : V} {d : PyData}
theorem w_isiTup (h : Rp K H v d) (q : Q (.bl (isTupD d)) H) : rIsi K [v, .ty "tuple"] H Q := w_isi h.ty (kit_tup d) q
theorem w_isiStr (h : Rp K H v d) (q : Q (.bl (isStrD d)) H) : rIsi K [v, .ty "str"] H Q := w_isi h.ty (kit_str d) q
theorem w_isiInt (h : Rp K H v d) (q : Q (.bl (isIntD d)) H) : rIsi K [v, .ty "int"] H Q := w_isi h.ty (kit_int d) q
theorem w_isiBool (h : Rp K H v d) (q : Q (.bl (isBoolD d)) H) : rIsi K [v, .ty "bool"] H Q := w_isi h.ty (kit_bool d) q
end
section
variable {K : PySem.W.Frag} {H : Hp} {z : Str} {P : Prop} {vs : List V} {ds : List PyData} {v : V} {d d1 d2 d3 : PyData}
theorem w_exs (h : P) : (∃ a, V.str z = .str a) ∧ P := ⟨⟨z, rfl⟩, h⟩
theorem RpAll.two (h : RpAll K H vs [d1, d2]) : ∃ v1 v2, vs = [v1, v2] ∧ Rp K H v1 d1 ∧ Rp K H v2 d2 := by
  cases h with | cons h1 r => cases r with | cons h2 r => cases r with | nil => exact ⟨_, _, rfl, h1, h2⟩
theorem RpAll.three (h : RpAll K H vs [d1, d2, d3]) : ∃ v1 v2 v3, vs = [v1, v2, v3] ∧ Rp K H v1 d1 ∧ Rp K H v2 d2 ∧ Rp K H v3 d3 := by
  cases h with | cons h1 r => cases r with | cons h2 r => cases r with | cons h3 r => cases r with | nil => exact ⟨_, _, _, rfl, h1, h2, h3⟩
theorem Rp.isInt {i : Int} (h : Rp K H v (.int i)) : v = .int i := by cases h; rfl
theorem Rp.isStr {x : Str} (h : Rp K H v (.str x)) : v = .str x := by cases h; rfl
theorem Rp.isBl {x : Bool} (h : Rp K H v (.bool x)) : v = .bl x := by cases h; rfl
theorem Rp.isTup (h : Rp K H v (.tuple ds)) : ∃ a xs, v = .ref a ∧ SqT K H a xs ∧ RpAll K H xs ds := by
  cases h with | tup hs r => exact ⟨_, _, rfl, hs, r⟩
theorem len2 {α : Type} {l : List α} (h : l.length = 2) : ∃ a b, l = [a, b] := by
  match l, h with
  | [a, b], _ => exact ⟨a, b, rfl⟩
theorem len3 {α : Type} {l : List α} (h : l.length = 3) : ∃ a b c, l = [a, b, c] := by
  match l, h with
  | [a, b, c], _ => exact ⟨a, b, c, rfl⟩
end
section
variable {K : PySem.W.Frag} {H H' : Hp} {Q : VK} {to te : TE} {t : TA} {σ : L2.St} {r : V → List V → Hp → VK → Prop} {T : String} {l a : Addr} {xs ds : List V} {y v x : V} {z : Str}
theorem w_bm (h : to σ H fun x H1 => tyV K T x H1 ∧ t σ H1 fun xs H2 => r x xs H2 Q) : tBM K T r to t σ H Q := h
theorem w_tyL {P : Prop} (h : H l = some (.lst xs)) (p : P) : tyV K "list" (.ref l) H ∧ P := ⟨.inl ⟨rfl, _, sq_of h⟩, p⟩
theorem w_append (h : H l = some (.lst xs)) (hl : xs.length < 1000) (q : Q .non (upd H l (.lst (xs ++ [y])))) : rAppend (.ref l) [y] H Q := ⟨l, xs, y, rfl, rfl, h, small1000 (Nat.le_of_lt hl), q⟩
theorem w_inD {d : PyData} {es : List PyData} (h1 : Dp K H v d) (h2 : Dp K H (.ref a) (.list es)) (s1 : SeqAt.shaped d = true) (s2 : SeqAt.shaped (.list es) = true) (q : Q (.bl (es.any fun z => PyData.eqv z d)) H) : rInD K v (.ref a) H Q := ⟨d, es, h1, h2, s1, s2, q⟩
theorem w_notInD {d : PyData} {es : List PyData} (h1 : Dp K H v d) (h2 : Dp K H (.ref a) (.list es)) (s1 : SeqAt.shaped d = true) (s2 : SeqAt.shaped (.list es) = true) (q : Q (.bl (!es.any fun z => PyData.eqv z d)) H) : rNotInD K v (.ref a) H Q := ⟨d, es, h1, h2, s1, s2, q⟩
theorem w_neD {d e : PyData} (h1 : Dp K H v d) (h2 : Dp K H y e) (s1 : SeqAt.shaped d = true) (s2 : SeqAt.shaped e = true) (q : Q (.bl (!PyData.eqv d e)) H) : rNeD K v y H Q := ⟨d, e, h1, h2, s1, s2, q⟩
theorem w_eqD {d e : PyData} (h1 : Dp K H v d) (h2 : Dp K H y e) (s1 : SeqAt.shaped d = true) (s2 : SeqAt.shaped e = true) (q : Q (.bl (PyData.eqv d e)) H) : rEqD K v y H Q := ⟨d, e, h1, h2, s1, s2, q⟩
theorem w_join {ys : List Str} (h : SqL K H a (ys.map V.str)) (hs : (ys.map (·.length)).sum + ys.length * z.length ≤ 16777216) (q : Q (.str (Txt.join z ys)) H) : rJoin K (.str z) [.ref a] H Q := ⟨z, a, ys, rfl, rfl, .inl h, hs, q⟩
theorem Xb.at {b : Addr} (e : Xb H H') {ys : List V} (h : H b = some (.tup ys)) : H' b = some (.tup ys) := e _ _ h rfl
theorem sh_strs (ss : List Str) : handSh (.lst (ss.map V.str)) = false := by
  cases ss <;> rfl
theorem sh_ints (ns : List Int) : handSh (.lst (ns.map V.int)) = false := by
  cases ns <;> rfl
end
/-! ### list(range(a, b, c)) -/
def ListR3 (vs : List V) (H : Hp) (Q : VK) : Prop := ∃ (i j c : Int) (n : Nat), vs = [.int i, .int j, .int c] ∧ RgC i j c n ∧ n ≤ 2 ^ 24 ∧ ∀ q, H q = none → Q (.ref q) (upd H q (.lst (((List.range n).map fun k : Nat => i + (k : Int) * c).map V.int)))
def tListR3 (ta : TA) : TE := fun σ H Q => ta σ H fun vs H1 => ListR3 vs H1 Q
theorem w_listR3 {ta : TA} {σ : L2.St} {H : Hp} {Q : VK} (h : ta σ H fun vs H1 => ListR3 vs H1 Q) : tListR3 ta σ H Q := h
theorem w_range3 {i j c : Int} {n : Nat} {H : Hp} {Q : VK} (h : RgC i j c n) (hn : n ≤ 10000) (q : ∀ l H2, H l = none → Ex H H2 → H2 l = some (.lst (((List.range n).map fun k : Nat => i + (k : Int) * c).map V.int)) → (∀ a, a ≠ l → H2 a = H a) → Q (.ref l) H2) : ListR3 [.int i, .int j, .int c] H Q :=
  ⟨i, j, c, n, rfl, h, by omega, w_new0 q⟩
theorem pe_listRg3 {X : Cx} {a b c : Expr} {ta : TA} {p p2 pos pos2 : Pos} (hc : X.calm = true) (hgl : Gl X "list") (hml : X.mg "list" = none) (hg : Gl X "range") (hm : X.mg "range" = none) (ha : PA X [a, b, c] ta)
    (hs : starEach [a, b, c] X.env = (false, eval a X.env) :: starEach [b, c] X.env := by rfl) (hpl : (backTo pos2 (starEach [b, c] X.env)).any (·.1) = false := by rfl)
    (na : starEach [.Call (.Name "range" p2) [a, b, c] [] pos2] X.env = (false, eval (.Call (.Name "range" p2) [a, b, c] [] pos2) X.env) :: starEach [] X.env := by rfl) :
    PE X (.Call (.Name "list" p) [.Call (.Name "range" p2) [a, b, c] [] pos2] [] pos) (tListR3 ta) := by
  refine ⟨fun pins s σ H Q I h => ?_⟩
  refine Call_ (ld_blt I hgl hml boot_list (PyProof.Rows.callWith_type1 (args_cons (thn (Q := fun x s' => ∃ r i j k n t u v H', x = .ref r ∧ IsRange s'.heap r i j k t u v ∧ Inv X pins σ H' s' ∧ RgC i j k n ∧ n ≤ 2 ^ 24 ∧ ∀ q, H' q = none → Q (.ref q) (upd H' q (.lst (((List.range n).map fun m : Nat => i + (m : Int) * k).map V.int)))) ?_ fun x s1 ⟨r, i, j, k, n, t, u, v, H1, ex, hr, I1, ok, hn, q⟩ => args_nil ?_) na) na))
  · refine Call_ (ld_blt I hg hm boot_range (PyProof.Rows.callWith_type1 (thn (ha.run pos2 pins s σ H _ I h) fun us s1 ⟨vs, H1, I1, r1, q1⟩ => ?_) hs hpl))
    obtain ⟨i, j, k, n, e, ok, hn, q⟩ := q1
    subst e
    cases r1 with
    | cons r rr =>
      cases rr with
      | cons r' rr =>
        cases rr with
        | cons r'' rr =>
          cases rr
          obtain ⟨t, rfl⟩ := r
          obtain ⟨t', rfl⟩ := r'
          obtain ⟨t'', rfl⟩ := r''
          exact call_range_3 ok.1 ⟨_, i, j, k, n, _, _, _, H1, rfl, IsRange.new .., I1.kept (t' := s1.toks) fun b o e => Heap.get?_push_of_some _ e, ok, hn, q⟩ (.inl (PyProof.noPylong_small ok.2.1))
  · subst ex
    obtain ⟨c0, c1, c2, c3⟩ := ok
    refine call_list_range (n := n) (I1.ok.hd hc) hr c2 c3 hn fun h' tk acc c' hk e' hi => ?_
    refine ⟨.ref s1.heap.objs.size, upd H1 s1.heap.objs.size (.lst (((List.range n).map fun m : Nat => i + (m : Int) * k).map V.int)), I1.laid hk (Nat.le_refl _) (show ObjOk X.prog X.w _ _ _ (.lst (((List.range n).map fun m : Nat => i + (m : Int) * k).map V.int)) from ⟨?_, acc.toList, c', ?_, ?_⟩), rfl, q _ (I1.hok.fresh (Nat.le_refl _))⟩
    · rw [List.length_map, List.length_map, List.length_range, sizeLine_eq]; omega
    · have e : acc.toList.length = n := by rw [Array.length_toList]; exact hi.1
      rw [List.map_map, ← e]
      refine vals_of_get acc.toList _ fun m u hm => ?_
      obtain ⟨t, rfl⟩ := hi.2 m u (by rw [← hm, Array.getElem?_toList])
      exact ⟨t, rfl⟩
    · rw [Array.toArray_toList]; exact e'
theorem w_cat {H : Hp} {Q : VK} {a b : Addr} {xs ys : List V} (h1 : H a = some (.lst xs)) (h2 : H b = some (.lst ys)) (hl : xs.length + ys.length ≤ 1000) (q : ∀ l H2, H l = none → Ex H H2 → H2 l = some (.lst (xs ++ ys)) → (∀ c, c ≠ l → H2 c = H c) → Q (.ref l) H2) : rCat (.ref a) (.ref b) H Q :=
  ⟨a, b, xs, ys, rfl, rfl, h1, h2, Nat.le_of_lt (small1000 hl), w_new0 q⟩
end J

namespace J
open PySem PySem.Spec PyProof.Rows L2
/-! ### tuples whose object is known; dict of such; list of a text -/
/-- a new tuple, its object known to have no dict of its own -/
def NewF (xs : List V) (H : Hp) (Q : VK) : Prop := xs.length ≤ sizeLine ∧ ∀ p o, H p = none → o.dict = none → Q (.ref p) (upd H p (.frz o (.tup xs)))
def tTupF (t : TA) : TE := fun σ H Q => t σ H fun xs H1 => NewF xs H1 Q
theorem pe_tupF {X : Cx} {es : List Expr} {t : TA} {pos : Pos} {x1} (h : PA X es t) : PE X (.Tuple es x1 pos) (tTupF t) := by
  refine ⟨fun pins s σ H Q I hq => ?_⟩
  refine wpAny_Tuple_spliced (thn (h.run pos pins s σ H _ I hq) fun us s1 ⟨xs, H1, I1, r, z, q⟩ => ⟨by rw [← r.length]; exact z, ?_⟩)
  have hf : H1 s1.heap.objs.size = none := I1.hok.fresh (Nat.le_refl _)
  refine ⟨.ref s1.heap.objs.size, upd H1 s1.heap.objs.size (.frz { cls := .type "tuple", data := .seq us.toArray } (.tup xs)), I1.laid (t' := s1.toks) (fun b u e => Heap.get?_push_of_some _ e) (Nat.le_refl _) ?_, rfl, q _ _ hf rfl⟩
  exact ⟨Heap.get?_push_size _ rfl, z, us, r, ⟨_, Heap.get?_push_size _ rfl, rfl, _, rfl⟩⟩
def rTupleF (K : PySem.W.Frag) : List V → Hp → VK → Prop := fun xs H Q => ∃ p ys, xs = [.ref p] ∧ SqL K H p ys ∧ ∀ l o, H l = none → o.dict = none → Q (.ref l) (upd H l (.frz o (.tup ys)))
theorem c_tupleF {X : Cx} : CallR X (.type "tuple") (rTupleF X.K) := by
  intro pins s σ H xs us Q I r h
  obtain ⟨p, ys, rfl, hq, q⟩ := h
  obtain ⟨u, rfl, rx⟩ := vals1 r
  cases rx
  obtain ⟨its, r', pl, hz⟩ := I.list hq
  have hlen := r'.length
  refine call_tuple_list pl.isList (fun h' kp => ?_) (by simp only [List.size_toArray] <;> omega)
  have I1 : Inv X pins σ H { s with heap := h' } := I.kept (t' := s.toks) kp
  have I2 : Inv X pins σ (upd H h'.objs.size (.frz { cls := .type "tuple", data := .seq its.toArray } (.tup ys))) { s with heap := h'.push { cls := .type "tuple", data := .seq its.toArray } } :=
    I1.laid (t' := s.toks) (fun b o e => Heap.get?_push_of_some _ e) (Nat.le_refl _) (show ObjOk X.prog X.w _ _ _ (.frz _ (.tup ys)) from ⟨Heap.get?_push_size _ rfl, hz, its, r', IsTup.new _ _⟩)
  exact ⟨.ref h'.objs.size, _, I2, rfl, q _ _ (I1.hok.fresh (Nat.le_refl _)) rfl⟩
/-- dict(t), t a tuple of pairs -/
def rDictT (K : PySem.W.Frag) : List V → Hp → VK → Prop := fun xs H Q => ∃ (a : Addr) (o : Obj) (ps : List Addr) (kvs : List (Key × V)), xs = [.ref a] ∧ H a = some (.frz o (.tup (ps.map V.ref))) ∧ o.dict = none ∧ Paired (fun p kv => SqT K H p [kV kv.1, kv.2]) ps kvs ∧
  ∀ p, H p = none → Q (.ref p) (upd H p (.dK (mergeK [] kvs)))
theorem pairs_us {h : Heap} : ∀ (prs : List (Key × Value)) (ps : List Addr), (∀ (j : Nat) (q : Key × Value), prs[j]? = some q → ∃ (b : Addr) (u : Value), ps[j]? = some b ∧ IsTup h b #[u, q.2] ∧ keyIs q.1 u = true) →
    ∃ us : List (Value × Value), us.length = prs.length ∧ ∀ (j : Nat) (q : Key × Value), prs[j]? = some q → ∃ (b : Addr) (u : Value), ps[j]? = some b ∧ us[j]? = some (u, q.2) ∧ IsTup h b #[u, q.2] ∧ keyIs q.1 u = true
  | [], _, _ => ⟨[], rfl, fun j q e => by simp at e⟩
  | p :: r, ps, hat => by
    obtain ⟨b, u, e1, e2, e3⟩ := hat 0 p rfl
    cases ps with
    | nil => simp at e1
    | cons b' ps =>
      obtain ⟨us, l1, l2⟩ := pairs_us r ps fun j q e => by
        obtain ⟨b, u, z1, z2, z3⟩ := hat (j + 1) q (by simpa using e)
        exact ⟨b, u, by simpa using z1, z2, z3⟩
      refine ⟨(u, p.2) :: us, by rw [List.length_cons, List.length_cons, l1], fun j q e => ?_⟩
      cases j with
      | zero =>
        have e' : p = q := Option.some.inj e
        subst e'
        exact ⟨b, u, e1, rfl, e2, e3⟩
      | succ j =>
        obtain ⟨b2, u2, z1, z2, z3, z4⟩ := l2 j q (by simpa using e)
        exact ⟨b2, u2, by simpa using z1, by simpa using z2, z3, z4⟩
theorem c_dictT {X : Cx} (hcalm : X.calm = true) : CallR X (.type "dict") (rDictT X.K) := by
  intro pins s σ H xs us Q I r q
  obtain ⟨a, o, ps, kvs, ex, hq, hdn, hp, q⟩ := q
  subst ex
  obtain ⟨u, eu, rx⟩ := vals1 r
  subst eu
  cases rx
  obtain ⟨ho, hz, its, rv, pl⟩ := (show ObjOk X.prog X.w H s.heap a (.frz o (.tup (ps.map V.ref))) from I.hok a _ hq)
  have ei := refs_at rv
  subst ei
  rw [List.length_map] at hz
  obtain ⟨prs, rel, hl, hpr⟩ := pairs_of I hp
  obtain ⟨o', ho', hc, n, hdat⟩ := pl
  rw [ho] at ho'
  cases ho'
  have hat : ∀ (j : Nat) (q : Key × Value), prs[j]? = some q → ∃ (b : Addr) (u : Value), ps[j]? = some b ∧ IsTup s.heap b #[u, q.2] ∧ keyIs q.1 u = true := hpr
  obtain ⟨us, hul, hus⟩ := pairs_us (h := s.heap) prs ps hat
  have P := PairArg.tuple (prog := X.prog) (w := X.w) a (ps.map Value.ref).toArray (fun j => ps.getD j 0) us
  refine PySem.call_dict_pairs (knd := mixKind X.prog X.w) (kvs := prs) P (I.ok.hd hcalm) ⟨⟨o, n, ho, hc, hdn, hdat⟩, ?_, fun j k v e => ?_⟩ ⟨hul.symm, fun j key v e => ?_⟩ (by rw [hul, hl]; exact hz) fun h' tk hd' k => ?_
  · simp [hul, hl]
  · have hj : j < prs.length := by rw [← hul]; exact (List.getElem?_eq_some_iff.mp e).1
    obtain ⟨b, u, e1, e2, e3, e4⟩ := hus j prs[j] (List.getElem?_eq_getElem hj)
    rw [e] at e2
    cases e2
    have eb : ps.getD j 0 = b := by rw [List.getD_eq_getElem?_getD, e1]; rfl
    show (ps.map Value.ref).toArray[j]? = some (Value.ref (ps.getD j 0)) ∧ PairAt s.heap (ps.getD j 0) k prs[j].2
    rw [eb]
    exact ⟨by simp [e1], .inl e3⟩
  · have hj : j < prs.length := by rw [← hul]; exact (List.getElem?_eq_some_iff.mp e).1
    obtain ⟨b, u, e1, e2, e3, e4⟩ := hus j prs[j] (List.getElem?_eq_getElem hj)
    have e2' : us[j]? = some (key, v) := e
    rw [e2'] at e2
    cases e2
    exact ⟨prs[j].1, List.getElem?_eq_getElem hj, e4⟩
  · have hm : (s.heap.objs.size == sysModules) = false := beq_eq_false_iff_ne.mpr (Nat.ne_of_gt I.big)
    have hlen : (mergeK [] kvs).length ≤ sizeLine := by
      refine Nat.le_trans (length_mergeK kvs []) ?_
      rw [List.length_nil, Nat.zero_add, rel.length, hl]
      exact hz
    exact ⟨.ref s.heap.objs.size, upd H s.heap.objs.size (.dK (mergeK [] kvs)), I.laid (t' := tk) (fun b o e => k b o (fun z => nomatch z) e) (Nat.le_refl _) (show ObjOk X.prog X.w _ _ _ (.dK (mergeK [] kvs)) from ⟨hlen, hm, merged [] prs, KV.merge rel .nil, hd'⟩), rfl, q _ (I.hok.fresh (Nat.le_refl _))⟩
def rListStr : List V → Hp → VK → Prop := fun xs H Q => ∃ z, xs = [.str z] ∧ z.length ≤ sizeLine ∧ ∀ l, H l = none → Q (.ref l) (upd H l (.lst ((z.cps.toList.map fun c => (⟨#[c]⟩ : Str)).map V.str)))
theorem c_listStr {X : Cx} (hcalm : X.calm = true) : CallR X (.type "list") rListStr := by
  intro pins s σ H xs us Q I r h
  obtain ⟨z, rfl, hz, q⟩ := h
  obtain ⟨u, rfl, t, rfl⟩ := vals1 r
  refine call_list_str (I.ok.hd hcalm) z t (hn := hz) fun h' tk acc c' hk e' hi => ?_
  have hl : acc.toList.length = z.cps.toList.length := by rw [Array.length_toList, Array.length_toList]; exact hi.1
  have hv : Vals ((z.cps.toList.map fun c => (⟨#[c]⟩ : Str)).map V.str) acc.toList := by
    have e : ((z.cps.toList.map fun c => (⟨#[c]⟩ : Str)).map V.str) = (List.range acc.toList.length).map fun j => V.str ⟨#[z.cps.toList.getD j 0]⟩ := by
      rw [List.map_map]
      apply List.ext_getElem
      · simp [hl]
      · intro j h1 h2
        have h3 : j < z.cps.toList.length := by simpa using h1
        simp only [List.getElem_map, List.getElem_range, Function.comp]
        rw [List.getD_eq_getElem?_getD, List.getElem?_eq_getElem h3]; rfl
    rw [e]
    refine vals_of_get acc.toList _ fun j u hj => ?_
    obtain ⟨c, t, h1, rfl⟩ := hi.2 j u (by rw [← hj, Array.getElem?_toList])
    refine ⟨t, ?_⟩
    have : z.cps.toList[j]? = some c := by rw [Array.getElem?_toList]; exact h1
    rw [List.getD_eq_getElem?_getD, this]; rfl
  refine ⟨.ref s.heap.objs.size, upd H s.heap.objs.size (.lst _), I.laid hk (Nat.le_refl _) (show ObjOk X.prog X.w _ _ _ (.lst ((z.cps.toList.map fun c => (⟨#[c]⟩ : Str)).map V.str)) from ⟨?_, acc.toList, c', hv, ?_⟩), rfl, q _ (I.hok.fresh (Nat.le_refl _))⟩
  · rw [List.length_map, List.length_map, Array.length_toList]; exact hz
  · rw [Array.toArray_toList]; exact e'
section
variable {K : PySem.W.Frag} {H : Hp} {Q : VK} {a : Addr} {xs : List V} {z : Str} {σ : L2.St} {tr : TA}
theorem w_tupF (h : tr σ H fun xs H1 => NewF xs H1 Q) : tTupF tr σ H Q := h
theorem w_newF (hl : xs.length ≤ 1000) (h : ∀ q o H2, H q = none → Ex H H2 → o.dict = none → H2 q = some (.frz o (.tup xs)) → Q (.ref q) H2) : NewF xs H Q :=
  ⟨Nat.le_of_lt (small1000 hl), fun p o hp ho => h p o _ hp (Ex.new hp) ho upd_same⟩
theorem w_tupleF (h : SqL K H a xs) (q : ∀ l o H2, H l = none → Ex H H2 → o.dict = none → H2 l = some (.frz o (.tup xs)) → Q (.ref l) H2) : rTupleF K [.ref a] H Q :=
  ⟨a, xs, rfl, h, fun l o hl ho => q l o _ hl (Ex.new hl) ho upd_same⟩
theorem w_listStr (hz : z.length ≤ 1000) (q : ∀ l H2, H l = none → Ex H H2 → H2 l = some (.lst ((z.cps.toList.map fun c => (⟨#[c]⟩ : Str)).map V.str)) → (∀ a, a ≠ l → H2 a = H a) → Q (.ref l) H2) : rListStr [.str z] H Q :=
  ⟨z, rfl, Nat.le_of_lt (small1000 hz), w_new0 q⟩
theorem sf_of {o : Obj} (h : H a = some (.frz o (.tup xs))) : SqT K H a xs := .inl (.inr ⟨o, h⟩)
end
end J

namespace J
open PySem PySem.Spec PyProof.Rows L2
/-! ### texts by order, dicts, slices -/
def rLtS : R2 := fun x y H Q => ∃ i j, x = .str i ∧ y = .str j ∧ Q (.bl (decide (i.cps.toList < j.cps.toList))) H
def rLeS : R2 := fun x y H Q => ∃ i j, x = .str i ∧ y = .str j ∧ Q (.bl (!decide (j.cps.toList < i.cps.toList))) H
theorem o_ltS {X : Cx} : OpR X (compareOp .Lt) rLtS := op_lt_str
theorem o_leS {X : Cx} : OpR X (compareOp .LtE) rLeS := op_le_str
def DGetB (x y : V) (H : Hp) (Q : VK) : Prop := ∃ a v, x = .ref a ∧ DGet H a y (some v) ∧ Q v H
def DNotB (x y : V) (H : Hp) (Q : VK) : Prop := ∃ a o, x = .ref a ∧ DGet H a y o ∧ Q (.bl (!o.isSome)) H
section
variable {K : PySem.W.Frag} {σ : L2.St} {H : Hp} {Q : VK} {td ty te : TE} {tl th : TO} {QO : Option Int → Hp → Prop} {i : Int} {a : Addr} {z y : Str} {v : V} {kvs : List (Key × V)} {xs : List V}
theorem w_ltS (q : Q (.bl (decide (z.cps.toList < y.cps.toList))) H) : rLtS (.str z) (.str y) H Q := ⟨z, y, rfl, rfl, q⟩
theorem w_leS (q : Q (.bl (!decide (y.cps.toList < z.cps.toList))) H) : rLeS (.str z) (.str y) H Q := ⟨z, y, rfl, rfl, q⟩
theorem w_dget (h : td σ H fun x H1 => ty σ H1 fun y H2 => DGetB x y H2 Q) : tDGet td ty σ H Q := h
theorem w_dnotin (h : ty σ H fun y H1 => td σ H1 fun x H2 => DNotB x y H2 Q) : tDNotIn ty td σ H Q := h
theorem w_dgetS (h : H a = some (.dK kvs)) (e : valV kvs (.inr z) = some v) (q : Q v H) : DGetB (.ref a) (.str z) H Q := ⟨a, v, rfl, e ▸ DGet.k (k := Sum.inr z) h, q⟩
theorem w_dnotS (h : H a = some (.dK kvs)) (q : Q (.bl (!(valV kvs (.inr z)).isSome)) H) : DNotB (.ref a) (.str z) H Q := ⟨a, _, rfl, DGet.k (k := Sum.inr z) h, q⟩
theorem w_sl {r : V → Option Int → Option Int → Hp → VK → Prop} (h : te σ H fun x H1 => tl σ H1 fun l H2 => th σ H2 fun u H3 => r x l u H3 Q) : tSl r te tl th σ H Q := h
theorem w_noPart (q : QO none H) : tNoPart σ H QO := q
theorem w_part (h : te σ H fun x H1 => ∃ i, x = .int i ∧ QO (some i) H1) : tPart te σ H QO := h
theorem w_some {q : Int → Prop} (h : q i) : ∃ k, V.int i = .int k ∧ q k := ⟨i, rfl, h⟩
/-- t[:k] of a tuple: the first k, itself where that is all -/
theorem w_slTake {k : Nat} (h : SqT K H a xs) (hk : k ≤ xs.length) (q : ∀ l H2, Ex H H2 → SqT K H2 l (xs.take k) → Q (.ref l) H2) : rSlA K (.ref a) none (some (k : Int)) H Q := by
  have e0 : HT.sIx xs.length 0 none = 0 := HT.sIx_none ..
  have e1 : HT.sIx xs.length xs.length (some (k : Int)) = k := by
    rw [HT.sIx_nat]; omega
  refine ⟨a, xs, rfl, h, fun z => ?_, fun _ p hp => ?_⟩
  · rw [e1] at z
    refine q a H (Ex.refl H) ?_
    rw [List.take_of_length_le (by omega)]; exact h
  · have ec : cutV xs none (some (k : Int)) = xs.take k := by
      unfold cutV
      rw [e0, e1]; rfl
    rw [ec]
    exact q p _ (Ex.new hp) (st_of upd_same)
end
end J
set_option Elab.async false
set_option linter.all false
set_option maxRecDepth 100000
namespace J
open PySem PySem.Spec PyProof.Rows L2
section
variable {prog : Program} {w : World} {A : Around} {s : Shared} {E : Value → Shared → Prop}
theorem adjust_rev (n : Nat) : Builtin.Slice.sliceAdjust none none (-1) (n : Int) = ((n : Int) - 1, -1) := by
  unfold Builtin.Slice.sliceAdjust
  simp
theorem places_rev (n : Nat) : Builtin.Slice.slicePlaces ((n : Int) - 1) (-1) (-1) = n := by
  unfold Builtin.Slice.slicePlaces
  simp
  omega
theorem sliceApplied_rev {sl : Addr} {vl vu vs : Value} {n : Nat} {Q : Int × Int × Nat → Shared → Prop} (hs : s.heap.IsSliceOf sl vl vu vs) (pl : IsPart vl none) (pu : IsPart vu none) (ps : IsPart vs (some (-1)))
    (h : Q ((n : Int) - 1, -1, n) s) : wpAny (model prog w) A (Builtin.Slice.sliceApplied (.ref sl) (pure (n : Int))) Q E s := by
  obtain ⟨os, hos, hcs, hds⟩ := id hs
  unfold Builtin.Slice.sliceApplied Builtin.Slice.sliceFields
  refine wpAny_bind (wpAny_bind (wpAny_field hos hds (x := vl) rfl (wpAny_bind (wpAny_field hos hds (x := vu) rfl (wpAny_bind (wpAny_field hos hds (x := vs) rfl (wpAny_pure ?_)))))))
  refine wpAny_bind (HT.slicePart_ ps ?_)
  show wpAny _ _ (if ((-1 : Int) == 0) = true then _ else _) _ _ s
  rw [if_neg (by decide)]
  refine wpAny_bind (HT.slicePart_ pl (wpAny_bind (HT.slicePart_ pu (wpAny_bind (wpAny_pure ?_)))))
  show wpAny _ _ (match Builtin.Slice.sliceAdjust none none (-1) (n : Int) with | (lo, hi) => pure (lo, (-1 : Int), Builtin.Slice.slicePlaces lo hi (-1))) _ _ s
  rw [adjust_rev n]
  show wpAny _ _ (pure ((n : Int) - 1, (-1 : Int), Builtin.Slice.slicePlaces ((n : Int) - 1) (-1) (-1))) _ _ s
  rw [places_rev]
  exact wpAny_pure h
theorem pick_rev (xs : Array Value) : ((List.range xs.size).filterMap fun (m : Nat) => xs[(((xs.size : Nat) : Int) - 1 + (m : Int) * (-1)).toNat]?).toArray = xs.toList.reverse.toArray := by
  congr 1
  have e : ((List.range xs.size).filterMap fun (m : Nat) => xs[(((xs.size : Nat) : Int) - 1 + (m : Int) * (-1)).toNat]?) = ((List.range xs.size).map fun k => xs.size - 1 - k).filterMap fun k => xs[k]? := by
    rw [List.filterMap_map]
    have gen : ∀ (l : List Nat) (f g : Nat → Option Value), (∀ m ∈ l, f m = g m) → l.filterMap f = l.filterMap g := by
      intro l f g
      induction l with
      | nil => intro _; rfl
      | cons a l ih =>
        intro h
        rw [List.filterMap_cons, List.filterMap_cons, h a (List.mem_cons_self), ih fun m hm => h m (List.mem_cons_of_mem _ hm)]
    refine gen _ _ _ fun m hm => ?_
    have := List.mem_range.mp hm
    show _ = xs[xs.size - 1 - m]?
    congr 1
    omega
  rw [e, PySem.W.krv_range, List.filterMap_reverse, PySem.W.krv_all]
theorem getItem_tuple_rev {t sl : Addr} {items : Array Value} {vl vu vs : Value} {Q : Value → Shared → Prop} (ht : IsTup s.heap t items) (hs : s.heap.IsSliceOf sl vl vu vs) (pl : IsPart vl none) (pu : IsPart vu none) (ps : IsPart vs (some (-1)))
    (h : Q (.ref s.heap.objs.size) { s with heap := s.heap.push { cls := .type "tuple", data := .seq items.toList.reverse.toArray } })
    (hsz : items.size ≤ sizeLine) : wpAny (model prog w) A (getItem (.ref t) (.ref sl)) Q E s := by
  have htake : sizeOk (.seq items.toList.reverse.toArray) := by
    show items.toList.reverse.toArray.size ≤ sizeLine
    rw [List.size_toArray, List.length_reverse, Array.length_toList]
    omega
  obtain ⟨os, hos, hcs, hds⟩ := id hs
  have hTs : s.TypeIs (.ref sl) "slice" := ⟨os, hos, hcs⟩
  unfold getItem
  try with_reducible refine wpAny_holding ?_
  first | refine wpAny_bind (wpAny_pure ?_) | skip
  refine wpAny_bind (wpAny_sequenceKey ht.typeIs (by decide) ?_)
  refine wpAny_bind (wpAny_callSpecial?_slot (name := Str.ofString "__getitem__") ht.typeIs PyProof.Rows.slot_tuple_getitem
    (wpAny_call_entry PyProof.Rows.slot_tuple_getitem ht.typeIs entry_tuple_getitem ?_ (args_tuple_getitem _ _)))
  show wpAny _ _ (Builtin.Tuple.tupleItemsOf (.ref t) >>= _) _ _ s
  refine wpAny_bind (tupleItemsOf_ ht ?_)
  refine wpAny_bind (wpAny_typeOf hTs ?_)
  rw [if_pos (by decide)]
  refine wpAny_bind (sliceApplied_rev hs pl pu ps ?_)
  have hno : ¬ ((((items.size : Int) - 1) == 0 && (-1 : Int) == 1 && items.size == items.size) = true) := by
    intro q
    rw [Bool.and_eq_true, Bool.and_eq_true] at q
    have := q.1.2
    revert this; decide
  show wpAny _ _ (if (((items.size : Int) - 1) == 0 && (-1 : Int) == 1 && items.size == items.size) = true then _ else _) _ _ s
  rw [if_neg hno, pick_rev]
  first
    | exact wpAny_bind (m := Builtin.Tuple.tupleExact _) (wpAny_newObj_type (wpAny_pure ⟨_, rfl, wpAny_pure h⟩) htake)
    | exact wpAny_bind (m := Builtin.Tuple.tupleExact _) (wpAny_newObj_type (wpAny_bind (wpAny_pure (wpAny_pure ⟨_, rfl, wpAny_pure h⟩))) htake)
    | exact wpAny_bind (wpAny_bind (m := Builtin.Tuple.tupleExact _) (wpAny_newObj_type (wpAny_pure (wpAny_pure ⟨_, rfl, wpAny_pure h⟩)) htake))
    | exact wpAny_bind (wpAny_bind (m := Builtin.Tuple.tupleExact _) (wpAny_newObj_type (wpAny_pure ⟨_, rfl, wpAny_pure h⟩) htake))
end
/-- t[::-1] of a tuple -/
def RevB (K : PySem.W.Frag) (x : V) (H : Hp) (Q : VK) : Prop := ∃ a xs, x = .ref a ∧ SqT K H a xs ∧ ∀ p, H p = none → Q (.ref p) (upd H p (.tup xs.reverse))
def tRevT (K : PySem.W.Frag) (te : TE) : TE := fun σ H Q => te σ H fun x H1 => RevB K x H1 Q
theorem pe_revT {X : Cx} {e : Expr} {te : TE} {k : Nat} {p1 p2 p3 pos : Pos} (he : PE X e te) : PE X (.Subscript e (.Slice none none (some (.UnaryOp .USub (.Constant (.int 1) k p1) p2)) p3) pos) (tRevT X.K te) := by
  refine ⟨fun pins s σ H Q I h => ?_⟩
  refine Subscript_ (thn (he.run pins s σ H _ I h) fun v s1 ⟨x, H1, I1, r1, q1⟩ => ?_)
  obtain ⟨a, xs, ex, hx, q⟩ := q1
  subst ex
  cases r1
  have hst : PO X (some (.UnaryOp .USub (.Constant (.int 1) k p1) p2)) (tPart (tUn (rU fun i => .int (-i)) (tC (.int 1)))) := po_some (pe_un un_neg pe_int)
  refine wpAny_Slice (thn (po_none.run pins s1 σ H1 (fun o H2 => o = none ∧ H2 = H1) I1 ⟨rfl, rfl⟩) fun vl s2 ⟨l, H2, I2, pl, el, e2⟩ => ?_)
  subst el e2
  refine thn (po_none.run pins s2 σ H2 (fun o H3 => o = none ∧ H3 = H2) I2 ⟨rfl, rfl⟩) fun vu s3 ⟨u, H3, I3, pu, eu, e3⟩ => ?_
  subst eu e3
  refine thn (hst.run pins s3 σ H3 (fun o H4 => o = some (-1) ∧ H4 = H3) I3 ⟨1, rfl, -1, rfl, rfl, rfl⟩) fun vs s4 ⟨o, H4, I4, ps, eo, e4⟩ => ?_
  subst eo e4
  have I5 : Inv X pins σ H4 { s4 with heap := s4.heap.push { cls := .type "slice", data := .fields #[vl, vu, vs] } } := I4.kept (t' := s4.toks) fun b ob q => Heap.get?_push_of_some _ q
  obtain ⟨its, r, ht, hz⟩ := I5.tuple hx
  have hlen := r.length
  show wpAny (model X.prog X.w) X.A (subscriptTail e (.Slice none none (some (.UnaryOp .USub (.Constant (.int 1) k p1) p2)) p3) (.ref a) (.ref s4.heap.objs.size)) (EP X pins σ Q) X.xe { s4 with heap := s4.heap.push { cls := .type "slice", data := .fields #[vl, vu, vs] } }
  refine tail_any (ops := [.ref a, .ref s4.heap.objs.size]) ht.typeIs PyProof.Rows.slot_tuple_getitem.lookup ?_ (by with_unfolding_all rfl)
  refine getItem_tuple_rev ht (Heap.IsSliceOf.new _ vl vu vs) pl pu ps ?_ (by rw [List.size_toArray]; omega)
  refine ⟨.ref _, _, I5.laid (t' := s4.toks) (o := .tup xs.reverse) (fun b ob q => Heap.get?_push_of_some _ q) (Nat.le_refl _) ?_, rfl, q _ (I5.hok.fresh (Nat.le_refl _))⟩
  exact ⟨by rw [List.length_reverse]; exact hz, _, r.reverse, IsTup.new _ _⟩
theorem w_revT {K : PySem.W.Frag} {te : TE} {σ : L2.St} {H : Hp} {Q : VK} (h : te σ H fun x H1 => RevB K x H1 Q) : tRevT K te σ H Q := h
theorem w_par {i j : Nat} {ta : TA} {D : Ends} {σ : L2.St} {H : Hp} (h : ta σ H fun vs H1 => ∃ v w, vs = [v, w] ∧ D.nx ((σ.set i (some v)).set j (some w)) H1) : tPar i j ta D σ H := h
theorem w_rev {K : PySem.W.Frag} {H : Hp} {Q : VK} {a : Addr} {xs : List V} (h : SqT K H a xs) (q : ∀ l H2, H l = none → Ex H H2 → H2 l = some (.tup xs.reverse) → Q (.ref l) H2) : RevB K (.ref a) H Q :=
  ⟨a, xs, rfl, h, fun p hp => q p _ hp (Ex.new hp) upd_same⟩
/-- divmod, slices of texts -/
def rDivmod : List V → Hp → VK → Prop := fun xs H Q => ∃ i j, xs = [.int i, .int j] ∧ CDiv i j ∧ ∀ p, H p = none → Q (.ref p) (upd H p (.tup [.int (i / j), .int (i % j)]))
theorem c_divmod {X : Cx} : CallR X (.builtin "divmod") rDivmod := call_divmod
theorem w_divmod {i j : Int} {H : Hp} {Q : VK} (h0 : 0 < j) (h1 : j < 1073741824) (q : ∀ p H2, H p = none → Ex H H2 → H2 p = some (.tup [.int (i / j), .int (i % j)]) → Q (.ref p) H2) : rDivmod [.int i, .int j] H Q :=
  ⟨i, j, rfl, ⟨h0, h1⟩, fun p hp => q p _ hp (Ex.new hp) upd_same⟩
theorem w_slS {z : Str} {k : Int} {H : Hp} {Q : VK} (hz : z.length ≤ sizeLine) (h0 : 0 ≤ k) (h1 : k ≤ z.length) (q : Q (.str ⟨(z.cps.toList.take k.toNat).toArray⟩) H) : rSlS (.str z) none (some k) H Q := by
  refine ⟨z, rfl, hz, ?_⟩
  have e0 : HT.sIx z.length 0 none = 0 := HT.sIx_none ..
  have e1 : HT.sIx z.length z.length (some k) = k.toNat := by
    rw [show k = ((k.toNat : Nat) : Int) by omega, HT.sIx_nat]; omega
  unfold cutS
  rw [e0, e1]
  exact q
def LRg (x y : V) (H : Hp) (Q : VK) : Prop := ∃ i j, x = .int i ∧ y = .int j ∧ RgOk i j ∧ ∀ q, H q = none → Q (.ref q) (upd H q (.lst (rgV i j)))
theorem w_listRg2 {ta tb : TE} {σ : L2.St} {H : Hp} {Q : VK} (h : ta σ H fun x H1 => tb σ H1 fun y H2 => LRg x y H2 Q) : tLstRg (tRg2 ta tb) σ H Q := h
theorem w_lrg {i j : Int} {H : Hp} {Q : VK} (h : RgOk i j) (q : ∀ l H2, H l = none → Ex H H2 → H2 l = some (.lst (rgV i j)) → Q (.ref l) H2) : LRg (.int i) (.int j) H Q :=
  ⟨i, j, rfl, rfl, h, fun p hp => q p _ hp (Ex.new hp) upd_same⟩
theorem w_lcR2 {g : TG} {tt : TT} {te : TE} {vs : List Nat} {σ : L2.St} {H : Hp} {Q : VK} {i j : Int} (h0 : -(2 ^ 62) ≤ i ∧ i < 2 ^ 62 ∧ -(2 ^ 62) ≤ j ∧ j < 2 ^ 62) (h : LcB (Itr i (j - i).toNat) g tt te vs σ H Q) : ∃ i' j' : Int, [V.int i, V.int j] = [.int i', .int j'] ∧ (-(2 ^ 62) ≤ i' ∧ i' < 2 ^ 62 ∧ -(2 ^ 62) ≤ j' ∧ j' < 2 ^ 62) ∧ LcB (Itr i' (j' - i').toNat) g tt te vs σ H Q := ⟨i, j, rfl, h0, h⟩
end J
namespace J
open PySem PySem.Spec PyProof.Rows L2
local macro_rules | `(tactic| walk_at "go1") => `(tactic| first
  | with_reducible refine' w_seq ?_
  | with_reducible refine' w_next ?_
  | with_reducible refine' w_brk ?_
  | with_reducible refine' w_cont ?_
  | with_reducible refine' w_asg ?_
  | with_reducible refine' w_asgG ?_
  | with_reducible refine' w_gSub ?_
  | with_reducible refine' w_ret ?_
  | with_reducible refine' w_retN ?_
  | with_reducible refine' w_drop ?_
  | with_reducible refine' w_ifS ?_
  | ((with_reducible refine' w_isAug ?_); refine w_aug rfl ?_)
  | with_reducible refine' w_ipadd ?_
  | with_reducible refine' w_ipsub ?_
  | ((with_reducible refine' w_isVar ?_); refine w_var rfl ?_)
  | with_reducible refine' w_c ?_
  | with_reducible refine' w_nil ?_
  | with_reducible refine' w_cons ?_
  | with_reducible refine' w_op ?_
  | with_reducible refine' w_un ?_
  | with_reducible refine' w_cb ?_
  | with_reducible refine' w_call ?_
  | with_reducible refine' w_callK ?_
  | with_reducible refine' w_test ?_
  | with_reducible refine' w_tB ?_
  | with_reducible refine' w_and ?_
  | with_reducible refine' w_or ?_
  | with_reducible refine' w_not ?_
  | with_reducible refine' w_andV ?_
  | with_reducible refine' w_orV ?_
  | with_reducible refine' w_notV ?_
  | with_reducible refine' w_if ?_
  | with_reducible refine' w_chain ?_
  | with_reducible refine' w_exb ?_
  | with_reducible refine' w_add ?_
  | with_reducible refine' w_sub ?_
  | with_reducible refine' w_lt ?_
  | with_reducible refine' w_le ?_
  | with_reducible refine' w_gt ?_
  | with_reducible refine' w_ge ?_
  | ((with_reducible refine' w_mod ?h ?q); (case h => first | decide | omega))
  | ((with_reducible refine' w_fdiv ?h ?h2 ?q); (case h => first | decide | omega); (case h2 => first | decide | omega))
  | ((with_reducible refine' w_mulR ?h ?q); (case h => omega))
  | ((with_reducible refine' w_mulL ?h ?q); (case h => omega))
  | with_reducible refine' w_pow_6 ?_
  | with_reducible refine' w_pow_9 ?_
  | with_reducible refine' w_pow_12 ?_
  | with_reducible refine' w_pow_14 ?_
  | with_reducible refine' w_pow_15 ?_
  | with_reducible refine' w_pow_18 ?_
  | with_reducible refine' w_neg ?_
  | ((with_reducible refine' w_eq ?h ?q); (case h => exact rfl))
  | ((with_reducible refine' w_ne ?h ?q); (case h => exact rfl))
  | with_reducible refine' w_abs ?_
  | with_reducible refine' w_int ?_
  | with_reducible refine' w_max ?_
  | with_reducible refine' w_min ?_
  | with_reducible refine' w_count ?_
  | with_reducible refine' w_m1 ?_
  | with_reducible refine' w_bm ?_
  | with_reducible refine' w_listR3 ?_
  | with_reducible refine' w_exs ?_
  | with_reducible refine' w_inS ?_
  | with_reducible refine' w_notInS ?_
  | with_reducible refine' w_for ?_
  | with_reducible refine' w_while ?_
  | with_reducible refine' w_lc ?_
  | with_reducible refine' w_iTup ?_
  | with_reducible refine' w_iList ?_
  | with_reducible refine' w_iRng1 ?_
  | with_reducible refine' w_iRng2 ?_
  | with_reducible refine' w_gName ?_
  | with_reducible refine' w_tYes ?_
  | with_reducible refine' w_tupD ?_
  | with_reducible refine' w_tupF ?_
  | with_reducible refine' w_ltS ?_
  | with_reducible refine' w_leS ?_
  | with_reducible refine' w_dget ?_
  | with_reducible refine' w_dnotin ?_
  | with_reducible refine' w_sl ?_
  | with_reducible refine' w_part ?_
  | with_reducible refine' w_noPart ?_
  | with_reducible refine' w_some ?_
  | with_reducible refine' w_lstD ?_
  | with_reducible refine' w_revT ?_
  | with_reducible refine' w_par ?_
  )
local macro_rules | `(tactic| walk_at "go") => `(tactic| repeat (walk_at "go1"))
def topS (i : Nat) : Stmt := PySem.Challenge.pw_officepapers_k07_routes_repeated.main.body.getD i (.Pass ⟨0, 0, 0, 0⟩)
def kg_kb_times_to_0_goal_day_route_book : List Value → List Value → List Value
  | [], [w0, w1, w2, w3] => [w3, w2, w1, w0]
  | _, _ => []
def kgV_kb_times_to_0_goal_day_route_book : List V → List V → List V
  | [], [w0, w1, w2, w3] => [w3, w2, w1, w0]
  | _, _ => []
def kg_kb_repeated_0_times_day_route_book : List Value → List Value → List Value
  | [], [w0, w1, w2, w3] => [w3, w2, w1, w0]
  | _, _ => []
def kgV_kb_repeated_0_times_day_route_book : List V → List V → List V
  | [], [w0, w1, w2, w3] => [w3, w2, w1, w0]
  | _, _ => []
abbrev s_is_whole : Stmt := topS 9
abbrev N_is_whole : List Str := ["thing", "low", "high"]
theorem sc_is_whole : FnScope N_is_whole ["thing", "low", "high"] (defScope s_is_whole) := ⟨rfl, rfl, rfl, by decide +kernel, rfl, by decide +kernel, by decide +kernel⟩
abbrev s_is_pair : Stmt := topS 10
abbrev N_is_pair : List Str := ["thing"]
theorem sc_is_pair : FnScope N_is_pair ["thing"] (defScope s_is_pair) := ⟨rfl, rfl, rfl, by decide +kernel, rfl, by decide +kernel, by decide +kernel⟩
abbrev s_is_rising : Stmt := topS 11
abbrev N_is_rising : List Str := ["things", "at"]
theorem sc_is_rising : FnScope N_is_rising ["things"] (defScope s_is_rising) := ⟨rfl, rfl, rfl, by decide +kernel, rfl, by decide +kernel, by decide +kernel⟩
abbrev s_need_day : Stmt := topS 12
abbrev N_need_day : List Str := ["thing"]
theorem sc_need_day : FnScope N_need_day ["thing"] (defScope s_need_day) := ⟨rfl, rfl, rfl, by decide +kernel, rfl, by decide +kernel, by decide +kernel⟩
abbrev s_need_number : Stmt := topS 13
abbrev N_need_number : List Str := ["thing", "most"]
theorem sc_need_number : FnScope N_need_number ["thing", "most"] (defScope s_need_number) := ⟨rfl, rfl, rfl, by decide +kernel, rfl, by decide +kernel, by decide +kernel⟩
abbrev s_is_calendar : Stmt := topS 19
abbrev N_is_calendar : List Str := ["thing"]
theorem sc_is_calendar : FnScope N_is_calendar ["thing"] (defScope s_is_calendar) := ⟨rfl, rfl, rfl, by decide +kernel, rfl, by decide +kernel, by decide +kernel⟩
abbrev s_open_on : Stmt := topS 20
abbrev N_open_on : List Str := ["calendar", "day", "pattern", "closed", "opened"]
theorem sc_open_on : FnScope N_open_on ["calendar", "day"] (defScope s_open_on) := ⟨rfl, rfl, rfl, by decide +kernel, rfl, by decide +kernel, by decide +kernel⟩
abbrev s_open_from : Stmt := topS 21
abbrev N_open_from : List Str := ["calendar", "day"]
theorem sc_open_from : FnScope N_open_from ["calendar", "day"] (defScope s_open_from) := ⟨rfl, rfl, rfl, by decide +kernel, rfl, by decide +kernel, by decide +kernel⟩
abbrev s_is_pattern : Stmt := topS 22
abbrev N_is_pattern : List Str := ["thing"]
theorem sc_is_pattern : FnScope N_is_pattern ["thing"] (defScope s_is_pattern) := ⟨rfl, rfl, rfl, by decide +kernel, rfl, by decide +kernel, by decide +kernel⟩
abbrev s_is_spans : Stmt := topS 23
abbrev N_is_spans : List Str := ["thing", "span"]
theorem sc_is_spans : FnScope N_is_spans ["thing"] (defScope s_is_spans) := ⟨rfl, rfl, rfl, by decide +kernel, rfl, by decide +kernel, by decide +kernel⟩
abbrev s_is_span : Stmt := topS 24
abbrev N_is_span : List Str := ["thing"]
theorem sc_is_span : FnScope N_is_span ["thing"] (defScope s_is_span) := ⟨rfl, rfl, rfl, by decide +kernel, rfl, by decide +kernel, by decide +kernel⟩
abbrev s_in_spans : Stmt := topS 25
abbrev N_in_spans : List Str := ["spans", "day", "first", "last"]
theorem sc_in_spans : FnScope N_in_spans ["spans", "day"] (defScope s_in_spans) := ⟨rfl, rfl, rfl, by decide +kernel, rfl, by decide +kernel, by decide +kernel⟩
abbrev s_is_book : Stmt := topS 31
abbrev N_is_book : List Str := ["thing", "pair"]
theorem sc_is_book : FnScope N_is_book ["thing"] (defScope s_is_book) := ⟨rfl, rfl, rfl, by decide +kernel, rfl, by decide +kernel, by decide +kernel⟩
abbrev s_is_route : Stmt := topS 32
abbrev N_is_route : List Str := ["thing", "letter"]
theorem sc_is_route : FnScope N_is_route ["thing"] (defScope s_is_route) := ⟨rfl, rfl, rfl, by decide +kernel, rfl, by decide +kernel, by decide +kernel⟩
abbrev s_repeated : Stmt := topS 33
abbrev N_repeated : List Str := ["book", "route", "day", "times", "calendars", "there", "_"]
theorem sc_repeated : FnScope N_repeated ["book", "route", "day", "times"] (defScope s_repeated) := ⟨rfl, rfl, rfl, by decide +kernel, rfl, by decide +kernel, by decide +kernel⟩
abbrev s_times_to : Stmt := topS 34
abbrev N_times_to : List Str := ["book", "route", "day", "goal", "calendars", "there", "times"]
theorem sc_times_to : FnScope N_times_to ["book", "route", "day", "goal"] (defScope s_times_to) := ⟨rfl, rfl, rfl, by decide +kernel, rfl, by decide +kernel, by decide +kernel⟩
abbrev s_move : Stmt := topS 35
abbrev N_move : List Str := ["calendars", "route", "day", "letter"]
theorem sc_move : FnScope N_move ["calendars", "route", "day"] (defScope s_move) := ⟨rfl, rfl, rfl, by decide +kernel, rfl, by decide +kernel, by decide +kernel⟩
abbrev s_is_name : Stmt := topS 36
abbrev N_is_name : List Str := ["thing"]
theorem sc_is_name : FnScope N_is_name ["thing"] (defScope s_is_name) := ⟨rfl, rfl, rfl, by decide +kernel, rfl, by decide +kernel, by decide +kernel⟩
abbrev s_need_book : Stmt := topS 37
abbrev N_need_book : List Str := ["thing"]
theorem sc_need_book : FnScope N_need_book ["thing"] (defScope s_need_book) := ⟨rfl, rfl, rfl, by decide +kernel, rfl, by decide +kernel, by decide +kernel⟩
abbrev s_need_route : Stmt := topS 38
abbrev N_need_route : List Str := ["thing"]
theorem sc_need_route : FnScope N_need_route ["thing"] (defScope s_need_route) := ⟨rfl, rfl, rfl, by decide +kernel, rfl, by decide +kernel, by decide +kernel⟩
abbrev s_calendars_for : Stmt := topS 39
abbrev N_calendars_for : List Str := ["book", "route", "calendars", "letter"]
theorem sc_calendars_for : FnScope N_calendars_for ["book", "route"] (defScope s_calendars_for) := ⟨rfl, rfl, rfl, by decide +kernel, rfl, by decide +kernel, by decide +kernel⟩
abbrev s_need_start : Stmt := topS 40
abbrev N_need_start : List Str := ["book", "route", "day"]
theorem sc_need_start : FnScope N_need_start ["book", "route", "day"] (defScope s_need_start) := ⟨rfl, rfl, rfl, by decide +kernel, rfl, by decide +kernel, by decide +kernel⟩
abbrev s_is_letter : Stmt := topS 41
abbrev N_is_letter : List Str := ["thing"]
theorem sc_is_letter : FnScope N_is_letter ["thing"] (defScope s_is_letter) := ⟨rfl, rfl, rfl, by decide +kernel, rfl, by decide +kernel, by decide +kernel⟩
abbrev s_is_named_calendar : Stmt := topS 42
abbrev N_is_named_calendar : List Str := ["thing"]
theorem sc_is_named_calendar : FnScope N_is_named_calendar ["thing"] (defScope s_is_named_calendar) := ⟨rfl, rfl, rfl, by decide +kernel, rfl, by decide +kernel, by decide +kernel⟩
abbrev s_move_often : Stmt := topS 43
abbrev N_move_often : List Str := ["calendars", "route", "day", "times", "bound", "leaps", "done", "there", "more"]
theorem sc_move_often : FnScope N_move_often ["calendars", "route", "day", "times", "bound"] (defScope s_move_often) := ⟨rfl, rfl, rfl, by decide +kernel, rfl, by decide +kernel, by decide +kernel⟩
abbrev s_far_leaps : Stmt := topS 44
abbrev N_far_leaps : List Str := ["calendars", "route", "times", "plain", "count", "steps", "leaps", "name", "day", "step"]
theorem sc_far_leaps : FnScope N_far_leaps ["calendars", "route", "times"] (defScope s_far_leaps) := ⟨rfl, rfl, rfl, by decide +kernel, rfl, by decide +kernel, by decide +kernel⟩
abbrev s_leap : Stmt := topS 45
abbrev N_leap : List Str := ["leaps", "day", "times", "bound", "done", "count", "steps", "there"]
theorem sc_leap : FnScope N_leap ["leaps", "day", "times", "bound"] (defScope s_leap) := ⟨rfl, rfl, rfl, by decide +kernel, rfl, by decide +kernel, by decide +kernel⟩
abbrev s_law_hand : Stmt := topS 47
abbrev N_law_hand : List Str := ["_law_script"]
theorem sc_law_hand : FnScope N_law_hand ["_law_script"] (defScope s_law_hand) := ⟨rfl, rfl, rfl, by decide +kernel, rfl, by decide +kernel, by decide +kernel⟩
abbrev s_law_draw : Stmt := topS 48
abbrev N_law_draw : List Str := ["_law_hand_here", "_law_size", "_law_value", "_law_cell", "_law_mixed"]
theorem sc_law_draw : FnScope N_law_draw ["_law_hand_here", "_law_size"] (defScope s_law_draw) := ⟨rfl, rfl, rfl, by decide +kernel, rfl, by decide +kernel, by decide +kernel⟩
abbrev s_law_spans : Stmt := topS 49
abbrev N_law_spans : List Str := ["_law_hand_here", "_law_found", "_law_turn", "_law_first", "_law_size", "_law_span"]
theorem sc_law_spans : FnScope N_law_spans ["_law_hand_here"] (defScope s_law_spans) := ⟨rfl, rfl, rfl, by decide +kernel, rfl, by decide +kernel, by decide +kernel⟩
abbrev s_law_calendar : Stmt := topS 50
abbrev N_law_calendar : List Str := ["_law_hand_here", "_law_size", "_law_spot", "_law_signs", "_law_k"]
theorem sc_law_calendar : FnScope N_law_calendar ["_law_hand_here"] (defScope s_law_calendar) := ⟨rfl, rfl, rfl, by decide +kernel, rfl, by decide +kernel, by decide +kernel⟩
abbrev s_law_open : Stmt := topS 51
abbrev N_law_open : List Str := ["_law_calendar_here", "_law_day_here", "_law_signs", "_law_shut", "_law_free", "_law_one"]
theorem sc_law_open : FnScope N_law_open ["_law_calendar_here", "_law_day_here"] (defScope s_law_open) := ⟨rfl, rfl, rfl, by decide +kernel, rfl, by decide +kernel, by decide +kernel⟩
abbrev s_law_day : Stmt := topS 52
abbrev N_law_day : List Str := ["_law_hand_here", "_law_some"]
theorem sc_law_day : FnScope N_law_day ["_law_hand_here"] (defScope s_law_day) := ⟨rfl, rfl, rfl, by decide +kernel, rfl, by decide +kernel, by decide +kernel⟩
abbrev s_law_book : Stmt := topS 53
abbrev N_law_book : List Str := ["_law_hand_here", "_law_most", "_law_left", "_law_names", "_law_turn", "_law_name"]
theorem sc_law_book : FnScope N_law_book ["_law_hand_here", "_law_most"] (defScope s_law_book) := ⟨rfl, rfl, rfl, by decide +kernel, rfl, by decide +kernel, by decide +kernel⟩
abbrev s_law_route : Stmt := topS 54
abbrev N_law_route : List Str := ["_law_hand_here", "_law_book_here", "_law_most", "_law_menu", "_law_name", "_law_calendar_here", "_law_turn"]
theorem sc_law_route : FnScope N_law_route ["_law_hand_here", "_law_book_here", "_law_most"] (defScope s_law_route) := ⟨rfl, rfl, rfl, by decide +kernel, rfl, by decide +kernel, by decide +kernel⟩
abbrev s_law_moved : Stmt := topS 55
abbrev N_law_moved : List Str := ["_law_book_here", "_law_route_here", "_law_day_here", "_law_calendars", "_law_letter", "_law_turn"]
theorem sc_law_moved : FnScope N_law_moved ["_law_book_here", "_law_route_here", "_law_day_here"] (defScope s_law_moved) := ⟨rfl, rfl, rfl, by decide +kernel, rfl, by decide +kernel, by decide +kernel⟩
abbrev s_law_walk : Stmt := topS 56
abbrev N_law_walk : List Str := ["_law_book_here", "_law_route_here", "_law_day_here", "_law_many", "_law_found", "_law_turn"]
theorem sc_law_walk : FnScope N_law_walk ["_law_book_here", "_law_route_here", "_law_day_here", "_law_many"] (defScope s_law_walk) := ⟨rfl, rfl, rfl, by decide +kernel, rfl, by decide +kernel, by decide +kernel⟩
abbrev s_law_near_right : Stmt := topS 57
abbrev N_law_near_right : List Str := ["_law_hand_here", "_law_book_here", "_law_route_here", "_law_day_here", "_law_walk_here", "_law_many", "_law_goal", "_law_due", "_law_k"]
theorem sc_law_near_right : FnScope N_law_near_right ["_law_hand_here", "_law_book_here", "_law_route_here", "_law_day_here"] (defScope s_law_near_right) := ⟨rfl, rfl, rfl, by decide +kernel, rfl, by decide +kernel, by decide +kernel⟩
abbrev s_law_far_right : Stmt := topS 58
abbrev N_law_far_right : List Str := ["_law_hand_here", "_law_book_here", "_law_route_here", "_law_day_here", "_law_one", "_law_more", "_law_there", "_law_goal", "_law_times"]
theorem sc_law_far_right : FnScope N_law_far_right ["_law_hand_here", "_law_book_here", "_law_route_here", "_law_day_here"] (defScope s_law_far_right) := ⟨rfl, rfl, rfl, by decide +kernel, rfl, by decide +kernel, by decide +kernel⟩
abbrev s_law_across_right : Stmt := topS 59
abbrev N_law_across_right : List Str := ["_law_hand_here", "_law_book_here", "_law_route_here", "_law_day_here", "_law_one", "_law_there", "_law_many", "_law_walk_here", "_law_more", "_law_goal", "_law_due", "_law_k"]
theorem sc_law_across_right : FnScope N_law_across_right ["_law_hand_here", "_law_book_here", "_law_route_here"] (defScope s_law_across_right) := ⟨rfl, rfl, rfl, by decide +kernel, rfl, by decide +kernel, by decide +kernel⟩
abbrev s_law : Stmt := topS 60
abbrev N_law : List Str := ["_law_script", "_law_hand_here", "_law_turn", "_law_book_here", "_law_route_here", "_law_day_here"]
theorem sc_law : FnScope N_law ["_law_script"] (defScope s_law) := ⟨rfl, rfl, rfl, by decide +kernel, rfl, by decide +kernel, by decide +kernel⟩
structure Tx (K : PySem.W.Frag) (mg : Str → Option Value) (ad : Nat → Addr) (fdd : Nat → FuncData) : Prop where
  m_FAR_DAY : ∃ u, mg "FAR_DAY" = some u ∧ RelV (.int (1000000000000000)) u
  m_FIRST_NEAR : ∃ u, mg "FIRST_NEAR" = some u ∧ RelV (.int (-30)) u
  m_LAST_NEAR : ∃ u, mg "LAST_NEAR" = some u ∧ RelV (.int (30)) u
  m_MOST_LETTERS : ∃ u, mg "MOST_LETTERS" = some u ∧ RelV (.int (8)) u
  m_MOST_NAMES : ∃ u, mg "MOST_NAMES" = some u ∧ RelV (.int (4)) u
  m_MOST_SPANS : ∃ u, mg "MOST_SPANS" = some u ∧ RelV (.int (2)) u
  m_MOST_TIMES : ∃ u, mg "MOST_TIMES" = some u ∧ RelV (.int (1000000000000)) u
  m_TURN : ∃ u, mg "TURN" = some u ∧ RelV (.int (12)) u
  m_WIDEST_MOVE : ∃ u, mg "WIDEST_MOVE" = some u ∧ RelV (.int (800)) u
  m_abs : mg "abs" = none
  m_all : mg "all" = none
  m_bool : mg "bool" = none
  m_dict : mg "dict" = none
  m_enumerate : mg "enumerate" = none
  m_int : mg "int" = none
  m_isinstance : mg "isinstance" = none
  m_len : mg "len" = none
  m_list : mg "list" = none
  m_max : mg "max" = none
  m_min : mg "min" = none
  m_range : mg "range" = none
  m_sorted : mg "sorted" = none
  m_str : mg "str" = none
  m_tuple : mg "tuple" = none
  F_is_whole : Fun K "is_whole" "is_whole" s_is_whole (ad 9) (fdd 9)
  g_is_whole : mg "is_whole" = some (.ref (ad 9))
  b_is_whole : Binds K (fdd 9) ["thing", "low", "high"] []
  F_is_pair : Fun K "is_pair" "is_pair" s_is_pair (ad 10) (fdd 10)
  g_is_pair : mg "is_pair" = some (.ref (ad 10))
  b_is_pair : Binds K (fdd 10) ["thing"] []
  F_is_rising : Fun K "is_rising" "is_rising" s_is_rising (ad 11) (fdd 11)
  g_is_rising : mg "is_rising" = some (.ref (ad 11))
  b_is_rising : Binds K (fdd 11) ["things"] []
  F_need_day : Fun K "need_day" "need_day" s_need_day (ad 12) (fdd 12)
  g_need_day : mg "need_day" = some (.ref (ad 12))
  b_need_day : Binds K (fdd 12) ["thing"] []
  F_need_number : Fun K "need_number" "need_number" s_need_number (ad 13) (fdd 13)
  g_need_number : mg "need_number" = some (.ref (ad 13))
  b_need_number : Binds K (fdd 13) ["thing", "most"] []
  F_is_calendar : Fun K "is_calendar" "is_calendar" s_is_calendar (ad 19) (fdd 19)
  g_is_calendar : mg "is_calendar" = some (.ref (ad 19))
  b_is_calendar : Binds K (fdd 19) ["thing"] []
  F_open_on : Fun K "open_on" "open_on" s_open_on (ad 20) (fdd 20)
  g_open_on : mg "open_on" = some (.ref (ad 20))
  b_open_on : Binds K (fdd 20) ["calendar", "day"] []
  F_open_from : Fun K "open_from" "open_from" s_open_from (ad 21) (fdd 21)
  g_open_from : mg "open_from" = some (.ref (ad 21))
  b_open_from : Binds K (fdd 21) ["calendar", "day"] []
  F_is_pattern : Fun K "is_pattern" "is_pattern" s_is_pattern (ad 22) (fdd 22)
  g_is_pattern : mg "is_pattern" = some (.ref (ad 22))
  b_is_pattern : Binds K (fdd 22) ["thing"] []
  F_is_spans : Fun K "_is_spans" "_is_spans" s_is_spans (ad 23) (fdd 23)
  g_is_spans : mg "_is_spans" = some (.ref (ad 23))
  b_is_spans : Binds K (fdd 23) ["thing"] []
  F_is_span : Fun K "_is_span" "_is_span" s_is_span (ad 24) (fdd 24)
  g_is_span : mg "_is_span" = some (.ref (ad 24))
  b_is_span : Binds K (fdd 24) ["thing"] []
  F_in_spans : Fun K "_in_spans" "_in_spans" s_in_spans (ad 25) (fdd 25)
  g_in_spans : mg "_in_spans" = some (.ref (ad 25))
  b_in_spans : Binds K (fdd 25) ["spans", "day"] []
  F_is_book : Fun K "is_book" "is_book" s_is_book (ad 31) (fdd 31)
  g_is_book : mg "is_book" = some (.ref (ad 31))
  b_is_book : Binds K (fdd 31) ["thing"] []
  F_is_route : Fun K "is_route" "is_route" s_is_route (ad 32) (fdd 32)
  g_is_route : mg "is_route" = some (.ref (ad 32))
  b_is_route : Binds K (fdd 32) ["thing"] []
  F_repeated : Fun K "repeated" "repeated" s_repeated (ad 33) (fdd 33)
  g_repeated : mg "repeated" = some (.ref (ad 33))
  b_repeated : Binds K (fdd 33) ["book", "route", "day", "times"] []
  F_times_to : Fun K "times_to" "times_to" s_times_to (ad 34) (fdd 34)
  g_times_to : mg "times_to" = some (.ref (ad 34))
  b_times_to : Binds K (fdd 34) ["book", "route", "day", "goal"] []
  F_move : Fun K "move" "move" s_move (ad 35) (fdd 35)
  g_move : mg "move" = some (.ref (ad 35))
  b_move : Binds K (fdd 35) ["calendars", "route", "day"] []
  F_is_name : Fun K "is_name" "is_name" s_is_name (ad 36) (fdd 36)
  g_is_name : mg "is_name" = some (.ref (ad 36))
  b_is_name : Binds K (fdd 36) ["thing"] []
  F_need_book : Fun K "need_book" "need_book" s_need_book (ad 37) (fdd 37)
  g_need_book : mg "need_book" = some (.ref (ad 37))
  b_need_book : Binds K (fdd 37) ["thing"] []
  F_need_route : Fun K "need_route" "need_route" s_need_route (ad 38) (fdd 38)
  g_need_route : mg "need_route" = some (.ref (ad 38))
  b_need_route : Binds K (fdd 38) ["thing"] []
  F_calendars_for : Fun K "calendars_for" "calendars_for" s_calendars_for (ad 39) (fdd 39)
  g_calendars_for : mg "calendars_for" = some (.ref (ad 39))
  b_calendars_for : Binds K (fdd 39) ["book", "route"] []
  F_need_start : Fun K "_need_start" "_need_start" s_need_start (ad 40) (fdd 40)
  g_need_start : mg "_need_start" = some (.ref (ad 40))
  b_need_start : Binds K (fdd 40) ["book", "route", "day"] []
  F_is_letter : Fun K "_is_letter" "_is_letter" s_is_letter (ad 41) (fdd 41)
  g_is_letter : mg "_is_letter" = some (.ref (ad 41))
  b_is_letter : Binds K (fdd 41) ["thing"] []
  F_is_named_calendar : Fun K "_is_named_calendar" "_is_named_calendar" s_is_named_calendar (ad 42) (fdd 42)
  g_is_named_calendar : mg "_is_named_calendar" = some (.ref (ad 42))
  b_is_named_calendar : Binds K (fdd 42) ["thing"] []
  F_move_often : Fun K "_move_often" "_move_often" s_move_often (ad 43) (fdd 43)
  g_move_often : mg "_move_often" = some (.ref (ad 43))
  b_move_often : Binds K (fdd 43) ["calendars", "route", "day", "times", "bound"] []
  F_far_leaps : Fun K "_far_leaps" "_far_leaps" s_far_leaps (ad 44) (fdd 44)
  g_far_leaps : mg "_far_leaps" = some (.ref (ad 44))
  b_far_leaps : Binds K (fdd 44) ["calendars", "route", "times"] []
  F_leap : Fun K "_leap" "_leap" s_leap (ad 45) (fdd 45)
  g_leap : mg "_leap" = some (.ref (ad 45))
  b_leap : Binds K (fdd 45) ["leaps", "day", "times", "bound"] []
  F_law_hand : Fun K "_law_hand" "_law_hand" s_law_hand (ad 47) (fdd 47)
  g_law_hand : mg "_law_hand" = some (.ref (ad 47))
  b_law_hand : Binds K (fdd 47) ["_law_script"] []
  F_law_draw : Fun K "_law_draw" "_law_draw" s_law_draw (ad 48) (fdd 48)
  g_law_draw : mg "_law_draw" = some (.ref (ad 48))
  b_law_draw : Binds K (fdd 48) ["_law_hand_here", "_law_size"] []
  F_law_spans : Fun K "_law_spans" "_law_spans" s_law_spans (ad 49) (fdd 49)
  g_law_spans : mg "_law_spans" = some (.ref (ad 49))
  b_law_spans : Binds K (fdd 49) ["_law_hand_here"] []
  F_law_calendar : Fun K "_law_calendar" "_law_calendar" s_law_calendar (ad 50) (fdd 50)
  g_law_calendar : mg "_law_calendar" = some (.ref (ad 50))
  b_law_calendar : Binds K (fdd 50) ["_law_hand_here"] []
  F_law_open : Fun K "_law_open" "_law_open" s_law_open (ad 51) (fdd 51)
  g_law_open : mg "_law_open" = some (.ref (ad 51))
  b_law_open : Binds K (fdd 51) ["_law_calendar_here", "_law_day_here"] []
  F_law_day : Fun K "_law_day" "_law_day" s_law_day (ad 52) (fdd 52)
  g_law_day : mg "_law_day" = some (.ref (ad 52))
  b_law_day : Binds K (fdd 52) ["_law_hand_here"] []
  F_law_book : Fun K "_law_book" "_law_book" s_law_book (ad 53) (fdd 53)
  g_law_book : mg "_law_book" = some (.ref (ad 53))
  b_law_book : Binds K (fdd 53) ["_law_hand_here", "_law_most"] []
  F_law_route : Fun K "_law_route" "_law_route" s_law_route (ad 54) (fdd 54)
  g_law_route : mg "_law_route" = some (.ref (ad 54))
  b_law_route : Binds K (fdd 54) ["_law_hand_here", "_law_book_here", "_law_most"] []
  F_law_moved : Fun K "_law_moved" "_law_moved" s_law_moved (ad 55) (fdd 55)
  g_law_moved : mg "_law_moved" = some (.ref (ad 55))
  b_law_moved : Binds K (fdd 55) ["_law_book_here", "_law_route_here", "_law_day_here"] []
  F_law_walk : Fun K "_law_walk" "_law_walk" s_law_walk (ad 56) (fdd 56)
  g_law_walk : mg "_law_walk" = some (.ref (ad 56))
  b_law_walk : Binds K (fdd 56) ["_law_book_here", "_law_route_here", "_law_day_here", "_law_many"] []
  F_law_near_right : Fun K "_law_near_right" "_law_near_right" s_law_near_right (ad 57) (fdd 57)
  g_law_near_right : mg "_law_near_right" = some (.ref (ad 57))
  b_law_near_right : Binds K (fdd 57) ["_law_hand_here", "_law_book_here", "_law_route_here", "_law_day_here"] []
  F_law_far_right : Fun K "_law_far_right" "_law_far_right" s_law_far_right (ad 58) (fdd 58)
  g_law_far_right : mg "_law_far_right" = some (.ref (ad 58))
  b_law_far_right : Binds K (fdd 58) ["_law_hand_here", "_law_book_here", "_law_route_here", "_law_day_here"] []
  F_law_across_right : Fun K "_law_across_right" "_law_across_right" s_law_across_right (ad 59) (fdd 59)
  g_law_across_right : mg "_law_across_right" = some (.ref (ad 59))
  b_law_across_right : Binds K (fdd 59) ["_law_hand_here", "_law_book_here", "_law_route_here"] []
  F_law : Fun K "law" "law" s_law (ad 60) (fdd 60)
  g_law : mg "law" = some (.ref (ad 60))
  b_law : Binds K (fdd 60) ["_law_script"] []
  kb_times_to_0_goal_day_route_book : KBinds K (fdd 34) ["book", "route", "day", "goal"] ["goal", "day", "route", "book"] (kg_kb_times_to_0_goal_day_route_book) (kgV_kb_times_to_0_goal_day_route_book)
  kb_repeated_0_times_day_route_book : KBinds K (fdd 33) ["book", "route", "day", "times"] ["times", "day", "route", "book"] (kg_kb_repeated_0_times_day_route_book) (kgV_kb_repeated_0_times_day_route_book)
end J
namespace J
open PySem PySem.Spec PyProof.Rows L2
local macro_rules | `(tactic| walk_at "go1") => `(tactic| first
  | with_reducible refine' w_seq ?_
  | with_reducible refine' w_next ?_
  | with_reducible refine' w_brk ?_
  | with_reducible refine' w_cont ?_
  | with_reducible refine' w_asg ?_
  | with_reducible refine' w_asgG ?_
  | with_reducible refine' w_gSub ?_
  | with_reducible refine' w_ret ?_
  | with_reducible refine' w_retN ?_
  | with_reducible refine' w_drop ?_
  | with_reducible refine' w_ifS ?_
  | ((with_reducible refine' w_isAug ?_); refine w_aug rfl ?_)
  | with_reducible refine' w_ipadd ?_
  | with_reducible refine' w_ipsub ?_
  | ((with_reducible refine' w_isVar ?_); refine w_var rfl ?_)
  | with_reducible refine' w_c ?_
  | with_reducible refine' w_nil ?_
  | with_reducible refine' w_cons ?_
  | with_reducible refine' w_op ?_
  | with_reducible refine' w_un ?_
  | with_reducible refine' w_cb ?_
  | with_reducible refine' w_call ?_
  | with_reducible refine' w_callK ?_
  | with_reducible refine' w_test ?_
  | with_reducible refine' w_tB ?_
  | with_reducible refine' w_and ?_
  | with_reducible refine' w_or ?_
  | with_reducible refine' w_not ?_
  | with_reducible refine' w_andV ?_
  | with_reducible refine' w_orV ?_
  | with_reducible refine' w_notV ?_
  | with_reducible refine' w_if ?_
  | with_reducible refine' w_chain ?_
  | with_reducible refine' w_exb ?_
  | with_reducible refine' w_add ?_
  | with_reducible refine' w_sub ?_
  | with_reducible refine' w_lt ?_
  | with_reducible refine' w_le ?_
  | with_reducible refine' w_gt ?_
  | with_reducible refine' w_ge ?_
  | ((with_reducible refine' w_mod ?h ?q); (case h => first | decide | omega))
  | ((with_reducible refine' w_fdiv ?h ?h2 ?q); (case h => first | decide | omega); (case h2 => first | decide | omega))
  | ((with_reducible refine' w_mulR ?h ?q); (case h => omega))
  | ((with_reducible refine' w_mulL ?h ?q); (case h => omega))
  | with_reducible refine' w_pow_6 ?_
  | with_reducible refine' w_pow_9 ?_
  | with_reducible refine' w_pow_12 ?_
  | with_reducible refine' w_pow_14 ?_
  | with_reducible refine' w_pow_15 ?_
  | with_reducible refine' w_pow_18 ?_
  | with_reducible refine' w_neg ?_
  | ((with_reducible refine' w_eq ?h ?q); (case h => exact rfl))
  | ((with_reducible refine' w_ne ?h ?q); (case h => exact rfl))
  | with_reducible refine' w_abs ?_
  | with_reducible refine' w_int ?_
  | with_reducible refine' w_max ?_
  | with_reducible refine' w_min ?_
  | with_reducible refine' w_count ?_
  | with_reducible refine' w_m1 ?_
  | with_reducible refine' w_bm ?_
  | with_reducible refine' w_listR3 ?_
  | with_reducible refine' w_exs ?_
  | with_reducible refine' w_inS ?_
  | with_reducible refine' w_notInS ?_
  | with_reducible refine' w_for ?_
  | with_reducible refine' w_while ?_
  | with_reducible refine' w_lc ?_
  | with_reducible refine' w_iTup ?_
  | with_reducible refine' w_iList ?_
  | with_reducible refine' w_iRng1 ?_
  | with_reducible refine' w_iRng2 ?_
  | with_reducible refine' w_gName ?_
  | with_reducible refine' w_tYes ?_
  | with_reducible refine' w_tupD ?_
  | with_reducible refine' w_tupF ?_
  | with_reducible refine' w_ltS ?_
  | with_reducible refine' w_leS ?_
  | with_reducible refine' w_dget ?_
  | with_reducible refine' w_dnotin ?_
  | with_reducible refine' w_sl ?_
  | with_reducible refine' w_part ?_
  | with_reducible refine' w_noPart ?_
  | with_reducible refine' w_some ?_
  | with_reducible refine' w_lstD ?_
  | with_reducible refine' w_revT ?_
  | with_reducible refine' w_par ?_
  )
local macro_rules | `(tactic| walk_at "go") => `(tactic| repeat (walk_at "go1"))

/-! ### the judges, on data -/
def isWhole : PyData → Int → Int → Bool
  | .int i, lo, hi => decide (lo ≤ i) && decide (i ≤ hi)
  | _, _, _ => false
def lexD : PyData → PyData → Bool
  | .tuple [.int a, .int b], .tuple [.int c, .int d] => HT.lexLt [a, b] [c, d]
  | _, _ => false
def risingD : List PyData → Bool
  | x :: y :: r => lexD x y && risingD (y :: r)
  | _ => true
def isPat : PyData → Bool
  | .str z => decide ((z.length : Int) ≤ 4) && (decide (111 ∈ z.cps.toList) && decide (V.int (Txt.count z "o" + Txt.count z "-") = V.int z.length))
  | _ => false
def isSpan : PyData → Bool
  | .tuple [a, b] => isWhole a (-30) 30 && (match a with | .int i => isWhole b i 30 | _ => false)
  | _ => false
def isSpans : PyData → Bool
  | .tuple ds => decide ((ds.length : Int) ≤ 2) && (ds.all isSpan && risingD ds)
  | _ => false
def isCal : PyData → Bool
  | .tuple [p, a, b] => isPat p && (isSpans a && isSpans b)
  | _ => false
/-- texts are short -/
def shortD : PyData → Bool
  | .str z => decide (z.length ≤ 1000)
  | _ => true
def okSpans : PyData → Bool
  | .tuple ds => decide (ds.length ≤ 1000)
  | _ => true
def okCal : PyData → Bool
  | .tuple ds => ds.all shortD && ds.all okSpans && decide (ds.length ≤ 1000)
  | _ => true

def spWhole (K : PySem.W.Frag) : Sp := fun vs H Q _ => ∃ v d lo hi, vs = [v, .int lo, .int hi] ∧ Rp K H v d ∧ Q (.bl (isWhole d lo hi)) H

theorem isWhole_int {d : PyData} {lo hi : Int} (h : isWhole d lo hi = true) : ∃ i, d = .int i ∧ lo ≤ i ∧ i ≤ hi := by
  cases d <;> simp [isWhole] at h
  exact ⟨_, rfl, h.1, h.2⟩
theorem isSpan_int {d : PyData} (h : isSpan d = true) : ∃ a b, d = .tuple [.int a, .int b] ∧ -30 ≤ a ∧ a ≤ b ∧ b ≤ 30 := by
  unfold isSpan at h
  split at h
  · rename_i x y
    rw [Bool.and_eq_true] at h
    obtain ⟨h1, h2⟩ := h
    obtain ⟨i, rfl, h3, h4⟩ := isWhole_int h1
    obtain ⟨j, rfl, h5, h6⟩ := isWhole_int h2
    exact ⟨i, j, rfl, h3, h5, h6⟩
  · cases h
theorem all_take {α : Type} (p : Nat → α → Bool) : True := trivial
/-- the neighbours in turn -/
def flagAt (ds : List PyData) (i : Nat) : Bool := lexD (ds.getD i .none) (ds.getD (i + 1) .none)
theorem rising_flags : ∀ ds : List PyData, ((List.range (ds.length - 1)).map (flagAt ds)).all id = risingD ds
  | [] => rfl
  | [_] => rfl
  | x :: y :: r => by
    show ((List.range (r.length + 1)).map (flagAt (x :: y :: r))).all id = (lexD x y && risingD (y :: r))
    rw [List.range_succ_eq_map, List.map_cons, List.map_map, List.all_cons, ← rising_flags (y :: r)]
    rfl
theorem take_flags (ds : List PyData) (n i : Nat) (h : i < n) : ((List.range n).map (flagAt ds)).take (i + 1) = ((List.range n).map (flagAt ds)).take i ++ [flagAt ds i] := by
  rw [List.take_add_one, List.getElem?_map, List.getElem?_range h]
  rfl
theorem take_map {α β : Type} (f : α → β) (l : List α) (i : Nat) (x : α) (h : l[i]? = some x) : (l.map f).take (i + 1) = (l.map f).take i ++ [f x] := by
  rw [List.take_add_one, List.getElem?_map, h]
  rfl
theorem list_lt {n : Nat} (h : n ≤ 1000) : n ≤ sizeLine := Nat.le_of_lt (small1000 h)

def isPair : PyData → Bool
  | .tuple ds => decide (V.int (ds.length : Int) = V.int 2)
  | _ => false
theorem isPair_two {d : PyData} (h : isPair d = true) : ∃ a b, d = .tuple [a, b] := by
  cases d <;> simp only [isPair] at h <;> try cases h
  rename_i ds
  have h := V.int.inj (of_decide_eq_true h)
  obtain ⟨a, b, e⟩ := len2 (l := ds) (by omega)
  exact ⟨a, b, by rw [e]⟩
theorem noPair_span {d : PyData} (h : isPair d = false) : isSpan d = false := by
  unfold isSpan
  split
  · rename_i x y
    have : isPair (.tuple [x, y]) = true := (decide_eq_true rfl : decide (V.int (([x, y] : List PyData).length : Int) = V.int 2) = true)
    rw [this] at h; cases h
  · rfl

def spPair (K : PySem.W.Frag) : Sp := fun vs H Q _ => ∃ v d, vs = [v] ∧ Rp K H v d ∧ Q (.bl (isPair d)) H
def spNeedDay : Sp := fun vs H Q _ => ∃ d : Int, vs = [.int d] ∧ -1000000000000000 ≤ d ∧ d ≤ 1000000000000000 ∧ Q .non H
def spPat (K : PySem.W.Frag) : Sp := fun vs H Q _ => ∃ v d, vs = [v] ∧ Rp K H v d ∧ shortD d = true ∧ Q (.bl (isPat d)) H
def spSpan (K : PySem.W.Frag) : Sp := fun vs H Q _ => ∃ v d, vs = [v] ∧ Rp K H v d ∧ Q (.bl (isSpan d)) H
def spRising (K : PySem.W.Frag) : Sp := fun vs H Q _ => ∃ v ds, vs = [v] ∧ Rp K H v (.tuple ds) ∧ ds.all isSpan = true ∧ ds.length ≤ 1000 ∧ ∀ H', Ex H H' → Q (.bl (risingD ds)) H'
def spSpans (K : PySem.W.Frag) : Sp := fun vs H Q _ => ∃ v d, vs = [v] ∧ Rp K H v d ∧ okSpans d = true ∧ ∀ H', Ex H H' → Q (.bl (isSpans d)) H'
def spIsCal (K : PySem.W.Frag) : Sp := fun vs H Q _ => ∃ v d, vs = [v] ∧ Rp K H v d ∧ okCal d = true ∧ ∀ H', Ex H H' → Q (.bl (isCal d)) H'
def spNeedCal (K : PySem.W.Frag) : Sp := fun vs H Q _ => ∃ v d, vs = [v] ∧ Rp K H v d ∧ okCal d = true ∧ isCal d = true ∧ ∀ H', Ex H H' → Q .non H'
def spNeedNum : Sp := fun vs H Q _ => ∃ n m : Int, vs = [.int n, .int m] ∧ 0 ≤ n ∧ n ≤ m ∧ Q .non H
section
variable {P : Program} {w : World} {K : PySem.W.Frag} {mg : Str → Option Value} {base : Heap} {ad : Nat → Addr} {fdd : Nat → FuncData}
theorem ok_is_whole (T : Tx K mg ad fdd) : FnOk P w K mg base CX0 1 (ad 9) (fdd 9) ["thing", "low", "high"] (spWhole K) := by
  refine T.F_is_whole.ok sc_is_whole (fun vs H Q E h => ?_) (fun cdv A outer s H vs Q E hr h => ?_)
  · obtain ⟨v, d, lo, hi, rfl, _⟩ := h
    rfl
  · obtain ⟨v, d, lo, hi, rfl, hv, q⟩ := h
    refine ⟨_, (pss_one (ps_ret (pe_and (pe_callB (show CallR _ _ (rIsi K) from call_isi) (by rfl) T.m_isinstance (by decide +kernel) (pa_cons (pv 0) (pa_cons (pe_bltn (v := .ty "int") rfl T.m_int (by decide +kernel) rfl) pa_nil))) (pe_and (pe_not (pe_callB (show CallR _ _ (rIsi K) from call_isi) (by rfl) T.m_isinstance (by decide +kernel) (pa_cons (pv 0) (pa_cons (pe_bltn (v := .ty "bool") rfl T.m_bool (by decide +kernel) rfl) pa_nil)))) (pe_one (pe_chain op_le op_le (pv 1) (pv 0) (pv 2))))))), ?_⟩
    dsimp only [L2.start, N_is_whole, cxOf, Cx.nox, Cx.wish]
    walk_at "go"
    refine w_isiInt hv ?_
    walk_at "go"
    cases hv with
    | int i =>
      refine w_T rfl ?_
      walk_at "go"
      refine w_isiBool (.int i) ?_
      walk_at "go"
      refine w_T rfl ?_
      walk_at "go"
      refine w_dec (fun c => ?_) (fun c => ?_)
      · walk_at "go"
        have e : isWhole (.int i) lo hi = decide (i ≤ hi) := by simp [isWhole, c]
        rw [← e]; exact q
      · have e : isWhole (.int i) lo hi = false := by simp [isWhole, c]
        rw [← e]; exact q
    | bl b =>
      refine w_T rfl ?_
      walk_at "go"
      refine w_isiBool (.bl b) ?_
      walk_at "go"
      refine w_F rfl ?_
      exact q
    | non => exact w_F rfl q
    | str x => exact w_F rfl q
    | tup _ _ => exact w_F rfl q
    | lst _ _ _ => exact w_F rfl q
    | dct _ => exact w_F rfl q
theorem ok_need_day (T : Tx K mg ad fdd) (G_is_whole : FnOk P w K mg base CX0 1 (ad 9) (fdd 9) ["thing", "low", "high"] (spWhole K)) : FnOk P w K mg base CX0 2 (ad 12) (fdd 12) ["thing"] (spNeedDay) := by
  refine T.F_need_day.ok sc_need_day (fun vs H Q E h => ?_) (fun cdv A outer s H vs Q E hr h => ?_)
  · obtain ⟨d, rfl, _⟩ := h
    rfl
  · obtain ⟨d, rfl, h0, h1, q⟩ := h
    refine ⟨_, (pss_one (ps_if (pt_not (pt_val (pe_call G_is_whole (hr.mono (by decide)) (by rfl) T.g_is_whole T.F_is_whole.kp T.b_is_whole .nil pass0 (pa_cons (pv 0) (pa_cons (pe_un un_neg (C8.pe_gc (v := .int (1000000000000000)) rfl T.m_FAR_DAY)) (pa_cons (C8.pe_gc (v := .int (1000000000000000)) rfl T.m_FAR_DAY) pa_nil))))))
    (pss_one ps_never)
    pss_nil)), ?_⟩
    dsimp only [L2.start, N_need_day, cxOf, Cx.nox, Cx.wish]
    walk_at "go"
    refine ⟨.int d, .int d, _, _, rfl, .int d, ?_⟩
    walk_at "go"
    refine w_nF (by simp [isWhole]; omega) ?_
    walk_at "go"
    exact q
theorem ok_is_pattern (T : Tx K mg ad fdd) : FnOk P w K mg base CX0 1 (ad 22) (fdd 22) ["thing"] (spPat K) := by
  refine T.F_is_pattern.ok sc_is_pattern (fun vs H Q E h => ?_) (fun cdv A outer s H vs Q E hr h => ?_)
  · obtain ⟨v, d, rfl, _⟩ := h
    rfl

  · obtain ⟨v, d, rfl, hv, hs, q⟩ := h
    refine ⟨_, (pss_one (ps_ret (pe_and (pe_callB (show CallR _ _ (rIsi K) from call_isi) (by rfl) T.m_isinstance (by decide +kernel) (pa_cons (pv 0) (pa_cons (pe_bltn (v := .ty "str") rfl T.m_str (by decide +kernel) rfl) pa_nil))) (pe_and (pe_cmpR op_le (pe_callB (show CallR _ _ (rLen K) from c_len) (by rfl) T.m_len (by decide +kernel) (pa_cons (pv 0) pa_nil)) pe_int (nomark _)) (pe_and (pe_cmpR op_inS pe_str (pv 0) (by rfl)) (pe_one (pe_cmpR op_eq (pe_op op_add (pe_m1 PySem.F.slot_str_count PySem.F.type_str_count m_count (pv 0) pe_str) (pe_m1 PySem.F.slot_str_count PySem.F.type_str_count m_count (pv 0) pe_str)) (pe_callB (show CallR _ _ (rLen K) from c_len) (by rfl) T.m_len (by decide +kernel) (pa_cons (pv 0) pa_nil)) (nomark _)))))))), ?_⟩
    dsimp only [L2.start, N_is_pattern, cxOf, Cx.nox, Cx.wish]
    walk_at "go"
    refine w_isiStr hv ?_
    walk_at "go"
    cases hv with
    | str z =>
      have hz : z.length ≤ 1000 := of_decide_eq_true hs
      refine w_T rfl ?_
      walk_at "go"
      refine w_lenS (list_lt hz) ?_
      walk_at "go"
      refine w_dec (fun c => ?_) (fun c => ?_)
      · walk_at "go"
        refine w_inS (c := 111) (z := z) ?_
        walk_at "go"
        refine w_dec (fun c2 => ?_) (fun c2 => ?_)
        · walk_at "go"
          refine w_lenS (list_lt hz) ?_
          walk_at "go"
          have e : isPat (.str z) = decide (V.int (Txt.count z "o" + Txt.count z "-") = V.int z.length) := by simp [isPat, c, c2]
          rw [← e]; exact q
        · have e : isPat (.str z) = false := by simp [isPat, c2]
          rw [← e]; exact q
      · have e : isPat (.str z) = false := by simp [isPat, c]
        rw [← e]; exact q
    | bl b => exact w_F rfl q
    | int i => exact w_F rfl q
    | non => exact w_F rfl q
    | tup _ _ => exact w_F rfl q
    | lst _ _ _ => exact w_F rfl q
    | dct _ => exact w_F rfl q
theorem ok_is_pair (T : Tx K mg ad fdd) : FnOk P w K mg base CX0 1 (ad 10) (fdd 10) ["thing"] (spPair K) := by
  refine T.F_is_pair.ok sc_is_pair (fun vs H Q E h => ?_) (fun cdv A outer s H vs Q E hr h => ?_)
  · obtain ⟨v, d, rfl, _⟩ := h
    rfl

  · obtain ⟨v, d, rfl, hv, q⟩ := h
    refine ⟨_, (pss_one (ps_ret (pe_and (pe_callB (show CallR _ _ (rIsi K) from call_isi) (by rfl) T.m_isinstance (by decide +kernel) (pa_cons (pv 0) (pa_cons (pe_bltn (v := .ty "tuple") rfl T.m_tuple (by decide +kernel) rfl) pa_nil))) (pe_one (pe_cmpR op_eq (pe_callB (show CallR _ _ (rLen K) from c_len) (by rfl) T.m_len (by decide +kernel) (pa_cons (pv 0) pa_nil)) pe_int (nomark _)))))), ?_⟩
    dsimp only [L2.start, N_is_pair, cxOf, Cx.nox, Cx.wish]
    walk_at "go"
    refine w_isiTup hv ?_
    walk_at "go"
    cases hv with
    | @tup a xs ds hs r =>
      have hl := r.len
      refine w_T rfl ?_
      walk_at "go"
      refine w_lenT hs ?_
      walk_at "go"
      have e : isPair (.tuple ds) = decide (V.int (xs.length : Int) = V.int 2) := by rw [hl]; rfl
      rw [← e]; exact q
    | bl b => exact w_F rfl q
    | int i => exact w_F rfl q
    | non => exact w_F rfl q
    | str _ => exact w_F rfl q
    | lst _ _ _ => exact w_F rfl q
    | dct _ => exact w_F rfl q
theorem ok_is_span (T : Tx K mg ad fdd) (G_is_whole : FnOk P w K mg base CX0 1 (ad 9) (fdd 9) ["thing", "low", "high"] (spWhole K)) (G_is_pair : FnOk P w K mg base CX0 1 (ad 10) (fdd 10) ["thing"] (spPair K)) : FnOk P w K mg base CX0 2 (ad 24) (fdd 24) ["thing"] (spSpan K) := by
  refine T.F_is_span.ok sc_is_span (fun vs H Q E h => ?_) (fun cdv A outer s H vs Q E hr h => ?_)
  · obtain ⟨v, d, rfl, _⟩ := h
    rfl

  · obtain ⟨v, d, rfl, hv, q⟩ := h
    refine ⟨_, (pss_one (ps_ret (pe_and (pe_call G_is_pair (hr.mono (by decide)) (by rfl) T.g_is_pair T.F_is_pair.kp T.b_is_pair .nil pass0 (pa_cons (pv 0) pa_nil)) (pe_and (pe_call G_is_whole (hr.mono (by decide)) (by rfl) T.g_is_whole T.F_is_whole.kp T.b_is_whole .nil pass0 (pa_cons (pe_ix (show IxR _ (rIxT K) from ix_tup) (pv 0) pe_int (fun _ _ => rfl)) (pa_cons (C8.pe_gc (v := .int (-30)) rfl T.m_FIRST_NEAR) (pa_cons (C8.pe_gc (v := .int (30)) rfl T.m_LAST_NEAR) pa_nil)))) (pe_one (pe_call G_is_whole (hr.mono (by decide)) (by rfl) T.g_is_whole T.F_is_whole.kp T.b_is_whole .nil pass0 (pa_cons (pe_ix (show IxR _ (rIxT K) from ix_tup) (pv 0) pe_int (fun _ _ => rfl)) (pa_cons (pe_ix (show IxR _ (rIxT K) from ix_tup) (pv 0) pe_int (fun _ _ => rfl)) (pa_cons (C8.pe_gc (v := .int (30)) rfl T.m_LAST_NEAR) pa_nil))))))))), ?_⟩
    dsimp only [L2.start, N_is_span, cxOf, Cx.nox, Cx.wish]
    walk_at "go"
    refine ⟨v, d, rfl, hv, ?_⟩
    walk_at "go"
    refine w_2 (fun c => ?_) (fun c => ?_)
    · obtain ⟨d1, d2, rfl⟩ := isPair_two c
      obtain ⟨a, xs, rfl, hs, r⟩ := hv.isTup
      obtain ⟨v1, v2, rfl, r1, r2⟩ := r.two
      walk_at "go"
      refine w_ixT hs rfl ?_
      walk_at "go"
      refine ⟨v1, d1, _, _, rfl, r1, ?_⟩
      walk_at "go"
      refine w_2 (fun c2 => ?_) (fun c2 => ?_)
      · obtain ⟨i, rfl, i0, i1⟩ := isWhole_int c2
        have e1 := r1.isInt
        subst e1
        walk_at "go"
        refine w_ixT hs rfl ?_
        walk_at "go"
        refine w_ixT hs rfl ?_
        walk_at "go"
        refine ⟨v2, d2, _, _, rfl, r2, ?_⟩
        have e : isSpan (.tuple [.int i, d2]) = isWhole d2 i 30 := by simp [isSpan, c2]
        rw [← e]; exact q
      · have e : isSpan (.tuple [d1, d2]) = false := by simp [isSpan, c2]
        rw [← e]; exact q
    · rw [← noPair_span c]; exact q
theorem ok_is_rising (T : Tx K mg ad fdd) : FnOk P w K mg base CX0 1 (ad 11) (fdd 11) ["things"] (spRising K) := by
  refine T.F_is_rising.ok sc_is_rising (fun vs H Q E h => ?_) (fun cdv A outer s H vs Q E hr h => ?_)
  · obtain ⟨v, d, rfl, _⟩ := h
    rfl
  · obtain ⟨v, ds, rfl, hv, ha, hlen, q⟩ := h
    obtain ⟨a, xs, rfl, hs, r⟩ := hv.isTup
    have hl := r.len
    refine ⟨_, (pss_one (ps_ret (pe_callB (show CallR _ _ (rAll K) from cr_all rfl) (by rfl) T.m_all (by decide +kernel) (pa_cons (pe_lc (own := [("at", 1)]) rfl sc_is_rising.nd (pi_range1 (by rfl) T.m_range (pa_cons (pe_op op_sub (pe_callB (show CallR _ _ (rLen K) from c_len) (by rfl) T.m_len (by decide +kernel) (pa_cons (pv 0) pa_nil)) pe_int) pa_nil)) (blkOk_by (own := [("at", 1)]) (N := N_is_rising) (sc := defScope s_is_rising) (by decide +kernel)) (fun _ _ _ _ _ => (pg_name (i := 1) sc_is_rising.nd rfl (by first | exact Or.inl rfl | exact Or.inr rfl))) (fun _ _ _ _ _ => pts_nil) (fun _ _ _ _ _ => (pe_cmpR (show OpR _ _ (rLtT K) from op_ltT hr.units0) (pe_ix (show IxR _ (rIxT K) from ix_tup) (pv 0) (pv 1) (fun _ _ => rfl)) (pe_ix (show IxR _ (rIxT K) from ix_tup) (pv 0) (pe_op op_add (pv 1) pe_int) (fun _ _ => rfl)) (nomark _)))) pa_nil)))), ?_⟩
    dsimp only [L2.start, N_is_rising, cxOf, Cx.nox, Cx.wish]
    walk_at "go"
    refine w_lenT hs ?_
    walk_at "go"
    refine w_lcR (by omega) ?_
    refine lc_R (fun D i H' => Ex H H' ∧ H' D = some (.lst ((((List.range (ds.length - 1)).map (flagAt ds)).take i).map V.bl))) (fun D nD => ⟨Ex.new nD, upd_same⟩) (fun D i H' nD hi p => ?_) (fun D H' nD p => ?_)
    · obtain ⟨e, hD⟩ := p
      have hi' : i < ds.length - 1 := by omega
      walk_at "go"
      refine ⟨rfl, ?_⟩
      walk_at "go"
      refine iteT ?_
      have x1 := r.at' (i := i) (d := ds[i]) (List.getElem?_eq_getElem (by omega))
      have x2 := r.at' (i := i + 1) (d := ds[i + 1]) (List.getElem?_eq_getElem (by omega))
      obtain ⟨v1, g1, r1⟩ := x1
      obtain ⟨v2, g2, r2⟩ := x2
      rw [List.all_eq_true] at ha
      obtain ⟨a1, b1, e1, _⟩ := isSpan_int (ha ds[i] (List.getElem_mem _))
      obtain ⟨a2, b2, e2, _⟩ := isSpan_int (ha ds[i + 1] (List.getElem_mem _))
      rw [e1] at r1
      rw [e2] at r2
      obtain ⟨p1, ys1, rfl, s1, q1⟩ := r1.isTup
      obtain ⟨p2, ys2, rfl, s2, q2⟩ := r2.isTup
      obtain ⟨_, _, rfl, t1, t2⟩ := q1.two
      obtain ⟨_, _, rfl, t3, t4⟩ := q2.two
      cases t1.isInt; cases t2.isInt; cases t3.isInt; cases t4.isInt
      walk_at "go"
      refine w_ixT (e.b.tup hs) (i := 0 + (i : Int)) (v := .ref p1) (by rw [Int.zero_add]; exact atI_nat g1) ?_
      walk_at "go"
      refine w_ixT (e.b.tup hs) (i := 0 + (i : Int) + 1) (v := .ref p2) (by rw [Int.zero_add]; exact atI_nat (j := i + 1) g2) ?_
      walk_at "go"
      refine w_ltT (ns := [a1, b1]) (ms := [a2, b2]) (e.b.tup s1) (e.b.tup s2) ?_
      refine ⟨_, hD, small1000 ?_, e.mut nD, ?_⟩
      · rw [List.length_map, List.length_take, List.length_map, List.length_range]; omega
      · rw [upd_same, take_flags ds _ i hi', List.map_append]
        have ef : flagAt ds i = HT.lexLt [a1, b1] [a2, b2] := by
          unfold flagAt
          rw [List.getD_eq_getElem?_getD, List.getD_eq_getElem?_getD, List.getElem?_eq_getElem (by omega), List.getElem?_eq_getElem (by omega)]
          show lexD ds[i] ds[i + 1] = _
          rw [e1, e2]; rfl
        rw [ef]; rfl
    · obtain ⟨e, hD⟩ := p
      have en : (((List.range (ds.length - 1)).map (flagAt ds)).take ((xs.length : Int) - 1).toNat) = (List.range (ds.length - 1)).map (flagAt ds) := List.take_of_length_le (by rw [List.length_map, List.length_range]; omega)
      rw [en] at hD
      walk_at "go"
      refine w_all (sq_of hD) ?_
      rw [rising_flags]
      exact q H' e
theorem ok_is_spans (T : Tx K mg ad fdd) (G_is_span : FnOk P w K mg base CX0 2 (ad 24) (fdd 24) ["thing"] (spSpan K)) (G_is_rising : FnOk P w K mg base CX0 1 (ad 11) (fdd 11) ["things"] (spRising K)) : FnOk P w K mg base CX0 3 (ad 23) (fdd 23) ["thing"] (spSpans K) := by
  refine T.F_is_spans.ok sc_is_spans (fun vs H Q E h => ?_) (fun cdv A outer s H vs Q E hr h => ?_)
  · obtain ⟨v, d, rfl, _⟩ := h
    rfl

  · obtain ⟨v, d, rfl, hv, ok, q⟩ := h
    refine ⟨_, (pss_one (ps_ret (pe_and (pe_callB (show CallR _ _ (rIsi K) from call_isi) (by rfl) T.m_isinstance (by decide +kernel) (pa_cons (pv 0) (pa_cons (pe_bltn (v := .ty "tuple") rfl T.m_tuple (by decide +kernel) rfl) pa_nil))) (pe_and (pe_cmpR op_le (pe_callB (show CallR _ _ (rLen K) from c_len) (by rfl) T.m_len (by decide +kernel) (pa_cons (pv 0) pa_nil)) (C8.pe_gc (v := .int (2)) rfl T.m_MOST_SPANS) (nomark _)) (pe_and (pe_callB (show CallR _ _ (rAll K) from cr_all rfl) (by rfl) T.m_all (by decide +kernel) (pa_cons (pe_lc (own := [("span", 1)]) rfl sc_is_spans.nd (pi_tup (pv 0)) (blkOk_by (own := [("span", 1)]) (N := N_is_spans) (sc := defScope s_is_spans) (by decide +kernel)) (fun _ _ _ _ _ => (pg_name (i := 1) sc_is_spans.nd rfl (by first | exact Or.inl rfl | exact Or.inr rfl))) (fun _ _ _ _ _ => pts_nil) (fun _ _ _ _ _ => (pe_call G_is_span (hr.mono (by decide)) (by rfl) T.g_is_span T.F_is_span.kp T.b_is_span .nil pass0 (pa_cons (pv 1) pa_nil)))) pa_nil)) (pe_one (pe_call G_is_rising (hr.mono (by decide)) (by rfl) T.g_is_rising T.F_is_rising.kp T.b_is_rising .nil pass0 (pa_cons (pv 0) pa_nil)))))))), ?_⟩
    dsimp only [L2.start, N_is_spans, cxOf, Cx.nox, Cx.wish]
    walk_at "go"
    refine w_isiTup hv ?_
    walk_at "go"
    cases hv with
    | @tup a xs ds hs r =>
      have hl := r.len
      have ok' : ds.length ≤ 1000 := of_decide_eq_true ok
      refine w_T rfl ?_
      walk_at "go"
      refine w_lenT hs ?_
      walk_at "go"
      refine w_dec (fun c => ?_) (fun c => ?_)
      · walk_at "go"
        refine w_lcT hs ?_
        refine lc_T (xs := xs) (fun D i H' => Ex H H' ∧ H' D = some (.lst (((ds.map isSpan).take i).map V.bl))) (fun D nD => ⟨Ex.new nD, upd_same⟩) (fun D i H' hi p => p.1.b.tup hs) (fun D i x H' nD hx p => ?_) (fun D H' nD p => ?_)
        · obtain ⟨e, hD⟩ := p
          obtain ⟨d1, g1, r1⟩ := r.at hx
          walk_at "go"
          refine ⟨rfl, ?_⟩
          walk_at "go"
          refine iteT ?_
          walk_at "go"
          refine ⟨x, d1, rfl, r1.mono e.b, ?_⟩
          refine ⟨_, hD, small1000 ?_, e.mut nD, ?_⟩
          · rw [List.length_map, List.length_take, List.length_map]; omega
          · rw [upd_same, take_map isSpan ds i d1 g1, List.map_append]; rfl
        · obtain ⟨e, hD⟩ := p
          rw [List.take_of_length_le (by rw [List.length_map, hl]; exact Nat.le_refl _)] at hD
          walk_at "go"
          refine w_all (sq_of hD) ?_
          walk_at "go"
          have ea : (ds.map isSpan).all id = ds.all isSpan := by rw [List.all_map]; rfl
          rw [ea]
          refine w_2 (fun c2 => ?_) (fun c2 => ?_)
          · walk_at "go"
            refine ⟨_, ds, rfl, .tup (e.b.tup hs) (r.mono e.b), c2, ok', fun H2 e2 => ?_⟩
            have es : isSpans (.tuple ds) = risingD ds := by
              have : (ds.length : Int) ≤ 2 := by rw [← hl]; exact c
              simp [isSpans, this, c2]
            rw [← es]; exact q H2 (e.trans e2)
          · have es : isSpans (.tuple ds) = false := by simp [isSpans, c2]
            rw [← es]; exact q H' e
      · have es : isSpans (.tuple ds) = false := by
          have : ¬ (ds.length : Int) ≤ 2 := by rw [← hl]; exact c
          simp [isSpans, this]
        rw [← es]; exact q H (Ex.refl H)
    | bl b => exact w_F rfl (q H (Ex.refl H))
    | int i => exact w_F rfl (q H (Ex.refl H))
    | non => exact w_F rfl (q H (Ex.refl H))
    | str _ => exact w_F rfl (q H (Ex.refl H))
    | lst _ _ _ => exact w_F rfl (q H (Ex.refl H))
    | dct _ => exact w_F rfl (q H (Ex.refl H))
theorem ok_is_calendar (T : Tx K mg ad fdd) (G_is_spans : FnOk P w K mg base CX0 3 (ad 23) (fdd 23) ["thing"] (spSpans K)) (G_is_pattern : FnOk P w K mg base CX0 1 (ad 22) (fdd 22) ["thing"] (spPat K)) : FnOk P w K mg base CX0 4 (ad 19) (fdd 19) ["thing"] (spIsCal K) := by
  refine T.F_is_calendar.ok sc_is_calendar (fun vs H Q E h => ?_) (fun cdv A outer s H vs Q E hr h => ?_)
  · obtain ⟨v, d, rfl, _⟩ := h
    rfl

  · obtain ⟨v, d, rfl, hv, ok, q⟩ := h
    refine ⟨_, (pss_one (ps_ret (pe_and (pe_callB (show CallR _ _ (rIsi K) from call_isi) (by rfl) T.m_isinstance (by decide +kernel) (pa_cons (pv 0) (pa_cons (pe_bltn (v := .ty "tuple") rfl T.m_tuple (by decide +kernel) rfl) pa_nil))) (pe_and (pe_cmpR op_eq (pe_callB (show CallR _ _ (rLen K) from c_len) (by rfl) T.m_len (by decide +kernel) (pa_cons (pv 0) pa_nil)) pe_int (nomark _)) (pe_and (pe_call G_is_pattern (hr.mono (by decide)) (by rfl) T.g_is_pattern T.F_is_pattern.kp T.b_is_pattern .nil pass0 (pa_cons (pe_ix (show IxR _ (rIxT K) from ix_tup) (pv 0) pe_int (fun _ _ => rfl)) pa_nil)) (pe_and (pe_call G_is_spans (hr.mono (by decide)) (by rfl) T.g_is_spans T.F_is_spans.kp T.b_is_spans .nil pass0 (pa_cons (pe_ix (show IxR _ (rIxT K) from ix_tup) (pv 0) pe_int (fun _ _ => rfl)) pa_nil)) (pe_one (pe_call G_is_spans (hr.mono (by decide)) (by rfl) T.g_is_spans T.F_is_spans.kp T.b_is_spans .nil pass0 (pa_cons (pe_ix (show IxR _ (rIxT K) from ix_tup) (pv 0) pe_int (fun _ _ => rfl)) pa_nil))))))))), ?_⟩
    dsimp only [L2.start, N_is_calendar, cxOf, Cx.nox, Cx.wish]
    walk_at "go"
    refine w_isiTup hv ?_
    walk_at "go"
    cases hv with
    | @tup a xs ds hs r =>
      have hl := r.len
      refine w_T rfl ?_
      walk_at "go"
      refine w_lenT hs ?_
      walk_at "go"
      refine w_dec (fun c => ?_) (fun c => ?_)
      · have c1 : (xs.length : Int) = 3 := V.int.inj c
        obtain ⟨d1, d2, d3, rfl⟩ := len3 (l := ds) (by omega)
        obtain ⟨v1, v2, v3, rfl, r1, r2, r3⟩ := r.three
        simp only [okCal, List.all_cons, List.all_nil, Bool.and_true, Bool.and_eq_true] at ok
        obtain ⟨⟨⟨k1, _⟩, ⟨_, k2, k3⟩⟩, _⟩ := ok
        walk_at "go"
        refine w_ixT hs rfl ?_
        walk_at "go"
        refine ⟨v1, d1, rfl, r1, k1, ?_⟩
        walk_at "go"
        refine w_2 (fun c2 => ?_) (fun c2 => ?_)
        · walk_at "go"
          refine w_ixT hs rfl ?_
          walk_at "go"
          refine ⟨v2, d2, rfl, r2, k2, fun H1 e1 => ?_⟩
          walk_at "go"
          refine w_2 (fun c3 => ?_) (fun c3 => ?_)
          · walk_at "go"
            refine w_ixT (e1.b.tup hs) rfl ?_
            walk_at "go"
            refine ⟨v3, d3, rfl, r3.mono e1.b, k3, fun H2 e2 => ?_⟩
            have es : isCal (.tuple [d1, d2, d3]) = isSpans d3 := by simp [isCal, c2, c3]
            rw [← es]; exact q H2 (e1.trans e2)
          · have es : isCal (.tuple [d1, d2, d3]) = false := by simp [isCal, c3]
            rw [← es]; exact q H1 e1
        · have es : isCal (.tuple [d1, d2, d3]) = false := by simp [isCal, c2]
          rw [← es]; exact q H (Ex.refl H)
      · have es : isCal (.tuple ds) = false := by
          unfold isCal
          split
          · rename_i x y z e
            exfalso
            apply c
            cases e
            rw [hl]
            rfl
          · rfl
        rw [← es]; exact q H (Ex.refl H)
    | bl b => exact w_F rfl (q H (Ex.refl H))
    | int i => exact w_F rfl (q H (Ex.refl H))
    | non => exact w_F rfl (q H (Ex.refl H))
    | str _ => exact w_F rfl (q H (Ex.refl H))
    | lst _ _ _ => exact w_F rfl (q H (Ex.refl H))
    | dct _ => exact w_F rfl (q H (Ex.refl H))
theorem ok_need_number (T : Tx K mg ad fdd) (G_is_whole : FnOk P w K mg base CX0 1 (ad 9) (fdd 9) ["thing", "low", "high"] (spWhole K)) : FnOk P w K mg base CX0 2 (ad 13) (fdd 13) ["thing", "most"] (spNeedNum) := by
  refine T.F_need_number.ok sc_need_number (fun vs H Q E h => ?_) (fun cdv A outer s H vs Q E hr h => ?_)
  · obtain ⟨n, m, rfl, _⟩ := h
    rfl
  · obtain ⟨n, m, rfl, h0, h1, q⟩ := h
    refine ⟨_, (pss_one (ps_if (pt_not (pt_val (pe_call G_is_whole (hr.mono (by decide)) (by rfl) T.g_is_whole T.F_is_whole.kp T.b_is_whole .nil pass0 (pa_cons (pv 0) (pa_cons pe_int (pa_cons (pv 1) pa_nil))))))
    (pss_one ps_never)
    pss_nil)), ?_⟩
    dsimp only [L2.start, N_need_number, cxOf, Cx.nox, Cx.wish]
    walk_at "go"
    refine ⟨.int n, .int n, _, _, rfl, .int n, ?_⟩
    walk_at "go"
    refine w_nF (by simp [isWhole]; omega) ?_
    walk_at "go"
    exact q
end

/-! ### right calendars -/
def one (c : Nat) : Str := ⟨#[c]⟩
structure Cal where
  pat : Str
  shut : List (Int × Int)
  free : List (Int × Int)
def encSpan (s : Int × Int) : PyData := .tuple [.int s.1, .int s.2]
def encSpans (ss : List (Int × Int)) : PyData := .tuple (ss.map encSpan)
def encCal (c : Cal) : PyData := .tuple [.str c.pat, encSpans c.shut, encSpans c.free]
def Cal.Ok (c : Cal) : Prop := isCal (encCal c) = true
def inSpan (day : Int) (s : Int × Int) : Bool := decide (s.1 ≤ day) && decide (day ≤ s.2)
def patO (z : Str) (day : Int) : Bool := decide (z.cps.toList[(day % z.length).toNat]? = some 111)
def openC (c : Cal) (day : Int) : Bool := if c.shut.any (inSpan day) then false else if c.free.any (inSpan day) then true else patO c.pat day
theorem okCal_of {d : PyData} (h : isCal d = true) : okCal d = true := by
  unfold isCal at h
  split at h
  · rename_i p a b
    simp only [Bool.and_eq_true] at h
    obtain ⟨h1, h2, h3⟩ := h
    have e1 : shortD p = true ∧ okSpans p = true := by
      unfold isPat at h1
      split at h1
      · rename_i z
        simp only [Bool.and_eq_true, decide_eq_true_eq] at h1
        exact ⟨decide_eq_true (by omega), rfl⟩
      · cases h1
    have e2 : ∀ x, isSpans x = true → shortD x = true ∧ okSpans x = true := by
      intro x hx
      unfold isSpans at hx
      split at hx
      · rename_i ds
        simp only [Bool.and_eq_true, decide_eq_true_eq] at hx
        exact ⟨rfl, decide_eq_true (by omega)⟩
      · cases hx
    simp only [okCal, List.all_cons, List.all_nil, Bool.and_true, Bool.and_eq_true, e1, (e2 a h2).1, (e2 a h2).2, (e2 b h3).1, (e2 b h3).2]
    exact ⟨trivial, rfl⟩
  · cases h
theorem Cal.Ok.parts {c : Cal} (h : c.Ok) : isPat (.str c.pat) = true ∧ isSpans (encSpans c.shut) = true ∧ isSpans (encSpans c.free) = true := by
  unfold Cal.Ok encCal at h
  simp only [isCal, Bool.and_eq_true] at h
  exact h
theorem spans_in {ss : List (Int × Int)} (h : isSpans (encSpans ss) = true) : ss.length ≤ 2 ∧ ∀ s ∈ ss, -30 ≤ s.1 ∧ s.1 ≤ s.2 ∧ s.2 ≤ 30 := by
  unfold encSpans at h
  simp only [isSpans, Bool.and_eq_true, decide_eq_true_eq, List.length_map] at h
  refine ⟨by omega, fun s hs => ?_⟩
  have h2 := h.2.1
  rw [List.all_eq_true] at h2
  obtain ⟨a, b, e, r⟩ := isSpan_int (h2 _ (List.mem_map_of_mem hs))
  have e1 : s.1 = a ∧ s.2 = b := by
    unfold encSpan at e
    injection e with e
    injection e with e1 e2
    injection e2 with e2 _
    injection e1 with e1
    injection e2 with e2
    exact ⟨e1, e2⟩
  rw [e1.1, e1.2]; exact r
theorem far_spans {ss : List (Int × Int)} (h : isSpans (encSpans ss) = true) {day : Int} (hd : ¬(-30 ≤ day ∧ day ≤ 30)) : ss.any (inSpan day) = false := by
  rw [List.any_eq_false]
  intro s hs
  have q := (spans_in h).2 s hs
  unfold inSpan
  simp only [Bool.and_eq_true, decide_eq_true_eq]
  omega
theorem pat_len {z : Str} (h : isPat (.str z) = true) : 0 < z.length ∧ z.length ≤ 4 ∧ 111 ∈ z.cps.toList := by
  simp only [isPat, Bool.and_eq_true, decide_eq_true_eq] at h
  obtain ⟨h1, h2, _⟩ := h
  refine ⟨?_, by omega, h2⟩
  have : 0 < z.cps.toList.length := List.length_pos_of_mem h2
  rw [Array.length_toList] at this
  exact this
theorem len_cps (z : Str) : z.cps.toList.length = z.length := by rw [Array.length_toList]; rfl
theorem pat_at {z : Str} (h0 : 0 < z.length) (day : Int) : ∃ c, atI z.cps.toList (day % z.length) = some c ∧ patO z day = decide (V.str ⟨#[c]⟩ = V.str "o") := by
  have hl := len_cps z
  have h1 : 0 ≤ day % (z.length : Int) := Int.emod_nonneg _ (by omega)
  have h2 : day % (z.length : Int) < z.length := Int.emod_lt_of_pos _ (by omega)
  have h3 : (day % (z.length : Int)).toNat < z.cps.toList.length := by omega
  refine ⟨z.cps.toList[(day % (z.length : Int)).toNat], ?_, ?_⟩
  · unfold atI ixN
    rw [if_pos h1, if_pos (by omega)]
    exact List.getElem?_eq_getElem h3
  · unfold patO
    rw [List.getElem?_eq_getElem h3]
    have e : ∀ c : Nat, decide (some c = some 111) = decide (V.str ⟨#[c]⟩ = V.str "o") := fun c => by
      rw [Bool.eq_iff_iff, decide_eq_true_eq, decide_eq_true_eq]
      constructor
      · intro q; cases q; rfl
      · intro q
        injection q with q
        have q2 : (⟨#[c]⟩ : Str) = ⟨#[111]⟩ := q
        injection q2 with q2
        have q3 : [c] = [111] := congrArg Array.toList q2
        injection q3 with q3
        rw [q3]
    exact e _
/-- some day ahead is open by the pattern -/
theorem pat_open {z : Str} (h : isPat (.str z) = true) (d : Int) : ∃ k : Int, 0 ≤ k ∧ k ≤ 3 ∧ patO z (d + k) = true := by
  obtain ⟨h0, h4, hm⟩ := pat_len h
  have hl := len_cps z
  obtain ⟨j, hj, e⟩ := List.getElem_of_mem hm
  refine ⟨((j : Int) - d) % z.length, Int.emod_nonneg _ (by omega), ?_, ?_⟩
  · have := Int.emod_lt_of_pos ((j : Int) - d) (b := (z.length : Int)) (by omega)
    omega
  · unfold patO
    have e2 : (d + ((j : Int) - d) % (z.length : Int)) % (z.length : Int) = j := by
      rw [Int.add_emod, Int.emod_emod, ← Int.add_emod, show d + ((j : Int) - d) = j by omega]
      exact Int.emod_eq_of_lt (by omega) (by omega)
    rw [e2]
    simp [List.getElem?_eq_getElem hj, e]
theorem open_far {c : Cal} (ok : c.Ok) {day : Int} (hd : ¬(-30 ≤ day ∧ day ≤ 30)) : openC c day = patO c.pat day := by
  obtain ⟨_, h2, h3⟩ := ok.parts
  unfold openC
  rw [far_spans h2 hd, far_spans h3 hd]
  rfl
theorem some_next {c : Cal} (ok : c.Ok) (d : Int) : ∃ e, d ≤ e ∧ e - d ≤ 70 ∧ openC c e = true := by
  by_cases hd : d < -35
  · obtain ⟨k, k0, k3, hk⟩ := pat_open ok.parts.1 d
    exact ⟨d + k, by omega, by omega, by rw [open_far ok (by omega)]; exact hk⟩
  · by_cases h2 : d ≤ 31
    · obtain ⟨k, k0, k3, hk⟩ := pat_open ok.parts.1 31
      exact ⟨31 + k, by omega, by omega, by rw [open_far ok (by omega)]; exact hk⟩
    · obtain ⟨k, k0, k3, hk⟩ := pat_open ok.parts.1 d
      exact ⟨d + k, by omega, by omega, by rw [open_far ok (by omega)]; exact hk⟩
theorem some_last {c : Cal} (ok : c.Ok) (d : Int) : ∃ e, e ≤ d ∧ d - e ≤ 70 ∧ openC c e = true := by
  by_cases hd : 35 < d
  · obtain ⟨k, k0, k3, hk⟩ := pat_open ok.parts.1 (d - 3)
    exact ⟨d - 3 + k, by omega, by omega, by rw [open_far ok (by omega)]; exact hk⟩
  · by_cases h2 : -31 ≤ d
    · obtain ⟨k, k0, k3, hk⟩ := pat_open ok.parts.1 (-34)
      exact ⟨-34 + k, by omega, by omega, by rw [open_far ok (by omega)]; exact hk⟩
    · obtain ⟨k, k0, k3, hk⟩ := pat_open ok.parts.1 (d - 3)
      exact ⟨d - 3 + k, by omega, by omega, by rw [open_far ok (by omega)]; exact hk⟩
/-- e is the first open day from d on; the last one up to d -/
def Nxt (c : Cal) (d e : Int) : Prop := d ≤ e ∧ openC c e = true ∧ ∀ x, d ≤ x → x < e → openC c x = false
def Lst (c : Cal) (d e : Int) : Prop := e ≤ d ∧ openC c e = true ∧ ∀ x, e < x → x ≤ d → openC c x = false
theorem first_true (p : Nat → Bool) : ∀ n, p n = true → ∃ k, k ≤ n ∧ p k = true ∧ ∀ j, j < k → p j = false
  | 0, h => ⟨0, Nat.le_refl _, h, fun j hj => absurd hj (Nat.not_lt_zero _)⟩
  | n + 1, h => by
    by_cases h0 : p 0 = true
    · exact ⟨0, Nat.zero_le _, h0, fun j hj => absurd hj (Nat.not_lt_zero _)⟩
    · obtain ⟨k, h1, h2, h3⟩ := first_true (fun i => p (i + 1)) n h
      refine ⟨k + 1, by omega, h2, fun j hj => ?_⟩
      cases j with
      | zero => simpa using h0
      | succ j => exact h3 j (by omega)
theorem nxt_ex {c : Cal} (ok : c.Ok) (d : Int) : ∃ e, Nxt c d e ∧ e - d ≤ 70 := by
  obtain ⟨e, h1, h2, h3⟩ := some_next ok d
  obtain ⟨k, k1, k2, k3⟩ := first_true (fun i => openC c (d + i)) (e - d).toNat (by rw [show d + ((e - d).toNat : Int) = e by omega]; exact h3)
  refine ⟨d + k, ⟨by omega, k2, fun x x0 x1 => ?_⟩, by omega⟩
  have := k3 (x - d).toNat (by omega)
  rwa [show d + ((x - d).toNat : Int) = x by omega] at this
theorem lst_ex {c : Cal} (ok : c.Ok) (d : Int) : ∃ e, Lst c d e ∧ d - e ≤ 70 := by
  obtain ⟨e, h1, h2, h3⟩ := some_last ok d
  obtain ⟨k, k1, k2, k3⟩ := first_true (fun i => openC c (d - i)) (d - e).toNat (by rw [show d - ((d - e).toNat : Int) = e by omega]; exact h3)
  refine ⟨d - k, ⟨by omega, k2, fun x x0 x1 => ?_⟩, by omega⟩
  have := k3 (d - x).toNat (by omega)
  rwa [show d - ((d - x).toNat : Int) = x by omega] at this

def spInSpans (K : PySem.W.Frag) : Sp := fun vs H Q _ => ∃ v ss day, vs = [v, .int day] ∧ Rp K H v (encSpans ss) ∧ Q (.bl (ss.any (inSpan day))) H
def spOpenOn (K : PySem.W.Frag) : Sp := fun vs H Q _ => ∃ v c day, vs = [v, .int day] ∧ Rp K H v (encCal c) ∧ c.Ok ∧ Q (.bl (openC c day)) H
def spFrom (K : PySem.W.Frag) : Sp := fun vs H Q _ => ∃ v c d e, vs = [v, .int d] ∧ Rp K H v (encCal c) ∧ c.Ok ∧ Nxt c d e ∧ Q (.int e) H
def spUntil (K : PySem.W.Frag) : Sp := fun vs H Q _ => ∃ v c d e, vs = [v, .int d] ∧ Rp K H v (encCal c) ∧ c.Ok ∧ Lst c d e ∧ Q (.int e) H
def dayOk (d : Int) : Prop := -1000000000000000 ≤ d ∧ d ≤ 1000000000000000
def spIsOpen (K : PySem.W.Frag) : Sp := fun vs H Q _ => ∃ v c day, vs = [v, .int day] ∧ Rp K H v (encCal c) ∧ c.Ok ∧ dayOk day ∧ ∀ H', Ex H H' → Q (.bl (openC c day)) H'
def spNext (K : PySem.W.Frag) : Sp := fun vs H Q _ => ∃ v c d e, vs = [v, .int d] ∧ Rp K H v (encCal c) ∧ c.Ok ∧ dayOk d ∧ Nxt c d e ∧ ∀ H', Ex H H' → Q (.int e) H'
def spLast (K : PySem.W.Frag) : Sp := fun vs H Q _ => ∃ v c d e, vs = [v, .int d] ∧ Rp K H v (encCal c) ∧ c.Ok ∧ dayOk d ∧ Lst c d e ∧ ∀ H', Ex H H' → Q (.int e) H'
section
variable {P : Program} {w : World} {K : PySem.W.Frag} {mg : Str → Option Value} {base : Heap} {ad : Nat → Addr} {fdd : Nat → FuncData}
theorem ok_in_spans (T : Tx K mg ad fdd) : FnOk P w K mg base CX0 1 (ad 25) (fdd 25) ["spans", "day"] (spInSpans K) := by
  refine T.F_in_spans.ok sc_in_spans (fun vs H Q E h => ?_) (fun cdv A outer s H vs Q E hr h => ?_)
  · obtain ⟨v, ss, day, rfl, _⟩ := h
    rfl
  · obtain ⟨v, ss, day, rfl, hv, q⟩ := h
    obtain ⟨a, xs, rfl, hs, r⟩ := hv.isTup
    have hl := r.len
    rw [List.length_map] at hl
    refine ⟨_, (pss_cons (ps_for PassesOwn.never rfl (pi_tup (pv 0)) (show PG _ _ (gTup K 2 _) from pg_tup rfl (pgs_cons (pg_name (i := 2) sc_in_spans.nd rfl (by first | exact Or.inl rfl | exact Or.inr rfl)) (pgs_cons (pg_name (i := 3) sc_in_spans.nd rfl (by first | exact Or.inl rfl | exact Or.inr rfl)) pgs_nil)))
    (pss_one (ps_if (pt_chain op_le op_le (pv 2) (pv 1) (pv 3))
    (pss_one (ps_ret pe_bl))
    pss_nil)))
    (pss_one (ps_ret pe_bl))), ?_⟩
    dsimp only [L2.start, N_in_spans, cxOf, Cx.nox, Cx.wish]
    walk_at "go"
    refine w_loopT hs ?_
    refine for_tup (xs := xs) (fun i σ' H' => H' = H ∧ (∃ y2 y3, σ' = [some (.ref a), some (.int day), y2, y3]) ∧ (ss.take i).any (inSpan day) = false) ⟨rfl, ⟨_, _, rfl⟩, rfl⟩ (fun i σ' H' hi p => ?_) (fun i x σ' H' hx p => ?_) (fun σ' H' p => ?_)
    · obtain ⟨rfl, _⟩ := p
      exact hs
    · obtain ⟨rfl, ⟨y2, y3, rfl⟩, hn⟩ := p
      obtain ⟨d, g1, r1⟩ := r.at hx
      rw [List.getElem?_map] at g1
      obtain ⟨s, gs, rfl⟩ := Option.map_eq_some_iff.mp g1
      obtain ⟨p1, ys1, rfl, s1, q1⟩ := r1.isTup
      obtain ⟨_, _, rfl, t1, t2⟩ := q1.two
      cases t1.isInt; cases t2.isInt
      refine w_gTup2 s1 ?_
      have et : (ss.take (i + 1)).any (inSpan day) = inSpan day s := by
        rw [List.take_add_one, gs, List.any_append, hn]
        simp
      walk_at "go"
      refine w_dec (fun c => ?_) (fun c => ?_)
      · walk_at "go"
        refine w_dec (fun c2 => ?_) (fun c2 => ?_)
        · walk_at "go"
          have : ss.any (inSpan day) = true := by
            rw [List.any_eq_true]
            exact ⟨s, List.mem_of_getElem? gs, by simp [inSpan, c, c2]⟩
          rw [← this]; exact q
        · walk_at "go"
          refine ⟨rfl, ⟨_, _, rfl⟩, ?_⟩
          rw [et]; simp [inSpan, c2]
      · walk_at "go"
        refine iteF ?_
        walk_at "go"
        refine ⟨rfl, ⟨_, _, rfl⟩, ?_⟩
        rw [et]; simp [inSpan, c]
    · obtain ⟨rfl, ⟨y2, y3, rfl⟩, hn⟩ := p
      walk_at "go"
      rw [List.take_of_length_le (by omega)] at hn
      rw [← hn]; exact q
theorem ok_open_on (T : Tx K mg ad fdd) (G_in_spans : FnOk P w K mg base CX0 1 (ad 25) (fdd 25) ["spans", "day"] (spInSpans K)) : FnOk P w K mg base CX0 2 (ad 20) (fdd 20) ["calendar", "day"] (spOpenOn K) := by
  refine T.F_open_on.ok sc_open_on (fun vs H Q E h => ?_) (fun cdv A outer s H vs Q E hr h => ?_)
  · obtain ⟨v, c, day, rfl, _⟩ := h
    rfl

  · obtain ⟨v, c, day, rfl, hv, ok, q⟩ := h
    obtain ⟨a, xs, rfl, hs, r⟩ := hv.isTup
    obtain ⟨v1, v2, v3, rfl, r1, r2, r3⟩ := r.three
    cases r1.isStr
    obtain ⟨h0, h4, _⟩ := pat_len ok.parts.1
    have hz : c.pat.length ≤ sizeLine := list_lt (by omega)
    have hp : 0 < (c.pat.length : Int) := by omega
    obtain ⟨cc, hc, hO⟩ := pat_at h0 day
    refine ⟨_, (pss_cons (ps_asg (pv 0) (show PG _ _ (gTup K 3 _) from pg_tup rfl (pgs_cons (pg_name (i := 2) sc_open_on.nd rfl (by first | exact Or.inl rfl | exact Or.inr rfl)) (pgs_cons (pg_name (i := 3) sc_open_on.nd rfl (by first | exact Or.inl rfl | exact Or.inr rfl)) (pgs_cons (pg_name (i := 4) sc_open_on.nd rfl (by first | exact Or.inl rfl | exact Or.inr rfl)) pgs_nil)))))
    (pss_cons (ps_if (pt_chain op_le op_le (C8.pe_gc (v := .int (-30)) rfl T.m_FIRST_NEAR) (pv 1) (C8.pe_gc (v := .int (30)) rfl T.m_LAST_NEAR))
    (pss_cons (ps_if (pt_val (pe_call G_in_spans (hr.mono (by decide)) (by rfl) T.g_in_spans T.F_in_spans.kp T.b_in_spans .nil pass0 (pa_cons (pv 3) (pa_cons (pv 1) pa_nil))))
    (pss_one (ps_ret pe_bl))
    pss_nil)
    (pss_one (ps_if (pt_val (pe_call G_in_spans (hr.mono (by decide)) (by rfl) T.g_in_spans T.F_in_spans.kp T.b_in_spans .nil pass0 (pa_cons (pv 4) (pa_cons (pv 1) pa_nil))))
    (pss_one (ps_ret pe_bl))
    pss_nil)))
    pss_nil)
    (pss_one (ps_ret (pe_cmpR op_eq (pe_ix ix_str (pv 2) (pe_op op_mod (pv 1) (pe_callB (show CallR _ _ (rLen K) from c_len) (by rfl) T.m_len (by decide +kernel) (pa_cons (pv 2) pa_nil))) (fun _ _ => rfl)) pe_str (nomark _)))))), ?_⟩
    dsimp only [L2.start, N_open_on, cxOf, Cx.nox, Cx.wish]
    walk_at "go"
    refine w_gTup3 hs ?_
    walk_at "go"
    have Fin : ∀ b, (b = true → openC c day = patO c.pat day) → True := fun _ _ => trivial
    refine w_dec (fun c1 => ?_) (fun c1 => ?_)
    · walk_at "go"
      refine w_dec (fun c2 => ?_) (fun c2 => ?_)
      · walk_at "go"
        refine ⟨v2, c.shut, day, rfl, r2, ?_⟩
        walk_at "go"
        refine w_2 (fun c3 => ?_) (fun c3 => ?_)
        · walk_at "go"
          have e : openC c day = false := by unfold openC; rw [c3]; rfl
          rw [← e]; exact q
        · walk_at "go"
          refine ⟨v3, c.free, day, rfl, r3, ?_⟩
          walk_at "go"
          refine w_2 (fun c4 => ?_) (fun c4 => ?_)
          · walk_at "go"
            have e : openC c day = true := by unfold openC; rw [c3, c4]; rfl
            rw [← e]; exact q
          · have e : openC c day = patO c.pat day := by unfold openC; rw [c3, c4]; rfl
            walk_at "go"
            refine w_lenS hz ?_
            walk_at "go"
            refine w_ixS hz hc ?_
            walk_at "go"
            rw [← hO, ← e]; exact q
      · have e : openC c day = patO c.pat day := open_far ok (fun z => c2 z.2)
        walk_at "go"
        refine w_lenS hz ?_
        walk_at "go"
        refine w_ixS hz hc ?_
        walk_at "go"
        rw [← hO, ← e]; exact q
    · have e : openC c day = patO c.pat day := open_far ok (fun z => c1 z.1)
      walk_at "go"
      refine iteF ?_
      walk_at "go"
      refine w_lenS hz ?_
      walk_at "go"
      refine w_ixS hz hc ?_
      walk_at "go"
      rw [← hO, ← e]; exact q
theorem ok_open_from (T : Tx K mg ad fdd) (G_open_on : FnOk P w K mg base CX0 2 (ad 20) (fdd 20) ["calendar", "day"] (spOpenOn K)) : FnOk P w K mg base CX0 3 (ad 21) (fdd 21) ["calendar", "day"] (spFrom K) := by
  refine T.F_open_from.ok sc_open_from (fun vs H Q E h => ?_) (fun cdv A outer s H vs Q E hr h => ?_)
  · obtain ⟨v, c, d, e, rfl, _⟩ := h
    rfl

  · obtain ⟨v, c, d, e, rfl, hv, ok, ⟨n0, n1, n2⟩, q⟩ := h
    refine ⟨_, (pss_cons (ps_while PassesOwn.never (pt_not (pt_val (pe_call G_open_on (hr.mono (by decide)) (by rfl) T.g_open_on T.F_open_on.kp T.b_open_on .nil pass0 (pa_cons (pv 0) (pa_cons (pv 1) pa_nil)))))
    (pss_one (ps_aug (i := 1) sc_open_from.nd rfl (by first | exact Or.inl rfl | exact Or.inr rfl) pe_int ip_add)))
    (pss_one (ps_ret (pv 1)))), ?_⟩
    dsimp only [L2.start, N_open_from, cxOf, Cx.nox, Cx.wish]
    walk_at "go"
    refine ⟨fun m σ' H' => H = H' ∧ ∃ y, σ' = [some v, some (.int y)] ∧ d ≤ y ∧ y ≤ e ∧ m = (e - y).toNat, ⟨_, rfl, ⟨d, rfl, Int.le_refl _, n0, rfl⟩⟩, fun m σ' H' p => ?_⟩
    obtain ⟨rfl, y, rfl, y0, y1, rfl⟩ := p
    walk_at "go"
    refine ⟨v, c, y, rfl, hv, ok, ?_⟩
    walk_at "go"
    refine w_n2 (fun c1 => ?_) (fun c1 => ?_)
    · have hne : y ≠ e := fun z => by rw [z, n1] at c1; cases c1
      refine ⟨fun σ' H' => H = H' ∧ σ' = [some v, some (.int (y + 1))], fun σ' H' p => ?_, ?_⟩
      · obtain ⟨rfl, rfl⟩ := p
        exact ⟨_, (by omega : (e - (y + 1)).toNat < _), rfl, y + 1, rfl, by omega, by omega, rfl⟩
      · walk_at "go"
        exact ⟨rfl, rfl⟩
    · have he : y = e := by
        by_cases z : y = e
        · exact z
        · have := n2 y (by omega) (by omega)
          rw [this] at c1; cases c1
      subst he
      walk_at "go"
      exact q
end
end J
namespace J
open PySem PySem.Spec PyProof.Rows L2
local macro_rules | `(tactic| walk_at "go1") => `(tactic| first
  | with_reducible refine' w_seq ?_
  | with_reducible refine' w_next ?_
  | with_reducible refine' w_brk ?_
  | with_reducible refine' w_cont ?_
  | with_reducible refine' w_asg ?_
  | with_reducible refine' w_asgG ?_
  | with_reducible refine' w_gSub ?_
  | with_reducible refine' w_ret ?_
  | with_reducible refine' w_retN ?_
  | with_reducible refine' w_drop ?_
  | with_reducible refine' w_ifS ?_
  | ((with_reducible refine' w_isAug ?_); refine w_aug rfl ?_)
  | with_reducible refine' w_ipadd ?_
  | with_reducible refine' w_ipsub ?_
  | ((with_reducible refine' w_isVar ?_); refine w_var rfl ?_)
  | with_reducible refine' w_c ?_
  | with_reducible refine' w_nil ?_
  | with_reducible refine' w_cons ?_
  | with_reducible refine' w_op ?_
  | with_reducible refine' w_un ?_
  | with_reducible refine' w_cb ?_
  | with_reducible refine' w_call ?_
  | with_reducible refine' w_callK ?_
  | with_reducible refine' w_test ?_
  | with_reducible refine' w_tB ?_
  | with_reducible refine' w_and ?_
  | with_reducible refine' w_or ?_
  | with_reducible refine' w_not ?_
  | with_reducible refine' w_andV ?_
  | with_reducible refine' w_orV ?_
  | with_reducible refine' w_notV ?_
  | with_reducible refine' w_if ?_
  | with_reducible refine' w_chain ?_
  | with_reducible refine' w_exb ?_
  | with_reducible refine' w_add ?_
  | with_reducible refine' w_sub ?_
  | with_reducible refine' w_lt ?_
  | with_reducible refine' w_le ?_
  | with_reducible refine' w_gt ?_
  | with_reducible refine' w_ge ?_
  | ((with_reducible refine' w_mod ?h ?q); (case h => first | decide | omega))
  | ((with_reducible refine' w_fdiv ?h ?h2 ?q); (case h => first | decide | omega); (case h2 => first | decide | omega))
  | ((with_reducible refine' w_mulR ?h ?q); (case h => omega))
  | ((with_reducible refine' w_mulL ?h ?q); (case h => omega))
  | with_reducible refine' w_pow_6 ?_
  | with_reducible refine' w_pow_9 ?_
  | with_reducible refine' w_pow_12 ?_
  | with_reducible refine' w_pow_14 ?_
  | with_reducible refine' w_pow_15 ?_
  | with_reducible refine' w_pow_18 ?_
  | with_reducible refine' w_neg ?_
  | ((with_reducible refine' w_eq ?h ?q); (case h => exact rfl))
  | ((with_reducible refine' w_ne ?h ?q); (case h => exact rfl))
  | with_reducible refine' w_abs ?_
  | with_reducible refine' w_int ?_
  | with_reducible refine' w_max ?_
  | with_reducible refine' w_min ?_
  | with_reducible refine' w_count ?_
  | with_reducible refine' w_m1 ?_
  | with_reducible refine' w_bm ?_
  | with_reducible refine' w_listR3 ?_
  | with_reducible refine' w_exs ?_
  | with_reducible refine' w_inS ?_
  | with_reducible refine' w_notInS ?_
  | with_reducible refine' w_for ?_
  | with_reducible refine' w_while ?_
  | with_reducible refine' w_lc ?_
  | with_reducible refine' w_iTup ?_
  | with_reducible refine' w_iList ?_
  | with_reducible refine' w_iRng1 ?_
  | with_reducible refine' w_iRng2 ?_
  | with_reducible refine' w_gName ?_
  | with_reducible refine' w_tYes ?_
  | with_reducible refine' w_tupD ?_
  | with_reducible refine' w_tupF ?_
  | with_reducible refine' w_ltS ?_
  | with_reducible refine' w_leS ?_
  | with_reducible refine' w_dget ?_
  | with_reducible refine' w_dnotin ?_
  | with_reducible refine' w_sl ?_
  | with_reducible refine' w_part ?_
  | with_reducible refine' w_noPart ?_
  | with_reducible refine' w_some ?_
  | with_reducible refine' w_lstD ?_
  | with_reducible refine' w_revT ?_
  | with_reducible refine' w_par ?_
  )
local macro_rules | `(tactic| walk_at "go") => `(tactic| repeat (walk_at "go1"))

/-! ### names, letters, books, routes: the judges -/
def isName : PyData → Bool
  | .str z => decide (V.int z.length = V.int 1) && ((!decide (z.cps.toList < (Str.cps "a").toList)) && (!decide ((Str.cps "z").toList < z.cps.toList)))
  | _ => false
theorem isName_eq (z : Str) : isName (.str z) = (decide (V.int z.length = V.int 1) && ((!decide (z.cps.toList < (Str.cps "a").toList)) && (!decide ((Str.cps "z").toList < z.cps.toList)))) := rfl
def isPlus : PyData → Bool
  | .str z => decide (V.str z = V.str "+")
  | _ => false
def isLetter (d : PyData) : Bool := isName d || isPlus d
def isNamed : PyData → Bool
  | .tuple [n, c] => isName n && isCal c
  | _ => false
def fstD : PyData → PyData
  | .tuple (n :: _) => n
  | _ => .none
def ltN : PyData → PyData → Bool
  | .str a, .str b => decide (a.cps.toList < b.cps.toList)
  | _, _ => false
def risingN : List PyData → Bool
  | x :: y :: r => ltN x y && risingN (y :: r)
  | _ => true
def isBook : PyData → Bool
  | .tuple ds => decide ((ds.length : Int) ≤ 4) && (ds.all isNamed && risingN (ds.map fstD))
  | _ => false
def isRoute : PyData → Bool
  | .tuple ds => decide ((ds.length : Int) ≤ 8) && ds.all isLetter
  | _ => false
def okNamed : PyData → Bool
  | .tuple ds => decide (ds.length ≤ 1000) && (ds.all shortD && ds.all okCal)
  | _ => true
def okBook : PyData → Bool
  | .tuple ds => decide (ds.length ≤ 1000) && ds.all okNamed
  | _ => true
def okRoute : PyData → Bool
  | .tuple ds => decide (ds.length ≤ 1000) && ds.all shortD
  | _ => true
theorem isName_str {d : PyData} (h : isName d = true) : ∃ z, d = .str z := by
  cases d <;> first | exact ⟨_, rfl⟩ | simp [isName] at h
theorem isNamed_pair {d : PyData} (h : isNamed d = true) : ∃ z c, d = .tuple [.str z, c] ∧ isCal c = true := by
  unfold isNamed at h
  split at h
  · rename_i x y
    rw [Bool.and_eq_true] at h
    obtain ⟨z, rfl⟩ := isName_str h.1
    exact ⟨z, y, rfl, h.2⟩
  · cases h
def flagN (ds : List PyData) (i : Nat) : Bool := ltN (ds.getD i .none) (ds.getD (i + 1) .none)
theorem rising_flagsN : ∀ ds : List PyData, ((List.range (ds.length - 1)).map (flagN ds)).all id = risingN ds
  | [] => rfl
  | [_] => rfl
  | x :: y :: r => by
    show ((List.range (r.length + 1)).map (flagN (x :: y :: r))).all id = (ltN x y && risingN (y :: r))
    rw [List.range_succ_eq_map, List.map_cons, List.map_map, List.all_cons, ← rising_flagsN (y :: r)]
    rfl
theorem take_flagsN (ds : List PyData) (n i : Nat) (h : i < n) : ((List.range n).map (flagN ds)).take (i + 1) = ((List.range n).map (flagN ds)).take i ++ [flagN ds i] := by
  rw [List.take_add_one, List.getElem?_map, List.getElem?_range h]
  rfl
def spName (K : PySem.W.Frag) : Sp := fun vs H Q _ => ∃ v d, vs = [v] ∧ Rp K H v d ∧ shortD d = true ∧ Q (.bl (isName d)) H
def spLetter (K : PySem.W.Frag) : Sp := fun vs H Q _ => ∃ v d, vs = [v] ∧ Rp K H v d ∧ shortD d = true ∧ Q (.bl (isLetter d)) H
def spNamed (K : PySem.W.Frag) : Sp := fun vs H Q _ => ∃ v d, vs = [v] ∧ Rp K H v d ∧ okNamed d = true ∧ ∀ H', Ex H H' → Q (.bl (isNamed d)) H'
def spRisingN (K : PySem.W.Frag) : Sp := fun vs H Q _ => ∃ (a : Addr) (ns : List Str), vs = [.ref a] ∧ H a = some (.lst (ns.map V.str)) ∧ ns.length ≤ 1000 ∧ ∀ H', Ex H H' → Q (.bl (risingN (ns.map PyData.str))) H'
def spIsBook (K : PySem.W.Frag) : Sp := fun vs H Q _ => ∃ v d, vs = [v] ∧ Rp K H v d ∧ okBook d = true ∧ ∀ H', Ex H H' → Q (.bl (isBook d)) H'
def spIsRoute (K : PySem.W.Frag) : Sp := fun vs H Q _ => ∃ v d, vs = [v] ∧ Rp K H v d ∧ okRoute d = true ∧ ∀ H', Ex H H' → Q (.bl (isRoute d)) H'
def spNeedBook (K : PySem.W.Frag) : Sp := fun vs H Q _ => ∃ v d, vs = [v] ∧ Rp K H v d ∧ okBook d = true ∧ isBook d = true ∧ ∀ H', Ex H H' → Q .non H'
def spNeedRoute (K : PySem.W.Frag) : Sp := fun vs H Q _ => ∃ v d, vs = [v] ∧ Rp K H v d ∧ okRoute d = true ∧ isRoute d = true ∧ ∀ H', Ex H H' → Q .non H'
section
variable {P : Program} {w : World} {K : PySem.W.Frag} {mg : Str → Option Value} {base : Heap} {ad : Nat → Addr} {fdd : Nat → FuncData}
theorem ok_is_name (T : Tx K mg ad fdd) : FnOk P w K mg base CX0 1 (ad 36) (fdd 36) ["thing"] (spName K) := by
  refine T.F_is_name.ok sc_is_name (fun vs H Q E h => ?_) (fun cdv A outer s H vs Q E hr h => ?_)
  · obtain ⟨v, d, rfl, _⟩ := h
    rfl

  · obtain ⟨v, d, rfl, hv, hs, q⟩ := h
    refine ⟨_, (pss_one (ps_ret (pe_and (pe_callB (show CallR _ _ (rIsi K) from call_isi) (by rfl) T.m_isinstance (by decide +kernel) (pa_cons (pv 0) (pa_cons (pe_bltn (v := .ty "str") rfl T.m_str (by decide +kernel) rfl) pa_nil))) (pe_and (pe_cmpR op_eq (pe_callB (show CallR _ _ (rLen K) from c_len) (by rfl) T.m_len (by decide +kernel) (pa_cons (pv 0) pa_nil)) pe_int (nomark _)) (pe_one (pe_chain o_leS o_leS pe_str (pv 0) pe_str)))))), ?_⟩
    dsimp only [L2.start, N_is_name, cxOf, Cx.nox, Cx.wish]
    walk_at "go"
    refine w_isiStr hv ?_
    walk_at "go"
    cases hv with
    | str z =>
      have hz : z.length ≤ 1000 := of_decide_eq_true hs
      refine w_T rfl ?_
      walk_at "go"
      refine w_lenS (list_lt hz) ?_
      walk_at "go"
      refine w_dec (fun c => ?_) (fun c => ?_)
      · walk_at "go"
        refine w_n2 (fun c2 => ?_) (fun c2 => ?_)
        · walk_at "go"
          have e : isName (.str z) = !decide ((Str.cps "z").toList < z.cps.toList) := by
            rw [isName_eq]
            rw [decide_eq_true c, c2]; rfl
          rw [← e]; exact q
        · have e : isName (.str z) = false := by
            rw [isName_eq]
            rw [c2]; simp
          rw [← e]; exact q
      · have e : isName (.str z) = false := by
          rw [isName_eq, decide_eq_false c]; rfl
        rw [← e]; exact q
    | bl b => exact w_F rfl (q)
    | int i => exact w_F rfl (q)
    | non => exact w_F rfl (q)
    | tup _ _ => exact w_F rfl (q)
    | lst _ _ _ => exact w_F rfl (q)
    | dct _ => exact w_F rfl (q)
theorem ok_is_letter (T : Tx K mg ad fdd) (G_is_name : FnOk P w K mg base CX0 1 (ad 36) (fdd 36) ["thing"] (spName K)) : FnOk P w K mg base CX0 2 (ad 41) (fdd 41) ["thing"] (spLetter K) := by
  refine T.F_is_letter.ok sc_is_letter (fun vs H Q E h => ?_) (fun cdv A outer s H vs Q E hr h => ?_)
  · obtain ⟨v, d, rfl, _⟩ := h
    rfl

  · obtain ⟨v, d, rfl, hv, hs, q⟩ := h
    refine ⟨_, (pss_one (ps_ret (pe_or (pe_call G_is_name (hr.mono (by decide)) (by rfl) T.g_is_name T.F_is_name.kp T.b_is_name .nil pass0 (pa_cons (pv 0) pa_nil)) (pe_one (pe_and (pe_callB (show CallR _ _ (rIsi K) from call_isi) (by rfl) T.m_isinstance (by decide +kernel) (pa_cons (pv 0) (pa_cons (pe_bltn (v := .ty "str") rfl T.m_str (by decide +kernel) rfl) pa_nil))) (pe_one (pe_cmpR op_eq (pv 0) pe_str (nomark _)))))))), ?_⟩
    dsimp only [L2.start, N_is_letter, cxOf, Cx.nox, Cx.wish]
    walk_at "go"
    refine ⟨v, d, rfl, hv, hs, ?_⟩
    walk_at "go"
    refine w_2 (fun c => ?_) (fun c => ?_)
    · have e : isLetter d = true := by unfold isLetter; rw [c]; rfl
      rw [← e]; exact q
    · have e : isLetter d = isPlus d := by unfold isLetter; rw [c]; rfl
      rw [e] at q
      walk_at "go"
      refine w_isiStr hv ?_
      walk_at "go"
      cases hv with
      | str z =>
        refine w_T rfl ?_
        walk_at "go"
        exact q
      | bl b => exact w_F rfl q
      | int i => exact w_F rfl q
      | non => exact w_F rfl q
      | tup _ _ => exact w_F rfl q
      | lst _ _ _ => exact w_F rfl q
      | dct _ => exact w_F rfl q
theorem ok_is_named_calendar (T : Tx K mg ad fdd) (G_is_name : FnOk P w K mg base CX0 1 (ad 36) (fdd 36) ["thing"] (spName K)) (G_is_calendar : FnOk P w K mg base CX0 4 (ad 19) (fdd 19) ["thing"] (spIsCal K)) (G_is_pair : FnOk P w K mg base CX0 1 (ad 10) (fdd 10) ["thing"] (spPair K)) : FnOk P w K mg base CX0 5 (ad 42) (fdd 42) ["thing"] (spNamed K) := by
  refine T.F_is_named_calendar.ok sc_is_named_calendar (fun vs H Q E h => ?_) (fun cdv A outer s H vs Q E hr h => ?_)
  · obtain ⟨v, d, rfl, _⟩ := h
    rfl

  · obtain ⟨v, d, rfl, hv, ok, q⟩ := h
    refine ⟨_, (pss_one (ps_ret (pe_and (pe_call G_is_pair (hr.mono (by decide)) (by rfl) T.g_is_pair T.F_is_pair.kp T.b_is_pair .nil pass0 (pa_cons (pv 0) pa_nil)) (pe_and (pe_call G_is_name (hr.mono (by decide)) (by rfl) T.g_is_name T.F_is_name.kp T.b_is_name .nil pass0 (pa_cons (pe_ix (show IxR _ (rIxT K) from ix_tup) (pv 0) pe_int (fun _ _ => rfl)) pa_nil)) (pe_one (pe_call G_is_calendar (hr.mono (by decide)) (by rfl) T.g_is_calendar T.F_is_calendar.kp T.b_is_calendar .nil pass0 (pa_cons (pe_ix (show IxR _ (rIxT K) from ix_tup) (pv 0) pe_int (fun _ _ => rfl)) pa_nil))))))), ?_⟩
    dsimp only [L2.start, N_is_named_calendar, cxOf, Cx.nox, Cx.wish]
    walk_at "go"
    refine ⟨v, d, rfl, hv, ?_⟩
    walk_at "go"
    refine w_2 (fun c => ?_) (fun c => ?_)
    · obtain ⟨d1, d2, rfl⟩ := isPair_two c
      obtain ⟨a, xs, rfl, hs, r⟩ := hv.isTup
      obtain ⟨v1, v2, rfl, r1, r2⟩ := r.two
      simp only [okNamed, List.all_cons, List.all_nil, Bool.and_true, Bool.and_eq_true] at ok
      obtain ⟨_, ⟨k1, _⟩, ⟨_, k2⟩⟩ := ok
      walk_at "go"
      refine w_ixT hs rfl ?_
      walk_at "go"
      refine ⟨v1, d1, rfl, r1, k1, ?_⟩
      walk_at "go"
      refine w_2 (fun c2 => ?_) (fun c2 => ?_)
      · walk_at "go"
        refine w_ixT hs rfl ?_
        walk_at "go"
        refine ⟨v2, d2, rfl, r2, k2, fun H1 e1 => ?_⟩
        have es : isNamed (.tuple [d1, d2]) = isCal d2 := by simp [isNamed, c2]
        rw [← es]; exact q H1 e1
      · have es : isNamed (.tuple [d1, d2]) = false := by simp [isNamed, c2]
        rw [← es]; exact q H (Ex.refl H)
    · have es : isNamed d = false := by
        unfold isNamed
        split
        · rename_i x y
          have : isPair (.tuple [x, y]) = true := (decide_eq_true rfl : decide (V.int (([x, y] : List PyData).length : Int) = V.int 2) = true)
          rw [this] at c; cases c
        · rfl
      rw [← es]; exact q H (Ex.refl H)
theorem ok_is_risingN (T : Tx K mg ad fdd) : FnOk P w K mg base CX0 1 (ad 11) (fdd 11) ["things"] (spRisingN K) := by
  refine T.F_is_rising.ok sc_is_rising (fun vs H Q E h => ?_) (fun cdv A outer s H vs Q E hr h => ?_)
  · obtain ⟨a, ns, rfl, _⟩ := h
    rfl
  · obtain ⟨a, ns, rfl, ha, hlen, q⟩ := h
    refine ⟨_, (pss_one (ps_ret (pe_callB (show CallR _ _ (rAll K) from cr_all rfl) (by rfl) T.m_all (by decide +kernel) (pa_cons (pe_lc (own := [("at", 1)]) rfl sc_is_rising.nd (pi_range1 (by rfl) T.m_range (pa_cons (pe_op op_sub (pe_callB (show CallR _ _ (rLen K) from c_len) (by rfl) T.m_len (by decide +kernel) (pa_cons (pv 0) pa_nil)) pe_int) pa_nil)) (blkOk_by (own := [("at", 1)]) (N := N_is_rising) (sc := defScope s_is_rising) (by decide +kernel)) (fun _ _ _ _ _ => (pg_name (i := 1) sc_is_rising.nd rfl (by first | exact Or.inl rfl | exact Or.inr rfl))) (fun _ _ _ _ _ => pts_nil) (fun _ _ _ _ _ => (pe_cmpR o_ltS (pe_ix (show IxR _ (rIxL K) from ix_list) (pv 0) (pv 1) (fun _ _ => rfl)) (pe_ix (show IxR _ (rIxL K) from ix_list) (pv 0) (pe_op op_add (pv 1) pe_int) (fun _ _ => rfl)) (nomark _)))) pa_nil)))), ?_⟩
    dsimp only [L2.start, N_is_rising, cxOf, Cx.nox, Cx.wish]
    walk_at "go"
    refine w_lenL (sq_of ha) ?_
    walk_at "go"
    refine w_lcR (by rw [List.length_map]; omega) ?_
    refine lc_R (fun D i H' => Ex H H' ∧ H' D = some (.lst ((((List.range (ns.length - 1)).map (flagN (ns.map PyData.str))).take i).map V.bl))) (fun D nD => ⟨Ex.new nD, upd_same⟩) (fun D i H' nD hi p => ?_) (fun D H' nD p => ?_)
    · obtain ⟨e, hD⟩ := p
      rw [List.length_map] at hi
      have hi' : i < ns.length - 1 := by omega
      walk_at "go"
      refine ⟨rfl, ?_⟩
      walk_at "go"
      refine iteT ?_
      walk_at "go"
      have g1 : (ns.map V.str)[i]? = some (.str ns[i]) := by rw [List.getElem?_map, List.getElem?_eq_getElem (by omega)]; rfl
      have g2 : (ns.map V.str)[i + 1]? = some (.str ns[i + 1]) := by rw [List.getElem?_map, List.getElem?_eq_getElem (by omega)]; rfl
      refine w_ixL (sq_of (e _ _ ha)) (i := 0 + (i : Int)) (v := .str ns[i]) (by rw [Int.zero_add]; exact atI_nat g1) ?_
      walk_at "go"
      refine w_ixL (sq_of (e _ _ ha)) (i := 0 + (i : Int) + 1) (v := .str ns[i + 1]) (by rw [Int.zero_add]; exact atI_nat (j := i + 1) g2) ?_
      walk_at "go"
      refine ⟨_, hD, small1000 ?_, e.mut nD, ?_⟩
      · rw [List.length_map, List.length_take, List.length_map, List.length_range]; omega
      · rw [upd_same, take_flagsN _ _ i hi', List.map_append]
        have ef : flagN (ns.map PyData.str) i = decide (ns[i].cps.toList < ns[i + 1].cps.toList) := by
          unfold flagN
          rw [List.getD_eq_getElem?_getD, List.getD_eq_getElem?_getD, List.getElem?_map, List.getElem?_map, List.getElem?_eq_getElem (by omega), List.getElem?_eq_getElem (by omega)]
          rfl
        rw [ef]; rfl
    · obtain ⟨e, hD⟩ := p
      rw [List.length_map] at hD
      have en : (((List.range (ns.length - 1)).map (flagN (ns.map PyData.str))).take ((ns.length : Int) - 1).toNat) = (List.range (ns.length - 1)).map (flagN (ns.map PyData.str)) := List.take_of_length_le (by rw [List.length_map, List.length_range]; omega)
      rw [en] at hD
      walk_at "go"
      refine w_all (sq_of hD) ?_
      have er := rising_flagsN (ns.map PyData.str)
      rw [List.length_map] at er
      rw [er]
      exact q H' e
theorem ok_is_book (T : Tx K mg ad fdd) (G_is_named_calendar : FnOk P w K mg base CX0 5 (ad 42) (fdd 42) ["thing"] (spNamed K)) (G_is_rising : FnOk P w K mg base CX0 1 (ad 11) (fdd 11) ["things"] (spRisingN K)) : FnOk P w K mg base CX0 6 (ad 31) (fdd 31) ["thing"] (spIsBook K) := by
  refine T.F_is_book.ok sc_is_book (fun vs H Q E h => ?_) (fun cdv A outer s H vs Q E hr h => ?_)
  · obtain ⟨v, d, rfl, _⟩ := h
    rfl

  · obtain ⟨v, d, rfl, hv, ok, q⟩ := h
    refine ⟨_, (pss_one (ps_ret (pe_and (pe_callB (show CallR _ _ (rIsi K) from call_isi) (by rfl) T.m_isinstance (by decide +kernel) (pa_cons (pv 0) (pa_cons (pe_bltn (v := .ty "tuple") rfl T.m_tuple (by decide +kernel) rfl) pa_nil))) (pe_and (pe_cmpR op_le (pe_callB (show CallR _ _ (rLen K) from c_len) (by rfl) T.m_len (by decide +kernel) (pa_cons (pv 0) pa_nil)) (C8.pe_gc (v := .int (4)) rfl T.m_MOST_NAMES) (nomark _)) (pe_and (pe_callB (show CallR _ _ (rAll K) from cr_all rfl) (by rfl) T.m_all (by decide +kernel) (pa_cons (pe_lc (own := [("pair", 1)]) rfl sc_is_book.nd (pi_tup (pv 0)) (blkOk_by (own := [("pair", 1)]) (N := N_is_book) (sc := defScope s_is_book) (by decide +kernel)) (fun _ _ _ _ _ => (pg_name (i := 1) sc_is_book.nd rfl (by first | exact Or.inl rfl | exact Or.inr rfl))) (fun _ _ _ _ _ => pts_nil) (fun _ _ _ _ _ => (pe_call G_is_named_calendar (hr.mono (by decide)) (by rfl) T.g_is_named_calendar T.F_is_named_calendar.kp T.b_is_named_calendar .nil pass0 (pa_cons (pv 1) pa_nil)))) pa_nil)) (pe_one (pe_call G_is_rising (hr.mono (by decide)) (by rfl) T.g_is_rising T.F_is_rising.kp T.b_is_rising .nil pass0 (pa_cons (pe_lc (own := [("pair", 1)]) rfl sc_is_book.nd (pi_tup (pv 0)) (blkOk_by (own := [("pair", 1)]) (N := N_is_book) (sc := defScope s_is_book) (by decide +kernel)) (fun _ _ _ _ _ => (pg_name (i := 1) sc_is_book.nd rfl (by first | exact Or.inl rfl | exact Or.inr rfl))) (fun _ _ _ _ _ => pts_nil) (fun _ _ _ _ _ => (pe_ix (show IxR _ (rIxT K) from ix_tup) (pv 1) pe_int (fun _ _ => rfl)))) pa_nil)))))))), ?_⟩
    dsimp only [L2.start, N_is_book, cxOf, Cx.nox, Cx.wish]
    walk_at "go"
    refine w_isiTup hv ?_
    walk_at "go"
    cases hv with
    | @tup a xs ds hs r =>
      have hl := r.len
      simp only [okBook, Bool.and_eq_true, decide_eq_true_eq] at ok
      obtain ⟨ok', okA⟩ := ok
      rw [List.all_eq_true] at okA
      refine w_T rfl ?_
      walk_at "go"
      refine w_lenT hs ?_
      walk_at "go"
      refine w_dec (fun c => ?_) (fun c => ?_)
      · walk_at "go"
        refine w_lcT hs ?_
        refine lc_T (xs := xs) (fun D i H' => Ex H H' ∧ H' D = some (.lst (((ds.map isNamed).take i).map V.bl))) (fun D nD => ⟨Ex.new nD, upd_same⟩) (fun D i H' hi p => p.1.b.tup hs) (fun D i x H' nD hx p => ?_) (fun D H' nD p => ?_)
        · obtain ⟨e, hD⟩ := p
          obtain ⟨d1, g1, r1⟩ := r.at hx
          walk_at "go"
          refine ⟨rfl, ?_⟩
          walk_at "go"
          refine iteT ?_
          walk_at "go"
          refine ⟨x, d1, rfl, r1.mono e.b, okA d1 (List.mem_of_getElem? g1), fun H2 e2 => ?_⟩
          refine ⟨_, e2 _ _ hD, small1000 ?_, (e.trans e2).mut nD, ?_⟩
          · rw [List.length_map, List.length_take, List.length_map]; omega
          · rw [upd_same, take_map isNamed ds i d1 g1, List.map_append]; rfl
        · obtain ⟨e, hD⟩ := p
          rw [List.take_of_length_le (by rw [List.length_map, hl]; exact Nat.le_refl _)] at hD
          walk_at "go"
          refine w_all (sq_of hD) ?_
          walk_at "go"
          have ea : (ds.map isNamed).all id = ds.all isNamed := by rw [List.all_map]; rfl
          rw [ea]
          refine w_2 (fun c2 => ?_) (fun c2 => ?_)
          · walk_at "go"
            refine w_lcT (e.b.tup hs) ?_
            rw [List.all_eq_true] at c2
            refine lc_T (xs := xs) (fun D i H2 => Ex H' H2 ∧ ∃ ns : List Str, H2 D = some (.lst (ns.map V.str)) ∧ ns.map PyData.str = (ds.map fstD).take i) (fun D nD => ⟨Ex.new nD, [], upd_same, rfl⟩) (fun D i H2 hi p => p.1.b.tup (e.b.tup hs)) (fun D i x H2 nD hx p => ?_) (fun D H2 nD p => ?_)
            · obtain ⟨e2, ns, hD2, hns⟩ := p
              obtain ⟨d1, g1, r1⟩ := r.at hx
              obtain ⟨z, dc, rfl, _⟩ := isNamed_pair (c2 d1 (List.mem_of_getElem? g1))
              obtain ⟨p1, ys, rfl, s1, q1⟩ := r1.isTup
              obtain ⟨_, vc, rfl, t1, _⟩ := q1.two
              cases t1.isStr
              have hlen : ns.length ≤ i := by
                have := congrArg List.length hns
                rw [List.length_map, List.length_take] at this
                omega
              have hix := (List.getElem?_eq_some_iff.mp hx).1
              walk_at "go"
              refine ⟨rfl, ?_⟩
              walk_at "go"
              refine iteT ?_
              walk_at "go"
              refine w_ixT ((e.trans e2).b.tup s1) rfl ?_
              refine ⟨_, hD2, small1000 ?_, e2.mut nD, ns ++ [z], ?_, ?_⟩
              · rw [List.length_map]; omega
              · rw [upd_same, List.map_append]; rfl
              · rw [take_map fstD ds i _ g1, List.map_append, hns]; rfl
            · obtain ⟨e2, ns, hD2, hns⟩ := p
              rw [List.take_of_length_le (by rw [List.length_map, hl]; exact Nat.le_refl _)] at hns
              have hlen : ns.length = ds.length := by
                have := congrArg List.length hns
                rwa [List.length_map, List.length_map] at this
              walk_at "go"
              refine ⟨D, ns, rfl, hD2, by omega, fun H3 e3 => ?_⟩
              rw [hns]
              have es : isBook (.tuple ds) = risingN (ds.map fstD) := by
                have h1 : (ds.length : Int) ≤ 4 := by rw [← hl]; exact c
                have h2 : ds.all isNamed = true := List.all_eq_true.mpr c2
                simp only [isBook, h1, h2, decide_true, Bool.true_and]
              rw [← es]; exact q H3 ((e.trans e2).trans e3)
          · have es : isBook (.tuple ds) = false := by simp [isBook, c2]
            rw [← es]; exact q H' e
      · have es : isBook (.tuple ds) = false := by
          have : ¬ (ds.length : Int) ≤ 4 := by rw [← hl]; exact c
          simp [isBook, this]
        rw [← es]; exact q H (Ex.refl H)
    | bl b => exact w_F rfl (q H (Ex.refl H))
    | int i => exact w_F rfl (q H (Ex.refl H))
    | non => exact w_F rfl (q H (Ex.refl H))
    | str _ => exact w_F rfl (q H (Ex.refl H))
    | lst _ _ _ => exact w_F rfl (q H (Ex.refl H))
    | dct _ => exact w_F rfl (q H (Ex.refl H))
theorem ok_is_route (T : Tx K mg ad fdd) (G_is_letter : FnOk P w K mg base CX0 2 (ad 41) (fdd 41) ["thing"] (spLetter K)) : FnOk P w K mg base CX0 3 (ad 32) (fdd 32) ["thing"] (spIsRoute K) := by
  refine T.F_is_route.ok sc_is_route (fun vs H Q E h => ?_) (fun cdv A outer s H vs Q E hr h => ?_)
  · obtain ⟨v, d, rfl, _⟩ := h
    rfl

  · obtain ⟨v, d, rfl, hv, ok, q⟩ := h
    refine ⟨_, (pss_one (ps_ret (pe_and (pe_callB (show CallR _ _ (rIsi K) from call_isi) (by rfl) T.m_isinstance (by decide +kernel) (pa_cons (pv 0) (pa_cons (pe_bltn (v := .ty "tuple") rfl T.m_tuple (by decide +kernel) rfl) pa_nil))) (pe_and (pe_cmpR op_le (pe_callB (show CallR _ _ (rLen K) from c_len) (by rfl) T.m_len (by decide +kernel) (pa_cons (pv 0) pa_nil)) (C8.pe_gc (v := .int (8)) rfl T.m_MOST_LETTERS) (nomark _)) (pe_one (pe_callB (show CallR _ _ (rAll K) from cr_all rfl) (by rfl) T.m_all (by decide +kernel) (pa_cons (pe_lc (own := [("letter", 1)]) rfl sc_is_route.nd (pi_tup (pv 0)) (blkOk_by (own := [("letter", 1)]) (N := N_is_route) (sc := defScope s_is_route) (by decide +kernel)) (fun _ _ _ _ _ => (pg_name (i := 1) sc_is_route.nd rfl (by first | exact Or.inl rfl | exact Or.inr rfl))) (fun _ _ _ _ _ => pts_nil) (fun _ _ _ _ _ => (pe_call G_is_letter (hr.mono (by decide)) (by rfl) T.g_is_letter T.F_is_letter.kp T.b_is_letter .nil pass0 (pa_cons (pv 1) pa_nil)))) pa_nil))))))), ?_⟩
    dsimp only [L2.start, N_is_route, cxOf, Cx.nox, Cx.wish]
    walk_at "go"
    refine w_isiTup hv ?_
    walk_at "go"
    cases hv with
    | @tup a xs ds hs r =>
      have hl := r.len
      simp only [okRoute, Bool.and_eq_true, decide_eq_true_eq] at ok
      obtain ⟨ok', okA⟩ := ok
      rw [List.all_eq_true] at okA
      refine w_T rfl ?_
      walk_at "go"
      refine w_lenT hs ?_
      walk_at "go"
      refine w_dec (fun c => ?_) (fun c => ?_)
      · walk_at "go"
        refine w_lcT hs ?_
        refine lc_T (xs := xs) (fun D i H' => Ex H H' ∧ H' D = some (.lst (((ds.map isLetter).take i).map V.bl))) (fun D nD => ⟨Ex.new nD, upd_same⟩) (fun D i H' hi p => p.1.b.tup hs) (fun D i x H' nD hx p => ?_) (fun D H' nD p => ?_)
        · obtain ⟨e, hD⟩ := p
          obtain ⟨d1, g1, r1⟩ := r.at hx
          walk_at "go"
          refine ⟨rfl, ?_⟩
          walk_at "go"
          refine iteT ?_
          walk_at "go"
          refine ⟨x, d1, rfl, r1.mono e.b, okA d1 (List.mem_of_getElem? g1), ?_⟩
          refine ⟨_, hD, small1000 ?_, e.mut nD, ?_⟩
          · rw [List.length_map, List.length_take, List.length_map]; omega
          · rw [upd_same, take_map isLetter ds i d1 g1, List.map_append]; rfl
        · obtain ⟨e, hD⟩ := p
          rw [List.take_of_length_le (by rw [List.length_map, hl]; exact Nat.le_refl _)] at hD
          walk_at "go"
          refine w_all (sq_of hD) ?_
          have ea : (ds.map isLetter).all id = isRoute (.tuple ds) := by
            have h1 : (ds.length : Int) ≤ 8 := by rw [← hl]; exact c
            simp only [isRoute, h1, decide_true, Bool.true_and, List.all_map]; rfl
          rw [ea]
          exact q H' e
      · have es : isRoute (.tuple ds) = false := by
          have : ¬ (ds.length : Int) ≤ 8 := by rw [← hl]; exact c
          simp [isRoute, this]
        rw [← es]; exact q H (Ex.refl H)
    | bl b => exact w_F rfl (q H (Ex.refl H))
    | int i => exact w_F rfl (q H (Ex.refl H))
    | non => exact w_F rfl (q H (Ex.refl H))
    | str _ => exact w_F rfl (q H (Ex.refl H))
    | lst _ _ _ => exact w_F rfl (q H (Ex.refl H))
    | dct _ => exact w_F rfl (q H (Ex.refl H))
theorem ok_need_book (T : Tx K mg ad fdd) (G_is_book : FnOk P w K mg base CX0 6 (ad 31) (fdd 31) ["thing"] (spIsBook K)) : FnOk P w K mg base CX0 7 (ad 37) (fdd 37) ["thing"] (spNeedBook K) := by
  refine T.F_need_book.ok sc_need_book (fun vs H Q E h => ?_) (fun cdv A outer s H vs Q E hr h => ?_)
  · obtain ⟨v, d, rfl, _⟩ := h
    rfl

  · obtain ⟨v, d, rfl, hv, ok, c, q⟩ := h
    refine ⟨_, (pss_one (ps_if (pt_not (pt_val (pe_call G_is_book (hr.mono (by decide)) (by rfl) T.g_is_book T.F_is_book.kp T.b_is_book .nil pass0 (pa_cons (pv 0) pa_nil))))
    (pss_one ps_never)
    pss_nil)), ?_⟩
    dsimp only [L2.start, N_need_book, cxOf, Cx.nox, Cx.wish]
    walk_at "go"
    refine ⟨v, d, rfl, hv, ok, fun H1 e1 => ?_⟩
    walk_at "go"
    refine w_nF c ?_
    walk_at "go"
    exact q H1 e1
theorem ok_need_route (T : Tx K mg ad fdd) (G_is_route : FnOk P w K mg base CX0 3 (ad 32) (fdd 32) ["thing"] (spIsRoute K)) : FnOk P w K mg base CX0 4 (ad 38) (fdd 38) ["thing"] (spNeedRoute K) := by
  refine T.F_need_route.ok sc_need_route (fun vs H Q E h => ?_) (fun cdv A outer s H vs Q E hr h => ?_)
  · obtain ⟨v, d, rfl, _⟩ := h
    rfl

  · obtain ⟨v, d, rfl, hv, ok, c, q⟩ := h
    refine ⟨_, (pss_one (ps_if (pt_not (pt_val (pe_call G_is_route (hr.mono (by decide)) (by rfl) T.g_is_route T.F_is_route.kp T.b_is_route .nil pass0 (pa_cons (pv 0) pa_nil))))
    (pss_one ps_never)
    pss_nil)), ?_⟩
    dsimp only [L2.start, N_need_route, cxOf, Cx.nox, Cx.wish]
    walk_at "go"
    refine ⟨v, d, rfl, hv, ok, fun H1 e1 => ?_⟩
    walk_at "go"
    refine w_nF c ?_
    walk_at "go"
    exact q H1 e1
end
end J
namespace J
open PySem PySem.Spec PyProof.Rows L2
local macro_rules | `(tactic| walk_at "go1") => `(tactic| first
  | with_reducible refine' w_seq ?_
  | with_reducible refine' w_next ?_
  | with_reducible refine' w_brk ?_
  | with_reducible refine' w_cont ?_
  | with_reducible refine' w_asg ?_
  | with_reducible refine' w_asgG ?_
  | with_reducible refine' w_gSub ?_
  | with_reducible refine' w_ret ?_
  | with_reducible refine' w_retN ?_
  | with_reducible refine' w_drop ?_
  | with_reducible refine' w_ifS ?_
  | ((with_reducible refine' w_isAug ?_); refine w_aug rfl ?_)
  | with_reducible refine' w_ipadd ?_
  | with_reducible refine' w_ipsub ?_
  | ((with_reducible refine' w_isVar ?_); refine w_var rfl ?_)
  | with_reducible refine' w_c ?_
  | with_reducible refine' w_nil ?_
  | with_reducible refine' w_cons ?_
  | with_reducible refine' w_op ?_
  | with_reducible refine' w_un ?_
  | with_reducible refine' w_cb ?_
  | with_reducible refine' w_call ?_
  | with_reducible refine' w_callK ?_
  | with_reducible refine' w_test ?_
  | with_reducible refine' w_tB ?_
  | with_reducible refine' w_and ?_
  | with_reducible refine' w_or ?_
  | with_reducible refine' w_not ?_
  | with_reducible refine' w_andV ?_
  | with_reducible refine' w_orV ?_
  | with_reducible refine' w_notV ?_
  | with_reducible refine' w_if ?_
  | with_reducible refine' w_chain ?_
  | with_reducible refine' w_exb ?_
  | with_reducible refine' w_add ?_
  | with_reducible refine' w_sub ?_
  | with_reducible refine' w_lt ?_
  | with_reducible refine' w_le ?_
  | with_reducible refine' w_gt ?_
  | with_reducible refine' w_ge ?_
  | ((with_reducible refine' w_mod ?h ?q); (case h => first | decide | omega))
  | ((with_reducible refine' w_fdiv ?h ?h2 ?q); (case h => first | decide | omega); (case h2 => first | decide | omega))
  | ((with_reducible refine' w_mulR ?h ?q); (case h => omega))
  | ((with_reducible refine' w_mulL ?h ?q); (case h => omega))
  | with_reducible refine' w_pow_6 ?_
  | with_reducible refine' w_pow_9 ?_
  | with_reducible refine' w_pow_12 ?_
  | with_reducible refine' w_pow_14 ?_
  | with_reducible refine' w_pow_15 ?_
  | with_reducible refine' w_pow_18 ?_
  | with_reducible refine' w_neg ?_
  | ((with_reducible refine' w_eq ?h ?q); (case h => exact rfl))
  | ((with_reducible refine' w_ne ?h ?q); (case h => exact rfl))
  | with_reducible refine' w_abs ?_
  | with_reducible refine' w_int ?_
  | with_reducible refine' w_max ?_
  | with_reducible refine' w_min ?_
  | with_reducible refine' w_count ?_
  | with_reducible refine' w_m1 ?_
  | with_reducible refine' w_bm ?_
  | with_reducible refine' w_listR3 ?_
  | with_reducible refine' w_exs ?_
  | with_reducible refine' w_inS ?_
  | with_reducible refine' w_notInS ?_
  | with_reducible refine' w_for ?_
  | with_reducible refine' w_while ?_
  | with_reducible refine' w_lc ?_
  | with_reducible refine' w_iTup ?_
  | with_reducible refine' w_iList ?_
  | with_reducible refine' w_iRng1 ?_
  | with_reducible refine' w_iRng2 ?_
  | with_reducible refine' w_gName ?_
  | with_reducible refine' w_tYes ?_
  | with_reducible refine' w_tupD ?_
  | with_reducible refine' w_tupF ?_
  | with_reducible refine' w_ltS ?_
  | with_reducible refine' w_leS ?_
  | with_reducible refine' w_dget ?_
  | with_reducible refine' w_dnotin ?_
  | with_reducible refine' w_sl ?_
  | with_reducible refine' w_part ?_
  | with_reducible refine' w_noPart ?_
  | with_reducible refine' w_some ?_
  | with_reducible refine' w_lstD ?_
  | with_reducible refine' w_revT ?_
  | with_reducible refine' w_par ?_
  )
local macro_rules | `(tactic| walk_at "go") => `(tactic| repeat (walk_at "go1"))

/-! ### right books and routes -/
abbrev Book := List (Nat × Cal)
def encNamed (p : Nat × Cal) : PyData := .tuple [.str (one p.1), encCal p.2]
def encBook (b : Book) : PyData := .tuple (b.map encNamed)
def encRoute (r : List Nat) : PyData := .tuple (r.map fun c => .str (one c))
def BookOk (b : Book) : Prop := isBook (encBook b) = true
def RouteOk (r : List Nat) : Prop := isRoute (encRoute r) = true
theorem isName_one {c : Nat} : isName (.str (one c)) = (decide (97 ≤ c) && decide (c ≤ 122)) := by
  rw [isName_eq]
  have e1 : decide (V.int (one c).length = V.int 1) = true := rfl
  have e2 : ((one c).cps.toList < (Str.cps "a").toList) ↔ c < 97 := by
    show ([c] < [97]) ↔ _
    rw [List.cons_lt_cons_iff]
    simp
  have e3 : ((Str.cps "z").toList < (one c).cps.toList) ↔ 122 < c := by
    show ([122] < [c]) ↔ _
    rw [List.cons_lt_cons_iff]
    simp
  have f2 : decide ((one c).cps.toList < (Str.cps "a").toList) = decide (c < 97) := decide_eq_decide.mpr e2
  have f3 : decide ((Str.cps "z").toList < (one c).cps.toList) = decide (122 < c) := decide_eq_decide.mpr e3
  rw [e1, Bool.true_and, f2, f3, Bool.eq_iff_iff]
  simp
theorem one_inj {c d : Nat} (h : one c = one d) : c = d := by
  injection h with h
  have := congrArg Array.toList h
  injection this
theorem plus_one {c : Nat} : decide (V.str (one c) = V.str "+") = decide (c = 43) := by
  rw [decide_eq_decide]
  constructor
  · intro h
    injection h with h
    exact one_inj (d := 43) h
  · intro h
    subst h
    rfl
theorem BookOk.parts {b : Book} (h : BookOk b) : b.length ≤ 4 ∧ (∀ p ∈ b, 97 ≤ p.1 ∧ p.1 ≤ 122 ∧ p.2.Ok) ∧ b.Pairwise fun p q => p.1 < q.1 := by
  unfold BookOk encBook at h
  simp only [isBook, Bool.and_eq_true, decide_eq_true_eq, List.length_map] at h
  obtain ⟨h1, h2, h3⟩ := h
  rw [List.all_eq_true] at h2
  have h4 : ∀ p ∈ b, 97 ≤ p.1 ∧ p.1 ≤ 122 ∧ p.2.Ok := by
    intro p hp
    have := h2 _ (List.mem_map_of_mem hp)
    unfold encNamed at this
    simp only [isNamed, Bool.and_eq_true, isName_one, decide_eq_true_eq] at this
    exact ⟨this.1.1, this.1.2, this.2⟩
  refine ⟨by omega, h4, ?_⟩
  clear h1 h2 h4
  have step : ∀ b : Book, risingN ((b.map encNamed).map fstD) = true → b.Pairwise fun p q => p.1 < q.1 := by
    intro b
    induction b with
    | nil => intro _; exact List.Pairwise.nil
    | cons p r ih =>
      intro h
      cases r with
      | nil => exact List.pairwise_singleton _ _
      | cons q r =>
        have h' : (decide ((one p.1).cps.toList < (one q.1).cps.toList) && risingN (((q :: r).map encNamed).map fstD)) = true := h
        rw [Bool.and_eq_true, decide_eq_true_eq] at h'
        have hpq : p.1 < q.1 := by
          have : [p.1] < [q.1] := h'.1
          rw [List.cons_lt_cons_iff] at this
          simpa using this
        have hr := ih h'.2
        refine List.pairwise_cons.mpr ⟨fun s hs => ?_, hr⟩
        rcases List.mem_cons.mp hs with rfl | hs
        · exact hpq
        · exact Nat.lt_trans hpq ((List.pairwise_cons.mp hr).1 s hs)
  exact step b h3
theorem RouteOk.parts {r : List Nat} (h : RouteOk r) : r.length ≤ 8 ∧ ∀ c ∈ r, c = 43 ∨ (97 ≤ c ∧ c ≤ 122) := by
  unfold RouteOk encRoute at h
  simp only [isRoute, Bool.and_eq_true, decide_eq_true_eq, List.length_map] at h
  refine ⟨by omega, fun c hc => ?_⟩
  have h2 := h.2
  rw [List.all_eq_true] at h2
  have := h2 _ (List.mem_map_of_mem hc)
  unfold isLetter at this
  rw [isName_one, Bool.or_eq_true] at this
  rcases this with this | this
  · right
    simpa using this
  · left
    have e : isPlus (.str (one c)) = decide (c = 43) := plus_one
    rw [e] at this
    exact of_decide_eq_true this
theorem okRoute_enc (r : List Nat) (h : r.length ≤ 1000) : okRoute (encRoute r) = true := by
  unfold encRoute
  simp only [okRoute, Bool.and_eq_true, decide_eq_true_eq, List.length_map]
  refine ⟨h, ?_⟩
  rw [List.all_eq_true]
  intro d hd
  obtain ⟨c, _, rfl⟩ := List.mem_map.mp hd
  rfl
theorem okBook_enc {b : Book} (h : BookOk b) : okBook (encBook b) = true := by
  obtain ⟨h1, h2, _⟩ := h.parts
  unfold encBook
  simp only [okBook, Bool.and_eq_true, decide_eq_true_eq, List.length_map]
  refine ⟨by omega, ?_⟩
  rw [List.all_eq_true]
  intro d hd
  obtain ⟨p, hp, rfl⟩ := List.mem_map.mp hd
  have e := okCal_of (h2 p hp).2.2
  show (decide (2 ≤ 1000) && ((shortD (.str (one p.1)) && (shortD (encCal p.2) && true)) && (okCal (.str (one p.1)) && (okCal (encCal p.2) && true)))) = true
  rw [e]
  rfl
/-! ### moving days -/
theorem nxt_uniq {c : Cal} {d e e' : Int} (h : Nxt c d e) (h' : Nxt c d e') : e = e' := by
  obtain ⟨a1, a2, a3⟩ := h
  obtain ⟨b1, b2, b3⟩ := h'
  by_cases z : e < e'
  · have := b3 e a1 z
    rw [a2] at this; cases this
  · by_cases z2 : e' < e
    · have := a3 e' b1 z2
      rw [b2] at this; cases this
    · omega
open Classical in
noncomputable def nxtF (c : Cal) (d : Int) : Int := if h : ∃ e, Nxt c d e then h.choose else d
theorem nxtF_spec {c : Cal} (ok : c.Ok) (d : Int) : Nxt c d (nxtF c d) := by
  obtain ⟨e, he, _⟩ := nxt_ex ok d
  unfold nxtF
  rw [dif_pos ⟨e, he⟩]
  exact Exists.choose_spec _
theorem nxtF_near {c : Cal} (ok : c.Ok) (d : Int) : nxtF c d - d ≤ 70 := by
  obtain ⟨e, he, h⟩ := nxt_ex ok d
  rw [nxt_uniq (nxtF_spec ok d) he]; exact h
def lookB (b : Book) (c : Nat) : Option Cal := (b.find? fun p => decide (p.1 = c)).map (·.2)
noncomputable def stepF (b : Book) (d : Int) (c : Nat) : Int := if c = 43 then d + 1 else match lookB b c with
  | some cal => nxtF cal d
  | none => d
noncomputable def moveF (b : Book) (r : List Nat) (d : Int) : Int := r.foldl (stepF b) d
theorem moveF_snoc (b : Book) (r : List Nat) (c : Nat) (d : Int) : moveF b (r ++ [c]) d = stepF b (moveF b r d) c := by
  unfold moveF
  rw [List.foldl_append]; rfl
def Has (b : Book) (r : List Nat) : Prop := ∀ c ∈ r, c ≠ 43 → ∃ cal, lookB b c = some cal
theorem lookB_ok {b : Book} (h : BookOk b) {c : Nat} {cal : Cal} (e : lookB b c = some cal) : cal.Ok := by
  unfold lookB at e
  obtain ⟨p, hp, rfl⟩ := Option.map_eq_some_iff.mp e
  exact (h.parts.2.1 p (List.mem_of_find?_eq_some hp)).2.2
noncomputable def stopsF (b : Book) (r : List Nat) (d : Int) : List Int := (List.range (r.length + 1)).map fun k => moveF b (r.take k) d
/-! ### a book as an object, its dict -/
def Bk (K : PySem.W.Frag) (H : Hp) (v : V) (b : Book) : Prop := ∃ a o xs, v = .ref a ∧ H a = some (.frz o (.tup xs)) ∧ o.dict = none ∧ RpAll K H xs (b.map encNamed)
theorem Bk.rp {K : PySem.W.Frag} {H : Hp} {v : V} {b : Book} (h : Bk K H v b) : Rp K H v (encBook b) := by
  obtain ⟨a, o, xs, rfl, h1, _, r⟩ := h
  exact .tup (sf_of h1) r
theorem Bk.mono {K : PySem.W.Frag} {H H' : Hp} {v : V} {b : Book} (e : Xb H H') (h : Bk K H v b) : Bk K H' v b := by
  obtain ⟨a, o, xs, rfl, h1, h2, r⟩ := h
  exact ⟨a, o, xs, rfl, e _ _ h1 rfl, h2, r.mono e⟩
def DictRp (K : PySem.W.Frag) (H : Hp) (v : V) (b : Book) : Prop := ∃ p kvs, v = .ref p ∧ H p = some (.dK kvs) ∧ ∀ c, match lookB b c with
  | some cal => ∃ vc, valV kvs (.inr (one c)) = some vc ∧ Rp K H vc (encCal cal)
  | none => valV kvs (.inr (one c)) = none
theorem DictRp.mono {K : PySem.W.Frag} {H H' : Hp} {v : V} {b : Book} (e : Xb H H') (h : DictRp K H v b) : DictRp K H' v b := by
  obtain ⟨p, kvs, rfl, h1, h2⟩ := h
  refine ⟨p, kvs, rfl, e _ _ h1 rfl, fun c => ?_⟩
  have := h2 c
  split at this
  · obtain ⟨vc, a, r⟩ := this
    exact ⟨vc, a, r.mono e⟩
  · exact this
def zipB : Book → List V → List (Key × V)
  | p :: b, v :: vs => (.inr (one p.1), v) :: zipB b vs
  | _, _ => []
theorem book_pairs {K : PySem.W.Frag} {H : Hp} : ∀ {b : Book} {xs : List V}, RpAll K H xs (b.map encNamed) → ∃ (ps : List Addr) (vs : List V), xs = ps.map V.ref ∧ Paired (fun p kv => SqT K H p [kV kv.1, kv.2]) ps (zipB b vs) ∧ RpAll K H vs (b.map fun p => encCal p.2)
  | [], _, .nil => ⟨[], [], rfl, .nil, .nil⟩
  | p :: b, _, .cons h r => by
    obtain ⟨ps, vs, rfl, h2, h3⟩ := book_pairs r
    obtain ⟨a, ys, rfl, s1, q1⟩ := h.isTup
    obtain ⟨v1, v2, rfl, t1, t2⟩ := q1.two
    cases t1.isStr
    exact ⟨a :: ps, v2 :: vs, rfl, .cons s1 h2, .cons t2 h3⟩
theorem val_zip {K : PySem.W.Frag} {H : Hp} {c : Nat} : ∀ {b : Book} {vs : List V}, RpAll K H vs (b.map fun p => encCal p.2) → match lookB b c with
    | some cal => ∃ vc, valV (zipB b vs) (.inr (one c)) = some vc ∧ Rp K H vc (encCal cal)
    | none => valV (zipB b vs) (.inr (one c)) = none
  | [], _, .nil => rfl
  | p :: b, _, .cons h r => by
    by_cases e : p.1 = c
    · have e1 : lookB (p :: b) c = some p.2 := by
        unfold lookB
        rw [List.find?_cons_of_pos (by exact decide_eq_true e)]; rfl
      rw [e1]
      refine ⟨_, ?_, h⟩
      show valV ((Sum.inr (one p.1), _) :: zipB b _) (Sum.inr (one c)) = _
      rw [valV_pos (by show Sum.inr (one p.1) = _; rw [e])]
    · have e1 : lookB (p :: b) c = lookB b c := by
        unfold lookB
        rw [List.find?_cons_of_neg (by simpa using e)]
      have ih := val_zip (c := c) r
      rw [e1]
      have e2 : ∀ v vs, valV ((Sum.inr (one p.1), v) :: zipB b vs) (Sum.inr (one c)) = valV (zipB b vs) (Sum.inr (one c)) := fun v vs => valV_neg fun z => by
        have z' : (Sum.inr (one p.1) : Key) = Sum.inr (one c) := z
        injection z' with z'
        exact e (one_inj z')
      split at ih
      · obtain ⟨vc, a, r2⟩ := ih
        exact ⟨vc, by show valV ((Sum.inr (one p.1), _) :: zipB b _) _ = _; rw [e2]; exact a, r2⟩
      · show valV ((Sum.inr (one p.1), _) :: zipB b _) _ = _
        rw [e2]; exact ih
theorem zip_keys : ∀ (b : Book) (vs : List V), ∀ kv ∈ zipB b vs, ∃ p ∈ b, kv.1 = .inr (one p.1)
  | [], _, kv, h => by cases h
  | _ :: _, [], kv, h => by cases h
  | p :: b, v :: vs, kv, h => by
    rcases List.mem_cons.mp h with rfl | h
    · exact ⟨p, List.mem_cons_self .., rfl⟩
    · obtain ⟨q, hq, e⟩ := zip_keys b vs kv h
      exact ⟨q, List.mem_cons_of_mem _ hq, e⟩
theorem merge_zip : ∀ (b : Book) (vs : List V) (acc : List (Key × V)), b.Pairwise (fun p q => p.1 < q.1) → (∀ kv ∈ acc, ∀ p ∈ b, kv.1 ≠ .inr (one p.1)) → mergeK acc (zipB b vs) = acc ++ zipB b vs
  | [], _, acc, _, _ => by show acc = acc ++ []; rw [List.append_nil]
  | _ :: _, [], acc, _, _ => by show acc = acc ++ []; rw [List.append_nil]
  | p :: b, v :: vs, acc, hp, ha => by
    obtain ⟨h1, h2⟩ := List.pairwise_cons.mp hp
    have e : putK acc (.inr (one p.1)) v = acc ++ [(.inr (one p.1), v)] := by
      unfold putK
      rw [if_neg]
      intro z
      obtain ⟨kv, hk, hz⟩ := List.any_eq_true.mp z
      exact ha kv hk p (List.mem_cons_self ..) (of_decide_eq_true hz)
    show mergeK (putK acc (.inr (one p.1)) v) (zipB b vs) = acc ++ ((.inr (one p.1), v) :: zipB b vs)
    rw [e, merge_zip b vs _ h2, List.append_assoc]
    · rfl
    · intro kv hk q hq z
      rcases List.mem_append.mp hk with hk | hk
      · exact ha kv hk q (List.mem_cons_of_mem _ hq) z
      · cases List.mem_singleton.mp hk
        injection z with z
        have := one_inj z
        have := h1 q hq
        omega
/-- dict(book) -/
theorem w_dictB {K : PySem.W.Frag} {H : Hp} {v : V} {b : Book} {Q : VK} (h : Bk K H v b) (ok : BookOk b) (q : ∀ l H2, H l = none → Ex H H2 → DictRp K H2 (.ref l) b → Q (.ref l) H2) : rDictT K [v] H Q := by
  obtain ⟨a, o, xs, rfl, h1, h2, r⟩ := h
  obtain ⟨ps, vs, rfl, hp, hv⟩ := book_pairs r
  refine ⟨a, o, ps, zipB b vs, rfl, h1, h2, hp, fun p np => ?_⟩
  rw [merge_zip b vs [] ok.parts.2.2 (fun kv hk => by cases hk), List.nil_append]
  have e : Ex H (upd H p (.dK (zipB b vs))) := Ex.new np
  refine q p _ np e ⟨p, _, rfl, upd_same, fun c => ?_⟩
  have := val_zip (c := c) hv
  split at this
  · obtain ⟨vc, a2, r2⟩ := this
    exact ⟨vc, a2, r2.mono e.b⟩
  · exact this
def spStart (K : PySem.W.Frag) : Sp := fun vs H Q _ => ∃ vb vr b r d, vs = [vb, vr, .int d] ∧ Rp K H vb (encBook b) ∧ BookOk b ∧ Rp K H vr (encRoute r) ∧ RouteOk r ∧ dayOk d ∧ ∀ H', Ex H H' → Q .non H'
def spCals (K : PySem.W.Frag) : Sp := fun vs H Q _ => ∃ vb vr b r, vs = [vb, vr] ∧ Bk K H vb b ∧ BookOk b ∧ Rp K H vr (encRoute r) ∧ Has b r ∧ ∀ v H', Ex H H' → DictRp K H' v b → Q v H'
def spMove (K : PySem.W.Frag) : Sp := fun vs H Q _ => ∃ vd vr b r d, vs = [vd, vr, .int d] ∧ DictRp K H vd b ∧ BookOk b ∧ Rp K H vr (encRoute r) ∧ Has b r ∧ Q (.int (moveF b r d)) H
def spMoved (K : PySem.W.Frag) : Sp := fun vs H Q _ => ∃ vb vr b r d, vs = [vb, vr, .int d] ∧ Bk K H vb b ∧ BookOk b ∧ Rp K H vr (encRoute r) ∧ RouteOk r ∧ Has b r ∧ dayOk d ∧ ∀ H', Ex H H' → Q (.int (moveF b r d)) H'
def spStops (K : PySem.W.Frag) : Sp := fun vs H Q _ => ∃ vb vr b r d, vs = [vb, vr, .int d] ∧ Bk K H vb b ∧ BookOk b ∧ Rp K H vr (encRoute r) ∧ RouteOk r ∧ Has b r ∧ dayOk d ∧ ∀ l H', H l = none → Ex H H' → H' l = some (.lst ((stopsF b r d).map V.int)) → Q (.ref l) H'

/-! ### going back -/
theorem lst_uniq {c : Cal} {d e e' : Int} (h : Lst c d e) (h' : Lst c d e') : e = e' := by
  obtain ⟨a1, a2, a3⟩ := h
  obtain ⟨b1, b2, b3⟩ := h'
  by_cases z : e < e'
  · have := a3 e' z b1
    rw [b2] at this; cases this
  · by_cases z2 : e' < e
    · have := b3 e z2 a1
      rw [a2] at this; cases this
    · omega
open Classical in
noncomputable def lstF (c : Cal) (d : Int) : Int := if h : ∃ e, Lst c d e then h.choose else d
theorem lstF_spec {c : Cal} (ok : c.Ok) (d : Int) : Lst c d (lstF c d) := by
  obtain ⟨e, he, _⟩ := lst_ex ok d
  unfold lstF
  rw [dif_pos ⟨e, he⟩]
  exact Exists.choose_spec _
theorem nxt_lst {c : Cal} (ok : c.Ok) (x d : Int) : nxtF c x ≤ d ↔ x ≤ lstF c d := by
  obtain ⟨a1, a2, a3⟩ := nxtF_spec ok x
  obtain ⟨b1, b2, b3⟩ := lstF_spec ok d
  generalize nxtF c x = e at *
  generalize lstF c d = l at *
  constructor
  · intro h
    by_cases z : l < e
    · have := b3 e z h
      rw [a2] at this; cases this
    · omega
  · intro h
    by_cases z : l < e
    · have := a3 l h z
      rw [b2] at this; cases this
    · omega
noncomputable def backS (b : Book) (d : Int) (c : Nat) : Int := if c = 43 then d - 1 else match lookB b c with
  | some cal => lstF cal d
  | none => d
noncomputable def backL (b : Book) (l : List Nat) (d : Int) : Int := l.foldl (backS b) d
theorem backL_snoc (b : Book) (r : List Nat) (c : Nat) (d : Int) : backL b (r ++ [c]) d = backS b (backL b r d) c := by
  unfold backL
  rw [List.foldl_append]; rfl
theorem step_back {b : Book} (ok : BookOk b) (x d : Int) (c : Nat) : stepF b x c ≤ d ↔ x ≤ backS b d c := by
  unfold stepF backS
  by_cases c1 : c = 43
  · rw [if_pos c1, if_pos c1]; omega
  · rw [if_neg c1, if_neg c1]
    cases e : lookB b c with
    | none => exact Iff.rfl
    | some cal => exact nxt_lst (lookB_ok ok e) x d
theorem move_back {b : Book} (ok : BookOk b) (d : Int) : ∀ (r : List Nat) (x : Int), moveF b r x ≤ d ↔ x ≤ backL b r.reverse d
  | [], x => Iff.rfl
  | c :: r, x => by
    rw [List.reverse_cons, backL_snoc, ← step_back ok]
    exact move_back ok d r (stepF b x c)
theorem step_ge {b : Book} (ok : BookOk b) (x : Int) (c : Nat) : x ≤ stepF b x c := by
  unfold stepF
  split
  · omega
  · split
    · rename_i cal e
      exact (nxtF_spec (lookB_ok ok e) x).1
    · omega
theorem move_ge {b : Book} (ok : BookOk b) : ∀ (r : List Nat) (x : Int), x ≤ moveF b r x
  | [], x => Int.le_refl _
  | c :: r, x => Int.le_trans (step_ge ok x c) (move_ge ok r (stepF b x c))
theorem nxt_le {c : Cal} (ok : c.Ok) {x y : Int} (h : x ≤ y) (ho : openC c y = true) : nxtF c x ≤ y := by
  obtain ⟨a1, a2, a3⟩ := nxtF_spec ok x
  by_cases z : y < nxtF c x
  · have := a3 y h z
    rw [ho] at this; cases this
  · omega
theorem nxt_low {c : Cal} (ok : c.Ok) {x : Int} (h : x < -35) : nxtF c x ≤ x + 3 := by
  obtain ⟨k, k0, k3, hk⟩ := pat_open ok.parts.1 x
  have := nxt_le ok (x := x) (y := x + k) (by omega) (by rw [open_far ok (by omega)]; exact hk)
  omega
theorem nxt_high {c : Cal} (ok : c.Ok) {x y : Int} (h : x ≤ y) (h2 : 31 ≤ y) : nxtF c x ≤ y + 3 := by
  obtain ⟨k, k0, k3, hk⟩ := pat_open ok.parts.1 y
  have := nxt_le ok (x := x) (y := y + k) (by omega) (by rw [open_far ok (by omega)]; exact hk)
  omega
theorem step_low {b : Book} (ok : BookOk b) {x : Int} {c : Nat} (h : x < -35) : stepF b x c ≤ x + 3 := by
  unfold stepF
  split
  · omega
  · split
    · rename_i cal e
      exact nxt_low (lookB_ok ok e) h
    · omega
theorem step_high {b : Book} (ok : BookOk b) {x y : Int} {c : Nat} (h : x ≤ y) (h2 : 31 ≤ y) : stepF b x c ≤ y + 3 := by
  unfold stepF
  split
  · omega
  · split
    · rename_i cal e
      exact nxt_high (lookB_ok ok e) h h2
    · omega
theorem move_inv {b : Book} (ok : BookOk b) (x : Int) : ∀ (r : List Nat) (k : Nat) (y : Int), (y ≤ x + 3 * k ∨ (-35 - 3 * k ≤ x ∧ y ≤ 34 + 3 * k)) → moveF b r y ≤ x + 3 * ((k + r.length : Nat) : Int) ∨ (-35 - 3 * ((k + r.length : Nat) : Int) ≤ x ∧ moveF b r y ≤ 34 + 3 * ((k + r.length : Nat) : Int))
  | [], k, y, h => h
  | c :: r, k, y, h => by
    have e : k + (c :: r).length = (k + 1) + r.length := by rw [List.length_cons]; omega
    rw [e]
    refine move_inv ok x r (k + 1) (stepF b y c) ?_
    rcases h with h | ⟨h1, h2⟩
    · by_cases z : y < -35
      · have := step_low ok (c := c) z
        left; omega
      · by_cases z2 : 31 ≤ y
        · have := step_high ok (c := c) (Int.le_refl y) z2
          left; omega
        · have := step_high ok (c := c) (x := y) (y := 31) (by omega) (by decide)
          right; omega
    · by_cases z2 : 31 ≤ y
      · have := step_high ok (c := c) (Int.le_refl y) z2
        right; omega
      · have := step_high ok (c := c) (x := y) (y := 31) (by omega) (by decide)
        right; omega
theorem move_near {b : Book} (ok : BookOk b) {r : List Nat} (h : r.length ≤ 8) (x : Int) : moveF b r x ≤ x + 200 := by
  have := move_inv ok x r 0 x (.inl (by omega))
  omega
theorem back_lo {b : Book} (ok : BookOk b) {r : List Nat} (h : r.length ≤ 8) (d : Int) : d - 200 ≤ backL b r.reverse d := by
  rw [← move_back ok]
  have := move_near ok h (d - 200)
  omega
theorem back_hi {b : Book} (ok : BookOk b) (r : List Nat) (d : Int) : backL b r.reverse d < d + 1 := by
  have h1 := move_back ok d r (d + 1)
  have h2 := move_ge ok r (d + 1)
  by_cases z : d + 1 ≤ backL b r.reverse d
  · have := h1.mpr z
    omega
  · omega
theorem RpAll.rev {K : PySem.W.Frag} {H : Hp} : ∀ {vs : List V} {ds : List PyData}, RpAll K H vs ds → RpAll K H vs.reverse ds.reverse
  | _, _, .nil => .nil
  | _, _, .cons h t => by
    rw [List.reverse_cons, List.reverse_cons]
    exact (RpAll.rev t).app (.cons h .nil)
def spBack (K : PySem.W.Frag) : Sp := fun vs H Q _ => ∃ vd vr b r d, vs = [vd, vr, .int d] ∧ DictRp K H vd b ∧ BookOk b ∧ Rp K H vr (encRoute r) ∧ Has b r ∧ ∀ H', Ex H H' → Q (.int (backL b r.reverse d)) H'
def spLatest (K : PySem.W.Frag) : Sp := fun vs H Q _ => ∃ vb vr b r d, vs = [vb, vr, .int d] ∧ Bk K H vb b ∧ BookOk b ∧ Rp K H vr (encRoute r) ∧ RouteOk r ∧ Has b r ∧ dayOk d ∧ ∀ H', Ex H H' → Q (.int (backL b r.reverse d)) H'
def startD (b : Book) (r : List Nat) (lo hi : Int) : PyData := if lo ≤ hi then .tuple [.int lo, .int hi] else .none
def spStartDays (K : PySem.W.Frag) : Sp := fun vs H Q _ => ∃ vb vr b r d, vs = [vb, vr, .int d] ∧ Bk K H vb b ∧ BookOk b ∧ Rp K H vr (encRoute r) ∧ RouteOk r ∧ Has b r ∧ dayOk d ∧ ∀ v H', Ex H H' → Dp K H' v (startD b r (backL b r.reverse (d - 1) + 1) (backL b r.reverse d)) → Q v H'
def spLawBack (K : PySem.W.Frag) : Sp := fun vs H Q _ => ∃ vb vr b r d, vs = [vb, vr, .int d] ∧ Bk K H vb b ∧ BookOk b ∧ Rp K H vr (encRoute r) ∧ RouteOk r ∧ Has b r ∧ ∀ H', Ex H H' → Q (.int (backL b r.reverse d)) H'
section
variable {P : Program} {w : World} {K : PySem.W.Frag} {mg : Str → Option Value} {base : Heap} {ad : Nat → Addr} {fdd : Nat → FuncData}
theorem ok_need_start (T : Tx K mg ad fdd) (G_need_book : FnOk P w K mg base CX0 7 (ad 37) (fdd 37) ["thing"] (spNeedBook K)) (G_need_route : FnOk P w K mg base CX0 4 (ad 38) (fdd 38) ["thing"] (spNeedRoute K)) (G_need_day : FnOk P w K mg base CX0 2 (ad 12) (fdd 12) ["thing"] (spNeedDay)) : FnOk P w K mg base CX0 8 (ad 40) (fdd 40) ["book", "route", "day"] (spStart K) := by
  refine T.F_need_start.ok sc_need_start (fun vs H Q E h => ?_) (fun cdv A outer s H vs Q E hr h => ?_)
  · obtain ⟨vb, vr, b, r, d, rfl, _⟩ := h
    rfl

  · obtain ⟨vb, vr, b, r, d, rfl, hb, okb, hr', okr, hd, q⟩ := h
    refine ⟨_, (pss_cons (ps_expr (pe_call G_need_book (hr.mono (by decide)) (by rfl) T.g_need_book T.F_need_book.kp T.b_need_book .nil pass0 (pa_cons (pv 0) pa_nil)))
    (pss_cons (ps_expr (pe_call G_need_route (hr.mono (by decide)) (by rfl) T.g_need_route T.F_need_route.kp T.b_need_route .nil pass0 (pa_cons (pv 1) pa_nil)))
    (pss_one (ps_expr (pe_call G_need_day (hr.mono (by decide)) (by rfl) T.g_need_day T.F_need_day.kp T.b_need_day .nil pass0 (pa_cons (pv 2) pa_nil)))))), ?_⟩
    dsimp only [L2.start, N_need_start, cxOf, Cx.nox, Cx.wish]
    walk_at "go"
    refine ⟨vb, _, rfl, hb, okBook_enc okb, okb, fun H1 e1 => ?_⟩
    walk_at "go"
    refine ⟨vr, _, rfl, hr'.mono e1.b, okRoute_enc r (by have := okr.parts.1; omega), okr, fun H2 e2 => ?_⟩
    walk_at "go"
    refine ⟨d, rfl, hd.1, hd.2, ?_⟩
    walk_at "go"
    exact q H2 (e1.trans e2)
theorem ok_calendars_for (T : Tx K mg ad fdd) : FnOk P w K mg base CX0 1 (ad 39) (fdd 39) ["book", "route"] (spCals K) := by
  refine T.F_calendars_for.ok sc_calendars_for (fun vs H Q E h => ?_) (fun cdv A outer s H vs Q E hr h => ?_)
  · obtain ⟨vb, vr, b, r, rfl, _⟩ := h
    rfl
  · obtain ⟨vb, vr, b, r, rfl, hb, okb, hr', has, q⟩ := h
    obtain ⟨a, xs, rfl, hs, rr⟩ := hr'.isTup
    have hl := rr.len
    rw [List.length_map] at hl
    refine ⟨_, (pss_cons (ps_set (i := 2) sc_calendars_for.nd rfl (by first | exact Or.inl rfl | exact Or.inr rfl) (pe_callTy (c_dictT rfl) (by rfl) T.m_dict (by decide +kernel) (pa_cons (pv 0) pa_nil)))
    (pss_cons (ps_for PassesOwn.never rfl (pi_tup (pv 1)) (pg_name (i := 3) sc_calendars_for.nd rfl (by first | exact Or.inl rfl | exact Or.inr rfl))
    (pss_one (ps_if (PW.pt (pw_and (pt_cmpR op_ne (pv 3) pe_str (nomark _)) (pw_and1 (pt_cmp (pc_dnotin (hu_of hr) (pv 3) (pv 2)) rfl))))
    (pss_one ps_never)
    pss_nil)))
    (pss_one (ps_ret (pv 2))))), ?_⟩
    dsimp only [L2.start, N_calendars_for, cxOf, Cx.nox, Cx.wish]
    walk_at "go"
    refine w_dictB hb okb fun l H1 nl e1 hd => ?_
    walk_at "go"
    refine w_loopT (e1.b.tup hs) ?_
    refine for_tup (xs := xs) (fun i σ' H' => H1 = H' ∧ ∃ y3, σ' = [some vb, some (.ref a), some (.ref l), y3]) ⟨rfl, _, rfl⟩ (fun i σ' H' hi p => ?_) (fun i x σ' H' hx p => ?_) (fun σ' H' p => ?_)
    · obtain ⟨rfl, _⟩ := p
      exact e1.b.tup hs
    · obtain ⟨rfl, y3, rfl⟩ := p
      obtain ⟨d, g1, r1⟩ := rr.at hx
      rw [List.getElem?_map] at g1
      obtain ⟨c, gc, rfl⟩ := Option.map_eq_some_iff.mp g1
      cases r1.isStr
      walk_at "go"
      rw [plus_one]
      refine w_ndec (fun c1 => ?_) (fun c1 => ?_)
      · walk_at "go"
        obtain ⟨cal, hc⟩ := has c (List.mem_of_getElem? gc) c1
        obtain ⟨p, kvs, ep, hp, hk⟩ := hd
        cases ep
        have := hk c
        rw [hc] at this
        obtain ⟨vc, hv, _⟩ := this
        refine w_dnotS hp ?_
        rw [hv]
        walk_at "go"
        refine iteF ?_
        walk_at "go"
        exact ⟨rfl, _, rfl⟩
      · walk_at "go"
        refine iteF ?_
        walk_at "go"
        exact ⟨rfl, _, rfl⟩
    · obtain ⟨rfl, y3, rfl⟩ := p
      walk_at "go"
      exact q _ H1 e1 hd
theorem ok_move (T : Tx K mg ad fdd) (G_open_from : FnOk P w K mg base CX0 3 (ad 21) (fdd 21) ["calendar", "day"] (spFrom K)) : FnOk P w K mg base CX0 4 (ad 35) (fdd 35) ["calendars", "route", "day"] (spMove K) := by
  refine T.F_move.ok sc_move (fun vs H Q E h => ?_) (fun cdv A outer s H vs Q E hr h => ?_)
  · obtain ⟨vd, vr, b, r, d, rfl, _⟩ := h
    rfl
  · obtain ⟨vd, vr, b, r, d, rfl, hd, okb, hr', has, q⟩ := h
    obtain ⟨a, xs, rfl, hs, rr⟩ := hr'.isTup
    have hl := rr.len
    rw [List.length_map] at hl
    refine ⟨_, (pss_cons (ps_for PassesOwn.never rfl (pi_tup (pv 1)) (pg_name (i := 3) sc_move.nd rfl (by first | exact Or.inl rfl | exact Or.inr rfl))
    (pss_one (ps_set (i := 2) sc_move.nd rfl (by first | exact Or.inl rfl | exact Or.inr rfl) (pe_ifExp (pt_cmpR op_eq (pv 3) pe_str (nomark _)) (pe_op op_add (pv 2) pe_int) (pe_call G_open_from (hr.mono (by decide)) (by rfl) T.g_open_from T.F_open_from.kp T.b_open_from .nil pass0 (pa_cons (pe_dget (hu_of hr) (pv 0) (pv 3) (fun _ _ => rfl)) (pa_cons (pv 2) pa_nil)))))))
    (pss_one (ps_ret (pv 2)))), ?_⟩
    dsimp only [L2.start, N_move, cxOf, Cx.nox, Cx.wish]
    walk_at "go"
    refine w_loopT hs ?_
    refine for_tup (xs := xs) (fun i σ' H' => H = H' ∧ ∃ y3, σ' = [some vd, some (.ref a), some (.int (moveF b (r.take i) d)), y3]) ⟨rfl, _, rfl⟩ (fun i σ' H' hi p => ?_) (fun i x σ' H' hx p => ?_) (fun σ' H' p => ?_)
    · obtain ⟨rfl, _⟩ := p
      exact hs
    · obtain ⟨rfl, y3, rfl⟩ := p
      obtain ⟨dd, g1, r1⟩ := rr.at hx
      rw [List.getElem?_map] at g1
      obtain ⟨c, gc, rfl⟩ := Option.map_eq_some_iff.mp g1
      cases r1.isStr
      have et : r.take (i + 1) = r.take i ++ [c] := by rw [List.take_add_one, gc]; rfl
      walk_at "go"
      rw [plus_one]
      refine w_dec (fun c1 => ?_) (fun c1 => ?_)
      · walk_at "go"
        refine ⟨rfl, some (.str (one c)), ?_⟩
        rw [et, moveF_snoc]
        have : stepF b (moveF b (r.take i) d) c = moveF b (r.take i) d + 1 := by unfold stepF; rw [if_pos c1]
        rw [this]; rfl
      · walk_at "go"
        obtain ⟨cal, hc⟩ := has c (List.mem_of_getElem? gc) c1
        have hd' := hd
        obtain ⟨p, kvs, ep, hp, hk⟩ := hd'
        cases ep
        have := hk c
        rw [hc] at this
        obtain ⟨vc, hv, rc⟩ := this
        have okc := lookB_ok okb hc
        refine w_dgetS hp hv ?_
        walk_at "go"
        refine ⟨vc, cal, _, _, rfl, rc, okc, nxtF_spec okc _, ?_⟩
        walk_at "go"
        refine ⟨rfl, some (.str (one c)), ?_⟩
        rw [et, moveF_snoc]
        have : stepF b (moveF b (r.take i) d) c = nxtF cal (moveF b (r.take i) d) := by unfold stepF; rw [if_neg c1, hc]
        rw [this]; rfl
    · obtain ⟨rfl, y3, rfl⟩ := p
      walk_at "go"
      rw [List.take_of_length_le (by omega)]
      exact q
end
end J
namespace J
open PySem PySem.Spec PyProof.Rows L2
local macro_rules | `(tactic| walk_at "go1") => `(tactic| first
  | with_reducible refine' w_seq ?_
  | with_reducible refine' w_next ?_
  | with_reducible refine' w_brk ?_
  | with_reducible refine' w_cont ?_
  | with_reducible refine' w_asg ?_
  | with_reducible refine' w_asgG ?_
  | with_reducible refine' w_gSub ?_
  | with_reducible refine' w_ret ?_
  | with_reducible refine' w_retN ?_
  | with_reducible refine' w_drop ?_
  | with_reducible refine' w_ifS ?_
  | ((with_reducible refine' w_isAug ?_); refine w_aug rfl ?_)
  | with_reducible refine' w_ipadd ?_
  | with_reducible refine' w_ipsub ?_
  | ((with_reducible refine' w_isVar ?_); refine w_var rfl ?_)
  | with_reducible refine' w_c ?_
  | with_reducible refine' w_nil ?_
  | with_reducible refine' w_cons ?_
  | with_reducible refine' w_op ?_
  | with_reducible refine' w_un ?_
  | with_reducible refine' w_cb ?_
  | with_reducible refine' w_call ?_
  | with_reducible refine' w_callK ?_
  | with_reducible refine' w_test ?_
  | with_reducible refine' w_tB ?_
  | with_reducible refine' w_and ?_
  | with_reducible refine' w_or ?_
  | with_reducible refine' w_not ?_
  | with_reducible refine' w_andV ?_
  | with_reducible refine' w_orV ?_
  | with_reducible refine' w_notV ?_
  | with_reducible refine' w_if ?_
  | with_reducible refine' w_chain ?_
  | with_reducible refine' w_exb ?_
  | with_reducible refine' w_add ?_
  | with_reducible refine' w_sub ?_
  | with_reducible refine' w_lt ?_
  | with_reducible refine' w_le ?_
  | with_reducible refine' w_gt ?_
  | with_reducible refine' w_ge ?_
  | ((with_reducible refine' w_mod ?h ?q); (case h => first | decide | omega))
  | ((with_reducible refine' w_fdiv ?h ?h2 ?q); (case h => first | decide | omega); (case h2 => first | decide | omega))
  | ((with_reducible refine' w_mulR ?h ?q); (case h => omega))
  | ((with_reducible refine' w_mulL ?h ?q); (case h => omega))
  | with_reducible refine' w_pow_6 ?_
  | with_reducible refine' w_pow_9 ?_
  | with_reducible refine' w_pow_12 ?_
  | with_reducible refine' w_pow_14 ?_
  | with_reducible refine' w_pow_15 ?_
  | with_reducible refine' w_pow_18 ?_
  | with_reducible refine' w_neg ?_
  | ((with_reducible refine' w_eq ?h ?q); (case h => exact rfl))
  | ((with_reducible refine' w_ne ?h ?q); (case h => exact rfl))
  | with_reducible refine' w_abs ?_
  | with_reducible refine' w_int ?_
  | with_reducible refine' w_max ?_
  | with_reducible refine' w_min ?_
  | with_reducible refine' w_count ?_
  | with_reducible refine' w_m1 ?_
  | with_reducible refine' w_bm ?_
  | with_reducible refine' w_listR3 ?_
  | with_reducible refine' w_exs ?_
  | with_reducible refine' w_inS ?_
  | with_reducible refine' w_notInS ?_
  | with_reducible refine' w_for ?_
  | with_reducible refine' w_while ?_
  | with_reducible refine' w_lc ?_
  | with_reducible refine' w_iTup ?_
  | with_reducible refine' w_iList ?_
  | with_reducible refine' w_iRng1 ?_
  | with_reducible refine' w_iRng2 ?_
  | with_reducible refine' w_gName ?_
  | with_reducible refine' w_tYes ?_
  | with_reducible refine' w_tupD ?_
  | with_reducible refine' w_tupF ?_
  | with_reducible refine' w_ltS ?_
  | with_reducible refine' w_leS ?_
  | with_reducible refine' w_dget ?_
  | with_reducible refine' w_dnotin ?_
  | with_reducible refine' w_sl ?_
  | with_reducible refine' w_part ?_
  | with_reducible refine' w_noPart ?_
  | with_reducible refine' w_some ?_
  | with_reducible refine' w_lstD ?_
  | with_reducible refine' w_revT ?_
  | with_reducible refine' w_par ?_
  )
local macro_rules | `(tactic| walk_at "go") => `(tactic| repeat (walk_at "go1"))

/-! ### moving often -/
def itF (f : Int → Int) : Nat → Int → Int
  | 0, x => x
  | n + 1, x => itF f n (f x)
theorem itF_add (f : Int → Int) : ∀ (m n : Nat) (x : Int), itF f (m + n) x = itF f n (itF f m x)
  | 0, n, x => by rw [Nat.zero_add]; rfl
  | m + 1, n, x => by
    rw [show m + 1 + n = (m + n) + 1 by omega]
    exact itF_add f m n (f x)
theorem itF_succ (f : Int → Int) (n : Nat) (x : Int) : itF f (n + 1) x = f (itF f n x) := by
  rw [itF_add f n 1]; rfl
theorem itF_stand {f : Int → Int} {x : Int} (h : f x = x) : ∀ n, itF f n x = x
  | 0 => rfl
  | n + 1 => by
    show itF f n (f x) = x
    rw [h]; exact itF_stand h n
theorem itF_ge {f : Int → Int} (h : ∀ x, x ≤ f x) : ∀ (n : Nat) (x : Int), x ≤ itF f n x
  | 0, x => Int.le_refl _
  | n + 1, x => Int.le_trans (h x) (itF_ge h n (f x))
theorem itF_le {f : Int → Int} (h : ∀ x, x ≤ f x) {m n : Nat} (hmn : m ≤ n) (x : Int) : itF f m x ≤ itF f n x := by
  obtain ⟨k, rfl⟩ := Nat.exists_eq_add_of_le hmn
  rw [itF_add]
  exact itF_ge h k _
theorem itF_near {f : Int → Int} {c : Int} (h : ∀ x, f x ≤ x + c) : ∀ (n : Nat) (x : Int), itF f n x ≤ x + c * n
  | 0, x => by
    show x ≤ x + c * 0
    omega
  | n + 1, x => by
    have h1 := itF_near h n (f x)
    have h2 := h x
    have : c * ((n + 1 : Nat) : Int) = c * (n : Int) + c := by
      rw [show ((n + 1 : Nat) : Int) = (n : Int) + 1 by omega, Int.mul_add, Int.mul_one]
    show itF f n (f x) ≤ _
    omega
theorem itF_moves {f : Int → Int} (h : ∀ x, x ≤ f x) : ∀ (n : Nat) (x : Int), f (itF f n x) ≠ itF f n x → x + n ≤ itF f n x
  | 0, x, _ => by show x + 0 ≤ x; omega
  | n + 1, x, hs => by
    have hn : f (itF f n x) ≠ itF f n x := fun z => hs (by rw [itF_succ, z, z])
    have h1 := itF_moves h n x hn
    have h2 := h (itF f n x)
    rw [itF_succ]
    omega
theorem itF_congr {f g : Int → Int} (hf : ∀ x, x ≤ g x) (b : Int) (h : ∀ x, g x ≤ b → f x = g x) : ∀ (n : Nat) (x : Int), itF g n x ≤ b → itF f n x = itF g n x
  | 0, x, _ => rfl
  | n + 1, x, hb => by
    have h1 : g x ≤ b := Int.le_trans (itF_ge hf n (g x)) hb
    show itF f n (f x) = itF g n (g x)
    rw [h x h1]
    exact itF_congr hf b h n (g x) hb
theorem itF_congr_hi {f g : Int → Int} (hf : ∀ x, x ≤ g x) (b : Int) (h : ∀ x, b ≤ x → f x = g x) : ∀ (n : Nat) (x : Int), b ≤ x → itF f n x = itF g n x
  | 0, x, _ => rfl
  | n + 1, x, hb => by
    show itF f n (f x) = itF g n (g x)
    rw [h x hb]
    exact itF_congr_hi hf b h n (g x) (Int.le_trans hb (hf x))
theorem itF_turn {g : Int → Int} {t : Int} (h : ∀ x, g (x + t) = g x + t) : ∀ (n : Nat) (x : Int), itF g n (x + t) = itF g n x + t
  | 0, x => rfl
  | n + 1, x => by
    show itF g n (g (x + t)) = itF g n (g x) + t
    rw [h x]; exact itF_turn h n (g x)
theorem turn_mul {g : Int → Int} {t : Int} (h : ∀ x, g (x + t) = g x + t) (x : Int) : ∀ k : Nat, g (x + t * k) = g x + t * k
  | 0 => by
    show g (x + t * 0) = g x + t * 0
    rw [Int.mul_zero, Int.add_zero, Int.add_zero]
  | k + 1 => by
    have e : t * ((k + 1 : Nat) : Int) = t * (k : Int) + t := by
      rw [show ((k + 1 : Nat) : Int) = (k : Int) + 1 by omega, Int.mul_add, Int.mul_one]
    rw [e, ← Int.add_assoc, h, turn_mul h x k, Int.add_assoc]
theorem turn_mod {g : Int → Int} (h : ∀ x, g (x + 12) = g x + 12) (x : Int) : g x = g (x % 12) + (x - x % 12) := by
  have e := Int.emod_add_mul_ediv x 12
  have e12 : x - x % 12 = 12 * (x / 12) := by omega
  rw [e12]
  by_cases z : 0 ≤ x / 12
  · have h1 := turn_mul h (x % 12) (x / 12).toNat
    rw [show ((x / 12).toNat : Int) = x / 12 by omega] at h1
    rw [← h1, e]
  · have h1 := turn_mul h x (-(x / 12)).toNat
    rw [show ((-(x / 12)).toNat : Int) = -(x / 12) by omega, show x + 12 * -(x / 12) = x % 12 by omega] at h1
    omega
/-! the plain book -/
def plainC (c : Cal) : Cal := ⟨c.pat, [], []⟩
def plainB (b : Book) : Book := b.map fun p => (p.1, plainC p.2)
theorem plainC_ok {c : Cal} (ok : c.Ok) : (plainC c).Ok := by
  show isCal (encCal (plainC c)) = true
  have h := ok.parts.1
  unfold encCal plainC
  simp only [isCal, Bool.and_eq_true]
  exact ⟨h, rfl, rfl⟩
theorem plainC_open (c : Cal) (d : Int) : openC (plainC c) d = patO c.pat d := rfl
theorem patO_turn {z : Str} (h0 : 0 < z.length) (h4 : z.length ≤ 4) (d : Int) : patO z (d + 12) = patO z d := by
  unfold patO
  have e : (d + 12) % (z.length : Int) = d % (z.length : Int) := by
    have : (z.length : Int) = 1 ∨ (z.length : Int) = 2 ∨ (z.length : Int) = 3 ∨ (z.length : Int) = 4 := by omega
    rcases this with x | x | x | x <;> rw [x] <;> omega
  rw [e]
theorem plain_turn {c : Cal} (ok : c.Ok) (x : Int) : nxtF (plainC c) (x + 12) = nxtF (plainC c) x + 12 := by
  obtain ⟨h0, h4, _⟩ := pat_len ok.parts.1
  have hp := plainC_ok ok
  obtain ⟨a1, a2, a3⟩ := nxtF_spec hp x
  refine nxt_uniq (nxtF_spec hp (x + 12)) ⟨by omega, ?_, fun y y0 y1 => ?_⟩
  · rw [plainC_open, patO_turn h0 h4]; exact a2
  · have := a3 (y - 12) (by omega) (by omega)
    rw [plainC_open] at this ⊢
    rw [show y = y - 12 + 12 by omega, patO_turn h0 h4]; exact this
theorem plain_lo {c : Cal} (ok : c.Ok) {x : Int} (h : nxtF (plainC c) x ≤ -31) : nxtF c x = nxtF (plainC c) x := by
  obtain ⟨a1, a2, a3⟩ := nxtF_spec (plainC_ok ok) x
  refine nxt_uniq (nxtF_spec ok x) ⟨a1, ?_, fun y y0 y1 => ?_⟩
  · rw [open_far ok (by omega)]; exact a2
  · rw [open_far ok (by omega)]; exact a3 y y0 y1
theorem plain_hi {c : Cal} (ok : c.Ok) {x : Int} (h : 31 ≤ x) : nxtF c x = nxtF (plainC c) x := by
  obtain ⟨a1, a2, a3⟩ := nxtF_spec (plainC_ok ok) x
  refine nxt_uniq (nxtF_spec ok x) ⟨a1, ?_, fun y y0 y1 => ?_⟩
  · rw [open_far ok (by omega)]; exact a2
  · rw [open_far ok (by omega)]; exact a3 y y0 y1
theorem lookB_plain (b : Book) (c : Nat) : lookB (plainB b) c = (lookB b c).map plainC := by
  unfold lookB plainB
  rw [List.find?_map, Option.map_map, Option.map_map]
  rfl
theorem stepP_turn {b : Book} (ok : BookOk b) (x : Int) (c : Nat) : stepF (plainB b) (x + 12) c = stepF (plainB b) x c + 12 := by
  unfold stepF
  by_cases c1 : c = 43
  · rw [if_pos c1, if_pos c1]; omega
  · rw [if_neg c1, if_neg c1, lookB_plain]
    cases e : lookB b c with
    | none => rfl
    | some cal => exact plain_turn (lookB_ok ok e) x
theorem moveP_turn {b : Book} (ok : BookOk b) : ∀ (r : List Nat) (x : Int), moveF (plainB b) r (x + 12) = moveF (plainB b) r x + 12
  | [], x => rfl
  | c :: r, x => by
    show moveF (plainB b) r (stepF (plainB b) (x + 12) c) = _
    rw [stepP_turn ok]; exact moveP_turn ok r _
theorem stepP_ge {b : Book} (ok : BookOk b) (x : Int) (c : Nat) : x ≤ stepF (plainB b) x c := by
  unfold stepF
  by_cases c1 : c = 43
  · rw [if_pos c1]; omega
  · rw [if_neg c1, lookB_plain]
    cases e : lookB b c with
    | none => exact Int.le_refl _
    | some cal => exact (nxtF_spec (plainC_ok (lookB_ok ok e)) x).1
theorem moveP_ge {b : Book} (ok : BookOk b) : ∀ (r : List Nat) (x : Int), x ≤ moveF (plainB b) r x
  | [], x => Int.le_refl _
  | c :: r, x => Int.le_trans (stepP_ge ok x c) (moveP_ge ok r _)
theorem stepP_lo {b : Book} (ok : BookOk b) {x : Int} {c : Nat} (h : stepF (plainB b) x c ≤ -31) : stepF b x c = stepF (plainB b) x c := by
  unfold stepF at h ⊢
  by_cases c1 : c = 43
  · rw [if_pos c1, if_pos c1]
  · rw [if_neg c1, lookB_plain] at h
    rw [if_neg c1, if_neg c1, lookB_plain]
    cases e : lookB b c with
    | none => rfl
    | some cal =>
      rw [e] at h
      exact plain_lo (lookB_ok ok e) h
theorem stepP_hi {b : Book} (ok : BookOk b) {x : Int} {c : Nat} (h : 31 ≤ x) : stepF b x c = stepF (plainB b) x c := by
  unfold stepF
  by_cases c1 : c = 43
  · rw [if_pos c1, if_pos c1]
  · rw [if_neg c1, if_neg c1, lookB_plain]
    cases e : lookB b c with
    | none => rfl
    | some cal => exact plain_hi (lookB_ok ok e) h
theorem moveP_lo {b : Book} (ok : BookOk b) : ∀ (r : List Nat) (x : Int), moveF (plainB b) r x ≤ -31 → moveF b r x = moveF (plainB b) r x
  | [], x, _ => rfl
  | c :: r, x, h => by
    have h1 : stepF (plainB b) x c ≤ -31 := Int.le_trans (moveP_ge ok r _) h
    show moveF b r (stepF b x c) = moveF (plainB b) r (stepF (plainB b) x c)
    rw [stepP_lo ok h1]
    exact moveP_lo ok r _ h
theorem moveP_hi {b : Book} (ok : BookOk b) : ∀ (r : List Nat) (x : Int), 31 ≤ x → moveF b r x = moveF (plainB b) r x
  | [], x, _ => rfl
  | c :: r, x, h => by
    show moveF b r (stepF b x c) = moveF (plainB b) r (stepF (plainB b) x c)
    rw [stepP_hi ok h]
    exact moveP_hi ok r _ (Int.le_trans h (stepP_ge ok x c))
/-! leaps -/
def leapF (g : Int → Int) (c : Nat) : List Int := (List.range 12).map fun r : Nat => itF g c (r : Int) - r
theorem leapF_at (g : Int → Int) (h : ∀ x, g (x + 12) = g x + 12) (c : Nat) (y : Int) : ∃ s, (leapF g c)[(y % 12).toNat]? = some s ∧ y + s = itF g c y := by
  have h0 : 0 ≤ y % 12 := Int.emod_nonneg _ (by decide)
  have h1 : y % 12 < 12 := Int.emod_lt_of_pos _ (by decide)
  refine ⟨itF g c (((y % 12).toNat : Nat) : Int) - ((y % 12).toNat : Nat), ?_, ?_⟩
  · unfold leapF
    rw [List.getElem?_map, List.getElem?_range (by omega)]; rfl
  · have := turn_mod (g := itF g c) (fun x => itF_turn h c x) y
    rw [show (((y % 12).toNat : Nat) : Int) = y % 12 by omega]
    omega
/-- what a leap tells: as often as leaves it at the bound, no more than so many times -/
def Lept (g : Int → Int) (day bound : Int) (times m : Nat) : Prop := m ≤ times ∧ (m = 0 ∨ itF g m day ≤ bound) ∧ (m = times ∨ bound < itF g (m + 1) day ∨ bound < day)
theorem lept_ex {g : Int → Int} (day bound : Int) : ∀ times : Nat, ∃ m, m ≤ times ∧ (m = 0 ∨ itF g m day ≤ bound) ∧ ∀ k, m < k → k ≤ times → bound < itF g k day
  | 0 => ⟨0, Nat.le_refl _, .inl rfl, fun k h1 h2 => absurd h1 (by omega)⟩
  | t + 1 => by
    by_cases h : itF g (t + 1) day ≤ bound
    · exact ⟨t + 1, Nat.le_refl _, .inr h, fun k h1 h2 => absurd h1 (by omega)⟩
    · obtain ⟨m, h1, h2, h3⟩ := lept_ex (g := g) day bound t
      refine ⟨m, by omega, h2, fun k k1 k2 => ?_⟩
      by_cases hk : k = t + 1
      · subst hk; omega
      · exact h3 k k1 (by omega)
/-- a step of the halving: with c more it is taken exactly if the goal lies so far -/
theorem lept_take {g : Int → Int} (hg : ∀ x, x ≤ g x) {day bound : Int} {times m : Nat} (hm : m ≤ times) (hm2 : m = 0 ∨ itF g m day ≤ bound) (hm3 : ∀ k, m < k → k ≤ times → bound < itF g k day) {done c : Nat} (hc : 0 < c) :
    (done + c ≤ times ∧ itF g (done + c) day ≤ bound) ↔ done + c ≤ m := by
  constructor
  · intro ⟨h1, h2⟩
    by_cases z : done + c ≤ m
    · exact z
    · have := hm3 (done + c) (by omega) h1
      omega
  · intro h
    refine ⟨by omega, ?_⟩
    rcases hm2 with rfl | h2
    · omega
    · exact Int.le_trans (itF_le hg h day) h2

def Leaps (K : PySem.W.Frag) (H : Hp) (a : Addr) (g : Int → Int) (n : Nat) : Prop := ∃ ps : List Addr, H a = some (.lst (ps.map V.ref)) ∧ ps.length = n ∧ ∀ (i : Nat) (p : Addr), ps[i]? = some p → ∃ l, SqT K H p [.int ((2 ^ i : Nat) : Int), .ref l] ∧ H l = some (.lst ((leapF g (2 ^ i)).map V.int))
theorem Leaps.ex {K : PySem.W.Frag} {H H' : Hp} {a : Addr} {g : Int → Int} {n : Nat} (e : Ex H H') (h : Leaps K H a g n) : Leaps K H' a g n := by
  obtain ⟨ps, h1, h2, h3⟩ := h
  refine ⟨ps, e _ _ h1, h2, fun i p hp => ?_⟩
  obtain ⟨l, h4, h5⟩ := h3 i p hp
  exact ⟨l, e.b.tup h4, e _ _ h5⟩
def spLeap (K : PySem.W.Frag) : Sp := fun vs H Q _ => ∃ (a : Addr) (g : Int → Int) (n : Nat) (day bound : Int) (times : Nat), vs = [.ref a, .int day, .int times, .int bound] ∧ Leaps K H a g n ∧ n ≤ 1000 ∧ (∀ x, x ≤ g x) ∧ (∀ x, g (x + 12) = g x + 12) ∧ times < 2 ^ n ∧
  ∀ (p : Addr) (m : Nat) H', Ex H H' → H' p = some (.tup [.int (itF g m day), .int m]) → m ≤ times → (m = 0 ∨ itF g m day ≤ bound) → (∀ k, m < k → k ≤ times → bound < itF g k day) → Q (.ref p) H'
def RevLB (K : PySem.W.Frag) (x : V) (H : Hp) (Q : VK) : Prop := ∃ a xs, x = .ref a ∧ SqL K H a xs ∧ ∀ p, H p = none → Q (.ref p) (upd H p (.lst xs.reverse))
theorem w_revL {K : PySem.W.Frag} {te : TE} {σ : L2.St} {H : Hp} {Q : VK} (h : te σ H fun x H1 => RevLB K x H1 Q) : tRevL K te σ H Q := h
theorem w_revLb {K : PySem.W.Frag} {H : Hp} {Q : VK} {a : Addr} {xs : List V} (h : SqL K H a xs) (q : ∀ l H2, H l = none → Ex H H2 → H2 l = some (.lst xs.reverse) → Q (.ref l) H2) : RevLB K (.ref a) H Q :=
  ⟨a, xs, rfl, h, fun p hp => q p _ hp (Ex.new hp) upd_same⟩
section
variable {P : Program} {w : World} {K : PySem.W.Frag} {mg : Str → Option Value} {base : Heap} {ad : Nat → Addr} {fdd : Nat → FuncData}
theorem ok_leap (T : Tx K mg ad fdd) : FnOk P w K mg base CX0 1 (ad 45) (fdd 45) ["leaps", "day", "times", "bound"] (spLeap K) := by
  refine T.F_leap.ok sc_leap (fun vs H Q E h => ?_) (fun cdv A outer s H vs Q E hr h => ?_)
  · obtain ⟨a, g, n, day, bound, times, rfl, _⟩ := h
    rfl
  · obtain ⟨a, g, n, day, bound, times, rfl, hL, hn, hg, hg12, ht, q⟩ := h
    obtain ⟨m, m1, m2, m3⟩ := lept_ex (g := g) day bound times
    obtain ⟨ps, hps, hpl, hpe⟩ := hL
    refine ⟨_, (pss_cons (ps_set (i := 4) sc_leap.nd rfl (by first | exact Or.inl rfl | exact Or.inr rfl) pe_int)
    (pss_cons (ps_for PassesOwn.never rfl (pi_list (pe_revL (pv 0))) (show PG _ _ (gTup K 2 _) from pg_tup rfl (pgs_cons (pg_name (i := 5) sc_leap.nd rfl (by first | exact Or.inl rfl | exact Or.inr rfl)) (pgs_cons (pg_name (i := 6) sc_leap.nd rfl (by first | exact Or.inl rfl | exact Or.inr rfl)) pgs_nil)))
    (pss_cons (ps_set (i := 7) sc_leap.nd rfl (by first | exact Or.inl rfl | exact Or.inr rfl) (pe_op op_add (pv 1) (pe_ix (show IxR _ (rIxL K) from ix_list) (pv 6) (pe_op op_mod (pv 1) (C8.pe_gc (v := .int (12)) rfl T.m_TURN)) (fun _ _ => rfl))))
    (pss_one (ps_if (PW.pt (pw_and (pt_cmpR op_le (pe_op op_add (pv 4) (pv 5)) (pv 2) (nomark _)) (pw_and1 (pt_cmpR op_le (pv 7) (pv 3) (nomark _)))))
    (pss_cons (ps_set (i := 1) sc_leap.nd rfl (by first | exact Or.inl rfl | exact Or.inr rfl) (pv 7))
    (pss_one (ps_aug (i := 4) sc_leap.nd rfl (by first | exact Or.inl rfl | exact Or.inr rfl) (pv 5) ip_add)))
    pss_nil))))
    (pss_one (ps_ret (pe_tup (pa_cons (pv 1) (pa_cons (pv 4) pa_nil))))))), ?_⟩
    dsimp only [L2.start, N_leap, cxOf, Cx.nox, Cx.wish]
    walk_at "go"
    refine w_revL ?_
    walk_at "go"
    refine w_revLb (sq_of hps) fun l0 H1 nl0 e1 hl0 => ?_
    walk_at "go"
    refine w_loopL (sq_of hl0) ?_
    refine for_list (xs := (ps.map V.ref).reverse) (fun i σ' H' => H1 = H' ∧ ∃ (done : Nat) (y5 y6 y7 : Option V), σ' = [some (.ref a), some (.int (itF g done day)), some (.int times), some (.int bound), some (.int done), y5, y6, y7] ∧ done ≤ m ∧ m < done + 2 ^ (n - i)) ⟨rfl, 0, _, _, _, rfl, Nat.zero_le _, by rw [Nat.zero_add, Nat.sub_zero]; omega⟩ (fun i σ' H' hi p => ?_) (fun i x σ' H' hx p => ?_) (fun σ' H' p => ?_)
    · obtain ⟨rfl, _⟩ := p
      exact sq_of hl0
    · obtain ⟨rfl, done, y5, y6, y7, rfl, d1, d2⟩ := p
      have hi : i < n := by
        have := (List.getElem?_eq_some_iff.mp hx).1
        rw [List.length_reverse, List.length_map, hpl] at this; exact this
      rw [List.getElem?_reverse (by rw [List.length_map, hpl]; exact hi), List.length_map, hpl, List.getElem?_map] at hx
      obtain ⟨p, gp, rfl⟩ := Option.map_eq_some_iff.mp hx
      obtain ⟨l, hp, hl⟩ := hpe _ p gp
      have hp1 := e1.b.tup hp
      have hl1 := e1 _ _ hl
      have e2 : n - i = (n - 1 - i) + 1 := by omega
      have e3 : n - (i + 1) = n - 1 - i := by omega
      rw [e2, Nat.pow_succ] at d2
      rw [e3]
      have hc0 : 0 < 2 ^ (n - 1 - i) := Nat.pow_pos (by decide)
      generalize hc : 2 ^ (n - 1 - i) = c at *
      obtain ⟨s, hs1, hs2⟩ := leapF_at g hg12 c (itF g done day)
      rw [← itF_add] at hs2
      have hat : atI ((leapF g c).map V.int) (itF g done day % 12) = some (.int s) := by
        have h0 : 0 ≤ itF g done day % 12 := Int.emod_nonneg _ (by decide)
        have h1 : itF g done day % 12 < 12 := Int.emod_lt_of_pos _ (by decide)
        have h2 : (leapF g c).length = 12 := by unfold leapF; rw [List.length_map, List.length_range]
        unfold atI ixN
        rw [if_pos h0, if_pos (by rw [List.length_map, h2]; exact h1)]
        show ((leapF g c).map V.int)[(itF g done day % 12).toNat]? = _
        rw [List.getElem?_map, hs1]; rfl
      have htk := lept_take hg m1 m2 m3 (done := done) (c := c) hc0
      refine w_gTup2 hp1 ?_
      walk_at "go"
      refine w_ixL (sq_of hl1) hat ?_
      walk_at "go"
      rw [hs2]
      refine w_dec (fun c1 => ?_) (fun c1 => ?_)
      · walk_at "go"
        refine w_dec (fun c2 => ?_) (fun c2 => ?_)
        · walk_at "go"
          have := htk.mp ⟨by omega, c2⟩
          refine ⟨rfl, done + c, some (.int c), some (.ref l), some (.int (itF g (done + c) day)), ?_, this, by omega⟩
          rw [show (((done + c : Nat)) : Int) = (done : Int) + (c : Int) by omega]; rfl
        · walk_at "go"
          have : ¬ done + c ≤ m := fun z => c2 (htk.mpr z).2
          exact ⟨rfl, done, _, _, _, rfl, d1, by omega⟩
      · walk_at "go"
        have : ¬ done + c ≤ m := fun z => c1 (by have := (htk.mpr z).1; omega)
        exact ⟨rfl, done, _, _, _, rfl, d1, by omega⟩
    · obtain ⟨rfl, done, y5, y6, y7, rfl, d1, d2⟩ := p
      have : done = m := by
        rw [List.length_reverse, List.length_map, hpl, Nat.sub_self] at d2
        omega
      subst this
      walk_at "go"
      refine w_new (by exact Nat.le_of_ble_eq_true rfl) fun p H2 np e2 hp _ => ?_
      exact q p done H2 (e1.trans e2) hp m1 m2 m3
end
end J
namespace J
open PySem PySem.Spec PyProof.Rows L2
local macro_rules | `(tactic| walk_at "go1") => `(tactic| first
  | with_reducible refine' w_seq ?_
  | with_reducible refine' w_next ?_
  | with_reducible refine' w_brk ?_
  | with_reducible refine' w_cont ?_
  | with_reducible refine' w_asg ?_
  | with_reducible refine' w_asgG ?_
  | with_reducible refine' w_gSub ?_
  | with_reducible refine' w_ret ?_
  | with_reducible refine' w_retN ?_
  | with_reducible refine' w_drop ?_
  | with_reducible refine' w_ifS ?_
  | ((with_reducible refine' w_isAug ?_); refine w_aug rfl ?_)
  | with_reducible refine' w_ipadd ?_
  | with_reducible refine' w_ipsub ?_
  | ((with_reducible refine' w_isVar ?_); refine w_var rfl ?_)
  | with_reducible refine' w_c ?_
  | with_reducible refine' w_nil ?_
  | with_reducible refine' w_cons ?_
  | with_reducible refine' w_op ?_
  | with_reducible refine' w_un ?_
  | with_reducible refine' w_cb ?_
  | with_reducible refine' w_call ?_
  | with_reducible refine' w_callK ?_
  | with_reducible refine' w_test ?_
  | with_reducible refine' w_tB ?_
  | with_reducible refine' w_and ?_
  | with_reducible refine' w_or ?_
  | with_reducible refine' w_not ?_
  | with_reducible refine' w_andV ?_
  | with_reducible refine' w_orV ?_
  | with_reducible refine' w_notV ?_
  | with_reducible refine' w_if ?_
  | with_reducible refine' w_chain ?_
  | with_reducible refine' w_exb ?_
  | with_reducible refine' w_add ?_
  | with_reducible refine' w_sub ?_
  | with_reducible refine' w_lt ?_
  | with_reducible refine' w_le ?_
  | with_reducible refine' w_gt ?_
  | with_reducible refine' w_ge ?_
  | ((with_reducible refine' w_mod ?h ?q); (case h => first | decide | omega))
  | ((with_reducible refine' w_fdiv ?h ?h2 ?q); (case h => first | decide | omega); (case h2 => first | decide | omega))
  | ((with_reducible refine' w_mulR ?h ?q); (case h => omega))
  | ((with_reducible refine' w_mulL ?h ?q); (case h => omega))
  | with_reducible refine' w_pow_6 ?_
  | with_reducible refine' w_pow_9 ?_
  | with_reducible refine' w_pow_12 ?_
  | with_reducible refine' w_pow_14 ?_
  | with_reducible refine' w_pow_15 ?_
  | with_reducible refine' w_pow_18 ?_
  | with_reducible refine' w_neg ?_
  | ((with_reducible refine' w_eq ?h ?q); (case h => exact rfl))
  | ((with_reducible refine' w_ne ?h ?q); (case h => exact rfl))
  | with_reducible refine' w_abs ?_
  | with_reducible refine' w_int ?_
  | with_reducible refine' w_max ?_
  | with_reducible refine' w_min ?_
  | with_reducible refine' w_count ?_
  | with_reducible refine' w_m1 ?_
  | with_reducible refine' w_bm ?_
  | with_reducible refine' w_listR3 ?_
  | with_reducible refine' w_exs ?_
  | with_reducible refine' w_inS ?_
  | with_reducible refine' w_notInS ?_
  | with_reducible refine' w_for ?_
  | with_reducible refine' w_while ?_
  | with_reducible refine' w_lc ?_
  | with_reducible refine' w_iTup ?_
  | with_reducible refine' w_iList ?_
  | with_reducible refine' w_iRng1 ?_
  | with_reducible refine' w_iRng2 ?_
  | with_reducible refine' w_gName ?_
  | with_reducible refine' w_tYes ?_
  | with_reducible refine' w_tupD ?_
  | with_reducible refine' w_tupF ?_
  | with_reducible refine' w_ltS ?_
  | with_reducible refine' w_leS ?_
  | with_reducible refine' w_dget ?_
  | with_reducible refine' w_dnotin ?_
  | with_reducible refine' w_sl ?_
  | with_reducible refine' w_part ?_
  | with_reducible refine' w_noPart ?_
  | with_reducible refine' w_some ?_
  | with_reducible refine' w_lstD ?_
  | with_reducible refine' w_revT ?_
  | with_reducible refine' w_par ?_
  )
local macro_rules | `(tactic| walk_at "go") => `(tactic| repeat (walk_at "go1"))

mutual
def noK : PyData → Bool
  | .list _ => false
  | .dict _ => false
  | .tuple ds => noKs ds
  | _ => true
def noKs : List PyData → Bool
  | [] => true
  | d :: ds => noK d && noKs ds
end
section
variable {K : PySem.W.Frag} {H H' : Hp}
mutual
theorem Rp.tupT (ht : ∀ a xs, SqT K H a xs → SqT K H' a xs) : ∀ {v : V} {d : PyData}, Rp K H v d → noK d = true → Rp K H' v d
  | _, _, .non, _ => .non
  | _, _, .bl b, _ => .bl b
  | _, _, .int i, _ => .int i
  | _, _, .str x, _ => .str x
  | _, _, .tup t r, n => .tup (ht _ _ t) (RpAll.tupT ht r (by simpa [noK] using n))
  | _, _, .lst _ _ _, n => by simp [noK] at n
  | _, _, .dct _, n => by simp [noK] at n
theorem RpAll.tupT (ht : ∀ a xs, SqT K H a xs → SqT K H' a xs) : ∀ {vs : List V} {ds : List PyData}, RpAll K H vs ds → noKs ds = true → RpAll K H' vs ds
  | _, _, .nil, _ => .nil
  | _, _, .cons p r, n => by
    simp only [noKs, Bool.and_eq_true] at n
    exact .cons (Rp.tupT ht p n.1) (RpAll.tupT ht r n.2)
end
theorem tup_at {D : Addr} {u x : HO} (h : H D = some u) (hu : (∀ ys, u ≠ .tup ys) ∧ ∀ o ys, u ≠ .frz o (.tup ys)) {a : Addr} {xs : List V} (t : SqT K H a xs) : SqT K (upd H D x) a xs := by
  rcases t with (t | ⟨o, t⟩) | t
  · exact .inl (.inl (by rw [upd_ne (fun e => by rw [e, h] at t; injection t with t; exact hu.1 _ t)]; exact t))
  · exact .inl (.inr ⟨o, by rw [upd_ne (fun e => by rw [e, h] at t; injection t with t; exact hu.2 _ _ t)]; exact t⟩)
  · exact .inr t
end
theorem noK_spans : ∀ ss : List (Int × Int), noKs (ss.map encSpan) = true
  | [] => by simp [noKs]
  | s :: ss => by
    rw [List.map_cons]
    simp only [noKs, encSpan, noK, Bool.true_and]
    exact noK_spans ss
theorem noK_cal (c : Cal) : noK (encCal c) = true := by
  simp only [encCal, noK, noKs, encSpans, noK_spans, Bool.and_self]
theorem noK_cals : ∀ b : Book, noKs (b.map fun p => encCal p.2) = true
  | [] => by simp [noKs]
  | p :: b => by
    rw [List.map_cons]
    simp only [noKs, noK_cal, noK_cals b, Bool.and_self]
def DictZ (K : PySem.W.Frag) (H : Hp) (v : V) (b : Book) : Prop := ∃ p vs, v = .ref p ∧ H p = some (.dK (zipB b vs)) ∧ RpAll K H vs (b.map fun p => encCal p.2)
theorem DictZ.rp {K : PySem.W.Frag} {H : Hp} {v : V} {b : Book} (h : DictZ K H v b) : DictRp K H v b := by
  obtain ⟨p, vs, rfl, h1, h2⟩ := h
  exact ⟨p, _, rfl, h1, fun c => val_zip h2⟩
theorem DictZ.mono {K : PySem.W.Frag} {H H' : Hp} {v : V} {b : Book} (e : Xb H H') (h : DictZ K H v b) : DictZ K H' v b := by
  obtain ⟨p, vs, rfl, h1, h2⟩ := h
  exact ⟨p, vs, rfl, e _ _ h1 rfl, h2.mono e⟩
theorem w_dictZ {K : PySem.W.Frag} {H : Hp} {v : V} {b : Book} {Q : VK} (h : Bk K H v b) (ok : BookOk b) (q : ∀ l H2, H l = none → Ex H H2 → DictZ K H2 (.ref l) b → Q (.ref l) H2) : rDictT K [v] H Q := by
  obtain ⟨a, o, xs, rfl, h1, h2, r⟩ := h
  obtain ⟨ps, vs, rfl, hp, hv⟩ := book_pairs r
  refine ⟨a, o, ps, zipB b vs, rfl, h1, h2, hp, fun p np => ?_⟩
  rw [merge_zip b vs [] ok.parts.2.2 (fun kv hk => by cases hk), List.nil_append]
  have e : Ex H (upd H p (.dK (zipB b vs))) := Ex.new np
  exact q p _ np e ⟨p, vs, rfl, upd_same, hv.mono e.b⟩
theorem zip_len : ∀ (b : Book) (vs : List V), vs.length = b.length → (zipB b vs).length = b.length
  | [], _, _ => rfl
  | p :: b, v :: vs, h => by
    show (zipB b vs).length + 1 = b.length + 1
    rw [zip_len b vs (by simpa using h)]
  | p :: b, [], h => by cases h
theorem zip_snoc : ∀ (b : Book) (vs : List V) (p : Nat × Cal) (v : V), vs.length = b.length → zipB (b ++ [p]) (vs ++ [v]) = zipB b vs ++ [(.inr (one p.1), v)]
  | [], [], _, _, _ => rfl
  | [], _ :: _, _, _, h => by cases h
  | _ :: _, [], _, _, h => by cases h
  | q :: b, w :: vs, p, v, h => by
    show _ :: zipB (b ++ [p]) (vs ++ [v]) = _
    rw [zip_snoc b vs p v (by simpa using h)]; rfl
theorem zip_get : ∀ (b : Book) (vs : List V) (i : Nat) (k : Key) (v : V), vs.length = b.length → (zipB b vs)[i]? = some (k, v) → ∃ p, b[i]? = some p ∧ k = .inr (one p.1) ∧ vs[i]? = some v
  | [], ws, i, k, v, _, h => by
    have : (zipB [] ws)[i]? = none := by show ([] : List (Key × V))[i]? = none; simp
    rw [this] at h; cases h
  | p :: b, w :: vs, 0, k, v, _, h => by
    have h' : some ((Sum.inr (one p.1) : Key), w) = some (k, v) := h
    injection h' with h'
    injection h' with h1 h2
    exact ⟨p, rfl, h1.symm, by rw [← h2]; rfl⟩
  | p :: b, w :: vs, i + 1, k, v, hl, h => by
    have h' : (zipB b vs)[i]? = some (k, v) := h
    exact zip_get b vs i k v (by simpa using hl) h'
  | _ :: _, [], _, _, _, hl, _ => by cases hl
/-! a dict locked, a comprehension over its keys -/
theorem w_lockD {t : TE} {σ : L2.St} {H : Hp} {Q : VK} {d : Addr} {kvs : List (Key × V)} (h : H d = some (.dK kvs)) (q : ∀ od, t σ (upd H d (.frz od (.dK kvs))) fun v H' => H' d = some (.frz od (.dK kvs)) ∧ Q v (upd H' d (.dK kvs))) : tLockE t σ H Q := ⟨d, _, h, trivial, q⟩
def DcB (J : It) (g : TG) (tt : TT) (tk tv : TE) (vs : List Nat) (σ : L2.St) (H1 : Hp) (Q : VK) : Prop := tDc (fun _ H R => R J H) g tt tk tv vs σ H1 Q
theorem w_dc {wi : TI} {g : TG} {tt : TT} {tk tv : TE} {vs : List Nat} {σ : L2.St} {H : Hp} {Q : VK} (h : wi σ H fun J H1 => DcB J g tt tk tv vs σ H1 Q) : tDc wi g tt tk tv vs σ H Q := h
theorem w_iKeys {td : TE} {σ : L2.St} {H : Hp} {R : It → Hp → Prop} (h : td σ H fun x H1 => ∃ d o, x = .ref d ∧ ((∃ kvs, H1 d = some (.frz o (.dK kvs)) ∧ R (Itk d o kvs) H1) ∨ ∃ kvs, H1 d = some (.frz o (.dT kvs)) ∧ R (Itkt d o kvs) H1)) : iKeys td σ H R := h
theorem dc_K {g : TG} {tt : TT} {tk tv : TE} {vs : List Nat} {σ : L2.St} {H : Hp} {Q : VK} {d : Addr} {o : Obj} {kvs : List (Key × V)} (Pv : Addr → Nat → Hp → Prop) (h0 : ∀ D, H D = none → Pv D 0 (upd H D (.dK []))) (hl : ∀ D i H', H D = none → Pv D i H' → H' d = some (.frz o (.dK kvs)))
    (hs : ∀ D i k v H', H D = none → kvs[i]? = some (k, v) → Pv D i H' → g (kV k) (wipe σ vs) H' fun σ2 H2 => wipe σ2 vs = wipe σ vs ∧ tt σ2 H2 fun b H3 =>
      if b = true then tk σ2 H3 fun y H4 => tv σ2 H4 fun z H5 => ∃ kvs k, y = kV k ∧ H5 D = some (.dK kvs) ∧ kvs.length < sizeLine ∧ Pv D (i + 1) (upd H5 D (.dK (putK kvs k z))) else Pv D (i + 1) H3) (hd : ∀ D H', H D = none → Pv D kvs.length H' → Q (.ref D) H') : DcB (Itk d o kvs) g tt tk tv vs σ H Q := by
  intro D nD
  refine ⟨fun i m H' => m = kvs.length - i ∧ i ≤ kvs.length ∧ Pv D i H', ⟨kvs.length, by simp, Nat.zero_le _, h0 D nD⟩, ?_⟩
  rintro i m H' ⟨rfl, hi, p⟩
  have q := hl D i H' nD p
  by_cases hlt : i < kvs.length
  · refine .inr ⟨⟨q, hlt⟩, Pv D (i + 1), fun H2 p' => ⟨kvs.length - (i + 1), by omega, rfl, hlt, p'⟩, fun x H2 y => ?_⟩
    obtain ⟨e, k, v, e1, e2⟩ := y
    subst e e2
    exact hs D i k v _ nD e1 p
  · have e : i = kvs.length := by omega
    subst e
    exact .inl ⟨⟨q, Nat.le_refl _⟩, hd D H' nD p⟩
def spCalsZ (K : PySem.W.Frag) : Sp := fun vs H Q _ => ∃ vb vr b r, vs = [vb, vr] ∧ Bk K H vb b ∧ BookOk b ∧ Rp K H vr (encRoute r) ∧ Has b r ∧ ∀ v H', Ex H H' → DictZ K H' v b → Q v H'
def spFar (K : PySem.W.Frag) : Sp := fun vs H Q _ => ∃ vd vr b r, ∃ times : Nat, vs = [vd, vr, .int times] ∧ DictZ K H vd b ∧ BookOk b ∧ Rp K H vr (encRoute r) ∧ Has b r ∧ times ≤ 10000000000000000 ∧ ∀ l n H', Ex H H' → Leaps K H' l (moveF (plainB b) r) n → n ≤ 1000 → times < 2 ^ n → Q (.ref l) H'
theorem plainB_ok {b : Book} (ok : BookOk b) : (plainB b).length = b.length ∧ ∀ c cal, lookB b c = some cal → lookB (plainB b) c = some (plainC cal) := by
  refine ⟨by unfold plainB; rw [List.length_map], fun c cal h => by rw [lookB_plain, h]; rfl⟩
section
variable {P : Program} {w : World} {K : PySem.W.Frag} {mg : Str → Option Value} {base : Heap} {ad : Nat → Addr} {fdd : Nat → FuncData}
theorem ok_calendars_forZ (T : Tx K mg ad fdd) : FnOk P w K mg base CX0 1 (ad 39) (fdd 39) ["book", "route"] (spCalsZ K) := by
  refine T.F_calendars_for.ok sc_calendars_for (fun vs H Q E h => ?_) (fun cdv A outer s H vs Q E hr h => ?_)
  · obtain ⟨vb, vr, b, r, rfl, _⟩ := h
    rfl
  · obtain ⟨vb, vr, b, r, rfl, hb, okb, hr', has, q⟩ := h
    obtain ⟨a, xs, rfl, hs, rr⟩ := hr'.isTup
    have hl := rr.len
    rw [List.length_map] at hl
    refine ⟨_, (pss_cons (ps_set (i := 2) sc_calendars_for.nd rfl (by first | exact Or.inl rfl | exact Or.inr rfl) (pe_callTy (c_dictT rfl) (by rfl) T.m_dict (by decide +kernel) (pa_cons (pv 0) pa_nil)))
    (pss_cons (ps_for PassesOwn.never rfl (pi_tup (pv 1)) (pg_name (i := 3) sc_calendars_for.nd rfl (by first | exact Or.inl rfl | exact Or.inr rfl))
    (pss_one (ps_if (PW.pt (pw_and (pt_cmpR op_ne (pv 3) pe_str (nomark _)) (pw_and1 (pt_cmp (pc_dnotin (hu_of hr) (pv 3) (pv 2)) rfl))))
    (pss_one ps_never)
    pss_nil)))
    (pss_one (ps_ret (pv 2))))), ?_⟩
    dsimp only [L2.start, N_calendars_for, cxOf, Cx.nox, Cx.wish]
    walk_at "go"
    refine w_dictZ hb okb fun l H1 nl e1 hz => ?_
    have hd := hz.rp
    walk_at "go"
    refine w_loopT (e1.b.tup hs) ?_
    refine for_tup (xs := xs) (fun i σ' H' => H1 = H' ∧ ∃ y3, σ' = [some vb, some (.ref a), some (.ref l), y3]) ⟨rfl, _, rfl⟩ (fun i σ' H' hi p => ?_) (fun i x σ' H' hx p => ?_) (fun σ' H' p => ?_)
    · obtain ⟨rfl, _⟩ := p
      exact e1.b.tup hs
    · obtain ⟨rfl, y3, rfl⟩ := p
      obtain ⟨d, g1, r1⟩ := rr.at hx
      rw [List.getElem?_map] at g1
      obtain ⟨c, gc, rfl⟩ := Option.map_eq_some_iff.mp g1
      cases r1.isStr
      walk_at "go"
      rw [plus_one]
      refine w_ndec (fun c1 => ?_) (fun c1 => ?_)
      · walk_at "go"
        obtain ⟨cal, hc⟩ := has c (List.mem_of_getElem? gc) c1
        obtain ⟨p, kvs, ep, hp, hk⟩ := hd
        cases ep
        have := hk c
        rw [hc] at this
        obtain ⟨vc, hv, _⟩ := this
        refine w_dnotS hp ?_
        rw [hv]
        walk_at "go"
        refine iteF ?_
        walk_at "go"
        exact ⟨rfl, _, rfl⟩
      · walk_at "go"
        refine iteF ?_
        walk_at "go"
        exact ⟨rfl, _, rfl⟩
    · obtain ⟨rfl, y3, rfl⟩ := p
      walk_at "go"
      exact q _ H1 e1 hz
end
end J
namespace J
open PySem PySem.Spec PyProof.Rows L2
local macro_rules | `(tactic| walk_at "go1") => `(tactic| first
  | with_reducible refine' w_seq ?_
  | with_reducible refine' w_next ?_
  | with_reducible refine' w_brk ?_
  | with_reducible refine' w_cont ?_
  | with_reducible refine' w_asg ?_
  | with_reducible refine' w_asgG ?_
  | with_reducible refine' w_gSub ?_
  | with_reducible refine' w_ret ?_
  | with_reducible refine' w_retN ?_
  | with_reducible refine' w_drop ?_
  | with_reducible refine' w_ifS ?_
  | ((with_reducible refine' w_isAug ?_); refine w_aug rfl ?_)
  | with_reducible refine' w_ipadd ?_
  | with_reducible refine' w_ipsub ?_
  | ((with_reducible refine' w_isVar ?_); refine w_var rfl ?_)
  | with_reducible refine' w_c ?_
  | with_reducible refine' w_nil ?_
  | with_reducible refine' w_cons ?_
  | with_reducible refine' w_op ?_
  | with_reducible refine' w_un ?_
  | with_reducible refine' w_cb ?_
  | with_reducible refine' w_call ?_
  | with_reducible refine' w_callK ?_
  | with_reducible refine' w_test ?_
  | with_reducible refine' w_tB ?_
  | with_reducible refine' w_and ?_
  | with_reducible refine' w_or ?_
  | with_reducible refine' w_not ?_
  | with_reducible refine' w_andV ?_
  | with_reducible refine' w_orV ?_
  | with_reducible refine' w_notV ?_
  | with_reducible refine' w_if ?_
  | with_reducible refine' w_chain ?_
  | with_reducible refine' w_exb ?_
  | with_reducible refine' w_add ?_
  | with_reducible refine' w_sub ?_
  | with_reducible refine' w_lt ?_
  | with_reducible refine' w_le ?_
  | with_reducible refine' w_gt ?_
  | with_reducible refine' w_ge ?_
  | ((with_reducible refine' w_mod ?h ?q); (case h => first | decide | omega))
  | ((with_reducible refine' w_fdiv ?h ?h2 ?q); (case h => first | decide | omega); (case h2 => first | decide | omega))
  | ((with_reducible refine' w_mulR ?h ?q); (case h => omega))
  | ((with_reducible refine' w_mulL ?h ?q); (case h => omega))
  | with_reducible refine' w_pow_6 ?_
  | with_reducible refine' w_pow_9 ?_
  | with_reducible refine' w_pow_12 ?_
  | with_reducible refine' w_pow_14 ?_
  | with_reducible refine' w_pow_15 ?_
  | with_reducible refine' w_pow_18 ?_
  | with_reducible refine' w_neg ?_
  | ((with_reducible refine' w_eq ?h ?q); (case h => exact rfl))
  | ((with_reducible refine' w_ne ?h ?q); (case h => exact rfl))
  | with_reducible refine' w_abs ?_
  | with_reducible refine' w_int ?_
  | with_reducible refine' w_max ?_
  | with_reducible refine' w_min ?_
  | with_reducible refine' w_count ?_
  | with_reducible refine' w_m1 ?_
  | with_reducible refine' w_bm ?_
  | with_reducible refine' w_listR3 ?_
  | with_reducible refine' w_exs ?_
  | with_reducible refine' w_inS ?_
  | with_reducible refine' w_notInS ?_
  | with_reducible refine' w_for ?_
  | with_reducible refine' w_while ?_
  | with_reducible refine' w_lc ?_
  | with_reducible refine' w_iTup ?_
  | with_reducible refine' w_iList ?_
  | with_reducible refine' w_iRng1 ?_
  | with_reducible refine' w_iRng2 ?_
  | with_reducible refine' w_gName ?_
  | with_reducible refine' w_tYes ?_
  | with_reducible refine' w_tupD ?_
  | with_reducible refine' w_tupF ?_
  | with_reducible refine' w_ltS ?_
  | with_reducible refine' w_leS ?_
  | with_reducible refine' w_dget ?_
  | with_reducible refine' w_dnotin ?_
  | with_reducible refine' w_sl ?_
  | with_reducible refine' w_part ?_
  | with_reducible refine' w_noPart ?_
  | with_reducible refine' w_some ?_
  | with_reducible refine' w_lstD ?_
  | with_reducible refine' w_revT ?_
  | with_reducible refine' w_par ?_
  )
local macro_rules | `(tactic| walk_at "go") => `(tactic| repeat (walk_at "go1"))
theorem BookOk_mk {b : Book} (h1 : b.length ≤ 4) (h2 : ∀ p ∈ b, 97 ≤ p.1 ∧ p.1 ≤ 122 ∧ p.2.Ok) (h3 : (b.map (·.1)).Pairwise (· < ·)) : BookOk b := by
  unfold BookOk encBook
  simp only [isBook, Bool.and_eq_true, decide_eq_true_eq, List.length_map]
  refine ⟨by omega, ?_, ?_⟩
  · rw [List.all_eq_true]
    intro d hd
    obtain ⟨p, hp, rfl⟩ := List.mem_map.mp hd
    obtain ⟨a1, a2, a3⟩ := h2 p hp
    unfold encNamed
    simp only [isNamed, isName_one, Bool.and_eq_true, decide_eq_true_eq]
    exact ⟨⟨a1, a2⟩, a3⟩
  · clear h1 h2
    induction b with
    | nil => rfl
    | cons p r ih =>
      cases r with
      | nil => rfl
      | cons q r =>
        have hp := List.pairwise_cons.mp h3
        show (decide ((one p.1).cps.toList < (one q.1).cps.toList) && risingN (((q :: r).map encNamed).map fstD)) = true
        rw [ih hp.2, Bool.and_true, decide_eq_true_eq]
        show [p.1] < [q.1]
        rw [List.cons_lt_cons_iff]
        exact .inl (hp.1 q.1 (by simp))
theorem BookOk_plain {b : Book} (ok : BookOk b) : BookOk (plainB b) := by
  obtain ⟨h1, h2, h3⟩ := ok.parts
  refine BookOk_mk (by rw [(plainB_ok ok).1]; exact h1) (fun p hp => ?_) ?_
  · obtain ⟨q, hq, rfl⟩ := List.mem_map.mp hp
    have := h2 q hq
    exact ⟨this.1, this.2.1, plainC_ok this.2.2⟩
  · unfold plainB
    rw [List.map_map]
    exact List.pairwise_map.mpr h3
theorem lookB_at : ∀ {b : Book}, b.Pairwise (fun p q => p.1 < q.1) → ∀ p ∈ b, lookB b p.1 = some p.2
  | q :: b, h, p, hp => by
    obtain ⟨h1, h2⟩ := List.pairwise_cons.mp h
    rcases List.mem_cons.mp hp with rfl | hp
    · unfold lookB
      rw [List.find?_cons_of_pos (by simp)]; rfl
    · have := h1 p hp
      have ih := lookB_at h2 p hp
      unfold lookB at ih ⊢
      rw [List.find?_cons_of_neg (by simp; omega)]
      exact ih
theorem plain_take (b : Book) (i : Nat) (p : Nat × Cal) (h : b[i]? = some p) : plainB (b.take (i + 1)) = plainB (b.take i) ++ [(p.1, plainC p.2)] := by
  unfold plainB
  rw [List.take_add_one, h, List.map_append]; rfl
theorem put_new {kvs : List (Key × V)} {k : Key} {v : V} (h : ∀ kv ∈ kvs, kv.1 ≠ k) : putK kvs k v = kvs ++ [(k, v)] := by
  unfold putK
  rw [if_neg]
  intro z
  obtain ⟨kv, hk, hz⟩ := List.any_eq_true.mp z
  exact h kv hk (of_decide_eq_true hz)
theorem w_dgetF {H : Hp} {Q : VK} {a : Addr} {od : Obj} {kvs : List (Key × V)} {z : Str} {v : V} (h : H a = some (.frz od (.dK kvs))) (e : valV kvs (.inr z) = some v) (q : Q v H) : DGetB (.ref a) (.str z) H Q := ⟨a, v, rfl, .inl ⟨kvs, .inr z, .inr ⟨od, h⟩, rfl, e.symm⟩, q⟩
theorem w_iEnum {K : PySem.W.Frag} {ta : TA} {σ : L2.St} {H : Hp} {R : It → Hp → Prop} (h : ta σ H fun vs H1 => ∃ a xs, vs = [.ref a] ∧ SqL K H1 a xs ∧ R (Ite K a) H1) : iEnum K ta σ H R := h
theorem lc_E {K : PySem.W.Frag} {a : Addr} {xs : List V} {g : TG} {tt : TT} {te : TE} {vs : List Nat} {σ : L2.St} {H : Hp} {Q : VK} (Pv : Addr → Nat → Hp → Prop) (h0 : ∀ D, H D = none → Pv D 0 (upd H D (.lst []))) (hl : ∀ D i H', i ≤ xs.length → Pv D i H' → SqL K H' a xs)
    (hs : ∀ D i x H' T, H D = none → xs[i]? = some x → Pv D i H' → H' T = none → g (.ref T) (wipe σ vs) (upd H' T (.tup [.int (i : Nat), x])) fun σ2 H2 => wipe σ2 vs = wipe σ vs ∧ tt σ2 H2 fun b H3 =>
      if b = true then te σ2 H3 fun y H4 => ∃ acc, H4 D = some (.lst acc) ∧ acc.length < sizeLine ∧ Pv D (i + 1) (upd H4 D (.lst (acc ++ [y]))) else Pv D (i + 1) H3) (hd : ∀ D H', H D = none → Pv D xs.length H' → Q (.ref D) H') : LcB (Ite K a) g tt te vs σ H Q :=
  fun D nD => lc_it walk_enum (Pv D) (h0 D nD) (hl D) (fun i x H' H'' hi p y => by
    obtain ⟨T, x1, y1, rfl, nT, rfl, e1, e2⟩ := y
    cases e1
    exact hs D i y1 H' T nD e2 p nT) fun H' p => hd D H' nD p
theorem leapF_get (g : Int → Int) (c i : Nat) (h : i < 12) : (leapF g c)[i]? = some (itF g c i - i) := by
  unfold leapF
  rw [List.getElem?_map, List.getElem?_range h]; rfl
theorem leapF_len (g : Int → Int) (c : Nat) : (leapF g c).length = 12 := by unfold leapF; rw [List.length_map, List.length_range]
theorem Leaps.push {K : PySem.W.Frag} {H : Hp} {a p s : Addr} {g : Int → Int} {n : Nat} {ps : List Addr} (h1 : H a = some (.lst (ps.map V.ref))) (h2 : ps.length = n) (h3 : ∀ (i : Nat) (p : Addr), ps[i]? = some p → ∃ l, SqT K H p [.int ((2 ^ i : Nat) : Int), .ref l] ∧ H l = some (.lst ((leapF g (2 ^ i)).map V.int)))
    (hp : SqT K H p [.int ((2 ^ n : Nat) : Int), .ref s]) (hs : H s = some (.lst ((leapF g (2 ^ n)).map V.int))) : Leaps K (upd H a (.lst (ps.map V.ref ++ [.ref p]))) a g (n + 1) := by
  have hu : (∀ ys, HO.lst (ps.map V.ref) ≠ .tup ys) ∧ ∀ o ys, HO.lst (ps.map V.ref) ≠ .frz o (.tup ys) := ⟨(by intro _ z; cases z), (by intro _ _ z; cases z)⟩
  have ne : ∀ l m, H l = some (.lst ((leapF g m).map V.int)) → l ≠ a := by
    intro l m hl e
    rw [e, h1] at hl
    injection hl with hl
    injection hl with hl
    have h0 : (ps.map V.ref)[0]? = ((leapF g m).map V.int)[0]? := by rw [hl]
    rw [List.getElem?_map, List.getElem?_map, leapF_get g m 0 (by decide)] at h0
    cases e2 : ps[0]? with
    | none => rw [e2] at h0; cases h0
    | some x => rw [e2] at h0; cases h0
  refine ⟨ps ++ [p], ?_, by rw [List.length_append, h2]; rfl, fun i q hq => ?_⟩
  · rw [upd_same, List.map_append]; rfl
  · by_cases hi : i < n
    · rw [List.getElem?_append_left (by omega)] at hq
      obtain ⟨l, a1, a2⟩ := h3 i q hq
      exact ⟨l, tup_at h1 hu a1, by rw [upd_ne (ne l _ a2)]; exact a2⟩
    · rw [List.getElem?_append_right (by omega)] at hq
      have hi2 : i - ps.length = 0 := by
        cases e : i - ps.length with
        | zero => rfl
        | succ k => rw [e] at hq; simp at hq
      rw [hi2] at hq
      have hin : i = n := by omega
      subst hin
      have : p = q := by simpa using hq
      subst this
      exact ⟨s, tup_at h1 hu hp, by rw [upd_ne (ne s _ hs)]; exact hs⟩
section
variable {P : Program} {w : World} {K : PySem.W.Frag} {mg : Str → Option Value} {base : Heap} {ad : Nat → Addr} {fdd : Nat → FuncData}
theorem ok_far_leaps (T : Tx K mg ad fdd) (G_move : FnOk P w K mg base CX0 4 (ad 35) (fdd 35) ["calendars", "route", "day"] (spMove K)) : FnOk P w K mg base CX0 5 (ad 44) (fdd 44) ["calendars", "route", "times"] (spFar K) := by
  refine T.F_far_leaps.ok sc_far_leaps (fun vs H Q E h => ?_) (fun cdv A outer s H vs Q E hr h => ?_)
  · obtain ⟨vd, vr, b, r, times, rfl, _⟩ := h
    rfl
  · obtain ⟨vd, vr, b, r, times, rfl, hd, okb, hr', has, htm, q⟩ := h
    obtain ⟨p0, vs0, rfl, hp0, hv0⟩ := hd
    have hvl := hv0.len
    rw [List.length_map] at hvl
    obtain ⟨hb4, _, hpw⟩ := okb.parts
    have okp := BookOk_plain okb
    have hasp : Has (plainB b) r := fun c hc hn => by
      obtain ⟨cal, e⟩ := has c hc hn
      exact ⟨_, (plainB_ok okb).2 c cal e⟩
    generalize hg : moveF (plainB b) r = g at q
    have hg12 : ∀ x, g (x + 12) = g x + 12 := fun x => by rw [← hg]; exact moveP_turn okb r x
    refine ⟨_, (pss_cons (ps_set (i := 3) sc_far_leaps.nd rfl (by first | exact Or.inl rfl | exact Or.inr rfl) (pe_lock (pe_dc (own := [("name", 7)]) rfl sc_far_leaps.nd (pi_keys (pv 0)) (blkOk_by (own := [("name", 7)]) (N := N_far_leaps) (sc := defScope s_far_leaps) (by decide +kernel)) (fun _ _ _ _ _ => (pg_name (i := 7) sc_far_leaps.nd rfl (by first | exact Or.inl rfl | exact Or.inr rfl))) (fun _ _ _ _ _ => pts_nil) (fun _ _ _ _ _ => (pv 7)) (fun _ _ _ _ _ => (pe_tup (pa_cons (pe_ix (show IxR _ (rIxT K) from ix_tup) (pe_dget (hu_of hr) (pv 0) (pv 7) (fun _ _ => rfl)) pe_int (fun _ _ => rfl)) (pa_cons (pe_tup pa_nil) (pa_cons (pe_tup pa_nil) pa_nil))))))))
    (pss_cons (ps_set (i := 4) sc_far_leaps.nd rfl (by first | exact Or.inl rfl | exact Or.inr rfl) pe_int)
    (pss_cons (ps_set (i := 5) sc_far_leaps.nd rfl (by first | exact Or.inl rfl | exact Or.inr rfl) (pe_lc (own := [("day", 8)]) rfl sc_far_leaps.nd (pi_range1 (by rfl) T.m_range (pa_cons (C8.pe_gc (v := .int (12)) rfl T.m_TURN) pa_nil)) (blkOk_by (own := [("day", 8)]) (N := N_far_leaps) (sc := defScope s_far_leaps) (by decide +kernel)) (fun _ _ _ _ _ => (pg_name (i := 8) sc_far_leaps.nd rfl (by first | exact Or.inl rfl | exact Or.inr rfl))) (fun _ _ _ _ _ => pts_nil) (fun _ _ _ _ _ => (pe_op op_sub (pe_call G_move (hr.mono (by decide)) (by rfl) T.g_move T.F_move.kp T.b_move .nil pass0 (pa_cons (pv 3) (pa_cons (pv 1) (pa_cons (pv 8) pa_nil)))) (pv 8)))))
    (pss_cons (ps_set (i := 6) sc_far_leaps.nd rfl (by first | exact Or.inl rfl | exact Or.inr rfl) (pe_lst (pa_cons (pe_tup (pa_cons (pv 4) (pa_cons (pv 5) pa_nil))) pa_nil)))
    (pss_cons (ps_while PassesOwn.never (pt_cmpR op_lt (pv 4) (pv 2) (nomark _))
    (pss_cons (ps_set (i := 4) sc_far_leaps.nd rfl (by first | exact Or.inl rfl | exact Or.inr rfl) (pe_op op_mul pe_int (pv 4)))
    (pss_cons (ps_set (i := 5) sc_far_leaps.nd rfl (by first | exact Or.inl rfl | exact Or.inr rfl) (pe_lc (own := [("day", 8), ("step", 9)]) rfl sc_far_leaps.nd (pi_enum (by rfl) T.m_enumerate (pa_cons (pv 5) pa_nil)) (blkOk_by (own := [("day", 8), ("step", 9)]) (N := N_far_leaps) (sc := defScope s_far_leaps) (by decide +kernel)) (fun _ _ _ _ _ => (show PG _ _ (gTup K 2 _) from pg_tup rfl (pgs_cons (pg_name (i := 8) sc_far_leaps.nd rfl (by first | exact Or.inl rfl | exact Or.inr rfl)) (pgs_cons (pg_name (i := 9) sc_far_leaps.nd rfl (by first | exact Or.inl rfl | exact Or.inr rfl)) pgs_nil)))) (fun _ _ _ _ _ => pts_nil) (fun _ _ _ _ _ => (pe_op op_add (pv 9) (pe_ix (show IxR _ (rIxL K) from ix_list) (pv 5) (pe_op op_mod (pe_op op_add (pv 8) (pv 9)) (C8.pe_gc (v := .int (12)) rfl T.m_TURN)) (fun _ _ => rfl))))))
    (pss_one (ps_expr (show PE _ _ (tBM K "list" _ _ _) from pe_bm PySem.F.plainAttrs_list PySem.F.slot_list_append PySem.F.type_list_append mt_append (pv 6) (pa_cons (pe_tup (pa_cons (pv 4) (pa_cons (pv 5) pa_nil))) pa_nil)))))))
    (pss_one (ps_ret (pv 6)))))))), ?_⟩
    dsimp only [L2.start, N_far_leaps, cxOf, Cx.nox, Cx.wish]
    walk_at "go"
    refine w_lockD hp0 fun od => ?_
    refine w_dc ?_
    refine w_iKeys ?_
    walk_at "go"
    refine ⟨p0, od, rfl, .inl ⟨_, upd_same, ?_⟩⟩
    generalize hHk : upd H p0 (.frz od (.dK (zipB b vs0))) = Hk
    have hkd : Hk p0 = some (.frz od (.dK (zipB b vs0))) := by rw [← hHk]; exact upd_same
    have ht1 : ∀ a xs, SqT K H a xs → SqT K Hk a xs := fun a xs t => by rw [← hHk]; exact tup_at hp0 ⟨(by intro _ z; cases z), (by intro _ _ z; cases z)⟩ t
    have hvk : RpAll K Hk vs0 (b.map fun p => encCal p.2) := hv0.tupT ht1 (noK_cals b)
    refine dc_K (fun D i H' => Ex Hk H' ∧ ∃ vs', H' D = some (.dK (zipB (plainB (b.take i)) vs')) ∧ vs'.length = (plainB (b.take i)).length ∧ RpAll K H' vs' ((plainB (b.take i)).map fun p => encCal p.2)) (fun D nD => ⟨Ex.new nD, [], upd_same, rfl, .nil⟩) (fun D i H' nD p => p.1 _ _ hkd) (fun D i k v H' nD hk p => ?_) (fun D H' nD p => ?_)
    · obtain ⟨e, vs', hD, hvl', hr2⟩ := p
      obtain ⟨pp, gp, rfl, _⟩ := zip_get b vs0 i k v hvl hk
      have hval := val_zip (c := pp.1) hvk
      rw [lookB_at hpw pp (List.mem_of_getElem? gp)] at hval
      obtain ⟨vc, hvc, rc⟩ := hval
      obtain ⟨a2, xs2, rfl, s2, q2⟩ := rc.isTup
      obtain ⟨v1, v2, v3, rfl, t1, t2, t3⟩ := q2.three
      cases t1.isStr
      walk_at "go"
      refine ⟨rfl, ?_⟩
      walk_at "go"
      refine iteT ?_
      walk_at "go"
      refine w_dgetF (e _ _ hkd) hvc ?_
      walk_at "go"
      refine w_ixT (e.b.tup s2) rfl ?_
      walk_at "go"
      refine w_new (xs := []) (by exact Nat.le_of_ble_eq_true rfl) fun p3 H3 np3 e3 hp3 _ => ?_
      walk_at "go"
      refine w_new (xs := []) (by exact Nat.le_of_ble_eq_true rfl) fun p4 H4 np4 e4 hp4 _ => ?_
      walk_at "go"
      refine w_new (by exact Nat.le_of_ble_eq_true rfl) fun p5 H5 np5 e5 hp5 _ => ?_
      have e35 := (e3.trans e4).trans e5
      have hD5 := e35 _ _ hD
      have hlen : (zipB (plainB (b.take i)) vs').length ≤ 1000 := by
        rw [zip_len _ _ hvl']
        unfold plainB
        rw [List.length_map, List.length_take]; omega
      have hx : Rp K H5 (.ref p5) (encCal (plainC pp.2)) := .tup (st_of hp5) (.cons (.str _) (.cons (.tup (e5.b.tup (e4.b.tup (st_of hp3))) .nil) (.cons (.tup (e5.b.tup (st_of hp4)) .nil) .nil)))
      refine ⟨_, .inr (one pp.1), rfl, hD5, small1000 hlen, (e.trans e35).mut nD, vs' ++ [.ref p5], ?_, ?_, ?_⟩
      · rw [upd_same, plain_take b i pp gp, zip_snoc _ _ _ _ hvl', put_new]
        intro kv hkv z
        obtain ⟨p', hp', e'⟩ := zip_keys _ _ kv hkv
        rw [e'] at z
        injection z with z
        have hn := one_inj z
        obtain ⟨p2, hp2, rfl⟩ := List.mem_map.mp hp'
        obtain ⟨j, hj, hj2⟩ := List.getElem_of_mem hp2
        rw [List.length_take] at hj
        rw [List.getElem_take] at hj2
        have hgt := List.pairwise_iff_getElem.mp hpw j i (by omega) (List.getElem?_eq_some_iff.mp gp).1 (by omega)
        rw [hj2, (List.getElem?_eq_some_iff.mp gp).2] at hgt
        have hn' : p2.1 = pp.1 := hn
        omega
      · rw [plain_take b i pp gp, List.length_append, List.length_append, hvl']; rfl
      · rw [plain_take b i pp gp, List.map_append]
        refine RpAll.tupT (fun a xs t => tup_at hD5 ⟨(by intro _ z; cases z), (by intro _ _ z; cases z)⟩ t) ((hr2.mono e35.b).app (.cons hx .nil)) ?_
        have := noK_cals (plainB (b.take i) ++ [(pp.1, plainC pp.2)])
        rwa [List.map_append] at this
    obtain ⟨e, vs', hD, hvl', hr2⟩ := p
    rw [zip_len b vs0 hvl, List.take_of_length_le (Nat.le_refl _)] at hD hr2 hvl'
    have hDp : D ≠ p0 := fun z => by rw [z, hkd] at nD; cases nD
    have hkp := e _ _ hkd
    refine ⟨hkp, ?_⟩
    have e2 : Ex H (upd H' p0 (.dK (zipB b vs0))) := fun a o ha => by
      by_cases z : a = p0
      · rw [z, upd_same, ← ha, z, hp0]
      · rw [upd_ne z]
        exact e _ _ (by rw [← hHk, upd_ne z]; exact ha)
    have hpl : DictRp K (upd H' p0 (.dK (zipB b vs0))) (.ref D) (plainB b) := by
      refine ⟨D, _, rfl, by rw [upd_ne hDp]; exact hD, fun c => val_zip (RpAll.tupT (fun a xs t => tup_at hkp ⟨(by intro _ z; cases z), (by intro _ _ z; cases z)⟩ t) hr2 (noK_cals _))⟩
    generalize upd H' p0 (.dK (zipB b vs0)) = H2 at e2 hpl ⊢
    have hr3 := hr'.mono e2.b
    walk_at "go"
    refine w_lcR ⟨by decide, by decide⟩ ?_
    refine lc_R (fun D5 i H' => Ex H2 H' ∧ H' D5 = some (.lst (((List.range i).map fun k : Nat => itF g 1 (k : Int) - k).map V.int))) (fun D5 nD5 => ⟨Ex.new nD5, upd_same⟩) (fun D5 i H' nD5 hi p => ?_) (fun D5 H3 nD5 p => ?_)
    · obtain ⟨e3, hD5⟩ := p
      walk_at "go"
      refine ⟨rfl, ?_⟩
      walk_at "go"
      refine iteT ?_
      walk_at "go"
      refine ⟨_, vr, plainB b, r, 0 + (i : Int), rfl, hpl.mono e3.b, okp, hr3.mono e3.b, hasp, ?_⟩
      walk_at "go"
      refine ⟨_, hD5, small1000 ?_, e3.mut nD5, ?_⟩
      · rw [List.length_map, List.length_map, List.length_range]
        have : i < 12 := hi
        omega
      · rw [upd_same, List.range_succ, List.map_append, List.map_append, hg, Int.zero_add]; rfl
    obtain ⟨e3, hD5⟩ := p
    have hs0 : H3 D5 = some (.lst ((leapF g (2 ^ 0)).map V.int)) := hD5
    walk_at "go"
    refine w_new (by exact Nat.le_of_ble_eq_true rfl) fun p6 H6 np6 e6 hp6 _ => ?_
    walk_at "go"
    refine w_new (by exact Nat.le_of_ble_eq_true rfl) fun l7 H7 np7 e7 hl7 _ => ?_
    have e37 := e6.trans e7
    have nl7 : H2 l7 = none := fresh_back (e3.trans e6) np7
    walk_at "go"
    refine ⟨fun m σ' H' => ∃ n, n ≤ 54 ∧ m = 60 - n ∧ Ex H2 H' ∧ ∃ (l s : Addr) (ps : List Addr) (y7 y8 y9 : Option V), σ' = [some (.ref p0), some vr, some (.int times), some (.ref D), some (.int ((2 ^ n : Nat) : Int)), some (.ref s), some (.ref l), y7, y8, y9] ∧ H2 l = none ∧ H' s = some (.lst ((leapF g (2 ^ n)).map V.int)) ∧ H' l = some (.lst (ps.map V.ref)) ∧ ps.length = n + 1 ∧ (∀ (i : Nat) (p : Addr), ps[i]? = some p → ∃ l, SqT K H' p [.int ((2 ^ i : Nat) : Int), .ref l] ∧ H' l = some (.lst ((leapF g (2 ^ i)).map V.int))), ⟨_, 0, by decide, rfl, e3.trans e37, l7, D5, [p6], _, _, _, rfl, nl7, e37 _ _ hs0, hl7, rfl, fun i p hp => ?_⟩, fun m σ' H' p => ?_⟩
    · cases i with
      | zero =>
        have : p6 = p := by simpa using hp
        subst this
        exact ⟨D5, e7.b.tup (st_of hp6), e37 _ _ hs0⟩
      | succ k => simp at hp
    obtain ⟨n, hn, rfl, e8, l, s, ps, y7, y8, y9, rfl, nl, hs, hl, hpl2, hpe⟩ := p
    walk_at "go"
    refine w_dec (fun c1 => ?_) (fun c1 => ?_)
    · have hn2 : n + 1 ≤ 54 := by
        by_cases z : n + 1 ≤ 54
        · exact z
        · have : n = 54 := by omega
          subst this
          have : ((2 ^ 54 : Nat) : Int) = 18014398509481984 := rfl
          omega
      have h2n : 2 ^ (n + 1) = 2 ^ n + 2 ^ n := by rw [Nat.pow_succ]; omega
      refine ⟨fun σ' H' => Ex H2 H' ∧ ∃ (l s : Addr) (ps : List Addr) (y7 y8 y9 : Option V), σ' = [some (.ref p0), some vr, some (.int times), some (.ref D), some (.int ((2 ^ (n + 1) : Nat) : Int)), some (.ref s), some (.ref l), y7, y8, y9] ∧ H2 l = none ∧ H' s = some (.lst ((leapF g (2 ^ (n + 1))).map V.int)) ∧ H' l = some (.lst (ps.map V.ref)) ∧ ps.length = n + 1 + 1 ∧ (∀ (i : Nat) (p : Addr), ps[i]? = some p → ∃ l, SqT K H' p [.int ((2 ^ i : Nat) : Int), .ref l] ∧ H' l = some (.lst ((leapF g (2 ^ i)).map V.int))), fun σ' H' p => ⟨60 - (n + 1), (by omega : 60 - (n + 1) < 60 - n), n + 1, hn2, rfl, p⟩, ?_⟩
      rw [h2n]
      generalize hcc : 2 ^ n = c at *
      walk_at "go"
      rw [show (2 : Int) * (c : Int) = ((c + c : Nat) : Int) by omega]
      refine w_iEnum ?_
      walk_at "go"
      refine ⟨s, _, rfl, sq_of hs, ?_⟩
      refine lc_E (xs := (leapF g c).map V.int) (fun D9 i H'' => Ex H' H'' ∧ H'' D9 = some (.lst (((leapF g (c + c)).take i).map V.int))) (fun D9 n9 => ⟨Ex.new n9, upd_same⟩) (fun D9 i H'' hi p => sq_of (p.1 _ _ hs)) (fun D9 i x H'' T n9 hx p nT => ?_) (fun D9 H9 n9 p => ?_)
      · obtain ⟨e9, hD9⟩ := p
        have hi := (List.getElem?_eq_some_iff.mp hx).1
        rw [List.length_map, leapF_len] at hi
        rw [List.getElem?_map, leapF_get g c i hi] at hx
        cases hx
        have eT : Ex H'' (upd H'' T (.tup [.int (i : Nat), .int (itF g c i - i)])) := Ex.new nT
        obtain ⟨s2, hs1, hs2⟩ := leapF_at g hg12 c (itF g c i)
        rw [← itF_add] at hs2
        have hat : atI ((leapF g c).map V.int) (itF g c i % 12) = some (.int s2) := by
          have h0 : 0 ≤ itF g c i % 12 := Int.emod_nonneg _ (by decide)
          have h1 : itF g c i % 12 < 12 := Int.emod_lt_of_pos _ (by decide)
          unfold atI ixN
          rw [if_pos h0, if_pos (by rw [List.length_map, leapF_len]; exact h1)]
          show ((leapF g c).map V.int)[(itF g c i % 12).toNat]? = _
          rw [List.getElem?_map, hs1]; rfl
        refine w_gTup2 (st_of upd_same) ?_
        walk_at "go"
        refine ⟨rfl, ?_⟩
        walk_at "go"
        refine iteT ?_
        walk_at "go"
        rw [show (i : Int) + (itF g c i - i) = itF g c i by omega]
        refine w_ixL (sq_of (eT _ _ (e9 _ _ hs))) hat ?_
        walk_at "go"
        refine ⟨_, eT _ _ hD9, small1000 ?_, (e9.trans eT).mut n9, ?_⟩
        · rw [List.length_map, List.length_take]; omega
        · rw [upd_same, List.take_add_one, leapF_get g (c + c) i hi, List.map_append, show itF g c i - (i : Int) + s2 = itF g (c + c) i - i by omega]; rfl
      obtain ⟨e9, hD9⟩ := p
      rw [List.length_map, leapF_len, List.take_of_length_le (by rw [leapF_len]; exact Nat.le_refl _)] at hD9
      walk_at "go"
      have hl9 := e9 _ _ hl
      refine w_tyL hl9 ?_
      walk_at "go"
      refine w_new (by exact Nat.le_of_ble_eq_true rfl) fun p10 H10 np10 e10 hp10 _ => ?_
      walk_at "go"
      refine w_append (e10 _ _ hl9) (by rw [List.length_map, hpl2]; omega) ?_
      walk_at "go"
      have e910 := e9.trans e10
      have hpush := Leaps.push (K := K) (g := g) (n := n + 1) (ps := ps) (p := p10) (s := D9) (e10 _ _ hl9) hpl2 (fun i p hp => by
        obtain ⟨l', b1, b2⟩ := hpe i p hp
        exact ⟨l', e910.b.tup b1, e910 _ _ b2⟩) (by rw [h2n]; exact st_of hp10) (by rw [h2n]; exact e10 _ _ hD9)
      obtain ⟨ps', a1, a2, a3⟩ := hpush
      exact ⟨(e8.trans e910).mut nl, l, D9, ps', _, _, _, rfl, nl, by rw [upd_ne (fun z => by rw [z, hl] at n9; cases n9)]; exact e10 _ _ hD9, a1, a2, a3⟩
    · walk_at "go"
      refine q l (n + 1) H' (e2.trans e8) ⟨ps, hl, hpl2, hpe⟩ (by omega) ?_
      have := Nat.pow_pos (n := n) (show 0 < 2 by decide)
      rw [Nat.pow_succ]
      omega
end
end J
namespace J
open PySem PySem.Spec PyProof.Rows L2
local macro_rules | `(tactic| walk_at "go1") => `(tactic| first
  | with_reducible refine' w_seq ?_
  | with_reducible refine' w_next ?_
  | with_reducible refine' w_brk ?_
  | with_reducible refine' w_cont ?_
  | with_reducible refine' w_asg ?_
  | with_reducible refine' w_asgG ?_
  | with_reducible refine' w_gSub ?_
  | with_reducible refine' w_ret ?_
  | with_reducible refine' w_retN ?_
  | with_reducible refine' w_drop ?_
  | with_reducible refine' w_ifS ?_
  | ((with_reducible refine' w_isAug ?_); refine w_aug rfl ?_)
  | with_reducible refine' w_ipadd ?_
  | with_reducible refine' w_ipsub ?_
  | ((with_reducible refine' w_isVar ?_); refine w_var rfl ?_)
  | with_reducible refine' w_c ?_
  | with_reducible refine' w_nil ?_
  | with_reducible refine' w_cons ?_
  | with_reducible refine' w_op ?_
  | with_reducible refine' w_un ?_
  | with_reducible refine' w_cb ?_
  | with_reducible refine' w_call ?_
  | with_reducible refine' w_callK ?_
  | with_reducible refine' w_test ?_
  | with_reducible refine' w_tB ?_
  | with_reducible refine' w_and ?_
  | with_reducible refine' w_or ?_
  | with_reducible refine' w_not ?_
  | with_reducible refine' w_andV ?_
  | with_reducible refine' w_orV ?_
  | with_reducible refine' w_notV ?_
  | with_reducible refine' w_if ?_
  | with_reducible refine' w_chain ?_
  | with_reducible refine' w_exb ?_
  | with_reducible refine' w_add ?_
  | with_reducible refine' w_sub ?_
  | with_reducible refine' w_lt ?_
  | with_reducible refine' w_le ?_
  | with_reducible refine' w_gt ?_
  | with_reducible refine' w_ge ?_
  | ((with_reducible refine' w_mod ?h ?q); (case h => first | decide | omega))
  | ((with_reducible refine' w_fdiv ?h ?h2 ?q); (case h => first | decide | omega); (case h2 => first | decide | omega))
  | ((with_reducible refine' w_mulR ?h ?q); (case h => omega))
  | ((with_reducible refine' w_mulL ?h ?q); (case h => omega))
  | with_reducible refine' w_pow_6 ?_
  | with_reducible refine' w_pow_9 ?_
  | with_reducible refine' w_pow_12 ?_
  | with_reducible refine' w_pow_14 ?_
  | with_reducible refine' w_pow_15 ?_
  | with_reducible refine' w_pow_18 ?_
  | with_reducible refine' w_neg ?_
  | ((with_reducible refine' w_eq ?h ?q); (case h => exact rfl))
  | ((with_reducible refine' w_ne ?h ?q); (case h => exact rfl))
  | with_reducible refine' w_abs ?_
  | with_reducible refine' w_int ?_
  | with_reducible refine' w_max ?_
  | with_reducible refine' w_min ?_
  | with_reducible refine' w_count ?_
  | with_reducible refine' w_m1 ?_
  | with_reducible refine' w_bm ?_
  | with_reducible refine' w_listR3 ?_
  | with_reducible refine' w_exs ?_
  | with_reducible refine' w_inS ?_
  | with_reducible refine' w_notInS ?_
  | with_reducible refine' w_for ?_
  | with_reducible refine' w_while ?_
  | with_reducible refine' w_lc ?_
  | with_reducible refine' w_iTup ?_
  | with_reducible refine' w_iList ?_
  | with_reducible refine' w_iRng1 ?_
  | with_reducible refine' w_iRng2 ?_
  | with_reducible refine' w_gName ?_
  | with_reducible refine' w_tYes ?_
  | with_reducible refine' w_tupD ?_
  | with_reducible refine' w_tupF ?_
  | with_reducible refine' w_ltS ?_
  | with_reducible refine' w_leS ?_
  | with_reducible refine' w_dget ?_
  | with_reducible refine' w_dnotin ?_
  | with_reducible refine' w_sl ?_
  | with_reducible refine' w_part ?_
  | with_reducible refine' w_noPart ?_
  | with_reducible refine' w_some ?_
  | with_reducible refine' w_lstD ?_
  | with_reducible refine' w_revT ?_
  | with_reducible refine' w_par ?_
  )
local macro_rules | `(tactic| walk_at "go") => `(tactic| repeat (walk_at "go1"))

def spOften (K : PySem.W.Frag) : Sp := fun vs H Q _ => ∃ vd vr b r day bound, ∃ times : Nat, vs = [vd, vr, .int day, .int times, .int bound] ∧ DictZ K H vd b ∧ BookOk b ∧ Rp K H vr (encRoute r) ∧ Has b r ∧ times ≤ 10000000000000000 ∧ day ≤ bound ∧
  ∀ (p : Addr) (m : Nat) H', Ex H H' → H' p = some (.tup [.int (itF (moveF b r) m day), .int m]) → m ≤ times → itF (moveF b r) m day ≤ bound → (m = times ∨ moveF b r (itF (moveF b r) m day) = itF (moveF b r) m day ∨ bound < itF (moveF b r) (m + 1) day) → Q (.ref p) H'
def spRep (K : PySem.W.Frag) : Sp := fun vs H Q _ => ∃ vb vr b r d, ∃ n : Nat, vs = [vb, vr, .int d, .int n] ∧ Bk K H vb b ∧ BookOk b ∧ Rp K H vr (encRoute r) ∧ RouteOk r ∧ Has b r ∧ dayOk d ∧ n ≤ 1000000000000 ∧ ∀ H', Ex H H' → Q (.int (itF (moveF b r) n d)) H'
/-- what times_to tells -/
def Told (f : Int → Int) (d goal : Int) (v : V) : Prop := (∃ n : Nat, v = .int n ∧ (∀ k, k < n → itF f k d < goal) ∧ goal ≤ itF f n d) ∨ (v = .non ∧ ∃ m, itF f m d < goal ∧ f (itF f m d) = itF f m d)
theorem told_0 {f : Int → Int} {d goal : Int} (h : goal ≤ d) : Told f d goal (.int 0) := .inl ⟨0, rfl, fun k hk => absurd hk (Nat.not_lt_zero _), h⟩
theorem told_n {f : Int → Int} (hf : ∀ x, x ≤ f x) {d goal : Int} {m : Nat} (h1 : itF f m d < goal) (h2 : goal ≤ itF f (m + 1) d) : Told f d goal (.int (m + 1)) :=
  .inl ⟨m + 1, by rw [show (((m + 1 : Nat)) : Int) = (m : Int) + 1 by omega], fun k hk => by have := itF_le hf (show k ≤ m by omega) d; omega, h2⟩
theorem never {f : Int → Int} (hf : ∀ x, x ≤ f x) {d goal : Int} {m : Nat} (h1 : itF f m d < goal) (h2 : f (itF f m d) = itF f m d) (k : Nat) : itF f k d < goal := by
  by_cases z : k ≤ m
  · have := itF_le hf z d; omega
  · rw [show k = m + (k - m) by omega, itF_add, itF_stand h2]; exact h1
theorem told_uniq {f : Int → Int} (hf : ∀ x, x ≤ f x) {d goal : Int} {v w : V} (h1 : Told f d goal v) (h2 : Told f d goal w) : v = w := by
  rcases h1 with ⟨n, rfl, a1, a2⟩ | ⟨rfl, m, a1, a2⟩
  · rcases h2 with ⟨k, rfl, b1, b2⟩ | ⟨rfl, m, b1, b2⟩
    · by_cases z : n < k
      · have := b1 n z; omega
      · by_cases z2 : k < n
        · have := a1 k z2; omega
        · rw [show n = k by omega]
    · have := never hf b1 b2 n; omega
  · rcases h2 with ⟨k, rfl, b1, b2⟩ | ⟨rfl, _⟩
    · have := never hf a1 a2 k; omega
    · rfl
def spTimes (K : PySem.W.Frag) : Sp := fun vs H Q _ => ∃ vb vr b r d goal, vs = [vb, vr, .int d, .int goal] ∧ Bk K H vb b ∧ BookOk b ∧ Rp K H vr (encRoute r) ∧ RouteOk r ∧ Has b r ∧ dayOk d ∧ dayOk goal ∧
∀ v H', Ex H H' → Told (moveF b r) d goal v → Q v H'
section
variable {P : Program} {w : World} {K : PySem.W.Frag} {mg : Str → Option Value} {base : Heap} {ad : Nat → Addr} {fdd : Nat → FuncData}
theorem ok_move_often (T : Tx K mg ad fdd) (G_far_leaps : FnOk P w K mg base CX0 5 (ad 44) (fdd 44) ["calendars", "route", "times"] (spFar K)) (G_leap : FnOk P w K mg base CX0 1 (ad 45) (fdd 45) ["leaps", "day", "times", "bound"] (spLeap K)) (G_move : FnOk P w K mg base CX0 4 (ad 35) (fdd 35) ["calendars", "route", "day"] (spMove K)) : FnOk P w K mg base CX0 6 (ad 43) (fdd 43) ["calendars", "route", "day", "times", "bound"] (spOften K) := by
  refine T.F_move_often.ok sc_move_often (fun vs H Q E h => ?_) (fun cdv A outer s H vs Q E hr h => ?_)
  · obtain ⟨vd, vr, b, r, day, bound, times, rfl, _⟩ := h
    rfl
  · obtain ⟨vd, vr, b, r, day, bound, times, rfl, hd, okb, hr', has, ht, hdb, q⟩ := h
    have hf : ∀ x, x ≤ moveF b r x := move_ge okb r
    have hg : ∀ x, x ≤ moveF (plainB b) r x := moveP_ge okb r
    have hg12 := moveP_turn okb r
    have hlo := moveP_lo okb r
    have hhi := moveP_hi okb r
    generalize hfe : moveF b r = f at *
    generalize hge : moveF (plainB b) r = g at *
    refine ⟨_, (pss_cons (ps_set (i := 5) sc_move_often.nd rfl (by first | exact Or.inl rfl | exact Or.inr rfl) (pe_call G_far_leaps (hr.mono (by decide)) (by rfl) T.g_far_leaps T.F_far_leaps.kp T.b_far_leaps .nil pass0 (pa_cons (pv 0) (pa_cons (pv 1) (pa_cons (pv 3) pa_nil)))))
    (pss_cons (ps_asg (pe_call G_leap (hr.mono (by decide)) (by rfl) T.g_leap T.F_leap.kp T.b_leap .nil pass0 (pa_cons (pv 5) (pa_cons (pv 2) (pa_cons (pv 3) (pa_cons (pe_callB (c_min2 rfl) (by rfl) T.m_min (by decide +kernel) (pa_cons (pv 4) (pa_cons (pe_op op_sub (C8.pe_gc (v := .int (-30)) rfl T.m_FIRST_NEAR) pe_int) pa_nil))) pa_nil))))) (show PG _ _ (gTup K 2 _) from pg_tup rfl (pgs_cons (pg_name (i := 2) sc_move_often.nd rfl (by first | exact Or.inl rfl | exact Or.inr rfl)) (pgs_cons (pg_name (i := 6) sc_move_often.nd rfl (by first | exact Or.inl rfl | exact Or.inr rfl)) pgs_nil))))
    (pss_cons (ps_while PassesOwn.never (PW.pt (pw_and (pt_cmpR op_lt (pv 6) (pv 3) (nomark _)) (pw_and1 (pt_cmpR op_le (pv 2) (C8.pe_gc (v := .int (30)) rfl T.m_LAST_NEAR) (nomark _)))))
    (pss_cons (ps_set (i := 7) sc_move_often.nd rfl (by first | exact Or.inl rfl | exact Or.inr rfl) (pe_call G_move (hr.mono (by decide)) (by rfl) T.g_move T.F_move.kp T.b_move .nil pass0 (pa_cons (pv 0) (pa_cons (pv 1) (pa_cons (pv 2) pa_nil)))))
    (pss_cons (ps_if (PW.pt (pw_or (pt_cmpR op_eq (pv 7) (pv 2) (nomark _)) (pw_or1 (pt_cmpR op_gt (pv 7) (pv 4) (nomark _)))))
    (pss_one (ps_ret (pe_tup (pa_cons (pv 2) (pa_cons (pv 6) pa_nil)))))
    pss_nil)
    (pss_cons (ps_set (i := 2) sc_move_often.nd rfl (by first | exact Or.inl rfl | exact Or.inr rfl) (pv 7))
    (pss_one (ps_aug (i := 6) sc_move_often.nd rfl (by first | exact Or.inl rfl | exact Or.inr rfl) pe_int ip_add))))))
    (pss_cons (ps_asg (pe_call G_leap (hr.mono (by decide)) (by rfl) T.g_leap T.F_leap.kp T.b_leap .nil pass0 (pa_cons (pv 5) (pa_cons (pv 2) (pa_cons (pe_op op_sub (pv 3) (pv 6)) (pa_cons (pv 4) pa_nil))))) (show PG _ _ (gTup K 2 _) from pg_tup rfl (pgs_cons (pg_name (i := 2) sc_move_often.nd rfl (by first | exact Or.inl rfl | exact Or.inr rfl)) (pgs_cons (pg_name (i := 8) sc_move_often.nd rfl (by first | exact Or.inl rfl | exact Or.inr rfl)) pgs_nil))))
    (pss_one (ps_ret (pe_tup (pa_cons (pv 2) (pa_cons (pe_op op_add (pv 6) (pv 8)) pa_nil))))))))), ?_⟩
    dsimp only [L2.start, N_move_often, cxOf, Cx.nox, Cx.wish]
    walk_at "go"
    refine ⟨vd, vr, b, r, times, rfl, hd, okb, hr', has, ht, fun l n H1 e1 hL hn hlt => ?_⟩
    rw [hge] at hL
    walk_at "go"
    refine ⟨l, g, n, day, _, times, rfl, hL, hn, hg, hg12, hlt, fun p m1 H2 e2 hp hm1 hm2 _ => ?_⟩
    have hday : itF g m1 day = itF f m1 day ∧ itF f m1 day ≤ bound := by
      rcases hm2 with rfl | hm2
      · exact ⟨rfl, hdb⟩
      · have h31 : itF g m1 day ≤ -31 ∧ itF g m1 day ≤ bound := by revert hm2; split <;> intro hm2 <;> omega
        have := itF_congr hg (-31) hlo m1 day h31.1
        exact ⟨this.symm, by rw [this]; exact h31.2⟩
    rw [hday.1] at hp
    walk_at "go"
    refine w_gTup2 (st_of hp) ?_
    have e12 := e1.trans e2
    have hd2 := hd.mono e12.b
    have hr2 := hr'.mono e12.b
    have hL2 := hL.ex e2
    walk_at "go"
    refine ⟨fun m σ' H' => H2 = H' ∧ ∃ (done : Nat) (y7 y8 : Option V), σ' = [some vd, some vr, some (.int (itF f done day)), some (.int times), some (.int bound), some (.ref l), some (.int done), y7, y8] ∧ done ≤ times ∧ itF f done day ≤ bound ∧ m = (31 - itF f done day).toNat, ⟨_, rfl, m1, _, _, rfl, hm1, hday.2, rfl⟩, fun m σ' H' p => ?_⟩
    obtain ⟨rfl, done, y7, y8, rfl, hdt, hdb2, rfl⟩ := p
    walk_at "go"
    refine w_dec (fun c1 => ?_) (fun c1 => ?_)
    · walk_at "go"
      refine w_dec (fun c2 => ?_) (fun c2 => ?_)
      · refine ⟨fun σ' H' => H2 = H' ∧ f (itF f done day) ≠ itF f done day ∧ f (itF f done day) ≤ bound ∧ σ' = [some vd, some vr, some (.int (f (itF f done day))), some (.int times), some (.int bound), some (.ref l), some (.int ((done : Int) + 1)), some (.int (f (itF f done day))), y8], fun σ' H' p => ?_, ?_⟩
        · obtain ⟨rfl, h1, h2, rfl⟩ := p
          have h3 := hf (itF f done day)
          have h4 : itF f (done + 1) day = f (itF f done day) := itF_succ f done day
          refine ⟨_, ?_, rfl, done + 1, some (.int (f (itF f done day))), y8, ?_, by omega, by rw [h4]; exact h2, rfl⟩
          · rw [h4]; omega
          · rw [h4]; rfl
        · walk_at "go"
          refine ⟨vd, vr, b, r, _, rfl, hd2.rp, okb, hr2, has, ?_⟩
          rw [hfe]
          walk_at "go"
          refine w_dec (fun c3 => ?_) (fun c3 => ?_)
          · walk_at "go"
            refine iteT ?_
            walk_at "go"
            refine w_new (by exact Nat.le_of_ble_eq_true rfl) fun p9 H9 np9 e9 hp9 _ => ?_
            injection c3 with c3
            exact q p9 done H9 (e12.trans e9) hp9 hdt hdb2 (.inr (.inl c3))
          · walk_at "go"
            refine w_dec (fun c4 => ?_) (fun c4 => ?_)
            · walk_at "go"
              refine w_new (by exact Nat.le_of_ble_eq_true rfl) fun p9 H9 np9 e9 hp9 _ => ?_
              exact q p9 done H9 (e12.trans e9) hp9 hdt hdb2 (.inr (.inr (by rw [itF_succ]; exact c4)))
            · walk_at "go"
              exact ⟨rfl, fun z => c3 (by rw [z]), by omega, rfl⟩
      · walk_at "go"
        rw [show (times : Int) - (done : Int) = ((times - done : Nat) : Int) by omega]
        refine ⟨l, g, n, itF f done day, bound, times - done, rfl, hL2, hn, hg, hg12, by omega, fun p3 m2 H3 e3 hp3 hm21 hm22 hm23 => ?_⟩
        walk_at "go"
        refine w_gTup2 (st_of hp3) ?_
        walk_at "go"
        refine w_new (by exact Nat.le_of_ble_eq_true rfl) fun p4 H4 np4 e4 hp4 _ => ?_
        have hagree : ∀ k, k = 0 ∨ done < times → itF g k (itF f done day) = itF f (done + k) day := fun k hk => by
          rw [itF_add]
          rcases hk with rfl | hk
          · rfl
          · exact (itF_congr_hi hg 31 hhi k _ (by omega)).symm
        have h5 : itF g m2 (itF f done day) = itF f (done + m2) day := hagree m2 (by omega)
        rw [h5, show (done : Int) + (m2 : Int) = ((done + m2 : Nat) : Int) by omega] at hp4
        refine q p4 (done + m2) H4 ((e12.trans e3).trans e4) hp4 (by omega) ?_ ?_
        · rcases hm22 with rfl | h
          · exact hdb2
          · rw [← h5]; exact h
        · by_cases z : m2 = times - done
          · left; omega
          · right; right
            have := hm23 (m2 + 1) (by omega) (by omega)
            rw [hagree (m2 + 1) (by omega)] at this
            exact this
    · refine iteF ?_
      walk_at "go"
      rw [show (times : Int) - (done : Int) = ((times - done : Nat) : Int) by omega]
      refine ⟨l, g, n, itF f done day, bound, times - done, rfl, hL2, hn, hg, hg12, by omega, fun p3 m2 H3 e3 hp3 hm21 hm22 hm23 => ?_⟩
      walk_at "go"
      refine w_gTup2 (st_of hp3) ?_
      walk_at "go"
      refine w_new (by exact Nat.le_of_ble_eq_true rfl) fun p4 H4 np4 e4 hp4 _ => ?_
      have hagree : ∀ k, k = 0 ∨ done < times → itF g k (itF f done day) = itF f (done + k) day := fun k hk => by
        rw [itF_add]
        rcases hk with rfl | hk
        · rfl
        · exact (itF_congr_hi hg 31 hhi k _ (by omega)).symm
      have h5 : itF g m2 (itF f done day) = itF f (done + m2) day := hagree m2 (by omega)
      rw [h5, show (done : Int) + (m2 : Int) = ((done + m2 : Nat) : Int) by omega] at hp4
      refine q p4 (done + m2) H4 ((e12.trans e3).trans e4) hp4 (by omega) ?_ ?_
      · rcases hm22 with rfl | h
        · exact hdb2
        · rw [← h5]; exact h
      · by_cases z : m2 = times - done
        · left; omega
        · right; right
          have := hm23 (m2 + 1) (by omega) (by omega)
          rw [hagree (m2 + 1) (by omega)] at this
          exact this
theorem ok_repeated (T : Tx K mg ad fdd) (G_need_start : FnOk P w K mg base CX0 8 (ad 40) (fdd 40) ["book", "route", "day"] (spStart K)) (G_need_number : FnOk P w K mg base CX0 2 (ad 13) (fdd 13) ["thing", "most"] (spNeedNum)) (G_calendars_for : FnOk P w K mg base CX0 1 (ad 39) (fdd 39) ["book", "route"] (spCalsZ K)) (G_move_often : FnOk P w K mg base CX0 6 (ad 43) (fdd 43) ["calendars", "route", "day", "times", "bound"] (spOften K)) : FnOk P w K mg base CX0 9 (ad 33) (fdd 33) ["book", "route", "day", "times"] (spRep K) := by
  refine T.F_repeated.ok sc_repeated (fun vs H Q E h => ?_) (fun cdv A outer s H vs Q E hr h => ?_)
  · obtain ⟨vb, vr, b, r, d, n, rfl, _⟩ := h
    rfl
  · obtain ⟨vb, vr, b, r, d, n, rfl, hb, okb, hr', okr, has, hd, hn, q⟩ := h
    have hnear : ∀ x, moveF b r x ≤ x + 200 := move_near okb okr.parts.1
    refine ⟨_, (pss_cons (ps_expr (pe_call G_need_start (hr.mono (by decide)) (by rfl) T.g_need_start T.F_need_start.kp T.b_need_start .nil pass0 (pa_cons (pv 0) (pa_cons (pv 1) (pa_cons (pv 2) pa_nil)))))
    (pss_cons (ps_expr (pe_call G_need_number (hr.mono (by decide)) (by rfl) T.g_need_number T.F_need_number.kp T.b_need_number .nil pass0 (pa_cons (pv 3) (pa_cons (C8.pe_gc (v := .int (1000000000000)) rfl T.m_MOST_TIMES) pa_nil))))
    (pss_cons (ps_set (i := 4) sc_repeated.nd rfl (by first | exact Or.inl rfl | exact Or.inr rfl) (pe_call G_calendars_for (hr.mono (by decide)) (by rfl) T.g_calendars_for T.F_calendars_for.kp T.b_calendars_for .nil pass0 (pa_cons (pv 0) (pa_cons (pv 1) pa_nil))))
    (pss_cons (ps_asg (pe_call G_move_often (hr.mono (by decide)) (by rfl) T.g_move_often T.F_move_often.kp T.b_move_often .nil pass0 (pa_cons (pv 4) (pa_cons (pv 1) (pa_cons (pv 2) (pa_cons (pv 3) (pa_cons (pe_op op_add (pv 2) (pe_op op_mul (C8.pe_gc (v := .int (800)) rfl T.m_WIDEST_MOVE) (pv 3))) pa_nil)))))) (show PG _ _ (gTup K 2 _) from pg_tup rfl (pgs_cons (pg_name (i := 5) sc_repeated.nd rfl (by first | exact Or.inl rfl | exact Or.inr rfl)) (pgs_cons (pg_name (i := 6) sc_repeated.nd rfl (by first | exact Or.inl rfl | exact Or.inr rfl)) pgs_nil))))
    (pss_one (ps_ret (pv 5))))))), ?_⟩
    dsimp only [L2.start, N_repeated, cxOf, Cx.nox, Cx.wish]
    walk_at "go"
    refine ⟨vb, vr, b, r, d, rfl, hb.rp, okb, hr', okr, hd, fun H1 e1 => ?_⟩
    walk_at "go"
    refine ⟨(n : Int), _, rfl, by omega, by omega, ?_⟩
    walk_at "go"
    refine ⟨vb, vr, b, r, rfl, hb.mono e1.b, okb, hr'.mono e1.b, has, fun v H2 e2 hd2 => ?_⟩
    walk_at "go"
    refine ⟨v, vr, b, r, d, _, n, rfl, hd2, okb, hr'.mono (e1.trans e2).b, has, by omega, by omega, fun p m H3 e3 hp hm1 hm2 hm3 => ?_⟩
    walk_at "go"
    refine w_gTup2 (st_of hp) ?_
    walk_at "go"
    have : itF (moveF b r) m d = itF (moveF b r) n d := by
      rcases hm3 with rfl | h | h
      · rfl
      · rw [show n = m + (n - m) by omega, itF_add, itF_stand h]
      · by_cases z : m = n
        · rw [z]
        · exfalso
          have h1 := itF_near hnear (m + 1) d
          omega
    rw [this]
    exact q H3 ((e1.trans e2).trans e3)
theorem ok_times_to (T : Tx K mg ad fdd) (G_need_start : FnOk P w K mg base CX0 8 (ad 40) (fdd 40) ["book", "route", "day"] (spStart K)) (G_need_day : FnOk P w K mg base CX0 2 (ad 12) (fdd 12) ["thing"] (spNeedDay)) (G_calendars_for : FnOk P w K mg base CX0 1 (ad 39) (fdd 39) ["book", "route"] (spCalsZ K)) (G_move_often : FnOk P w K mg base CX0 6 (ad 43) (fdd 43) ["calendars", "route", "day", "times", "bound"] (spOften K)) (G_move : FnOk P w K mg base CX0 4 (ad 35) (fdd 35) ["calendars", "route", "day"] (spMove K)) : FnOk P w K mg base CX0 9 (ad 34) (fdd 34) ["book", "route", "day", "goal"] (spTimes K) := by
  refine T.F_times_to.ok sc_times_to (fun vs H Q E h => ?_) (fun cdv A outer s H vs Q E hr h => ?_)
  · obtain ⟨vb, vr, b, r, d, goal, rfl, _⟩ := h
    rfl
  · obtain ⟨vb, vr, b, r, d, goal, rfl, hb, okb, hr', okr, has, hd, hgo, q⟩ := h
    have hf : ∀ x, x ≤ moveF b r x := move_ge okb r
    obtain ⟨hd0, hd1⟩ := hd
    obtain ⟨hg0, hg1⟩ := hgo
    refine ⟨_, (pss_cons (ps_expr (pe_call G_need_start (hr.mono (by decide)) (by rfl) T.g_need_start T.F_need_start.kp T.b_need_start .nil pass0 (pa_cons (pv 0) (pa_cons (pv 1) (pa_cons (pv 2) pa_nil)))))
    (pss_cons (ps_expr (pe_call G_need_day (hr.mono (by decide)) (by rfl) T.g_need_day T.F_need_day.kp T.b_need_day .nil pass0 (pa_cons (pv 3) pa_nil)))
    (pss_cons (ps_set (i := 4) sc_times_to.nd rfl (by first | exact Or.inl rfl | exact Or.inr rfl) (pe_call G_calendars_for (hr.mono (by decide)) (by rfl) T.g_calendars_for T.F_calendars_for.kp T.b_calendars_for .nil pass0 (pa_cons (pv 0) (pa_cons (pv 1) pa_nil))))
    (pss_cons (ps_if (pt_cmpR op_ge (pv 2) (pv 3) (nomark _))
    (pss_one (ps_ret pe_int))
    pss_nil)
    (pss_cons (ps_asg (pe_call G_move_often (hr.mono (by decide)) (by rfl) T.g_move_often T.F_move_often.kp T.b_move_often .nil pass0 (pa_cons (pv 4) (pa_cons (pv 1) (pa_cons (pv 2) (pa_cons (pe_op op_sub (pv 3) (pv 2)) (pa_cons (pe_op op_sub (pv 3) pe_int) pa_nil)))))) (show PG _ _ (gTup K 2 _) from pg_tup rfl (pgs_cons (pg_name (i := 5) sc_times_to.nd rfl (by first | exact Or.inl rfl | exact Or.inr rfl)) (pgs_cons (pg_name (i := 6) sc_times_to.nd rfl (by first | exact Or.inl rfl | exact Or.inr rfl)) pgs_nil))))
    (pss_cons (ps_if (pt_cmpR op_eq (pe_call G_move (hr.mono (by decide)) (by rfl) T.g_move T.F_move.kp T.b_move .nil pass0 (pa_cons (pv 4) (pa_cons (pv 1) (pa_cons (pv 5) pa_nil)))) (pv 5) (nomark _))
    (pss_one (ps_ret pe_non))
    pss_nil)
    (pss_one (ps_ret (pe_op op_add (pv 6) pe_int))))))))), ?_⟩
    dsimp only [L2.start, N_times_to, cxOf, Cx.nox, Cx.wish]
    walk_at "go"
    refine ⟨vb, vr, b, r, d, rfl, hb.rp, okb, hr', okr, ⟨hd0, hd1⟩, fun H1 e1 => ?_⟩
    walk_at "go"
    refine ⟨goal, rfl, hg0, hg1, ?_⟩
    walk_at "go"
    refine ⟨vb, vr, b, r, rfl, hb.mono e1.b, okb, hr'.mono e1.b, has, fun v H2 e2 hd2 => ?_⟩
    walk_at "go"
    refine w_dec (fun c0 => ?_) (fun c0 => ?_)
    · walk_at "go"
      exact q _ H2 (e1.trans e2) (told_0 c0)
    walk_at "go"
    have hdg : d < goal := by omega
    rw [show goal - d = (((goal - d).toNat : Nat) : Int) by omega]
    refine ⟨v, vr, b, r, d, _, (goal - d).toNat, rfl, hd2, okb, hr'.mono (e1.trans e2).b, has, by omega, by omega, fun p m H3 e3 hp hm1 hm2 hm3 => ?_⟩
    walk_at "go"
    refine w_gTup2 (st_of hp) ?_
    walk_at "go"
    have e13 := (e1.trans e2).trans e3
    refine ⟨v, vr, b, r, _, rfl, (hd2.mono e3.b).rp, okb, hr'.mono e13.b, has, ?_⟩
    walk_at "go"
    refine w_dec (fun c1 => ?_) (fun c1 => ?_)
    · walk_at "go"
      injection c1 with c1
      exact q _ H3 e13 (.inr ⟨rfl, m, by omega, c1⟩)
    · walk_at "go"
      have c1' : moveF b r (itF (moveF b r) m d) ≠ itF (moveF b r) m d := fun z => c1 (by rw [z])
      refine q _ H3 e13 (told_n hf (m := m) (by omega) ?_)
      rcases hm3 with h | h | h
      · have h1 := itF_moves hf (m + 1) d
        have h2 := itF_moves hf m d c1'
        have h3 := itF_succ (moveF b r) m d
        have h4 := hf (itF (moveF b r) m d)
        omega
      · exact absurd h c1'
      · omega
end
end J
namespace J
open PySem PySem.Spec PyProof.Rows L2
local macro_rules | `(tactic| walk_at "go1") => `(tactic| first
  | with_reducible refine' w_seq ?_
  | with_reducible refine' w_next ?_
  | with_reducible refine' w_brk ?_
  | with_reducible refine' w_cont ?_
  | with_reducible refine' w_asg ?_
  | with_reducible refine' w_asgG ?_
  | with_reducible refine' w_gSub ?_
  | with_reducible refine' w_ret ?_
  | with_reducible refine' w_retN ?_
  | with_reducible refine' w_drop ?_
  | with_reducible refine' w_ifS ?_
  | ((with_reducible refine' w_isAug ?_); refine w_aug rfl ?_)
  | with_reducible refine' w_ipadd ?_
  | with_reducible refine' w_ipsub ?_
  | ((with_reducible refine' w_isVar ?_); refine w_var rfl ?_)
  | with_reducible refine' w_c ?_
  | with_reducible refine' w_nil ?_
  | with_reducible refine' w_cons ?_
  | with_reducible refine' w_op ?_
  | with_reducible refine' w_un ?_
  | with_reducible refine' w_cb ?_
  | with_reducible refine' w_call ?_
  | with_reducible refine' w_callK ?_
  | with_reducible refine' w_test ?_
  | with_reducible refine' w_tB ?_
  | with_reducible refine' w_and ?_
  | with_reducible refine' w_or ?_
  | with_reducible refine' w_not ?_
  | with_reducible refine' w_andV ?_
  | with_reducible refine' w_orV ?_
  | with_reducible refine' w_notV ?_
  | with_reducible refine' w_if ?_
  | with_reducible refine' w_chain ?_
  | with_reducible refine' w_exb ?_
  | with_reducible refine' w_add ?_
  | with_reducible refine' w_sub ?_
  | with_reducible refine' w_lt ?_
  | with_reducible refine' w_le ?_
  | with_reducible refine' w_gt ?_
  | with_reducible refine' w_ge ?_
  | ((with_reducible refine' w_mod ?h ?q); (case h => first | decide | omega))
  | ((with_reducible refine' w_fdiv ?h ?h2 ?q); (case h => first | decide | omega); (case h2 => first | decide | omega))
  | ((with_reducible refine' w_mulR ?h ?q); (case h => omega))
  | ((with_reducible refine' w_mulL ?h ?q); (case h => omega))
  | with_reducible refine' w_pow_6 ?_
  | with_reducible refine' w_pow_9 ?_
  | with_reducible refine' w_pow_12 ?_
  | with_reducible refine' w_pow_14 ?_
  | with_reducible refine' w_pow_15 ?_
  | with_reducible refine' w_pow_18 ?_
  | with_reducible refine' w_neg ?_
  | ((with_reducible refine' w_eq ?h ?q); (case h => exact rfl))
  | ((with_reducible refine' w_ne ?h ?q); (case h => exact rfl))
  | with_reducible refine' w_abs ?_
  | with_reducible refine' w_int ?_
  | with_reducible refine' w_max ?_
  | with_reducible refine' w_min ?_
  | with_reducible refine' w_count ?_
  | with_reducible refine' w_m1 ?_
  | with_reducible refine' w_bm ?_
  | with_reducible refine' w_listR3 ?_
  | with_reducible refine' w_exs ?_
  | with_reducible refine' w_inS ?_
  | with_reducible refine' w_notInS ?_
  | with_reducible refine' w_for ?_
  | with_reducible refine' w_while ?_
  | with_reducible refine' w_lc ?_
  | with_reducible refine' w_iTup ?_
  | with_reducible refine' w_iList ?_
  | with_reducible refine' w_iRng1 ?_
  | with_reducible refine' w_iRng2 ?_
  | with_reducible refine' w_gName ?_
  | with_reducible refine' w_tYes ?_
  | with_reducible refine' w_tupD ?_
  | with_reducible refine' w_tupF ?_
  | with_reducible refine' w_ltS ?_
  | with_reducible refine' w_leS ?_
  | with_reducible refine' w_dget ?_
  | with_reducible refine' w_dnotin ?_
  | with_reducible refine' w_sl ?_
  | with_reducible refine' w_part ?_
  | with_reducible refine' w_noPart ?_
  | with_reducible refine' w_some ?_
  | with_reducible refine' w_lstD ?_
  | with_reducible refine' w_revT ?_
  | with_reducible refine' w_par ?_
  )
local macro_rules | `(tactic| walk_at "go") => `(tactic| repeat (walk_at "go1"))

/-! ### the hand -/
def Hand (H : Hp) (h sc : Addr) : Prop := ∃ (ns : List Int) (i b m c : Int), H h = some (.lst [.ref sc, .int i, .int b, .int m, .int c]) ∧ H sc = some (.lst (ns.map V.int)) ∧ 0 ≤ i ∧ 0 ≤ b ∧ 0 ≤ m ∧ m < 2147483563
theorem Hand.ne {H : Hp} {h sc : Addr} {ns : List Int} {x y z u : V} (e : H h = some (.lst [.ref sc, x, y, z, u])) (e2 : H sc = some (.lst (ns.map V.int))) : sc ≠ h := by
  intro q
  rw [q, e] at e2
  cases ns with
  | nil => cases e2
  | cons n r => cases e2
theorem Hand.ex {H H' : Hp} {h sc : Addr} (e : Ex H H') (q : Hand H h sc) : Hand H' h sc := by
  obtain ⟨ns, i, b, m, c, h1, h2, r⟩ := q
  exact ⟨ns, i, b, m, c, e _ _ h1, e _ _ h2, r⟩
theorem Hand.upd {H : Hp} {h sc D : Addr} {o : HO} (q : Hand H h sc) (n1 : D ≠ h) (n2 : D ≠ sc) : Hand (upd H D o) h sc := by
  obtain ⟨ns, i, b, m, c, h1, h2, r⟩ := q
  exact ⟨ns, i, b, m, c, by rw [upd_ne n1.symm]; exact h1, by rw [upd_ne n2.symm]; exact h2, r⟩
theorem Hand.off {H : Hp} {h sc D : Addr} (q : Hand H h sc) (n : H D = none) : D ≠ h ∧ D ≠ sc := by
  obtain ⟨ns, i, b, m, c, h1, h2, r⟩ := q
  exact ⟨(ne_of_none h1 n).symm, (ne_of_none h2 n).symm⟩
/-- the hand's places change -/
theorem Xb.put {H : Hp} {h : Addr} {xs : List V} (e : H h = some (.lst xs)) (s : handSh (.lst xs) = true) (o : HO) : Xb H (L2.upd H h o) := ⟨fun a u q n => by
  by_cases z : a = h
  · subst z; rw [e] at q; cases q; rw [s] at n; cases n
  · rw [upd_ne z]; exact q, fun a n => (upd_free n).1⟩
theorem atI_ints {ns : List Int} {i : Int} (h0 : 0 ≤ i) (h1 : i < ns.length) : ∃ v : Int, atI (ns.map V.int) i = some (.int v) := by
  have h2 : i.toNat < ns.length := by omega
  refine ⟨ns[i.toNat], ?_⟩
  unfold atI ixN
  rw [if_pos h0, if_pos (by rw [List.length_map]; exact h1)]
  show (ns.map V.int)[i.toNat]? = _
  rw [List.getElem?_map, List.getElem?_eq_getElem h2]; rfl
def spHand (K : PySem.W.Frag) : Sp := fun vs H Q _ => ∃ (a : Addr) (ns : List Int), vs = [.ref a] ∧ SqL K H a (ns.map V.int) ∧ ∀ p sc H', H p = none → Ex H H' → Hand H' p sc → Q (.ref p) H'
def spDraw (lo hi : Int) : Sp := fun vs H Q _ => ∃ (h sc : Addr) (n : Int), vs = [.ref h, .int n] ∧ Hand H h sc ∧ lo ≤ n ∧ n ≤ hi ∧ ∀ (k : Int) H', 0 ≤ k → k < n → Hand H' h sc → Xb H H' → Q (.int k) H'

/-! ### pairs that stand in the heap -/
def kOf (H : Hp) (x : V) : Int × Int := match x with
  | .ref t => match H t with
    | some (.tup [.int a, .int b]) => (a, b)
    | _ => (0, 0)
  | _ => (0, 0)
def Prs (H : Hp) (vs : List V) : Prop := ∀ x ∈ vs, ∃ t, x = .ref t ∧ H t = some (.tup [.int (kOf H x).1, .int (kOf H x).2])
theorem kOf_at {H : Hp} {t : Addr} {a b : Int} (h : H t = some (.tup [.int a, .int b])) : kOf H (.ref t) = (a, b) := by
  unfold kOf
  simp only [h]
theorem Prs.kOf_eq {H H' : Hp} {vs : List V} (p : Prs H vs) (e : ∀ t xs, H t = some (.tup xs) → H' t = some (.tup xs)) : ∀ x ∈ vs, kOf H' x = kOf H x := fun x hx => by
  obtain ⟨t, rfl, h⟩ := p x hx
  rw [kOf_at (e _ _ h)]
theorem Prs.map_eq {H H' : Hp} {vs : List V} (p : Prs H vs) (e : ∀ t xs, H t = some (.tup xs) → H' t = some (.tup xs)) : vs.map (kOf H') = vs.map (kOf H) := List.map_congr_left fun x hx => p.kOf_eq e x hx
theorem Prs.mono {H H' : Hp} {vs : List V} (p : Prs H vs) (e : ∀ t xs, H t = some (.tup xs) → H' t = some (.tup xs)) : Prs H' vs := fun x hx => by
  have k := p.kOf_eq e x hx
  obtain ⟨t, rfl, h⟩ := p x hx
  exact ⟨t, rfl, by rw [k]; exact e _ _ h⟩
theorem Prs.rp {K : PySem.W.Frag} {H : Hp} : ∀ {vs : List V}, Prs H vs → RpAll K H vs ((vs.map (kOf H)).map encSpan)
  | [], _ => .nil
  | x :: vs, p => by
    obtain ⟨t, rfl, h⟩ := p _ (List.mem_cons_self ..)
    exact .cons (.tup (st_of h) (.cons (.int _) (.cons (.int _) .nil))) (Prs.rp fun y hy => p y (List.mem_cons_of_mem _ hy))
theorem Xb.tups {H H' : Hp} (e : Xb H H') : ∀ t xs, H t = some (.tup xs) → H' t = some (.tup xs) := fun _ _ h => e _ _ h rfl
theorem tups_upd {H : Hp} {l : Addr} {ys zs : List V} (h : H l = some (.lst ys)) : ∀ t xs, H t = some (.tup xs) → (upd H l (.lst zs)) t = some (.tup xs) := fun t xs ht => by
  rw [upd_ne (fun e => by rw [e, h] at ht; cases ht)]
  exact ht
theorem encSpan_eqv (s t : Int × Int) : PyData.eqv (encSpan s) (encSpan t) = decide (s = t) := by
  have e1 : PyData.eqv (encSpan s) (encSpan t) = ((s.1 == t.1) && ((s.2 == t.2) && true)) := by
    unfold encSpan
    simp only [PyData.eqv, PyData.eqvAll]
  rw [e1, Bool.eq_iff_iff]
  simp [Prod.ext_iff]
theorem canLay_spans : ∀ ss : List (Int × Int), PyData.canLayAll0 (ss.map encSpan) = true
  | [] => by simp [PyData.canLayAll0]
  | s :: ss => by
    rw [List.map_cons]
    simp only [PyData.canLayAll0, encSpan, PyData.canLay0, Bool.and_true, Bool.true_and]
    exact canLay_spans ss
theorem depth_spans : ∀ ss : List (Int × Int), PyData.depthAll (ss.map encSpan) ≤ 1
  | [] => by simp [PyData.depthAll]
  | s :: ss => by
    rw [List.map_cons]
    have := depth_spans ss
    simp only [PyData.depthAll, encSpan, PyData.depth]
    omega
theorem shaped_span (s : Int × Int) : SeqAt.shaped (encSpan s) = true := by
  unfold SeqAt.shaped encSpan
  simp [PyData.canLay0, PyData.canLayAll0, PyData.depth, PyData.depthAll]
theorem shaped_spans (ss : List (Int × Int)) : SeqAt.shaped (.list (ss.map encSpan)) = true := by
  unfold SeqAt.shaped
  have h1 := canLay_spans ss
  have h2 := depth_spans ss
  have e1 : PyData.canLay0 (.list (ss.map encSpan)) = PyData.canLayAll0 (ss.map encSpan) := by simp only [PyData.canLay0]
  have e2 : PyData.depth (.list (ss.map encSpan)) = PyData.depthAll (ss.map encSpan) + 1 := by simp only [PyData.depth]
  rw [e1, e2, h1, decide_eq_true (by omega)]
  rfl
theorem any_span (ss : List (Int × Int)) (s : Int × Int) : ((ss.map encSpan).any fun z => PyData.eqv z (encSpan s)) = decide (s ∈ ss) := by
  rw [List.any_map, Bool.eq_iff_iff, List.any_eq_true, decide_eq_true_eq]
  constructor
  · rintro ⟨t, ht, e⟩
    have := encSpan_eqv t s
    simp only [Function.comp] at e
    rw [this] at e
    rw [← of_decide_eq_true e]; exact ht
  · intro h
    refine ⟨s, h, ?_⟩
    simp only [Function.comp]
    rw [encSpan_eqv]
    exact decide_eq_true rfl
def spanOk (s : Int × Int) : Prop := -30 ≤ s.1 ∧ s.1 ≤ s.2 ∧ s.2 ≤ 30
theorem isSpan_enc {s : Int × Int} (h : spanOk s) : isSpan (encSpan s) = true := by
  obtain ⟨h1, h2, h3⟩ := h
  have e1 : s.1 ≤ 30 := by omega
  have e2 : -30 ≤ s.2 := by omega
  simp [isSpan, encSpan, isWhole, h1, h2, h3, e1]
theorem isSpans_of {ys : List (Int × Int)} (hl : ys.length ≤ 2) (ho : ∀ s ∈ ys, spanOk s) (hn : ys.Nodup) (hs : ys.Pairwise fun a b => SrtO.lexB b a = false) : isSpans (encSpans ys) = true := by
  unfold encSpans
  have h1 : (ys.map encSpan).all isSpan = true := by
    rw [List.all_eq_true]
    intro d hd
    obtain ⟨s, hs, rfl⟩ := List.mem_map.mp hd
    exact isSpan_enc (ho s hs)
  have h2 : risingD (ys.map encSpan) = true := by
    match ys, hl, hn, hs with
    | [], _, _, _ => rfl
    | [_], _, _, _ => rfl
    | [x, y], _, hn, hs =>
      have hxy : x ≠ y := by
        have := (List.nodup_cons.mp hn).1
        simpa using this
      have hq : SrtO.lexB y x = false := by
        have := (List.pairwise_cons.mp hs).1 y (by simp)
        exact this
      have hq2 := SrtO.lexB_no.mp hq
      show (lexD (encSpan x) (encSpan y) && true) = true
      rw [Bool.and_true]
      show HT.lexLt [x.1, x.2] [y.1, y.2] = true
      rw [HT.lexLt_cons, HT.lexLt_cons, HT.lexLt_nil_nil]
      by_cases a : x.1 = y.1
      · rw [if_pos a]
        by_cases b : x.2 = y.2
        · exact absurd (Prod.ext a b) hxy
        · rw [if_neg b]
          exact decide_eq_true (by omega)
      · rw [if_neg a]
        exact decide_eq_true (by omega)
    | _ :: _ :: _ :: _, hl, _, _ => simp at hl
  simp only [isSpans, h1, h2, Bool.and_true, decide_eq_true_eq, List.length_map]
  omega
def spLawSpans (K : PySem.W.Frag) : Sp := fun vs H Q _ => ∃ h sc, vs = [.ref h] ∧ Hand H h sc ∧ ∀ v ss H', Hand H' h sc → Xb H H' → Rp K H' v (encSpans ss) → isSpans (encSpans ss) = true → Q v H'
def spLawCal (K : PySem.W.Frag) : Sp := fun vs H Q _ => ∃ h sc, vs = [.ref h] ∧ Hand H h sc ∧ ∀ v c H', Hand H' h sc → Xb H H' → Rp K H' v (encCal c) → c.Ok → Q v H'
section
variable {P : Program} {w : World} {K : PySem.W.Frag} {mg : Str → Option Value} {base : Heap} {ad : Nat → Addr} {fdd : Nat → FuncData}
theorem ok_law_hand (T : Tx K mg ad fdd) : FnOk P w K mg base CX0 1 (ad 47) (fdd 47) ["_law_script"] (spHand K) := by
  refine T.F_law_hand.ok sc_law_hand (fun vs H Q E h => ?_) (fun cdv A outer s H vs Q E hr h => ?_)
  · obtain ⟨a, ns, rfl, _⟩ := h
    rfl
  · obtain ⟨a, ns, rfl, hs, q⟩ := h
    refine ⟨_, (pss_one (ps_ret (pe_lst (pa_cons (pe_callTy (show CallR _ _ (rListOf K) from c_listOf) (by rfl) T.m_list (by decide +kernel) (pa_cons (pv 0) pa_nil)) (pa_cons pe_int (pa_cons pe_int (pa_cons pe_int (pa_cons pe_int pa_nil)))))))), ?_⟩
    dsimp only [L2.start, N_law_hand, cxOf, Cx.nox, Cx.wish]
    walk_at "go"
    refine w_listL hs fun l H2 nl e2 hl _ => ?_
    walk_at "go"
    refine w_new (by exact Nat.le_of_ble_eq_true rfl) fun p H3 np e3 hp _ => ?_
    exact q p l H3 (fresh_back e2 np) (e2.trans e3) ⟨ns, 0, 0, 0, 0, hp, e3 _ _ hl, by decide, by decide, by decide, by decide⟩
theorem ok_law_draw (T : Tx K mg ad fdd) : FnOk P w K mg base CX0 1 (ad 48) (fdd 48) ["_law_hand_here", "_law_size"] (spDraw 1 1000000) := by
  refine T.F_law_draw.ok sc_law_draw (fun vs H Q E h => ?_) (fun cdv A outer s H vs Q E hr h => ?_)
  · obtain ⟨a, sc, n, rfl, _⟩ := h
    rfl
  · obtain ⟨a, sc, n, rfl, ⟨ns, i, b, m, c, h1, h2, hi, hb, hm0, hm1⟩, hn0, hn1, q⟩ := h
    have hsc : sc ≠ a := Hand.ne h1 h2
    refine ⟨_, (pss_cons (ps_if (pt_cmpR op_gt (pe_ix (show IxR _ (rIxL K) from ix_list) (pv 0) pe_int (fun _ _ => rfl)) pe_int (nomark _))
    (pss_cons (ps_set (i := 2) sc_law_draw.nd rfl (by first | exact Or.inl rfl | exact Or.inr rfl) (pe_op op_mod (pe_callTy c_int (by rfl) T.m_int (by decide +kernel) (pa_cons (pe_ix (show IxR _ (rIxL K) from ix_list) (pv 0) pe_int (fun _ _ => rfl)) pa_nil)) (pv 1)))
    (pss_cons (ps_asg (pe_op op_fdivW (pe_ix (show IxR _ (rIxL K) from ix_list) (pv 0) pe_int (fun _ _ => rfl)) (pv 1)) (pg_sub (pv 0) pe_int set_list))
    (pss_one (ps_ret (pv 2)))))
    pss_nil)
    (pss_cons (ps_set (i := 3) sc_law_draw.nd rfl (by first | exact Or.inl rfl | exact Or.inr rfl) pe_int)
    (pss_cons (ps_if (pt_cmpR op_lt (pe_ix (show IxR _ (rIxL K) from ix_list) (pv 0) pe_int (fun _ _ => rfl)) (pe_callB (show CallR _ _ (rLen K) from c_len) (by rfl) T.m_len (by decide +kernel) (pa_cons (pe_ix (show IxR _ (rIxL K) from ix_list) (pv 0) pe_int (fun _ _ => rfl)) pa_nil)) (nomark _))
    (pss_cons (ps_set (i := 3) sc_law_draw.nd rfl (by first | exact Or.inl rfl | exact Or.inr rfl) (pe_ix ix_list (pe_ix ix_list (pv 0) pe_int (fun _ _ => rfl)) (pe_ix ix_list (pv 0) pe_int (fun _ _ => rfl)) (fun _ _ => rfl)))
    (pss_one (ps_asg (pe_op op_add (pe_ix (show IxR _ (rIxL K) from ix_list) (pv 0) pe_int (fun _ _ => rfl)) pe_int) (pg_sub (pv 0) pe_int set_list))))
    pss_nil)
    (pss_cons (ps_if (pt_cmpR op_ge (pe_callB c_abs (by rfl) T.m_abs (by decide +kernel) (pa_cons (pv 3) pa_nil)) (pe_op op_pow pe_int pe_int) (nomark _))
    (pss_cons (ps_asg (pe_op op_fdivW (pe_callB c_abs (by rfl) T.m_abs (by decide +kernel) (pa_cons (pv 3) pa_nil)) (pv 1)) (pg_sub (pv 0) pe_int set_list))
    (pss_one (ps_ret (pe_op op_mod (pe_callTy c_int (by rfl) T.m_int (by decide +kernel) (pa_cons (pe_callB c_abs (by rfl) T.m_abs (by decide +kernel) (pa_cons (pv 3) pa_nil)) pa_nil)) (pv 1)))))
    pss_nil)
    (pss_cons (ps_asg (pe_op op_add (pe_ix (show IxR _ (rIxL K) from ix_list) (pv 0) pe_int (fun _ _ => rfl)) pe_int) (pg_sub (pv 0) pe_int set_list))
    (pss_cons (ps_set (i := 4) sc_law_draw.nd rfl (by first | exact Or.inl rfl | exact Or.inr rfl) (pe_op op_mod (pe_callTy c_int (by rfl) T.m_int (by decide +kernel) (pa_cons (pe_op op_add (pe_op op_add (pe_op op_add (pe_op op_mul (pe_ix (show IxR _ (rIxL K) from ix_list) (pv 0) pe_int (fun _ _ => rfl)) pe_int) (pe_op op_mul (pv 3) pe_int)) (pe_op op_mul (pe_ix (show IxR _ (rIxL K) from ix_list) (pv 0) pe_int (fun _ _ => rfl)) pe_int)) pe_int) pa_nil)) pe_int))
    (pss_cons (ps_set (i := 4) sc_law_draw.nd rfl (by first | exact Or.inl rfl | exact Or.inr rfl) (pe_op op_mod (pe_callTy c_int (by rfl) T.m_int (by decide +kernel) (pa_cons (pe_op op_add (pe_op op_mul (pe_op op_mod (pe_op op_mul (pv 4) (pv 4)) pe_int) (pv 4)) (pv 3)) pa_nil)) pe_int))
    (pss_cons (ps_asg (pv 4) (pg_sub (pv 0) pe_int set_list))
    (pss_cons (ps_if (pt_cmpR op_gt (pv 1) (pe_op op_pow pe_int pe_int) (nomark _))
    (pss_one ps_never)
    pss_nil)
    (pss_one (ps_ret (pe_op op_mod (pe_op op_fdivW (pv 4) pe_int) (pv 1))))))))))))), ?_⟩
    dsimp only [L2.start, N_law_draw, cxOf, Cx.nox, Cx.wish]
    walk_at "go"
    refine w_ixL (sq_of h1) rfl ?_
    walk_at "go"
    refine w_dec (fun c0 => ?_) (fun c0 => ?_)
    · walk_at "go"
      refine w_ixL (sq_of h1) rfl ?_
      walk_at "go"
      refine w_ixL (sq_of h1) rfl ?_
      walk_at "go"
      refine w_setL h1 rfl ?_
      walk_at "go"
      refine q _ _ (Int.emod_nonneg _ (by omega)) (Int.emod_lt_of_pos _ (by omega)) ⟨ns, i, b / n, m, c, upd_same, ?_, hi, Int.ediv_nonneg hb (by omega), hm0, hm1⟩ (Xb.put h1 rfl _)
      rw [upd_ne hsc]; exact h2
    · walk_at "go"
      refine w_ixL (sq_of h1) rfl ?_
      walk_at "go"
      refine w_ixL (sq_of h1) rfl ?_
      walk_at "go"
      refine w_lenL (sq_of h2) ?_
      walk_at "go"
      refine w_dec (fun c1 => ?_) (fun c1 => ?_)
      · walk_at "go"
        refine w_ixL (sq_of h1) rfl ?_
        walk_at "go"
        refine w_ixL (sq_of h1) rfl ?_
        walk_at "go"
        obtain ⟨v, hv⟩ := atI_ints (ns := ns) hi (by simpa using c1)
        refine w_ixL (sq_of h2) hv ?_
        walk_at "go"
        refine w_ixL (sq_of h1) rfl ?_
        walk_at "go"
        refine w_setL h1 rfl ?_
        have e1 := Xb.put h1 rfl (.lst [.ref sc, .int (i + 1), .int b, .int m, .int c])
        have a1 : upd H a (.lst [.ref sc, .int (i + 1), .int b, .int m, .int c]) a = _ := upd_same
        have a2 : upd H a (.lst [.ref sc, .int (i + 1), .int b, .int m, .int c]) sc = some (.lst (ns.map V.int)) := by rw [upd_ne hsc]; exact h2
        have hi' : 0 ≤ i + 1 := by omega
        walk_at "go"
        refine w_dec (fun c2 => ?_) (fun c2 => ?_)
        · walk_at "go"
          refine w_setL a1 rfl ?_
          walk_at "go"
          refine q _ _ (Int.emod_nonneg _ (by omega)) (Int.emod_lt_of_pos _ (by omega)) ⟨ns, _, _, m, c, upd_same, ?_, hi', Int.ediv_nonneg ?_ (by omega), hm0, hm1⟩ (e1.trans (Xb.put a1 rfl _))
          · rw [upd_ne hsc]; exact a2
          · omega
        · walk_at "go"
          refine w_ixL (sq_of a1) rfl ?_
          walk_at "go"
          refine w_setL a1 rfl ?_
          walk_at "go"
          refine w_ixL (sq_of upd_same) rfl ?_
          walk_at "go"
          refine w_ixL (sq_of upd_same) rfl ?_
          walk_at "go"
          generalize hM1 : (m * 40014 + v * 69069 + (c + 1) * 22193 + 7919) % 2147483563 = M1
          have hM1a : 0 ≤ M1 := by omega
          have hM1b : M1 < 2147483563 := by omega
          walk_at "go"
          generalize hM2 : (M1 * M1 % 2147483399 * M1 + v) % 2147483399 = M2
          have hM2a : 0 ≤ M2 := by omega
          have hM2b : M2 < 2147483399 := by omega
          refine w_setL upd_same rfl ?_
          walk_at "go"
          refine w_dec (fun c3 => absurd c3 (by omega)) (fun _ => ?_)
          walk_at "go"
          refine q _ _ (Int.emod_nonneg _ (by omega)) (Int.emod_lt_of_pos _ (by omega)) ⟨ns, _, b, M2, c + 1, upd_same, ?_, hi', hb, hM2a, by omega⟩ ((e1.trans (Xb.put a1 rfl _)).trans (Xb.put upd_same rfl _))
          rw [upd_ne hsc, upd_ne hsc]; exact a2
      · have e1 := Xb.refl H
        have a1 := h1
        have a2 := h2
        have hi' := hi
        walk_at "go"
        refine w_dec (fun c2 => ?_) (fun c2 => ?_)
        · walk_at "go"
          refine w_setL a1 rfl ?_
          walk_at "go"
          refine q _ _ (Int.emod_nonneg _ (by omega)) (Int.emod_lt_of_pos _ (by omega)) ⟨ns, _, _, m, c, upd_same, ?_, hi', Int.ediv_nonneg ?_ (by omega), hm0, hm1⟩ (e1.trans (Xb.put a1 rfl _))
          · rw [upd_ne hsc]; exact a2
          · omega
        · walk_at "go"
          refine w_ixL (sq_of a1) rfl ?_
          walk_at "go"
          refine w_setL a1 rfl ?_
          walk_at "go"
          refine w_ixL (sq_of upd_same) rfl ?_
          walk_at "go"
          refine w_ixL (sq_of upd_same) rfl ?_
          walk_at "go"
          generalize hM1 : (m * 40014 + 0 * 69069 + (c + 1) * 22193 + 7919) % 2147483563 = M1
          have hM1a : 0 ≤ M1 := by omega
          have hM1b : M1 < 2147483563 := by omega
          walk_at "go"
          generalize hM2 : (M1 * M1 % 2147483399 * M1 + 0) % 2147483399 = M2
          have hM2a : 0 ≤ M2 := by omega
          have hM2b : M2 < 2147483399 := by omega
          refine w_setL upd_same rfl ?_
          walk_at "go"
          refine w_dec (fun c3 => absurd c3 (by omega)) (fun _ => ?_)
          walk_at "go"
          refine q _ _ (Int.emod_nonneg _ (by omega)) (Int.emod_lt_of_pos _ (by omega)) ⟨ns, _, b, M2, c + 1, upd_same, ?_, hi', hb, hM2a, by omega⟩ ((e1.trans (Xb.put a1 rfl _)).trans (Xb.put upd_same rfl _))
          rw [upd_ne hsc, upd_ne hsc]; exact a2
theorem ok_law_drawB (T : Tx K mg ad fdd) (G_law_draw : FnOk P w K mg base CX0 1 (ad 48) (fdd 48) ["_law_hand_here", "_law_size"] (spDraw 1 1000000)) : FnOk P w K mg base CX0 2 (ad 48) (fdd 48) ["_law_hand_here", "_law_size"] (spDraw 1 900000000000) := by
  refine T.F_law_draw.ok sc_law_draw (fun vs H Q E h => ?_) (fun cdv A outer s H vs Q E hr h => ?_)
  · obtain ⟨a, sc, n, rfl, _⟩ := h
    rfl
  · obtain ⟨a, sc, n, rfl, ⟨ns, i, b, m, c, h1, h2, hi, hb, hm0, hm1⟩, hn0, hn1, q⟩ := h
    have hsc : sc ≠ a := Hand.ne h1 h2
    refine ⟨_, (pss_cons (ps_if (pt_cmpR op_gt (pe_ix (show IxR _ (rIxL K) from ix_list) (pv 0) pe_int (fun _ _ => rfl)) pe_int (nomark _))
    (pss_cons (ps_set (i := 2) sc_law_draw.nd rfl (by first | exact Or.inl rfl | exact Or.inr rfl) (pe_op op_mod (pe_callTy c_int (by rfl) T.m_int (by decide +kernel) (pa_cons (pe_ix (show IxR _ (rIxL K) from ix_list) (pv 0) pe_int (fun _ _ => rfl)) pa_nil)) (pv 1)))
    (pss_cons (ps_asg (pe_op op_fdivW (pe_ix (show IxR _ (rIxL K) from ix_list) (pv 0) pe_int (fun _ _ => rfl)) (pv 1)) (pg_sub (pv 0) pe_int set_list))
    (pss_one (ps_ret (pv 2)))))
    pss_nil)
    (pss_cons (ps_set (i := 3) sc_law_draw.nd rfl (by first | exact Or.inl rfl | exact Or.inr rfl) pe_int)
    (pss_cons (ps_if (pt_cmpR op_lt (pe_ix (show IxR _ (rIxL K) from ix_list) (pv 0) pe_int (fun _ _ => rfl)) (pe_callB (show CallR _ _ (rLen K) from c_len) (by rfl) T.m_len (by decide +kernel) (pa_cons (pe_ix (show IxR _ (rIxL K) from ix_list) (pv 0) pe_int (fun _ _ => rfl)) pa_nil)) (nomark _))
    (pss_cons (ps_set (i := 3) sc_law_draw.nd rfl (by first | exact Or.inl rfl | exact Or.inr rfl) (pe_ix ix_list (pe_ix ix_list (pv 0) pe_int (fun _ _ => rfl)) (pe_ix ix_list (pv 0) pe_int (fun _ _ => rfl)) (fun _ _ => rfl)))
    (pss_one (ps_asg (pe_op op_add (pe_ix (show IxR _ (rIxL K) from ix_list) (pv 0) pe_int (fun _ _ => rfl)) pe_int) (pg_sub (pv 0) pe_int set_list))))
    pss_nil)
    (pss_cons (ps_if (pt_cmpR op_ge (pe_callB c_abs (by rfl) T.m_abs (by decide +kernel) (pa_cons (pv 3) pa_nil)) (pe_op op_pow pe_int pe_int) (nomark _))
    (pss_cons (ps_asg (pe_op op_fdivW (pe_callB c_abs (by rfl) T.m_abs (by decide +kernel) (pa_cons (pv 3) pa_nil)) (pv 1)) (pg_sub (pv 0) pe_int set_list))
    (pss_one (ps_ret (pe_op op_mod (pe_callTy c_int (by rfl) T.m_int (by decide +kernel) (pa_cons (pe_callB c_abs (by rfl) T.m_abs (by decide +kernel) (pa_cons (pv 3) pa_nil)) pa_nil)) (pv 1)))))
    pss_nil)
    (pss_cons (ps_asg (pe_op op_add (pe_ix (show IxR _ (rIxL K) from ix_list) (pv 0) pe_int (fun _ _ => rfl)) pe_int) (pg_sub (pv 0) pe_int set_list))
    (pss_cons (ps_set (i := 4) sc_law_draw.nd rfl (by first | exact Or.inl rfl | exact Or.inr rfl) (pe_op op_mod (pe_callTy c_int (by rfl) T.m_int (by decide +kernel) (pa_cons (pe_op op_add (pe_op op_add (pe_op op_add (pe_op op_mul (pe_ix (show IxR _ (rIxL K) from ix_list) (pv 0) pe_int (fun _ _ => rfl)) pe_int) (pe_op op_mul (pv 3) pe_int)) (pe_op op_mul (pe_ix (show IxR _ (rIxL K) from ix_list) (pv 0) pe_int (fun _ _ => rfl)) pe_int)) pe_int) pa_nil)) pe_int))
    (pss_cons (ps_set (i := 4) sc_law_draw.nd rfl (by first | exact Or.inl rfl | exact Or.inr rfl) (pe_op op_mod (pe_callTy c_int (by rfl) T.m_int (by decide +kernel) (pa_cons (pe_op op_add (pe_op op_mul (pe_op op_mod (pe_op op_mul (pv 4) (pv 4)) pe_int) (pv 4)) (pv 3)) pa_nil)) pe_int))
    (pss_cons (ps_asg (pv 4) (pg_sub (pv 0) pe_int set_list))
    (pss_cons (ps_if (pt_cmpR op_gt (pv 1) (pe_op op_pow pe_int pe_int) (nomark _))
    (pss_one (ps_ret (pe_op op_mod (pe_callTy c_int (by rfl) T.m_int (by decide +kernel) (pa_cons (pe_op op_add (pe_op op_mod (pe_op op_fdivW (pv 4) pe_int) (pe_op op_pow pe_int pe_int)) (pe_op op_mul (pe_op op_pow pe_int pe_int) (pe_call G_law_draw (hr.mono (by decide)) (by rfl) T.g_law_draw T.F_law_draw.kp T.b_law_draw .nil pass0 (pa_cons (pv 0) (pa_cons (pe_op op_add (pe_op op_fdivW (pv 1) (pe_op op_pow pe_int pe_int)) pe_int) pa_nil))))) pa_nil)) (pv 1))))
    pss_nil)
    (pss_one (ps_ret (pe_op op_mod (pe_op op_fdivW (pv 4) pe_int) (pv 1))))))))))))), ?_⟩
    dsimp only [L2.start, N_law_draw, cxOf, Cx.nox, Cx.wish]
    walk_at "go"
    refine w_ixL (sq_of h1) rfl ?_
    walk_at "go"
    refine w_dec (fun c0 => ?_) (fun c0 => ?_)
    · walk_at "go"
      refine w_ixL (sq_of h1) rfl ?_
      walk_at "go"
      refine w_ixL (sq_of h1) rfl ?_
      walk_at "go"
      refine w_setL h1 rfl ?_
      walk_at "go"
      refine q _ _ (Int.emod_nonneg _ (by omega)) (Int.emod_lt_of_pos _ (by omega)) ⟨ns, i, b / n, m, c, upd_same, ?_, hi, Int.ediv_nonneg hb (by omega), hm0, hm1⟩ (Xb.put h1 rfl _)
      rw [upd_ne hsc]; exact h2
    · walk_at "go"
      refine w_ixL (sq_of h1) rfl ?_
      walk_at "go"
      refine w_ixL (sq_of h1) rfl ?_
      walk_at "go"
      refine w_lenL (sq_of h2) ?_
      walk_at "go"
      refine w_dec (fun c1 => ?_) (fun c1 => ?_)
      · walk_at "go"
        refine w_ixL (sq_of h1) rfl ?_
        walk_at "go"
        refine w_ixL (sq_of h1) rfl ?_
        walk_at "go"
        obtain ⟨v, hv⟩ := atI_ints (ns := ns) hi (by simpa using c1)
        refine w_ixL (sq_of h2) hv ?_
        walk_at "go"
        refine w_ixL (sq_of h1) rfl ?_
        walk_at "go"
        refine w_setL h1 rfl ?_
        have e1 := Xb.put h1 rfl (.lst [.ref sc, .int (i + 1), .int b, .int m, .int c])
        have a1 : upd H a (.lst [.ref sc, .int (i + 1), .int b, .int m, .int c]) a = _ := upd_same
        have a2 : upd H a (.lst [.ref sc, .int (i + 1), .int b, .int m, .int c]) sc = some (.lst (ns.map V.int)) := by rw [upd_ne hsc]; exact h2
        have hi' : 0 ≤ i + 1 := by omega
        walk_at "go"
        refine w_dec (fun c2 => ?_) (fun c2 => ?_)
        · walk_at "go"
          refine w_setL a1 rfl ?_
          walk_at "go"
          refine q _ _ (Int.emod_nonneg _ (by omega)) (Int.emod_lt_of_pos _ (by omega)) ⟨ns, _, _, m, c, upd_same, ?_, hi', Int.ediv_nonneg ?_ (by omega), hm0, hm1⟩ (e1.trans (Xb.put a1 rfl _))
          · rw [upd_ne hsc]; exact a2
          · omega
        · walk_at "go"
          refine w_ixL (sq_of a1) rfl ?_
          walk_at "go"
          refine w_setL a1 rfl ?_
          walk_at "go"
          refine w_ixL (sq_of upd_same) rfl ?_
          walk_at "go"
          refine w_ixL (sq_of upd_same) rfl ?_
          walk_at "go"
          generalize hM1 : (m * 40014 + v * 69069 + (c + 1) * 22193 + 7919) % 2147483563 = M1
          have hM1a : 0 ≤ M1 := by omega
          have hM1b : M1 < 2147483563 := by omega
          walk_at "go"
          generalize hM2 : (M1 * M1 % 2147483399 * M1 + v) % 2147483399 = M2
          have hM2a : 0 ≤ M2 := by omega
          have hM2b : M2 < 2147483399 := by omega
          refine w_setL upd_same rfl ?_
          walk_at "go"
          refine w_dec (fun c3 => ?_) (fun _ => ?_)
          · walk_at "go"
            refine ⟨_, sc, n / 1000000 + 1, rfl, ⟨ns, _, b, M2, c + 1, upd_same, ?_, hi', hb, hM2a, by omega⟩, by omega, by omega, fun k9 H9 k90 k91 hh9 e9 => ?_⟩
            · rw [upd_ne hsc, upd_ne hsc]; exact a2
            walk_at "go"
            exact q _ _ (Int.emod_nonneg _ (by omega)) (Int.emod_lt_of_pos _ (by omega)) hh9 (((e1.trans (Xb.put a1 rfl _)).trans (Xb.put upd_same rfl _)).trans e9)
          walk_at "go"
          refine q _ _ (Int.emod_nonneg _ (by omega)) (Int.emod_lt_of_pos _ (by omega)) ⟨ns, _, b, M2, c + 1, upd_same, ?_, hi', hb, hM2a, by omega⟩ ((e1.trans (Xb.put a1 rfl _)).trans (Xb.put upd_same rfl _))
          rw [upd_ne hsc, upd_ne hsc]; exact a2
      · have e1 := Xb.refl H
        have a1 := h1
        have a2 := h2
        have hi' := hi
        walk_at "go"
        refine w_dec (fun c2 => ?_) (fun c2 => ?_)
        · walk_at "go"
          refine w_setL a1 rfl ?_
          walk_at "go"
          refine q _ _ (Int.emod_nonneg _ (by omega)) (Int.emod_lt_of_pos _ (by omega)) ⟨ns, _, _, m, c, upd_same, ?_, hi', Int.ediv_nonneg ?_ (by omega), hm0, hm1⟩ (e1.trans (Xb.put a1 rfl _))
          · rw [upd_ne hsc]; exact a2
          · omega
        · walk_at "go"
          refine w_ixL (sq_of a1) rfl ?_
          walk_at "go"
          refine w_setL a1 rfl ?_
          walk_at "go"
          refine w_ixL (sq_of upd_same) rfl ?_
          walk_at "go"
          refine w_ixL (sq_of upd_same) rfl ?_
          walk_at "go"
          generalize hM1 : (m * 40014 + 0 * 69069 + (c + 1) * 22193 + 7919) % 2147483563 = M1
          have hM1a : 0 ≤ M1 := by omega
          have hM1b : M1 < 2147483563 := by omega
          walk_at "go"
          generalize hM2 : (M1 * M1 % 2147483399 * M1 + 0) % 2147483399 = M2
          have hM2a : 0 ≤ M2 := by omega
          have hM2b : M2 < 2147483399 := by omega
          refine w_setL upd_same rfl ?_
          walk_at "go"
          refine w_dec (fun c3 => ?_) (fun _ => ?_)
          · walk_at "go"
            refine ⟨_, sc, n / 1000000 + 1, rfl, ⟨ns, _, b, M2, c + 1, upd_same, ?_, hi', hb, hM2a, by omega⟩, by omega, by omega, fun k9 H9 k90 k91 hh9 e9 => ?_⟩
            · rw [upd_ne hsc, upd_ne hsc]; exact a2
            walk_at "go"
            exact q _ _ (Int.emod_nonneg _ (by omega)) (Int.emod_lt_of_pos _ (by omega)) hh9 (((e1.trans (Xb.put a1 rfl _)).trans (Xb.put upd_same rfl _)).trans e9)
          walk_at "go"
          refine q _ _ (Int.emod_nonneg _ (by omega)) (Int.emod_lt_of_pos _ (by omega)) ⟨ns, _, b, M2, c + 1, upd_same, ?_, hi', hb, hM2a, by omega⟩ ((e1.trans (Xb.put a1 rfl _)).trans (Xb.put upd_same rfl _))
          rw [upd_ne hsc, upd_ne hsc]; exact a2
theorem ok_law_drawC (T : Tx K mg ad fdd) (G_law_draw : FnOk P w K mg base CX0 2 (ad 48) (fdd 48) ["_law_hand_here", "_law_size"] (spDraw 1 900000000000)) : FnOk P w K mg base CX0 3 (ad 48) (fdd 48) ["_law_hand_here", "_law_size"] (spDraw 1 800000000000000000) := by
  refine T.F_law_draw.ok sc_law_draw (fun vs H Q E h => ?_) (fun cdv A outer s H vs Q E hr h => ?_)
  · obtain ⟨a, sc, n, rfl, _⟩ := h
    rfl
  · obtain ⟨a, sc, n, rfl, ⟨ns, i, b, m, c, h1, h2, hi, hb, hm0, hm1⟩, hn0, hn1, q⟩ := h
    have hsc : sc ≠ a := Hand.ne h1 h2
    refine ⟨_, (pss_cons (ps_if (pt_cmpR op_gt (pe_ix (show IxR _ (rIxL K) from ix_list) (pv 0) pe_int (fun _ _ => rfl)) pe_int (nomark _))
    (pss_cons (ps_set (i := 2) sc_law_draw.nd rfl (by first | exact Or.inl rfl | exact Or.inr rfl) (pe_op op_mod (pe_callTy c_int (by rfl) T.m_int (by decide +kernel) (pa_cons (pe_ix (show IxR _ (rIxL K) from ix_list) (pv 0) pe_int (fun _ _ => rfl)) pa_nil)) (pv 1)))
    (pss_cons (ps_asg (pe_op op_fdivW (pe_ix (show IxR _ (rIxL K) from ix_list) (pv 0) pe_int (fun _ _ => rfl)) (pv 1)) (pg_sub (pv 0) pe_int set_list))
    (pss_one (ps_ret (pv 2)))))
    pss_nil)
    (pss_cons (ps_set (i := 3) sc_law_draw.nd rfl (by first | exact Or.inl rfl | exact Or.inr rfl) pe_int)
    (pss_cons (ps_if (pt_cmpR op_lt (pe_ix (show IxR _ (rIxL K) from ix_list) (pv 0) pe_int (fun _ _ => rfl)) (pe_callB (show CallR _ _ (rLen K) from c_len) (by rfl) T.m_len (by decide +kernel) (pa_cons (pe_ix (show IxR _ (rIxL K) from ix_list) (pv 0) pe_int (fun _ _ => rfl)) pa_nil)) (nomark _))
    (pss_cons (ps_set (i := 3) sc_law_draw.nd rfl (by first | exact Or.inl rfl | exact Or.inr rfl) (pe_ix ix_list (pe_ix ix_list (pv 0) pe_int (fun _ _ => rfl)) (pe_ix ix_list (pv 0) pe_int (fun _ _ => rfl)) (fun _ _ => rfl)))
    (pss_one (ps_asg (pe_op op_add (pe_ix (show IxR _ (rIxL K) from ix_list) (pv 0) pe_int (fun _ _ => rfl)) pe_int) (pg_sub (pv 0) pe_int set_list))))
    pss_nil)
    (pss_cons (ps_if (pt_cmpR op_ge (pe_callB c_abs (by rfl) T.m_abs (by decide +kernel) (pa_cons (pv 3) pa_nil)) (pe_op op_pow pe_int pe_int) (nomark _))
    (pss_cons (ps_asg (pe_op op_fdivW (pe_callB c_abs (by rfl) T.m_abs (by decide +kernel) (pa_cons (pv 3) pa_nil)) (pv 1)) (pg_sub (pv 0) pe_int set_list))
    (pss_one (ps_ret (pe_op op_mod (pe_callTy c_int (by rfl) T.m_int (by decide +kernel) (pa_cons (pe_callB c_abs (by rfl) T.m_abs (by decide +kernel) (pa_cons (pv 3) pa_nil)) pa_nil)) (pv 1)))))
    pss_nil)
    (pss_cons (ps_asg (pe_op op_add (pe_ix (show IxR _ (rIxL K) from ix_list) (pv 0) pe_int (fun _ _ => rfl)) pe_int) (pg_sub (pv 0) pe_int set_list))
    (pss_cons (ps_set (i := 4) sc_law_draw.nd rfl (by first | exact Or.inl rfl | exact Or.inr rfl) (pe_op op_mod (pe_callTy c_int (by rfl) T.m_int (by decide +kernel) (pa_cons (pe_op op_add (pe_op op_add (pe_op op_add (pe_op op_mul (pe_ix (show IxR _ (rIxL K) from ix_list) (pv 0) pe_int (fun _ _ => rfl)) pe_int) (pe_op op_mul (pv 3) pe_int)) (pe_op op_mul (pe_ix (show IxR _ (rIxL K) from ix_list) (pv 0) pe_int (fun _ _ => rfl)) pe_int)) pe_int) pa_nil)) pe_int))
    (pss_cons (ps_set (i := 4) sc_law_draw.nd rfl (by first | exact Or.inl rfl | exact Or.inr rfl) (pe_op op_mod (pe_callTy c_int (by rfl) T.m_int (by decide +kernel) (pa_cons (pe_op op_add (pe_op op_mul (pe_op op_mod (pe_op op_mul (pv 4) (pv 4)) pe_int) (pv 4)) (pv 3)) pa_nil)) pe_int))
    (pss_cons (ps_asg (pv 4) (pg_sub (pv 0) pe_int set_list))
    (pss_cons (ps_if (pt_cmpR op_gt (pv 1) (pe_op op_pow pe_int pe_int) (nomark _))
    (pss_one (ps_ret (pe_op op_mod (pe_callTy c_int (by rfl) T.m_int (by decide +kernel) (pa_cons (pe_op op_add (pe_op op_mod (pe_op op_fdivW (pv 4) pe_int) (pe_op op_pow pe_int pe_int)) (pe_op op_mul (pe_op op_pow pe_int pe_int) (pe_call G_law_draw (hr.mono (by decide)) (by rfl) T.g_law_draw T.F_law_draw.kp T.b_law_draw .nil pass0 (pa_cons (pv 0) (pa_cons (pe_op op_add (pe_op op_fdivW (pv 1) (pe_op op_pow pe_int pe_int)) pe_int) pa_nil))))) pa_nil)) (pv 1))))
    pss_nil)
    (pss_one (ps_ret (pe_op op_mod (pe_op op_fdivW (pv 4) pe_int) (pv 1))))))))))))), ?_⟩
    dsimp only [L2.start, N_law_draw, cxOf, Cx.nox, Cx.wish]
    walk_at "go"
    refine w_ixL (sq_of h1) rfl ?_
    walk_at "go"
    refine w_dec (fun c0 => ?_) (fun c0 => ?_)
    · walk_at "go"
      refine w_ixL (sq_of h1) rfl ?_
      walk_at "go"
      refine w_ixL (sq_of h1) rfl ?_
      walk_at "go"
      refine w_setL h1 rfl ?_
      walk_at "go"
      refine q _ _ (Int.emod_nonneg _ (by omega)) (Int.emod_lt_of_pos _ (by omega)) ⟨ns, i, b / n, m, c, upd_same, ?_, hi, Int.ediv_nonneg hb (by omega), hm0, hm1⟩ (Xb.put h1 rfl _)
      rw [upd_ne hsc]; exact h2
    · walk_at "go"
      refine w_ixL (sq_of h1) rfl ?_
      walk_at "go"
      refine w_ixL (sq_of h1) rfl ?_
      walk_at "go"
      refine w_lenL (sq_of h2) ?_
      walk_at "go"
      refine w_dec (fun c1 => ?_) (fun c1 => ?_)
      · walk_at "go"
        refine w_ixL (sq_of h1) rfl ?_
        walk_at "go"
        refine w_ixL (sq_of h1) rfl ?_
        walk_at "go"
        obtain ⟨v, hv⟩ := atI_ints (ns := ns) hi (by simpa using c1)
        refine w_ixL (sq_of h2) hv ?_
        walk_at "go"
        refine w_ixL (sq_of h1) rfl ?_
        walk_at "go"
        refine w_setL h1 rfl ?_
        have e1 := Xb.put h1 rfl (.lst [.ref sc, .int (i + 1), .int b, .int m, .int c])
        have a1 : upd H a (.lst [.ref sc, .int (i + 1), .int b, .int m, .int c]) a = _ := upd_same
        have a2 : upd H a (.lst [.ref sc, .int (i + 1), .int b, .int m, .int c]) sc = some (.lst (ns.map V.int)) := by rw [upd_ne hsc]; exact h2
        have hi' : 0 ≤ i + 1 := by omega
        walk_at "go"
        refine w_dec (fun c2 => ?_) (fun c2 => ?_)
        · walk_at "go"
          refine w_setL a1 rfl ?_
          walk_at "go"
          refine q _ _ (Int.emod_nonneg _ (by omega)) (Int.emod_lt_of_pos _ (by omega)) ⟨ns, _, _, m, c, upd_same, ?_, hi', Int.ediv_nonneg ?_ (by omega), hm0, hm1⟩ (e1.trans (Xb.put a1 rfl _))
          · rw [upd_ne hsc]; exact a2
          · omega
        · walk_at "go"
          refine w_ixL (sq_of a1) rfl ?_
          walk_at "go"
          refine w_setL a1 rfl ?_
          walk_at "go"
          refine w_ixL (sq_of upd_same) rfl ?_
          walk_at "go"
          refine w_ixL (sq_of upd_same) rfl ?_
          walk_at "go"
          generalize hM1 : (m * 40014 + v * 69069 + (c + 1) * 22193 + 7919) % 2147483563 = M1
          have hM1a : 0 ≤ M1 := by omega
          have hM1b : M1 < 2147483563 := by omega
          walk_at "go"
          generalize hM2 : (M1 * M1 % 2147483399 * M1 + v) % 2147483399 = M2
          have hM2a : 0 ≤ M2 := by omega
          have hM2b : M2 < 2147483399 := by omega
          refine w_setL upd_same rfl ?_
          walk_at "go"
          refine w_dec (fun c3 => ?_) (fun _ => ?_)
          · walk_at "go"
            refine ⟨_, sc, n / 1000000 + 1, rfl, ⟨ns, _, b, M2, c + 1, upd_same, ?_, hi', hb, hM2a, by omega⟩, by omega, by omega, fun k9 H9 k90 k91 hh9 e9 => ?_⟩
            · rw [upd_ne hsc, upd_ne hsc]; exact a2
            walk_at "go"
            exact q _ _ (Int.emod_nonneg _ (by omega)) (Int.emod_lt_of_pos _ (by omega)) hh9 (((e1.trans (Xb.put a1 rfl _)).trans (Xb.put upd_same rfl _)).trans e9)
          walk_at "go"
          refine q _ _ (Int.emod_nonneg _ (by omega)) (Int.emod_lt_of_pos _ (by omega)) ⟨ns, _, b, M2, c + 1, upd_same, ?_, hi', hb, hM2a, by omega⟩ ((e1.trans (Xb.put a1 rfl _)).trans (Xb.put upd_same rfl _))
          rw [upd_ne hsc, upd_ne hsc]; exact a2
      · have e1 := Xb.refl H
        have a1 := h1
        have a2 := h2
        have hi' := hi
        walk_at "go"
        refine w_dec (fun c2 => ?_) (fun c2 => ?_)
        · walk_at "go"
          refine w_setL a1 rfl ?_
          walk_at "go"
          refine q _ _ (Int.emod_nonneg _ (by omega)) (Int.emod_lt_of_pos _ (by omega)) ⟨ns, _, _, m, c, upd_same, ?_, hi', Int.ediv_nonneg ?_ (by omega), hm0, hm1⟩ (e1.trans (Xb.put a1 rfl _))
          · rw [upd_ne hsc]; exact a2
          · omega
        · walk_at "go"
          refine w_ixL (sq_of a1) rfl ?_
          walk_at "go"
          refine w_setL a1 rfl ?_
          walk_at "go"
          refine w_ixL (sq_of upd_same) rfl ?_
          walk_at "go"
          refine w_ixL (sq_of upd_same) rfl ?_
          walk_at "go"
          generalize hM1 : (m * 40014 + 0 * 69069 + (c + 1) * 22193 + 7919) % 2147483563 = M1
          have hM1a : 0 ≤ M1 := by omega
          have hM1b : M1 < 2147483563 := by omega
          walk_at "go"
          generalize hM2 : (M1 * M1 % 2147483399 * M1 + 0) % 2147483399 = M2
          have hM2a : 0 ≤ M2 := by omega
          have hM2b : M2 < 2147483399 := by omega
          refine w_setL upd_same rfl ?_
          walk_at "go"
          refine w_dec (fun c3 => ?_) (fun _ => ?_)
          · walk_at "go"
            refine ⟨_, sc, n / 1000000 + 1, rfl, ⟨ns, _, b, M2, c + 1, upd_same, ?_, hi', hb, hM2a, by omega⟩, by omega, by omega, fun k9 H9 k90 k91 hh9 e9 => ?_⟩
            · rw [upd_ne hsc, upd_ne hsc]; exact a2
            walk_at "go"
            exact q _ _ (Int.emod_nonneg _ (by omega)) (Int.emod_lt_of_pos _ (by omega)) hh9 (((e1.trans (Xb.put a1 rfl _)).trans (Xb.put upd_same rfl _)).trans e9)
          walk_at "go"
          refine q _ _ (Int.emod_nonneg _ (by omega)) (Int.emod_lt_of_pos _ (by omega)) ⟨ns, _, b, M2, c + 1, upd_same, ?_, hi', hb, hM2a, by omega⟩ ((e1.trans (Xb.put a1 rfl _)).trans (Xb.put upd_same rfl _))
          rw [upd_ne hsc, upd_ne hsc]; exact a2
theorem ok_law_spans (T : Tx K mg ad fdd) (G_law_draw : FnOk P w K mg base CX0 1 (ad 48) (fdd 48) ["_law_hand_here", "_law_size"] (spDraw 1 1000000)) : FnOk P w K mg base CX0 2 (ad 49) (fdd 49) ["_law_hand_here"] (spLawSpans K) := by
  refine T.F_law_spans.ok sc_law_spans (fun vs H Q E h => ?_) (fun cdv A outer s H vs Q E hr h => ?_)
  · obtain ⟨a, sc, rfl, _⟩ := h
    rfl

  · obtain ⟨a, sc, rfl, hh, q⟩ := h
    refine ⟨_, (pss_cons (ps_set (i := 1) sc_law_spans.nd rfl (by first | exact Or.inl rfl | exact Or.inr rfl) (pe_lst pa_nil))
    (pss_cons (ps_for PassesOwn.never rfl (pi_range1 (by rfl) T.m_range (pa_cons (pe_call G_law_draw (hr.mono (by decide)) (by rfl) T.g_law_draw T.F_law_draw.kp T.b_law_draw .nil pass0 (pa_cons (pv 0) (pa_cons pe_int pa_nil))) pa_nil)) (pg_name (i := 2) sc_law_spans.nd rfl (by first | exact Or.inl rfl | exact Or.inr rfl))
    (pss_cons (ps_set (i := 3) sc_law_spans.nd rfl (by first | exact Or.inl rfl | exact Or.inr rfl) (pe_op op_sub (pe_call G_law_draw (hr.mono (by decide)) (by rfl) T.g_law_draw T.F_law_draw.kp T.b_law_draw .nil pass0 (pa_cons (pv 0) (pa_cons pe_int pa_nil))) pe_int))
    (pss_cons (ps_set (i := 4) sc_law_spans.nd rfl (by first | exact Or.inl rfl | exact Or.inr rfl) (pe_ix (show IxR _ (rIxL K) from ix_list) (pe_lst (pa_cons (pe_call G_law_draw (hr.mono (by decide)) (by rfl) T.g_law_draw T.F_law_draw.kp T.b_law_draw .nil pass0 (pa_cons (pv 0) (pa_cons pe_int pa_nil))) (pa_cons (pe_call G_law_draw (hr.mono (by decide)) (by rfl) T.g_law_draw T.F_law_draw.kp T.b_law_draw .nil pass0 (pa_cons (pv 0) (pa_cons pe_int pa_nil))) (pa_cons (pe_call G_law_draw (hr.mono (by decide)) (by rfl) T.g_law_draw T.F_law_draw.kp T.b_law_draw .nil pass0 (pa_cons (pv 0) (pa_cons pe_int pa_nil))) pa_nil)))) (pe_call G_law_draw (hr.mono (by decide)) (by rfl) T.g_law_draw T.F_law_draw.kp T.b_law_draw .nil pass0 (pa_cons (pv 0) (pa_cons pe_int pa_nil))) (fun _ _ => rfl)))
    (pss_cons (ps_set (i := 5) sc_law_spans.nd rfl (by first | exact Or.inl rfl | exact Or.inr rfl) (pe_tup (pa_cons (pv 3) (pa_cons (pe_callB (c_min2 rfl) (by rfl) T.m_min (by decide +kernel) (pa_cons pe_int (pa_cons (pe_op op_add (pv 3) (pv 4)) pa_nil))) pa_nil))))
    (pss_one (ps_if (pt_cmpR (show OpR _ _ (rNotInD K) from op_notInD (hu65 hr)) (pv 5) (pv 1) (by rfl))
    (pss_one (ps_expr (show PE _ _ (tBM K "list" _ _ _) from pe_bm PySem.F.plainAttrs_list PySem.F.slot_list_append PySem.F.type_list_append mt_append (pv 1) (pa_cons (pv 5) pa_nil))))
    pss_nil))))))
    (pss_one (ps_ret (pe_callTy (show CallR _ _ (rTupleOf K) from c_tupleOf) (by rfl) T.m_tuple (by decide +kernel) (pa_cons (pe_callB (show CallR _ _ (rSortedPO K) from cr_sortedPO) (by rfl) T.m_sorted (by decide +kernel) (pa_cons (pv 1) pa_nil)) pa_nil)))))), ?_⟩
    dsimp only [L2.start, N_law_spans, cxOf, Cx.nox, Cx.wish]
    walk_at "go"
    refine w_new (by exact Nat.le_of_ble_eq_true rfl) fun l H1 nl e1 hl _ => ?_
    have hh1 := hh.ex e1
    obtain ⟨l1, l2⟩ := hh.off nl
    walk_at "go"
    refine ⟨a, sc, 3, rfl, hh1, by decide, by decide, fun n H2 n0 n3 hh2 e2 => ?_⟩
    walk_at "go"
    refine w_loopR ⟨by omega, by omega⟩ ?_
    refine for_range (fun i σ' H' => Hand H' a sc ∧ Xb H H' ∧ (∃ y2 y3 y4 y5, σ' = [some (.ref a), some (.ref l), y2, y3, y4, y5]) ∧ ∃ vs : List V, H' l = some (.lst vs) ∧ Prs H' vs ∧ vs.length ≤ i ∧ (∀ s ∈ vs.map (kOf H'), spanOk s) ∧ (vs.map (kOf H')).Nodup) ⟨hh2, e1.b.trans e2, ⟨_, _, _, _, rfl⟩, [], e2 _ _ hl rfl, (fun x hx => by cases hx), Nat.le_refl _, (fun x hx => by cases hx), List.nodup_nil⟩ (fun i σ' H' hi p => ?_) (fun σ' H' p => ?_)
    · obtain ⟨hh3, e3, ⟨y2, y3, y4, y5, rfl⟩, vs, hvs, hp, hlen, hok, hnd⟩ := p
      have shl : ∀ {J : Hp}, Prs J vs → handSh (.lst vs) = false := fun {J} pj => by
        match vs, hlen, pj with
        | [], _, _ => rfl
        | [x], _, pj =>
          obtain ⟨t, rfl, _⟩ := pj _ (List.mem_cons_self ..)
          rfl
        | [x, y], _, pj =>
          obtain ⟨t, rfl, _⟩ := pj x (by simp)
          obtain ⟨t2, rfl, _⟩ := pj y (by simp)
          rfl
        | _ :: _ :: _ :: _, hlen, _ =>
          simp at hlen
          omega
      walk_at "go"
      refine ⟨a, sc, 61, rfl, hh3, by decide, by decide, fun k1 H4 k10 k11 hh4 e4 => ?_⟩
      walk_at "go"
      refine ⟨a, sc, 3, rfl, hh4, by decide, by decide, fun k2 H5 k20 k21 hh5 e5 => ?_⟩
      walk_at "go"
      refine ⟨a, sc, 12, rfl, hh5, by decide, by decide, fun k3 H6 k30 k31 hh6 e6 => ?_⟩
      walk_at "go"
      refine ⟨a, sc, 61, rfl, hh6, by decide, by decide, fun k4 H7 k40 k41 hh7 e7 => ?_⟩
      walk_at "go"
      refine w_new (by exact Nat.le_of_ble_eq_true rfl) fun p8 H8 np8 e8 hp8 _ => ?_
      have hh8 := hh7.ex e8
      walk_at "go"
      refine ⟨a, sc, 3, rfl, hh8, by decide, by decide, fun k5 H9 k50 k51 hh9 e9 => ?_⟩
      walk_at "go"
      have hsz : ∃ sz : Int, atI [V.int k2, V.int k3, V.int k4] k5 = some (.int sz) ∧ 0 ≤ sz := by
        have : k5 = 0 ∨ k5 = 1 ∨ k5 = 2 := by omega
        rcases this with rfl | rfl | rfl
        · exact ⟨k2, rfl, k20⟩
        · exact ⟨k3, rfl, k30⟩
        · exact ⟨k4, rfl, k40⟩
      obtain ⟨sz, hsz, sz0⟩ := hsz
      refine w_ixL (sq_of (e9 _ _ hp8 rfl)) hsz ?_
      walk_at "go"
      generalize hmn : (if k1 - 30 + sz < 30 then k1 - 30 + sz else 30) = mn
      have hmn1 : k1 - 30 ≤ mn ∧ mn ≤ 30 := by
        rw [← hmn]
        split <;> omega
      refine w_new (by exact Nat.le_of_ble_eq_true rfl) fun p10 H10 np10 e10 hp10 _ => ?_
      have hh10 := hh9.ex e10
      have eX : Xb H' H10 := ((((e4.trans e5).trans e6).trans e7).trans e8.b).trans (e9.trans e10.b)
      have hvs10 : H10 l = some (.lst vs) := eX _ _ hvs (shl hp)
      have hp' : Prs H10 vs := hp.mono eX.tups
      have hm' : vs.map (kOf H10) = vs.map (kOf H') := hp.map_eq eX.tups
      walk_at "go"
      refine w_notInD (d := encSpan (k1 - 30, mn)) (es := (vs.map (kOf H10)).map encSpan) (Rp.dp (.tup (st_of hp10) (.cons (.int _) (.cons (.int _) .nil))) (fun _ z => by cases z) rfl) (.lst (sq_of hvs10) (hp'.rp.dp (canLay_spans _))) (shaped_span _) (shaped_spans _) ?_
      rw [any_span]
      walk_at "go"
      refine w_ndec (fun c1 => ?_) (fun c1 => ?_)
      · walk_at "go"
        refine w_tyL hvs10 ?_
        walk_at "go"
        refine w_append hvs10 (by omega) ?_
        walk_at "go"
        have n10 : p10 ≠ l := fun z => by rw [z, hvs10] at hp10; cases hp10
        have hT := tups_upd (zs := vs ++ [V.ref p10]) hvs10
        have hk : kOf (upd H10 l (.lst (vs ++ [V.ref p10]))) (.ref p10) = (k1 - 30, mn) := kOf_at (hT _ _ hp10)
        have hm2 : (vs ++ [V.ref p10]).map (kOf (upd H10 l (.lst (vs ++ [V.ref p10])))) = vs.map (kOf H') ++ [(k1 - 30, mn)] := by
          rw [List.map_append, hp'.map_eq hT, hm', List.map_cons, hk]; rfl
        refine ⟨hh10.upd l1 l2, (e3.trans eX).mut nl, ⟨_, _, _, _, rfl⟩, vs ++ [V.ref p10], upd_same, ?_, ?_, ?_, ?_⟩
        · intro x hx
          rcases List.mem_append.mp hx with hx | hx
          · exact hp'.mono hT x hx
          · cases List.mem_singleton.mp hx
            exact ⟨p10, rfl, by rw [hk]; exact hT _ _ hp10⟩
        · rw [List.length_append]
          show vs.length + 1 ≤ i + 1
          omega
        · rw [hm2]
          intro s hs
          rcases List.mem_append.mp hs with hs | hs
          · exact hok s hs
          · cases List.mem_singleton.mp hs
            exact ⟨by omega, by omega, by omega⟩
        · rw [hm2, List.nodup_append]
          refine ⟨hnd, List.pairwise_singleton _ _, fun x hx y hy => ?_⟩
          cases List.mem_singleton.mp hy
          rw [hm'] at c1
          exact fun z => c1 (z ▸ hx)
      · walk_at "go"
        exact ⟨hh10, e3.trans eX, ⟨_, _, _, _, rfl⟩, vs, hvs10, hp', by omega, by rw [hm']; exact hok, by rw [hm']; exact hnd⟩
    · obtain ⟨hh3, e3, ⟨y2, y3, y4, y5, rfl⟩, vs, hvs, hp, hlen, hok, hnd⟩ := p
      walk_at "go"
      refine ⟨l, vs, kOf H', rfl, sq_of hvs, hp, fun ys p4 hsr hst np4 => ?_⟩
      walk_at "go"
      have e4 : Ex H' (upd H' p4 (.lst ys)) := Ex.new np4
      refine w_tupleL (sq_of upd_same) fun p5 H5 np5 e5 hp5 _ => ?_
      have hpy : Prs H' ys := fun x hx => hp x (hst.perm.mem_iff.mp hx)
      have eX : Xb H' H5 := e4.b.trans e5.b
      have hperm : (ys.map (kOf H')).Perm (vs.map (kOf H')) := hst.perm.map _
      have hlen2 : (ys.map (kOf H')).length ≤ 2 := by
        rw [hperm.length_eq, List.length_map]
        omega
      refine q (.ref p5) (ys.map (kOf H5)) H5 (hh3.ex (e4.trans e5)) (e3.trans eX) (.tup (st_of hp5) (hpy.mono eX.tups).rp) ?_
      rw [hpy.map_eq eX.tups]
      refine isSpans_of hlen2 (fun s hs => hok s (hperm.mem_iff.mp hs)) (hperm.nodup_iff.mpr hnd) ?_
      exact List.pairwise_map.mpr hsr
end

theorem pat_codes : ∀ (cs : List Nat), cs.length ≤ 4 → (∀ c ∈ cs, c = 111 ∨ c = 45) → 111 ∈ cs → isPat (.str ⟨cs.toArray⟩) = true
  | [], _, _, h3 => by cases h3
  | [a], _, h2, h3 => by
    rcases h2 a (by simp) with rfl | rfl <;> first | decide +kernel | (exfalso; revert h3; decide)
  | [a, b], _, h2, h3 => by
    rcases h2 a (by simp) with rfl | rfl <;> rcases h2 b (by simp) with rfl | rfl <;> first | decide +kernel | (exfalso; revert h3; decide)
  | [a, b, c], _, h2, h3 => by
    rcases h2 a (by simp) with rfl | rfl <;> rcases h2 b (by simp) with rfl | rfl <;> rcases h2 c (by simp) with rfl | rfl <;> first | decide +kernel | (exfalso; revert h3; decide)
  | [a, b, c, d], _, h2, h3 => by
    rcases h2 a (by simp) with rfl | rfl <;> rcases h2 b (by simp) with rfl | rfl <;> rcases h2 c (by simp) with rfl | rfl <;> rcases h2 d (by simp) with rfl | rfl <;> first | decide +kernel | (exfalso; revert h3; decide)
  | _ :: _ :: _ :: _ :: _ :: _, h1, _, _ => by simp at h1
theorem joinL_ones : ∀ cs : List Nat, TL.joinL [] (cs.map fun c => [c]) = cs
  | [] => rfl
  | [_] => rfl
  | x :: y :: r => by
    show [x] ++ ([] ++ TL.joinL [] ((y :: r).map fun c => [c])) = _
    rw [joinL_ones (y :: r)]; rfl
theorem join_ones (cs : List Nat) : Txt.join "" (cs.map one) = ⟨cs.toArray⟩ := by
  have h := TL.tl_join "" (cs.map one)
  rw [List.map_map] at h
  have e : (cs.map (TL.tl ∘ one)) = cs.map fun c => [c] := List.map_congr_left fun c _ => rfl
  rw [e] at h
  have e2 : TL.joinL (TL.tl "") (cs.map fun c => [c]) = cs := joinL_ones cs
  rw [e2] at h
  rw [TL.join_eq]
  have h2 : (Str.join "" (cs.map one)).cps = cs.toArray := (Array.toArray_toList (xs := (Str.join "" (cs.map one)).cps)).symm.trans (congrArg List.toArray h)
  cases hz : Str.join "" (cs.map one) with
  | mk z => rw [hz] at h2; exact congrArg Str.mk h2
theorem sum_ones (cs : List Nat) : ((cs.map one).map (·.length)).sum = cs.length := by
  induction cs with
  | nil => rfl
  | cons c r ih =>
    rw [List.map_cons, List.map_cons, List.sum_cons, ih, List.length_cons]
    show 1 + r.length = _
    omega
section
variable {P : Program} {w : World} {K : PySem.W.Frag} {mg : Str → Option Value} {base : Heap} {ad : Nat → Addr} {fdd : Nat → FuncData}
theorem ok_law_calendar (T : Tx K mg ad fdd) (G_law_draw : FnOk P w K mg base CX0 1 (ad 48) (fdd 48) ["_law_hand_here", "_law_size"] (spDraw 1 1000000)) (G_law_spans : FnOk P w K mg base CX0 2 (ad 49) (fdd 49) ["_law_hand_here"] (spLawSpans K)) : FnOk P w K mg base CX0 3 (ad 50) (fdd 50) ["_law_hand_here"] (spLawCal K) := by
  refine T.F_law_calendar.ok sc_law_calendar (fun vs H Q E h => ?_) (fun cdv A outer s H vs Q E hr h => ?_)
  · obtain ⟨a, sc, rfl, _⟩ := h
    rfl

  · obtain ⟨a, sc, rfl, hh, q⟩ := h
    refine ⟨_, (pss_cons (ps_set (i := 1) sc_law_calendar.nd rfl (by first | exact Or.inl rfl | exact Or.inr rfl) (pe_op op_add pe_int (pe_call G_law_draw (hr.mono (by decide)) (by rfl) T.g_law_draw T.F_law_draw.kp T.b_law_draw .nil pass0 (pa_cons (pv 0) (pa_cons pe_int pa_nil)))))
    (pss_cons (ps_set (i := 2) sc_law_calendar.nd rfl (by first | exact Or.inl rfl | exact Or.inr rfl) (pe_call G_law_draw (hr.mono (by decide)) (by rfl) T.g_law_draw T.F_law_draw.kp T.b_law_draw .nil pass0 (pa_cons (pv 0) (pa_cons (pv 1) pa_nil))))
    (pss_cons (ps_set (i := 3) sc_law_calendar.nd rfl (by first | exact Or.inl rfl | exact Or.inr rfl) (pe_m1 PySem.F.slot_str_join PySem.F.type_str_join (show MtR _ _ (rJoin K) from m_join) pe_str (pe_lc (own := [("_law_k", 4)]) rfl sc_law_calendar.nd (pi_range1 (by rfl) T.m_range (pa_cons (pv 1) pa_nil)) (blkOk_by (own := [("_law_k", 4)]) (N := N_law_calendar) (sc := defScope s_law_calendar) (by decide +kernel)) (fun _ _ _ _ _ => (pg_name (i := 4) sc_law_calendar.nd rfl (by first | exact Or.inl rfl | exact Or.inr rfl))) (fun _ _ _ _ _ => pts_nil) (fun _ _ _ _ _ => (pe_ifExp (pt_cmpR op_eq (pv 4) (pv 2) (nomark _)) pe_str (pe_ix ix_str pe_str (pe_call G_law_draw (hr.mono (by decide)) (by rfl) T.g_law_draw T.F_law_draw.kp T.b_law_draw .nil pass0 (pa_cons (pv 0) (pa_cons pe_int pa_nil))) (fun _ _ => rfl)))))))
    (pss_one (ps_ret (pe_tup (pa_cons (pv 3) (pa_cons (pe_call G_law_spans (hr.mono (by decide)) (by rfl) T.g_law_spans T.F_law_spans.kp T.b_law_spans .nil pass0 (pa_cons (pv 0) pa_nil)) (pa_cons (pe_call G_law_spans (hr.mono (by decide)) (by rfl) T.g_law_spans T.F_law_spans.kp T.b_law_spans .nil pass0 (pa_cons (pv 0) pa_nil)) pa_nil))))))))), ?_⟩
    dsimp only [L2.start, N_law_calendar, cxOf, Cx.nox, Cx.wish]
    walk_at "go"
    refine ⟨a, sc, 4, rfl, hh, by decide, by decide, fun k1 H1 k10 k11 hh1 e1 => ?_⟩
    walk_at "go"
    refine ⟨a, sc, 1 + k1, rfl, hh1, by omega, by omega, fun k2 H2 k20 k21 hh2 e2 => ?_⟩
    walk_at "go"
    refine w_lcR ⟨by omega, by omega⟩ ?_
    refine lc_R (fun D i H' => Hand H' a sc ∧ Xb H2 H' ∧ ∃ cs : List Nat, H' D = some (.lst ((cs.map one).map V.str)) ∧ cs.length = i ∧ (∀ c ∈ cs, c = 111 ∨ c = 45) ∧ (k2 < i → 111 ∈ cs)) (fun D nD => ⟨hh2.upd (hh2.off nD).1 (hh2.off nD).2, (Ex.new nD).b, [], upd_same, rfl, (fun c hc => by cases hc), fun z => by omega⟩) (fun D i H' nD hi p => ?_) (fun D H' nD p => ?_)
    · obtain ⟨hh3, e3, cs, hD, hl, hc, hm⟩ := p
      have hfin : ∀ (c : Nat) (H4 : Hp), Hand H4 a sc → Xb H' H4 → (c = 111 ∨ c = 45) → ((0 + (i : Int) = k2) → c = 111) → ∃ acc, H4 D = some (HO.lst acc) ∧ acc.length < sizeLine ∧ (Hand (upd H4 D (.lst (acc ++ [V.str (one c)]))) a sc ∧ Xb H2 (upd H4 D (.lst (acc ++ [V.str (one c)]))) ∧ ∃ cs : List Nat, (upd H4 D (.lst (acc ++ [V.str (one c)]))) D = some (.lst ((cs.map one).map V.str)) ∧ cs.length = i + 1 ∧ (∀ c ∈ cs, c = 111 ∨ c = 45) ∧ (k2 < ((i + 1 : Nat) : Int) → 111 ∈ cs)) := by
        intro c H4 hh4 e4 hc1 hc2
        refine ⟨_, e4 _ _ hD (sh_strs _), small1000 ?_, hh4.upd (hh2.off nD).1 (hh2.off nD).2, (e3.trans e4).mut nD, cs ++ [c], ?_, ?_, ?_, ?_⟩
        · rw [List.length_map, List.length_map]; omega
        · rw [upd_same, List.map_append, List.map_append]; rfl
        · rw [List.length_append]; show cs.length + 1 = _; omega
        · intro x hx
          rcases List.mem_append.mp hx with hx | hx
          · exact hc x hx
          · cases List.mem_singleton.mp hx; exact hc1
        · intro z
          by_cases z2 : k2 < i
          · exact List.mem_append_left _ (hm z2)
          · rw [hc2 (by omega)]
            exact List.mem_append_right _ (List.mem_singleton.mpr rfl)
      walk_at "go"
      refine ⟨rfl, ?_⟩
      walk_at "go"
      refine iteT ?_
      walk_at "go"
      refine w_dec (fun c1 => ?_) (fun c1 => ?_)
      · walk_at "go"
        exact hfin 111 H' hh3 (Xb.refl _) (.inl rfl) fun _ => rfl
      · walk_at "go"
        refine ⟨a, sc, 2, rfl, hh3, by decide, by decide, fun k3 H4 k30 k31 hh4 e4 => ?_⟩
        walk_at "go"
        have : k3 = 0 ∨ k3 = 1 := by omega
        rcases this with rfl | rfl
        · refine w_ixS (cc := 111) (by decide) (by decide +kernel) ?_
          exact hfin 111 H4 hh4 e4 (.inl rfl) fun _ => rfl
        · refine w_ixS (cc := 45) (by decide) (by decide +kernel) ?_
          exact hfin 45 H4 hh4 e4 (.inr rfl) fun z => absurd (congrArg V.int z) c1
    · obtain ⟨hh3, e3, cs, hD, hl, hc, hm⟩ := p
      walk_at "go"
      refine w_join (ys := cs.map one) (sq_of hD) ?_ ?_
      · rw [sum_ones]
        show cs.length + (cs.map one).length * 0 ≤ 16777216
        omega
      rw [join_ones]
      have hp : isPat (.str ⟨cs.toArray⟩) = true := pat_codes cs (by omega) hc (hm (by omega))
      walk_at "go"
      refine ⟨a, sc, rfl, hh3, fun v1 ss1 H4 hh4 e4 r1 ok1 => ?_⟩
      walk_at "go"
      refine ⟨a, sc, rfl, hh4, fun v2 ss2 H5 hh5 e5 r2 ok2 => ?_⟩
      walk_at "go"
      refine w_new (by exact Nat.le_of_ble_eq_true rfl) fun p6 H6 np6 e6 hp6 _ => ?_
      refine q (.ref p6) ⟨⟨cs.toArray⟩, ss1, ss2⟩ H6 (hh5.ex e6) (((((e1.trans e2).trans e3).trans e4).trans e5).trans e6.b) (.tup (st_of hp6) (.cons (.str _) (.cons (r1.mono (e5.trans e6.b)) (.cons (r2.mono e6.b) .nil)))) ?_
      unfold Cal.Ok encCal
      simp only [isCal, hp, ok1, ok2, Bool.and_self]
end

def spLawOpen (K : PySem.W.Frag) : Sp := fun vs H Q _ => ∃ v c day, vs = [v, .int day] ∧ Rp K H v (encCal c) ∧ c.Ok ∧ ∀ H', Ex H H' → Q (.bl (openC c day)) H'
theorem eqv_list_nil (ss : List (Int × Int)) : PyData.eqv (.list (ss.map encSpan)) (.list []) = ss.isEmpty := by
  cases ss with
  | nil => simp [PyData.eqv, PyData.eqvAll]
  | cons d r => simp [PyData.eqv, PyData.eqvAll]
theorem filter_take {α : Type} (p : α → Bool) (l : List α) (i : Nat) (x : α) (h : l[i]? = some x) : (l.take (i + 1)).filter p = (l.take i).filter p ++ (if p x = true then [x] else []) := by
  rw [List.take_add_one, h, List.filter_append]
  by_cases c : p x = true
  · simp [c]
  · simp [c]
theorem filter_empty {α : Type} (p : α → Bool) (l : List α) : (l.filter p).isEmpty = !l.any p := by
  induction l with
  | nil => rfl
  | cons x r ih =>
    rw [List.any_cons]
    by_cases c : p x = true
    · simp [List.filter_cons, c]
    · simp only [Bool.not_eq_true] at c
      simp [List.filter_cons, c, ih]

def spLawDay : Sp := fun vs H Q _ => ∃ h sc, vs = [.ref h] ∧ Hand H h sc ∧ ∀ (d : Int) H', Hand H' h sc → Xb H H' → dayOk d → Q (.int d) H'
def spLawNear (K : PySem.W.Frag) : Sp := fun vs H Q _ => ∃ v c d st e, vs = [v, .int d, .int st] ∧ Rp K H v (encCal c) ∧ c.Ok ∧ ((st = 1 ∧ Nxt c d e ∧ e - d ≤ 70) ∨ (st = -1 ∧ Lst c d e ∧ d - e ≤ 70)) ∧ ∀ H', Ex H H' → Q (.int e) H'

def dayS (d : Int) : Prop := -200000000000000 ≤ d ∧ d ≤ 200000000000000
def spLawDayS : Sp := fun vs H Q _ => ∃ h sc, vs = [.ref h] ∧ Hand H h sc ∧ ∀ (d : Int) H', Hand H' h sc → Xb H H' → dayS d → Q (.int d) H'
section
variable {P : Program} {w : World} {K : PySem.W.Frag} {mg : Str → Option Value} {base : Heap} {ad : Nat → Addr} {fdd : Nat → FuncData}
theorem ok_law_open (T : Tx K mg ad fdd) : FnOk P w K mg base CX0 1 (ad 51) (fdd 51) ["_law_calendar_here", "_law_day_here"] (spLawOpen K) := by
  refine T.F_law_open.ok sc_law_open (fun vs H Q E h => ?_) (fun cdv A outer s H vs Q E hr h => ?_)
  · obtain ⟨v, c, day, rfl, _⟩ := h
    rfl

  · obtain ⟨v, c, day, rfl, hv, ok, q⟩ := h
    obtain ⟨a, xs, rfl, hs, r⟩ := hv.isTup
    obtain ⟨v1, v2, v3, rfl, r1, r2, r3⟩ := r.three
    cases r1.isStr
    obtain ⟨h0, h4, _⟩ := pat_len ok.parts.1
    have hz : c.pat.length ≤ sizeLine := list_lt (by omega)
    have hp : 0 < (c.pat.length : Int) := by omega
    obtain ⟨cc, hc, hO⟩ := pat_at h0 day
    obtain ⟨a2, xs2, rfl, hs2, q2⟩ := r2.isTup
    obtain ⟨a3, xs3, rfl, hs3, q3⟩ := r3.isTup
    have hl2 := q2.len
    have hl3 := q3.len
    rw [List.length_map] at hl2 hl3
    have n2 := (spans_in ok.parts.2.1).1
    have n3 := (spans_in ok.parts.2.2).1
    have e0 := Ex.refl H
    refine ⟨_, (pss_cons (ps_asg (pv 0) (show PG _ _ (gTup K 3 _) from pg_tup rfl (pgs_cons (pg_name (i := 2) sc_law_open.nd rfl (by first | exact Or.inl rfl | exact Or.inr rfl)) (pgs_cons (pg_name (i := 3) sc_law_open.nd rfl (by first | exact Or.inl rfl | exact Or.inr rfl)) (pgs_cons (pg_name (i := 4) sc_law_open.nd rfl (by first | exact Or.inl rfl | exact Or.inr rfl)) pgs_nil)))))
    (pss_cons (ps_if (pt_cmpR (show OpR _ _ (rNeD K) from op_neD hr.units) (pe_lc (own := [("_law_one", 5)]) rfl sc_law_open.nd (pi_tup (pv 3)) (blkOk_by (own := [("_law_one", 5)]) (N := N_law_open) (sc := defScope s_law_open) (by decide +kernel)) (fun _ _ _ _ _ => (pg_name (i := 5) sc_law_open.nd rfl (by first | exact Or.inl rfl | exact Or.inr rfl))) (fun _ _ _ _ _ => (pts_one (pt_chain op_le op_le (pe_ix (show IxR _ (rIxT K) from ix_tup) (pv 5) pe_int (fun _ _ => rfl)) (pv 1) (pe_ix (show IxR _ (rIxT K) from ix_tup) (pv 5) pe_int (fun _ _ => rfl))))) (fun _ _ _ _ _ => (pv 5))) (pe_lst pa_nil) (nomark _))
    (pss_one (ps_ret pe_bl))
    pss_nil)
    (pss_cons (ps_if (pt_cmpR (show OpR _ _ (rNeD K) from op_neD hr.units) (pe_lc (own := [("_law_one", 5)]) rfl sc_law_open.nd (pi_tup (pv 4)) (blkOk_by (own := [("_law_one", 5)]) (N := N_law_open) (sc := defScope s_law_open) (by decide +kernel)) (fun _ _ _ _ _ => (pg_name (i := 5) sc_law_open.nd rfl (by first | exact Or.inl rfl | exact Or.inr rfl))) (fun _ _ _ _ _ => (pts_one (pt_chain op_le op_le (pe_ix (show IxR _ (rIxT K) from ix_tup) (pv 5) pe_int (fun _ _ => rfl)) (pv 1) (pe_ix (show IxR _ (rIxT K) from ix_tup) (pv 5) pe_int (fun _ _ => rfl))))) (fun _ _ _ _ _ => (pv 5))) (pe_lst pa_nil) (nomark _))
    (pss_one (ps_ret pe_bl))
    pss_nil)
    (pss_one (ps_ret (pe_cmpR op_eq (pe_ix ix_str (pv 2) (pe_op op_mod (pe_callTy c_int (by rfl) T.m_int (by decide +kernel) (pa_cons (pv 1) pa_nil)) (pe_callB (show CallR _ _ (rLen K) from c_len) (by rfl) T.m_len (by decide +kernel) (pa_cons (pv 2) pa_nil))) (fun _ _ => rfl)) pe_str (nomark _))))))), ?_⟩
    dsimp only [L2.start, N_law_open, cxOf, Cx.nox, Cx.wish]
    walk_at "go"
    refine w_gTup3 hs ?_
    walk_at "go"
    refine w_lcT (e0.b.tup hs2) ?_
    refine lc_T (xs := xs2) (fun D i H' => Ex H H' ∧ ∃ vs, H' D = some (.lst vs) ∧ RpAll K H vs (((c.shut.take i).filter (inSpan day)).map encSpan) ∧ vs.length ≤ i) (fun D nD => ⟨e0.mut (fresh_back e0 nD), [], upd_same, .nil, Nat.le_refl _⟩) (fun D i H' hi p => p.1.b.tup hs2) (fun D i x H' nD hx p => ?_) (fun D H' nD p => ?_)
    · obtain ⟨e, vs, hD, hr, hlen⟩ := p
      obtain ⟨d, g1, r1⟩ := q2.at hx
      rw [List.getElem?_map] at g1
      obtain ⟨s, gs, rfl⟩ := Option.map_eq_some_iff.mp g1
      obtain ⟨p1, ys1, rfl, s1, q1⟩ := r1.isTup
      obtain ⟨_, _, rfl, t1, t2⟩ := q1.two
      cases t1.isInt; cases t2.isInt
      have hi : i < c.shut.length := (List.getElem?_eq_some_iff.mp gs).1
      walk_at "go"
      refine ⟨rfl, ?_⟩
      walk_at "go"
      refine w_ixT (e.b.tup s1) rfl ?_
      walk_at "go"
      refine w_dec (fun c1 => ?_) (fun c1 => ?_)
      · walk_at "go"
        refine w_ixT (e.b.tup s1) rfl ?_
        walk_at "go"
        refine w_dec (fun c2 => ?_) (fun c2 => ?_)
        · have cs : inSpan day s = true := by simp [inSpan, c1, c2]
          walk_at "go"
          refine ⟨_, hD, small1000 (by omega), e.mut (fresh_back e0 nD), vs ++ [.ref p1], upd_same, ?_, by rw [List.length_append]; show vs.length + 1 ≤ _; omega⟩
          rw [filter_take _ _ _ _ gs, if_pos cs, List.map_append]
          exact hr.app (.cons r1 .nil)
        · have cs : ¬ inSpan day s = true := by simp [inSpan, c2]
          refine ⟨e, vs, hD, ?_, by omega⟩
          rw [filter_take _ _ _ _ gs, if_neg cs, List.append_nil]; exact hr
      · have cs : ¬ inSpan day s = true := by simp [inSpan, c1]
        walk_at "go"
        refine iteF ?_
        refine ⟨e, vs, hD, ?_, by omega⟩
        rw [filter_take _ _ _ _ gs, if_neg cs, List.append_nil]; exact hr
    obtain ⟨eD, vs, hD, hr, hlen⟩ := p
    rw [List.take_of_length_le (by omega)] at hr
    walk_at "go"
    refine w_new (by exact Nat.le_of_ble_eq_true rfl) fun pn Hn npn en hpn _ => ?_
    have eF : Ex H Hn := eD.trans en
    walk_at "go"
    refine w_neD (d := .list ((c.shut.filter (inSpan day)).map encSpan)) (e := .list []) (.lst (sq_of (en _ _ hD)) ((hr.mono eF.b).dp (canLay_spans _))) (.lst (sq_of hpn) .nil) (shaped_spans _) (shaped_spans []) ?_
    rw [eqv_list_nil, filter_empty]
    walk_at "go"
    refine w_n2 (fun z1 => ?_) (fun z1 => ?_)
    · have z2 : c.shut.any (inSpan day) = true := by simpa using z1
      walk_at "go"
      have e : openC c day = false := by unfold openC; rw [z2]; rfl
      rw [← e]; exact q _ eF
    have z2 : c.shut.any (inSpan day) = false := by simpa using z1
    walk_at "go"
    refine w_lcT (eF.b.tup hs3) ?_
    refine lc_T (xs := xs3) (fun D i H' => Ex H H' ∧ ∃ vs, H' D = some (.lst vs) ∧ RpAll K H vs (((c.free.take i).filter (inSpan day)).map encSpan) ∧ vs.length ≤ i) (fun D nD => ⟨eF.mut (fresh_back eF nD), [], upd_same, .nil, Nat.le_refl _⟩) (fun D i H' hi p => p.1.b.tup hs3) (fun D i x H' nD hx p => ?_) (fun D H' nD p => ?_)
    · obtain ⟨e, vs, hD, hr, hlen⟩ := p
      obtain ⟨d, g1, r1⟩ := q3.at hx
      rw [List.getElem?_map] at g1
      obtain ⟨s, gs, rfl⟩ := Option.map_eq_some_iff.mp g1
      obtain ⟨p1, ys1, rfl, s1, q1⟩ := r1.isTup
      obtain ⟨_, _, rfl, t1, t2⟩ := q1.two
      cases t1.isInt; cases t2.isInt
      have hi : i < c.free.length := (List.getElem?_eq_some_iff.mp gs).1
      walk_at "go"
      refine ⟨rfl, ?_⟩
      walk_at "go"
      refine w_ixT (e.b.tup s1) rfl ?_
      walk_at "go"
      refine w_dec (fun c1 => ?_) (fun c1 => ?_)
      · walk_at "go"
        refine w_ixT (e.b.tup s1) rfl ?_
        walk_at "go"
        refine w_dec (fun c2 => ?_) (fun c2 => ?_)
        · have cs : inSpan day s = true := by simp [inSpan, c1, c2]
          walk_at "go"
          refine ⟨_, hD, small1000 (by omega), e.mut (fresh_back eF nD), vs ++ [.ref p1], upd_same, ?_, by rw [List.length_append]; show vs.length + 1 ≤ _; omega⟩
          rw [filter_take _ _ _ _ gs, if_pos cs, List.map_append]
          exact hr.app (.cons r1 .nil)
        · have cs : ¬ inSpan day s = true := by simp [inSpan, c2]
          refine ⟨e, vs, hD, ?_, by omega⟩
          rw [filter_take _ _ _ _ gs, if_neg cs, List.append_nil]; exact hr
      · have cs : ¬ inSpan day s = true := by simp [inSpan, c1]
        walk_at "go"
        refine iteF ?_
        refine ⟨e, vs, hD, ?_, by omega⟩
        rw [filter_take _ _ _ _ gs, if_neg cs, List.append_nil]; exact hr
    obtain ⟨eD, vs, hD, hr, hlen⟩ := p
    rw [List.take_of_length_le (by omega)] at hr
    walk_at "go"
    refine w_new (by exact Nat.le_of_ble_eq_true rfl) fun pn Hn npn en hpn _ => ?_
    have eG : Ex H Hn := eD.trans en
    walk_at "go"
    refine w_neD (d := .list ((c.free.filter (inSpan day)).map encSpan)) (e := .list []) (.lst (sq_of (en _ _ hD)) ((hr.mono eG.b).dp (canLay_spans _))) (.lst (sq_of hpn) .nil) (shaped_spans _) (shaped_spans []) ?_
    rw [eqv_list_nil, filter_empty]
    walk_at "go"
    refine w_n2 (fun z3 => ?_) (fun z3 => ?_)
    · have z4 : c.free.any (inSpan day) = true := by simpa using z3
      walk_at "go"
      have e : openC c day = true := by unfold openC; rw [z2, z4]; rfl
      rw [← e]; exact q _ eG
    have z4 : c.free.any (inSpan day) = false := by simpa using z3
    walk_at "go"
    refine w_lenS hz ?_
    walk_at "go"
    refine w_ixS hz hc ?_
    walk_at "go"
    have e : openC c day = patO c.pat day := by unfold openC; rw [z2, z4]; rfl
    rw [← hO, ← e]; exact q _ eG
theorem ok_law_day (T : Tx K mg ad fdd) (G_law_draw : FnOk P w K mg base CX0 1 (ad 48) (fdd 48) ["_law_hand_here", "_law_size"] (spDraw 1 1000000)) : FnOk P w K mg base CX0 2 (ad 52) (fdd 52) ["_law_hand_here"] (spLawDayS) := by
  refine T.F_law_day.ok sc_law_day (fun vs H Q E h => ?_) (fun cdv A outer s H vs Q E hr h => ?_)
  · obtain ⟨a, sc, rfl, _⟩ := h
    rfl

  · obtain ⟨a, sc, rfl, hh, q⟩ := h
    refine ⟨_, (pss_cons (ps_set (i := 1) sc_law_day.nd rfl (by first | exact Or.inl rfl | exact Or.inr rfl) (pe_lst (pa_cons (pe_op op_sub (pe_call G_law_draw (hr.mono (by decide)) (by rfl) T.g_law_draw T.F_law_draw.kp T.b_law_draw .nil pass0 (pa_cons (pv 0) (pa_cons pe_int pa_nil))) pe_int) (pa_cons (pe_op op_add (pe_op op_pow pe_int pe_int) (pe_call G_law_draw (hr.mono (by decide)) (by rfl) T.g_law_draw T.F_law_draw.kp T.b_law_draw .nil pass0 (pa_cons (pv 0) (pa_cons pe_int pa_nil)))) (pa_cons (pe_op op_sub (pe_un un_neg (pe_op op_pow pe_int pe_int)) (pe_call G_law_draw (hr.mono (by decide)) (by rfl) T.g_law_draw T.F_law_draw.kp T.b_law_draw .nil pass0 (pa_cons (pv 0) (pa_cons pe_int pa_nil)))) (pa_cons (pe_op op_pow pe_int pe_int) pa_nil))))))
    (pss_one (ps_ret (pe_ix (show IxR _ (rIxL K) from ix_list) (pv 1) (pe_ix (show IxR _ (rIxL K) from ix_list) (pe_lst (pa_cons pe_int (pa_cons pe_int (pa_cons pe_int (pa_cons pe_int (pa_cons pe_int (pa_cons pe_int pa_nil))))))) (pe_call G_law_draw (hr.mono (by decide)) (by rfl) T.g_law_draw T.F_law_draw.kp T.b_law_draw .nil pass0 (pa_cons (pv 0) (pa_cons pe_int pa_nil))) (fun _ _ => rfl)) (fun _ _ => rfl))))), ?_⟩
    dsimp only [L2.start, N_law_day, cxOf, Cx.nox, Cx.wish]
    walk_at "go"
    refine ⟨a, sc, 101, rfl, hh, by decide, by decide, fun k1 H1 k10 k11 hh1 e1 => ?_⟩
    walk_at "go"
    refine ⟨a, sc, 99, rfl, hh1, by decide, by decide, fun k2 H2 k20 k21 hh2 e2 => ?_⟩
    walk_at "go"
    refine ⟨a, sc, 99, rfl, hh2, by decide, by decide, fun k3 H3 k30 k31 hh3 e3 => ?_⟩
    walk_at "go"
    refine w_new (by exact Nat.le_of_ble_eq_true rfl) fun p4 H4 np4 e4 hp4 _ => ?_
    have hh4 := hh3.ex e4
    walk_at "go"
    refine w_new (by exact Nat.le_of_ble_eq_true rfl) fun p5 H5 np5 e5 hp5 _ => ?_
    have hh5 := hh4.ex e5
    walk_at "go"
    refine ⟨a, sc, 6, rfl, hh5, by decide, by decide, fun k6 H6 k60 k61 hh6 e6 => ?_⟩
    walk_at "go"
    have eX := (((e1.trans e2).trans e3).trans (e4.trans e5).b).trans e6
    have hk : ∃ j : Int, atI [V.int 0, V.int 0, V.int 0, V.int 1, V.int 2, V.int 3] k6 = some (.int j) ∧ 0 ≤ j ∧ j ≤ 3 := by
      have : k6 = 0 ∨ k6 = 1 ∨ k6 = 2 ∨ k6 = 3 ∨ k6 = 4 ∨ k6 = 5 := by omega
      rcases this with rfl | rfl | rfl | rfl | rfl | rfl
      · exact ⟨0, rfl, by decide, by decide⟩
      · exact ⟨0, rfl, by decide, by decide⟩
      · exact ⟨0, rfl, by decide, by decide⟩
      · exact ⟨1, rfl, by decide, by decide⟩
      · exact ⟨2, rfl, by decide, by decide⟩
      · exact ⟨3, rfl, by decide, by decide⟩
    obtain ⟨j, hj, j0, j3⟩ := hk
    refine w_ixL (sq_of (e6 _ _ hp5 rfl)) hj ?_
    walk_at "go"
    have h5 : H6 p4 = some _ := e6 _ _ (e5 _ _ hp4) rfl
    have : j = 0 ∨ j = 1 ∨ j = 2 ∨ j = 3 := by omega
    rcases this with rfl | rfl | rfl | rfl <;> refine w_ixL (sq_of h5) rfl ?_ <;> exact q _ H6 hh6 eX ⟨by omega, by omega⟩
end
end J
namespace J
open PySem PySem.Spec PyProof.Rows L2
local macro_rules | `(tactic| walk_at "go1") => `(tactic| first
  | with_reducible refine' w_seq ?_
  | with_reducible refine' w_next ?_
  | with_reducible refine' w_brk ?_
  | with_reducible refine' w_cont ?_
  | with_reducible refine' w_asg ?_
  | with_reducible refine' w_asgG ?_
  | with_reducible refine' w_gSub ?_
  | with_reducible refine' w_ret ?_
  | with_reducible refine' w_retN ?_
  | with_reducible refine' w_drop ?_
  | with_reducible refine' w_ifS ?_
  | ((with_reducible refine' w_isAug ?_); refine w_aug rfl ?_)
  | with_reducible refine' w_ipadd ?_
  | with_reducible refine' w_ipsub ?_
  | ((with_reducible refine' w_isVar ?_); refine w_var rfl ?_)
  | with_reducible refine' w_c ?_
  | with_reducible refine' w_nil ?_
  | with_reducible refine' w_cons ?_
  | with_reducible refine' w_op ?_
  | with_reducible refine' w_un ?_
  | with_reducible refine' w_cb ?_
  | with_reducible refine' w_call ?_
  | with_reducible refine' w_callK ?_
  | with_reducible refine' w_test ?_
  | with_reducible refine' w_tB ?_
  | with_reducible refine' w_and ?_
  | with_reducible refine' w_or ?_
  | with_reducible refine' w_not ?_
  | with_reducible refine' w_andV ?_
  | with_reducible refine' w_orV ?_
  | with_reducible refine' w_notV ?_
  | with_reducible refine' w_if ?_
  | with_reducible refine' w_chain ?_
  | with_reducible refine' w_exb ?_
  | with_reducible refine' w_add ?_
  | with_reducible refine' w_sub ?_
  | with_reducible refine' w_lt ?_
  | with_reducible refine' w_le ?_
  | with_reducible refine' w_gt ?_
  | with_reducible refine' w_ge ?_
  | ((with_reducible refine' w_mod ?h ?q); (case h => first | decide | omega))
  | ((with_reducible refine' w_fdiv ?h ?h2 ?q); (case h => first | decide | omega); (case h2 => first | decide | omega))
  | ((with_reducible refine' w_mulR ?h ?q); (case h => omega))
  | ((with_reducible refine' w_mulL ?h ?q); (case h => omega))
  | with_reducible refine' w_pow_6 ?_
  | with_reducible refine' w_pow_9 ?_
  | with_reducible refine' w_pow_12 ?_
  | with_reducible refine' w_pow_14 ?_
  | with_reducible refine' w_pow_15 ?_
  | with_reducible refine' w_pow_18 ?_
  | with_reducible refine' w_neg ?_
  | ((with_reducible refine' w_eq ?h ?q); (case h => exact rfl))
  | ((with_reducible refine' w_ne ?h ?q); (case h => exact rfl))
  | with_reducible refine' w_abs ?_
  | with_reducible refine' w_int ?_
  | with_reducible refine' w_max ?_
  | with_reducible refine' w_min ?_
  | with_reducible refine' w_count ?_
  | with_reducible refine' w_m1 ?_
  | with_reducible refine' w_bm ?_
  | with_reducible refine' w_listR3 ?_
  | with_reducible refine' w_exs ?_
  | with_reducible refine' w_inS ?_
  | with_reducible refine' w_notInS ?_
  | with_reducible refine' w_for ?_
  | with_reducible refine' w_while ?_
  | with_reducible refine' w_lc ?_
  | with_reducible refine' w_iTup ?_
  | with_reducible refine' w_iList ?_
  | with_reducible refine' w_iRng1 ?_
  | with_reducible refine' w_iRng2 ?_
  | with_reducible refine' w_gName ?_
  | with_reducible refine' w_tYes ?_
  | with_reducible refine' w_tupD ?_
  | with_reducible refine' w_tupF ?_
  | with_reducible refine' w_ltS ?_
  | with_reducible refine' w_leS ?_
  | with_reducible refine' w_dget ?_
  | with_reducible refine' w_dnotin ?_
  | with_reducible refine' w_sl ?_
  | with_reducible refine' w_part ?_
  | with_reducible refine' w_noPart ?_
  | with_reducible refine' w_some ?_
  | with_reducible refine' w_lstD ?_
  | with_reducible refine' w_revT ?_
  | with_reducible refine' w_par ?_
  )
local macro_rules | `(tactic| walk_at "go") => `(tactic| repeat (walk_at "go1"))

/-! ### the law's books -/
mutual
def noL : PyData → Bool
  | .list _ => false
  | .dict _ => false
  | .tuple ds => noLs ds
  | _ => true
def noLs : List PyData → Bool
  | [] => true
  | d :: ds => noL d && noLs ds
end
section
variable {K : PySem.W.Frag} {H : Hp} {D : Addr} {ys : List V} {zs : List V}
theorem tup_updL (h : H D = some (.lst ys)) {a : Addr} {xs : List V} (t : SqT K H a xs) : SqT K (upd H D (.lst zs)) a xs := by
  rcases t with (t | ⟨o, t⟩) | t
  · exact .inl (.inl (by rw [upd_ne (fun e => by rw [e, h] at t; cases t)]; exact t))
  · exact .inl (.inr ⟨o, by rw [upd_ne (fun e => by rw [e, h] at t; cases t)]; exact t⟩)
  · exact .inr t
mutual
theorem Rp.updL (h : H D = some (.lst ys)) : ∀ {v : V} {d : PyData}, Rp K H v d → noL d = true → Rp K (upd H D (.lst zs)) v d
  | _, _, .non, _ => .non
  | _, _, .bl b, _ => .bl b
  | _, _, .int i, _ => .int i
  | _, _, .str x, _ => .str x
  | _, _, .tup t r, n => .tup (tup_updL h t) (RpAll.updL h r (by simpa [noL] using n))
  | _, _, .lst _ _ _, n => by simp [noL] at n
  | _, _, .dct _, n => by simp [noL] at n
theorem RpAll.updL (h : H D = some (.lst ys)) : ∀ {vs : List V} {ds : List PyData}, RpAll K H vs ds → noLs ds = true → RpAll K (upd H D (.lst zs)) vs ds
  | _, _, .nil, _ => .nil
  | _, _, .cons p r, n => by
    simp only [noLs, Bool.and_eq_true] at n
    exact .cons (Rp.updL h p n.1) (RpAll.updL h r n.2)
end
end
theorem noL_spans : ∀ ss : List (Int × Int), noLs (ss.map encSpan) = true
  | [] => by simp [noLs]
  | s :: ss => by
    rw [List.map_cons]
    simp only [noLs, encSpan, noL, Bool.true_and]
    exact noL_spans ss
theorem noL_cal (c : Cal) : noL (encCal c) = true := by
  simp only [encCal, noL, noLs, encSpans, noL_spans, Bool.and_self]
theorem noL_book : ∀ b : Book, noLs (b.map encNamed) = true
  | [] => by simp [noLs]
  | p :: b => by
    rw [List.map_cons]
    simp only [noLs, encNamed, noL, noL_cal, noL_book b, Bool.and_self]
theorem sh_refs {K : PySem.W.Frag} {H : Hp} {b : Book} {vs : List V} (r : RpAll K H vs (b.map encNamed)) : handSh (.lst vs) = false := by
  have h : ∀ v ∈ vs, ∃ a, v = .ref a := by
    intro v hv
    obtain ⟨i, hi, rfl⟩ := List.getElem_of_mem hv
    obtain ⟨d, g, q⟩ := r.at (List.getElem?_eq_getElem hi)
    rw [List.getElem?_map] at g
    obtain ⟨p, _, rfl⟩ := Option.map_eq_some_iff.mp g
    obtain ⟨a, _, e, _⟩ := q.isTup
    exact ⟨a, e⟩
  match vs, h with
  | [], _ => rfl
  | [x], h => obtain ⟨a, rfl⟩ := h x (by simp); rfl
  | x :: y :: r, h =>
    obtain ⟨a, rfl⟩ := h x (by simp)
    obtain ⟨c, rfl⟩ := h y (by simp)
    rfl
theorem BookOk_of {b : Book} (h1 : b.length ≤ 4) (h2 : ∀ p ∈ b, 97 ≤ p.1 ∧ p.1 ≤ 122 ∧ p.2.Ok) (h3 : (b.map (·.1)).Pairwise (· < ·)) : BookOk b := by
  unfold BookOk encBook
  simp only [isBook, Bool.and_eq_true, decide_eq_true_eq, List.length_map]
  refine ⟨by omega, ?_, ?_⟩
  · rw [List.all_eq_true]
    intro d hd
    obtain ⟨p, hp, rfl⟩ := List.mem_map.mp hd
    obtain ⟨a1, a2, a3⟩ := h2 p hp
    unfold encNamed
    simp only [isNamed, isName_one, Bool.and_eq_true, decide_eq_true_eq]
    exact ⟨⟨a1, a2⟩, a3⟩
  · clear h1 h2
    induction b with
    | nil => rfl
    | cons p r ih =>
      cases r with
      | nil => rfl
      | cons q r =>
        have hp := List.pairwise_cons.mp h3
        show (decide ((one p.1).cps.toList < (one q.1).cps.toList) && risingN (((q :: r).map encNamed).map fstD)) = true
        rw [ih hp.2, Bool.and_true, decide_eq_true_eq]
        show [p.1] < [q.1]
        rw [List.cons_lt_cons_iff]
        exact .inl (hp.1 q.1 (by simp))
theorem RouteOk_of {r : List Nat} (h1 : r.length ≤ 8) (h2 : ∀ c ∈ r, c = 43 ∨ (97 ≤ c ∧ c ≤ 122)) : RouteOk r := by
  unfold RouteOk encRoute
  simp only [isRoute, Bool.and_eq_true, decide_eq_true_eq, List.length_map]
  refine ⟨by omega, ?_⟩
  rw [List.all_eq_true]
  intro d hd
  obtain ⟨c, hc, rfl⟩ := List.mem_map.mp hd
  have e : isPlus (.str (one c)) = decide (c = 43) := plus_one
  unfold isLetter
  rw [isName_one, e]
  rcases h2 c hc with rfl | ⟨a, b⟩
  · rfl
  · simp [a, b]
theorem lookB_some {b : Book} {c : Nat} (h : c ∈ b.map (·.1)) : ∃ cal, lookB b c = some cal := by
  obtain ⟨p, hp, rfl⟩ := List.mem_map.mp h
  unfold lookB
  cases e : b.find? fun q => decide (q.1 = p.1) with
  | none =>
    have := List.find?_eq_none.mp e p hp
    simp at this
  | some q => exact ⟨q.2, rfl⟩
theorem ltCps_one (a b : Nat) : ltCps [a] [b] = decide (a < b) := by
  unfold ltCps
  by_cases h : a < b
  · simp [h]
  · by_cases h2 : b < a <;> simp [h, h2, ltCps]
theorem rising_ones : ∀ (cs : List Nat) (p : Nat), risingS (one p) (cs.map one) = true → (p :: cs).Pairwise (· ≤ ·)
  | [], p, _ => List.pairwise_singleton _ _
  | c :: cs, p, h => by
    have h' : (!ltCps [c] [p] && risingS (one c) (cs.map one)) = true := h
    rw [Bool.and_eq_true, ltCps_one] at h'
    have hc : p ≤ c := by
      have := h'.1
      simp at this
      omega
    have ih := rising_ones cs c h'.2
    refine List.pairwise_cons.mpr ⟨fun x hx => ?_, ih⟩
    rcases List.mem_cons.mp hx with rfl | hx
    · exact hc
    · exact Nat.le_trans hc ((List.pairwise_cons.mp ih).1 x hx)
theorem sorted_ones {cs : List Nat} (h : sortedS (cs.map one) = true) : cs.Pairwise (· ≤ ·) := by
  cases cs with
  | nil => exact List.Pairwise.nil
  | cons c r => exact rising_ones r c h
theorem strict_of {cs : List Nat} (h : cs.Pairwise (· ≤ ·)) (n : cs.Nodup) : cs.Pairwise (· < ·) := by
  induction cs with
  | nil => exact List.Pairwise.nil
  | cons c r ih =>
    obtain ⟨a, b⟩ := List.pairwise_cons.mp h
    obtain ⟨x, y⟩ := List.nodup_cons.mp n
    refine List.pairwise_cons.mpr ⟨fun d hd => ?_, ih b y⟩
    have := a d hd
    have : c ≠ d := fun e => x (e ▸ hd)
    omega
def un (s : Str) : Nat := s.cps.toList.headD 0
theorem un_ones {cs : List Nat} {ys : List Str} (h : ys.Perm (cs.map one)) : ∃ ds : List Nat, ys = ds.map one ∧ ds.Perm cs := by
  have e : ys = (ys.map un).map one := by
    rw [List.map_map]
    conv => lhs; rw [← List.map_id ys]
    refine List.map_congr_left fun y hy => ?_
    obtain ⟨c, _, rfl⟩ := List.mem_map.mp (h.mem_iff.mp hy)
    rfl
  refine ⟨ys.map un, e, ?_⟩
  have h2 := h.map un
  rw [List.map_map] at h2
  have : cs.map (un ∘ one) = cs := by
    conv => rhs; rw [← List.map_id cs]
    exact List.map_congr_left fun c _ => rfl
  rwa [this] at h2
theorem erase_perm : ∀ (l : List Nat) (k : Nat) (x : Nat), l[k]? = some x → (x :: l.eraseIdx k).Perm l
  | [], _, _, h => by simp at h
  | a :: l, 0, x, h => by
    cases h
    exact List.Perm.refl _
  | a :: l, k + 1, x, h => by
    have ih := erase_perm l k x (by simpa using h)
    exact (List.Perm.swap a x _).trans (ih.cons a)
theorem eraseIdx_map {α β : Type} (f : α → β) : ∀ (l : List α) (k : Nat), (l.map f).eraseIdx k = (l.eraseIdx k).map f
  | [], _ => by simp
  | a :: l, 0 => rfl
  | a :: l, k + 1 => by
    show f a :: (l.map f).eraseIdx k = f a :: (l.eraseIdx k).map f
    rw [eraseIdx_map f l k]
def rPopB : V → List V → Hp → VK → Prop := rPopAt
theorem m_popAt {X : Cx} : MtR X "list.pop" rPopB := mt_popAt
theorem w_popAt {l : Addr} {xs : List V} {i : Int} {y : V} {H : Hp} {Q : VK} (h : H l = some (.lst xs)) (h0 : 0 ≤ i) (h1 : i < xs.length) (h2 : xs.length ≤ 1000) (e : xs[i.toNat]? = some y) (q : Q y (upd H l (.lst (xs.eraseIdx i.toNat)))) : rPopB (.ref l) [.int i] H Q := by
  refine ⟨l, xs, i, i.toNat, y, rfl, rfl, h, by omega, by omega, ?_, e, q⟩
  have hj : ¬ i < 0 := by omega
  unfold seqIndex?
  simp only [hj, if_false]
  simp [h0, h1]
def spLawBook (K : PySem.W.Frag) : Sp := fun vs H Q _ => ∃ h sc m, vs = [.ref h, .int m] ∧ Hand H h sc ∧ 1 ≤ m ∧ m ≤ 4 ∧ ∀ v b H', Hand H' h sc → Xb H H' → Bk K H' v b → BookOk b → b ≠ [] → Q v H'
def spLawRoute (K : PySem.W.Frag) : Sp := fun vs H Q _ => ∃ h sc vb b m, vs = [.ref h, vb, .int m] ∧ Hand H h sc ∧ Rp K H vb (encBook b) ∧ BookOk b ∧ 0 ≤ m ∧ m ≤ 8 ∧ ∀ v r H', Hand H' h sc → Xb H H' → Rp K H' v (encRoute r) → RouteOk r → Has b r → Q v H'
def spLawMoved (K : PySem.W.Frag) : Sp := fun vs H Q _ => ∃ vb vr b r d, vs = [vb, vr, .int d] ∧ Bk K H vb b ∧ BookOk b ∧ Rp K H vr (encRoute r) ∧ Has b r ∧ ∀ H', Ex H H' → Q (.int (moveF b r d)) H'
section
variable {P : Program} {w : World} {K : PySem.W.Frag} {mg : Str → Option Value} {base : Heap} {ad : Nat → Addr} {fdd : Nat → FuncData}
theorem ok_law_book (T : Tx K mg ad fdd) (G_law_draw : FnOk P w K mg base CX0 1 (ad 48) (fdd 48) ["_law_hand_here", "_law_size"] (spDraw 1 1000000)) (G_law_calendar : FnOk P w K mg base CX0 3 (ad 50) (fdd 50) ["_law_hand_here"] (spLawCal K)) : FnOk P w K mg base CX0 4 (ad 53) (fdd 53) ["_law_hand_here", "_law_most"] (spLawBook K) := by
  refine T.F_law_book.ok sc_law_book (fun vs H Q E h => ?_) (fun cdv A outer s H vs Q E hr h => ?_)
  · obtain ⟨h, sc, m, rfl, _⟩ := h
    rfl
  · obtain ⟨h, sc, m, rfl, hh, m1, m4, q⟩ := h
    refine ⟨_, (pss_cons (ps_set (i := 2) sc_law_book.nd rfl (by first | exact Or.inl rfl | exact Or.inr rfl) (pe_callTy (c_listStr rfl) (by rfl) T.m_list (by decide +kernel) (pa_cons pe_str pa_nil)))
    (pss_cons (ps_set (i := 3) sc_law_book.nd rfl (by first | exact Or.inl rfl | exact Or.inr rfl) (pe_callB (show CallR _ _ (rSortedS K) from cr_sortedS) (by rfl) T.m_sorted (by decide +kernel) (pa_cons (pe_lc (own := [("_law_turn", 4)]) rfl sc_law_book.nd (pi_range1 (by rfl) T.m_range (pa_cons (pe_op op_add pe_int (pe_call G_law_draw (hr.mono (by decide)) (by rfl) T.g_law_draw T.F_law_draw.kp T.b_law_draw .nil pass0 (pa_cons (pv 0) (pa_cons (pv 1) pa_nil)))) pa_nil)) (blkOk_by (own := [("_law_turn", 4)]) (N := N_law_book) (sc := defScope s_law_book) (by decide +kernel)) (fun _ _ _ _ _ => (pg_name (i := 4) sc_law_book.nd rfl (by first | exact Or.inl rfl | exact Or.inr rfl))) (fun _ _ _ _ _ => pts_nil) (fun _ _ _ _ _ => (show PE _ _ (tBM K "list" _ _ _) from pe_bm PySem.F.plainAttrs_list PySem.F.slot_list_pop PySem.F.type_list_pop m_popAt (pv 2) (pa_cons (pe_call G_law_draw (hr.mono (by decide)) (by rfl) T.g_law_draw T.F_law_draw.kp T.b_law_draw .nil pass0 (pa_cons (pv 0) (pa_cons (pe_callB (show CallR _ _ (rLen K) from c_len) (by rfl) T.m_len (by decide +kernel) (pa_cons (pv 2) pa_nil)) pa_nil))) pa_nil)))) pa_nil)))
    (pss_one (ps_ret (pe_callTy (show CallR _ _ (rTupleF K) from c_tupleF) (by rfl) T.m_tuple (by decide +kernel) (pa_cons (pe_lc (own := [("_law_name", 5)]) rfl sc_law_book.nd (pi_list (pv 3)) (blkOk_by (own := [("_law_name", 5)]) (N := N_law_book) (sc := defScope s_law_book) (by decide +kernel)) (fun _ _ _ _ _ => (pg_name (i := 5) sc_law_book.nd rfl (by first | exact Or.inl rfl | exact Or.inr rfl))) (fun _ _ _ _ _ => pts_nil) (fun _ _ _ _ _ => (pe_tup (pa_cons (pv 5) (pa_cons (pe_call G_law_calendar (hr.mono (by decide)) (by rfl) T.g_law_calendar T.F_law_calendar.kp T.b_law_calendar .nil pass0 (pa_cons (pv 0) pa_nil)) pa_nil))))) pa_nil)))))), ?_⟩
    dsimp only [L2.start, N_law_book, cxOf, Cx.nox, Cx.wish]
    walk_at "go"
    refine w_listStr (by decide) fun l H1 nl e1 hl _ => ?_
    have hl' : H1 l = some (.lst ((([97, 98, 111, 122] : List Nat).map one).map V.str)) := hl
    have hh1 := hh.ex e1
    obtain ⟨l1, l2⟩ := hh.off nl
    walk_at "go"
    refine ⟨h, sc, m, rfl, hh1, by omega, by omega, fun k H2 k0 k1 hh2 e2 => ?_⟩
    walk_at "go"
    have hl2 : H2 l = some (.lst ((([97, 98, 111, 122] : List Nat).map one).map V.str)) := e2 _ _ hl' (sh_strs _)
    refine w_lcR ⟨by omega, by omega⟩ ?_
    refine lc_R (fun D i H' => Hand H' h sc ∧ Xb H H' ∧ ∃ ls ts : List Nat, H' l = some (.lst ((ls.map one).map V.str)) ∧ H' D = some (.lst ((ts.map one).map V.str)) ∧ (ts ++ ls).Perm [97, 98, 111, 122] ∧ ts.length = i) (fun D nD => ?_) (fun D i H' nD hi p => ?_) (fun D H' nD p => ?_)
    · have nDl : l ≠ D := ne_of_none hl2 nD
      exact ⟨hh2.upd (hh2.off nD).1 (hh2.off nD).2, (e1.b.trans e2).trans (Ex.new nD).b, _, [], by rw [upd_ne nDl]; exact hl2, upd_same, List.Perm.refl _, rfl⟩
    · obtain ⟨hh3, e3, ls, ts, hls, hts, hp, htl⟩ := p
      have nDl : l ≠ D := ne_of_none hl2 nD
      have hlen := hp.length_eq
      rw [List.length_append] at hlen
      have hlen' : ts.length + ls.length = 4 := hlen
      walk_at "go"
      refine ⟨rfl, ?_⟩
      walk_at "go"
      refine iteT ?_
      walk_at "go"
      refine w_tyL hls ?_
      walk_at "go"
      refine w_lenL (sq_of hls) ?_
      walk_at "go"
      refine ⟨h, sc, _, rfl, hh3, by rw [List.length_map, List.length_map]; omega, by rw [List.length_map, List.length_map]; omega, fun j H4 j0 j1 hh4 e4 => ?_⟩
      rw [List.length_map, List.length_map] at j1
      walk_at "go"
      have hls4 := e4 _ _ hls (sh_strs _)
      have hts4 := e4 _ _ hts (sh_strs _)
      have hj : j.toNat < ls.length := by omega
      have hx : ls[j.toNat]? = some ls[j.toNat] := List.getElem?_eq_getElem hj
      refine w_popAt hls4 j0 (by rw [List.length_map, List.length_map]; exact j1) (by rw [List.length_map, List.length_map]; omega) (y := .str (one ls[j.toNat])) (by rw [List.getElem?_map, List.getElem?_map, hx]; rfl) ?_
      refine ⟨_, by rw [upd_ne nDl.symm]; exact hts4, small1000 ?_, (hh4.upd l1 l2).upd (hh2.off nD).1 (hh2.off nD).2, ?_, ls.eraseIdx j.toNat, ts ++ [ls[j.toNat]], ?_, ?_, ?_, ?_⟩
      · rw [List.length_map, List.length_map]; omega
      · exact ((e3.trans e4).mut nl).mut (fresh_back e1 (e2.free D nD))
      · rw [upd_ne nDl, upd_same, eraseIdx_map, eraseIdx_map]
      · rw [upd_same, List.map_append, List.map_append]; rfl
      · refine List.Perm.trans ?_ hp
        rw [List.append_assoc]
        exact (erase_perm ls j.toNat _ hx).append_left ts
      · rw [List.length_append, htl]; rfl
    · obtain ⟨hh3, e3, ls, ts, hls, hts, hp, htl⟩ := p
      have htl4 : ts.length ≤ 4 := by omega
      walk_at "go"
      refine ⟨D, ts.map one, rfl, sq_of hts, by rw [List.length_map]; omega, fun ys p4 hpm hsr np4 => ?_⟩
      obtain ⟨cs, rfl, hcs⟩ := un_ones hpm
      have hnd : (ts ++ ls).Nodup := hp.nodup_iff.mpr (by decide)
      have hstr := strict_of (sorted_ones hsr) (hcs.nodup_iff.mpr (List.nodup_append.mp hnd).1)
      have hrange : ∀ c ∈ cs, 97 ≤ c ∧ c ≤ 122 := by
        intro c hc
        have := hp.mem_iff.mp (List.mem_append_left ls (hcs.mem_iff.mp hc))
        simp only [List.mem_cons, List.not_mem_nil, or_false] at this
        omega
      have e4 : Ex H' (upd H' p4 (.lst ((cs.map one).map V.str))) := Ex.new np4
      have hh4 := hh3.ex e4
      generalize hH4 : upd H' p4 (.lst ((cs.map one).map V.str)) = H4 at e4 hh4 ⊢
      have hp4 : H4 p4 = some (.lst ((cs.map one).map V.str)) := by rw [← hH4]; exact upd_same
      walk_at "go"
      refine w_lcL (sq_of hp4) ?_
      refine lc_L (xs := (cs.map one).map V.str) (fun D i H' => Hand H' h sc ∧ Xb H4 H' ∧ ∃ (vs : List V) (b : Book), H' D = some (.lst vs) ∧ RpAll K H' vs (b.map encNamed) ∧ b.map (·.1) = cs.take i ∧ ∀ p ∈ b, p.2.Ok) (fun D nD => ⟨hh4.upd (hh4.off nD).1 (hh4.off nD).2, (Ex.new nD).b, [], [], upd_same, .nil, rfl, (fun p hp => by cases hp)⟩) (fun D i H' hi p => sq_of (p.2.1 _ _ hp4 (sh_strs _))) (fun D i x H' nD hx p => ?_) (fun D H' nD p => ?_)
      · obtain ⟨hh5, e5, vs, b, hD, hr5, hb, hok⟩ := p
        rw [List.getElem?_map, List.getElem?_map] at hx
        obtain ⟨s', hs', rfl⟩ := Option.map_eq_some_iff.mp hx
        obtain ⟨c, hc, rfl⟩ := Option.map_eq_some_iff.mp hs'
        walk_at "go"
        refine ⟨rfl, ?_⟩
        walk_at "go"
        refine iteT ?_
        walk_at "go"
        refine ⟨h, sc, rfl, hh5, fun vc cal H6 hh6 e6 rc ok => ?_⟩
        walk_at "go"
        refine w_new (by exact Nat.le_of_ble_eq_true rfl) fun p7 H7 np7 e7 hp7 _ => ?_
        have e57 := e6.trans e7.b
        have hD7 := e57 _ _ hD (sh_refs hr5)
        have hbl : b.length = i := by
          have := congrArg List.length hb
          rw [List.length_map, List.length_take] at this
          have := (List.getElem?_eq_some_iff.mp hc).1
          omega
        have hvl := hr5.len
        rw [List.length_map] at hvl
        have hcl : cs.length ≤ 4 := by rw [hcs.length_eq]; exact htl4
        have hil := (List.getElem?_eq_some_iff.mp hc).1
        refine ⟨_, hD7, small1000 (by omega), (hh6.ex e7).upd (hh4.off nD).1 (hh4.off nD).2, (e5.trans e57).mut nD, vs ++ [.ref p7], b ++ [(c, cal)], upd_same, ?_, ?_, ?_⟩
        · rw [List.map_append]
          refine RpAll.updL hD7 ((hr5.mono e57).app (.cons (.tup (st_of hp7) (.cons (.str _) (.cons (rc.mono e7.b) .nil))) .nil)) ?_
          have := noL_book (b ++ [(c, cal)])
          rwa [List.map_append] at this
        · rw [List.map_append, hb, List.take_add_one, hc]; rfl
        · intro p hp
          rcases List.mem_append.mp hp with hp | hp
          · exact hok p hp
          · cases List.mem_singleton.mp hp; exact ok
      · obtain ⟨hh5, e5, vs, b, hD, hr5, hb, hok⟩ := p
        rw [List.take_of_length_le (by rw [List.length_map, List.length_map]; exact Nat.le_refl _)] at hb
        have hbl : b.length = ts.length := by
          have := congrArg List.length hb
          rw [List.length_map, hcs.length_eq] at this
          exact this
        walk_at "go"
        refine w_tupleF (sq_of hD) fun p6 o6 H6 np6 e6 ho6 hp6 => ?_
        have okb : BookOk b := BookOk_of (by omega) (fun p hp => ⟨(hrange p.1 (hb ▸ List.mem_map_of_mem hp)).1, (hrange p.1 (hb ▸ List.mem_map_of_mem hp)).2, hok p hp⟩) (hb ▸ hstr)
        refine q _ b H6 (hh5.ex e6) (((e3.trans e4.b).trans e5).trans e6.b) ⟨p6, o6, vs, rfl, hp6, ho6, hr5.mono e6.b⟩ okb ?_
        intro z
        rw [z] at hbl
        have hb0 : 0 = ts.length := hbl
        omega
end

theorem rp_ones {K : PySem.W.Frag} {H : Hp} : ∀ cs : List Nat, RpAll K H ((cs.map one).map V.str) (cs.map fun c => PyData.str (one c))
  | [] => .nil
  | c :: cs => .cons (.str _) (rp_ones cs)
theorem w_slTake' {K : PySem.W.Frag} {H : Hp} {Q : VK} {a : Addr} {xs : List V} {k : Nat} {j : Int} (hj : j = (k : Int)) (h : SqT K H a xs) (hk : k ≤ xs.length) (q : ∀ l H2, Ex H H2 → SqT K H2 l (xs.take k) → Q (.ref l) H2) : rSlA K (.ref a) none (some j) H Q := by
  subst hj
  exact w_slTake h hk q
theorem shaped_ints (ns : List Int) : SeqAt.shaped (.list (ns.map PyData.int)) = true := by
  have h1 : ∀ ns : List Int, PyData.canLayAll0 (ns.map PyData.int) = true := by
    intro ns
    induction ns with
    | nil => simp [PyData.canLayAll0]
    | cons n r ih =>
      rw [List.map_cons]
      simp only [PyData.canLayAll0, PyData.canLay0, Bool.true_and]
      exact ih
  have h2 : ∀ ns : List Int, PyData.depthAll (ns.map PyData.int) = 0 := by
    intro ns
    induction ns with
    | nil => simp [PyData.depthAll]
    | cons n r ih =>
      rw [List.map_cons]
      simp only [PyData.depthAll, PyData.depth, ih]; rfl
  have e1 : PyData.canLay0 (.list (ns.map PyData.int)) = PyData.canLayAll0 (ns.map PyData.int) := by simp only [PyData.canLay0]
  have e2 : PyData.depth (.list (ns.map PyData.int)) = PyData.depthAll (ns.map PyData.int) + 1 := by simp only [PyData.depth]
  unfold SeqAt.shaped
  rw [e1, e2, h1, h2]
  rfl
theorem eqv_ints (ns : List Int) : PyData.eqv (.list (ns.map PyData.int)) (.list (ns.map PyData.int)) = true := by
  have h : ∀ ns : List Int, PyData.eqvAll (ns.map PyData.int) (ns.map PyData.int) = true := by
    intro ns
    induction ns with
    | nil => simp [PyData.eqvAll]
    | cons n r ih =>
      rw [List.map_cons]
      simp only [PyData.eqvAll, PyData.eqv, ih, Bool.and_true, beq_self_eq_true]
  simp only [PyData.eqv, h]
theorem dp_ints {K : PySem.W.Frag} {H : Hp} : ∀ ns : List Int, DpAll K H (ns.map V.int) (ns.map PyData.int)
  | [] => .nil
  | n :: r => .cons (.int n) (dp_ints r)
theorem flat_ones : ∀ cs : List Nat, ((cs.map one).map V.str).all flatV = true
  | [] => rfl
  | _ :: cs => by
    show (true && ((cs.map one).map V.str).all flatV) = true
    rw [flat_ones cs]; rfl
theorem in_ones (c : Nat) : ∀ cs : List Nat, inV (.str (one c)) ((cs.map one).map V.str) = decide (c ∈ cs)
  | [] => rfl
  | d :: cs => by
    have ih := in_ones c cs
    show (eqV (.str (one d)) (.str (one c)) || inV (.str (one c)) ((cs.map one).map V.str)) = _
    have e : eqV (.str (one d)) (.str (one c)) = decide (d = c) := by
      show ((one d) == (one c)) = _
      rw [Bool.eq_iff_iff, beq_iff_eq, decide_eq_true_eq]
      exact ⟨one_inj, fun z => by rw [z]⟩
    rw [ih, e, Bool.eq_iff_iff, Bool.or_eq_true, decide_eq_true_eq, decide_eq_true_eq, decide_eq_true_eq, List.mem_cons]
    constructor
    · rintro (z | z)
      · exact .inl z.symm
      · exact .inr z
    · rintro (z | z)
      · exact .inl z.symm
      · exact .inr z
theorem w_inT {K : PySem.W.Frag} {H : Hp} {Q : VK} {x : V} {a : Addr} {xs : List V} (h : SqT K H a xs) (hx : flatV x = true) (ha : xs.all flatV = true) (q : Q (.bl (inV x xs)) H) : rIn K false x (.ref a) H Q := ⟨a, xs, rfl, .inr h, hx, ha, q⟩
theorem lookB_filter (b : Book) (r : List Nat) {c : Nat} (hc : c ∈ r) : lookB (b.filter fun p => decide (p.1 ∈ r)) c = lookB b c := by
  unfold lookB
  congr 1
  induction b with
  | nil => rfl
  | cons p b ih =>
    by_cases e : p.1 ∈ r
    · rw [List.filter_cons_of_pos (by simpa using e)]
      by_cases e2 : p.1 = c
      · rw [List.find?_cons_of_pos (by simpa using e2), List.find?_cons_of_pos (by simpa using e2)]
      · rw [List.find?_cons_of_neg (by simpa using e2), List.find?_cons_of_neg (by simpa using e2), ih]
    · rw [List.filter_cons_of_neg (by simpa using e), ih]
      have e2 : ¬ p.1 = c := fun z => e (z ▸ hc)
      rw [List.find?_cons_of_neg (by simpa using e2)]
theorem moveF_congr {b b' : Book} : ∀ (r : List Nat) (d : Int), (∀ c ∈ r, lookB b' c = lookB b c) → moveF b' r d = moveF b r d
  | [], _, _ => rfl
  | c :: r, d, h => by
    show moveF b' r (stepF b' d c) = moveF b r (stepF b d c)
    have e : stepF b' d c = stepF b d c := by
      unfold stepF
      rw [h c (List.mem_cons_self ..)]
    rw [e]
    exact moveF_congr r _ fun x hx => h x (List.mem_cons_of_mem _ hx)
theorem has_take {b : Book} {r : List Nat} (h : Has b r) (k : Nat) : Has b (r.take k) := fun c hc => h c (List.mem_of_mem_take hc)
theorem sortedB {b : Book} (h : BookOk b) : (b.map (·.1)).Pairwise (· < ·) := List.pairwise_map.mpr h.parts.2.2
theorem BookOk.filter {b : Book} (h : BookOk b) (f : Nat × Cal → Bool) : BookOk (b.filter f) := by
  obtain ⟨h1, h2, h3⟩ := h.parts
  refine BookOk_of ?_ (fun p hp => h2 p (List.mem_filter.mp hp).1) ?_
  · have := List.length_filter_le f b
    omega
  · exact List.pairwise_map.mpr (h3.sublist List.filter_sublist)
def spLaw (K : PySem.W.Frag) : Sp := fun vs H Q _ => ∃ (a : Addr) (ns : List Int), vs = [.ref a] ∧ SqL K H a (ns.map V.int) ∧ ns.length ≤ 63 ∧ ∀ H', Q (.bl true) H'
theorem atI_mem {ns : List Int} {i : Int} (h0 : 0 ≤ i) (h1 : i < ns.length) : ∃ v : Int, v ∈ ns ∧ atI (ns.map V.int) i = some (.int v) := by
  have h2 : i.toNat < ns.length := by omega
  refine ⟨ns[i.toNat], List.getElem_mem h2, ?_⟩
  unfold atI ixN
  rw [if_pos h0, if_pos (by rw [List.length_map]; exact h1)]
  show (ns.map V.int)[i.toNat]? = _
  rw [List.getElem?_map, List.getElem?_eq_getElem h2]; rfl
theorem atI_one {cs : List Nat} {i : Int} (h0 : 0 ≤ i) (h1 : i < cs.length) : ∃ c : Nat, c ∈ cs ∧ atI ((cs.map one).map V.str) i = some (.str (one c)) := by
  have h2 : i.toNat < cs.length := by omega
  refine ⟨cs[i.toNat], List.getElem_mem h2, ?_⟩
  unfold atI ixN
  rw [if_pos h0, if_pos (by rw [List.length_map, List.length_map]; exact h1)]
  show ((cs.map one).map V.str)[i.toNat]? = _
  rw [List.getElem?_map, List.getElem?_map, List.getElem?_eq_getElem h2]; rfl
section
variable {P : Program} {w : World} {K : PySem.W.Frag} {mg : Str → Option Value} {base : Heap} {ad : Nat → Addr} {fdd : Nat → FuncData}
theorem ok_law_route (T : Tx K mg ad fdd) (G_law_draw : FnOk P w K mg base CX0 1 (ad 48) (fdd 48) ["_law_hand_here", "_law_size"] (spDraw 1 1000000)) : FnOk P w K mg base CX0 2 (ad 54) (fdd 54) ["_law_hand_here", "_law_book_here", "_law_most"] (spLawRoute K) := by
  refine T.F_law_route.ok sc_law_route (fun vs H Q E h => ?_) (fun cdv A outer s H vs Q E hr h => ?_)
  · obtain ⟨h, sc, vb, b, m, rfl, _⟩ := h
    rfl
  · obtain ⟨h, sc, vb, b, m, rfl, hh, hb, okb, m0, m8, q⟩ := h
    obtain ⟨a, xs, rfl, hs, rb⟩ := hb.isTup
    have hl := rb.len
    rw [List.length_map] at hl
    have hb4 := okb.parts.1
    refine ⟨_, (pss_cons (ps_set (i := 3) sc_law_route.nd rfl (by first | exact Or.inl rfl | exact Or.inr rfl) (pe_op op_cat (pe_lc (own := [("_law_name", 4), ("_law_calendar_here", 5)]) rfl sc_law_route.nd (pi_tup (pv 1)) (blkOk_by (own := [("_law_name", 4), ("_law_calendar_here", 5)]) (N := N_law_route) (sc := defScope s_law_route) (by decide +kernel)) (fun _ _ _ _ _ => (show PG _ _ (gTup K 2 _) from pg_tup rfl (pgs_cons (pg_name (i := 4) sc_law_route.nd rfl (by first | exact Or.inl rfl | exact Or.inr rfl)) (pgs_cons (pg_name (i := 5) sc_law_route.nd rfl (by first | exact Or.inl rfl | exact Or.inr rfl)) pgs_nil)))) (fun _ _ _ _ _ => pts_nil) (fun _ _ _ _ _ => (pv 4))) (pe_lst (pa_cons pe_str (pa_cons pe_str pa_nil)))))
    (pss_one (ps_ret (pe_callTy (show CallR _ _ (rTupleOf K) from c_tupleOf) (by rfl) T.m_tuple (by decide +kernel) (pa_cons (pe_lc (own := [("_law_turn", 6)]) rfl sc_law_route.nd (pi_range1 (by rfl) T.m_range (pa_cons (pe_call G_law_draw (hr.mono (by decide)) (by rfl) T.g_law_draw T.F_law_draw.kp T.b_law_draw .nil pass0 (pa_cons (pv 0) (pa_cons (pe_op op_add (pv 2) pe_int) pa_nil))) pa_nil)) (blkOk_by (own := [("_law_turn", 6)]) (N := N_law_route) (sc := defScope s_law_route) (by decide +kernel)) (fun _ _ _ _ _ => (pg_name (i := 6) sc_law_route.nd rfl (by first | exact Or.inl rfl | exact Or.inr rfl))) (fun _ _ _ _ _ => pts_nil) (fun _ _ _ _ _ => (pe_ix (show IxR _ (rIxL K) from ix_list) (pv 3) (pe_call G_law_draw (hr.mono (by decide)) (by rfl) T.g_law_draw T.F_law_draw.kp T.b_law_draw .nil pass0 (pa_cons (pv 0) (pa_cons (pe_callB (show CallR _ _ (rLen K) from c_len) (by rfl) T.m_len (by decide +kernel) (pa_cons (pv 3) pa_nil)) pa_nil))) (fun _ _ => rfl)))) pa_nil))))), ?_⟩
    dsimp only [L2.start, N_law_route, cxOf, Cx.nox, Cx.wish]
    walk_at "go"
    refine w_lcT hs ?_
    refine lc_T (xs := xs) (fun D i H' => Ex H H' ∧ H' D = some (.lst ((((b.map (·.1)).take i).map one).map V.str))) (fun D nD => ⟨Ex.new nD, upd_same⟩) (fun D i H' hi p => p.1.b.tup hs) (fun D i x H' nD hx p => ?_) (fun D H' nD p => ?_)
    · obtain ⟨e, hD⟩ := p
      obtain ⟨d1, g1, r1⟩ := rb.at hx
      rw [List.getElem?_map] at g1
      obtain ⟨p, gp, rfl⟩ := Option.map_eq_some_iff.mp g1
      obtain ⟨p1, ys, rfl, s1, q1⟩ := r1.isTup
      obtain ⟨v1, v2, rfl, t1, t2⟩ := q1.two
      cases t1.isStr
      have hi := (List.getElem?_eq_some_iff.mp hx).1
      refine w_gTup2 (e.b.tup s1) ?_
      refine ⟨rfl, ?_⟩
      walk_at "go"
      refine iteT ?_
      walk_at "go"
      refine ⟨_, hD, small1000 ?_, e.mut nD, ?_⟩
      · rw [List.length_map, List.length_map, List.length_take]; omega
      · rw [upd_same, List.take_add_one, List.getElem?_map, gp, List.map_append, List.map_append]; rfl
    · obtain ⟨e, hD⟩ := p
      rw [List.take_of_length_le (by rw [List.length_map, hl]; exact Nat.le_refl _)] at hD
      walk_at "go"
      refine w_new (by exact Nat.le_of_ble_eq_true rfl) fun p2 H2 np2 e2 hp2 _ => ?_
      have hp2' : H2 p2 = some (.lst ((([43, 43] : List Nat).map one).map V.str)) := hp2
      walk_at "go"
      refine w_cat (e2 _ _ hD) hp2' (by rw [List.length_map, List.length_map, List.length_map, List.length_map]; show _ + 2 ≤ _; omega) fun p3 H3 np3 e3 hp3 _ => ?_
      rw [← List.map_append, ← List.map_append] at hp3
      have e03 := (e.trans e2).trans e3
      have hh3 := hh.ex e03
      walk_at "go"
      refine ⟨h, sc, m + 1, rfl, hh3, by omega, by omega, fun n H4 n0 n1 hh4 e4 => ?_⟩
      walk_at "go"
      refine w_lcR ⟨by omega, by omega⟩ ?_
      generalize hmn : b.map (·.1) ++ [43, 43] = mn at hp3
      have hmn2 : mn.length = b.length + 2 := by rw [← hmn, List.length_append, List.length_map]; rfl
      refine lc_R (fun D i H' => Hand H' h sc ∧ Xb H4 H' ∧ ∃ cs : List Nat, H' D = some (.lst ((cs.map one).map V.str)) ∧ cs.length = i ∧ ∀ c ∈ cs, c ∈ mn) (fun D nD => ⟨hh4.upd (hh4.off nD).1 (hh4.off nD).2, (Ex.new nD).b, [], upd_same, rfl, (fun c hc => by cases hc)⟩) (fun D i H' nD hi p => ?_) (fun D H' nD p => ?_)
      · obtain ⟨hh5, e5, cs, hD5, hcl, hcm⟩ := p
        walk_at "go"
        refine ⟨rfl, ?_⟩
        walk_at "go"
        refine iteT ?_
        walk_at "go"
        have hm5 := (e4.trans e5) _ _ hp3 (sh_strs _)
        refine w_lenL (sq_of hm5) ?_
        walk_at "go"
        refine ⟨h, sc, _, rfl, hh5, by rw [List.length_map, List.length_map]; omega, by rw [List.length_map, List.length_map]; omega, fun k H6 k0 k1 hh6 e6 => ?_⟩
        rw [List.length_map, List.length_map] at k1
        walk_at "go"
        obtain ⟨c, hc, hat⟩ := atI_one (cs := mn) k0 k1
        refine w_ixL (sq_of (e6 _ _ hm5 (sh_strs _))) hat ?_
        refine ⟨_, e6 _ _ hD5 (sh_strs _), small1000 ?_, hh6.upd (hh4.off nD).1 (hh4.off nD).2, (e5.trans e6).mut nD, cs ++ [c], ?_, ?_, ?_⟩
        · rw [List.length_map, List.length_map]; omega
        · rw [upd_same, List.map_append, List.map_append]; rfl
        · rw [List.length_append, hcl]; rfl
        · intro x hx
          rcases List.mem_append.mp hx with hx | hx
          · exact hcm x hx
          · cases List.mem_singleton.mp hx; exact hc
      · obtain ⟨hh5, e5, cs, hD5, hcl, hcm⟩ := p
        walk_at "go"
        refine w_tupleL (sq_of hD5) fun p6 H6 np6 e6 hp6 _ => ?_
        have hmem : ∀ c ∈ cs, c = 43 ∨ (c ∈ b.map (·.1)) := by
          intro c hc
          have := hcm c hc
          rw [← hmn] at this
          rcases List.mem_append.mp this with z | z
          · exact .inr z
          · left
            simp at z
            exact z
        refine q _ cs H6 (hh5.ex e6) (((e03.b.trans e4).trans e5).trans e6.b) (.tup (st_of hp6) (rp_ones cs)) (RouteOk_of (by omega) fun c hc => ?_) (fun c hc hn => ?_)
        · rcases hmem c hc with z | z
          · exact .inl z
          · obtain ⟨p, hp, rfl⟩ := List.mem_map.mp z
            have := okb.parts.2.1 p hp
            exact .inr ⟨this.1, this.2.1⟩
        · rcases hmem c hc with z | z
          · exact absurd z hn
          · exact lookB_some z
theorem ok_law_moved (T : Tx K mg ad fdd) (G_law_open : FnOk P w K mg base CX0 1 (ad 51) (fdd 51) ["_law_calendar_here", "_law_day_here"] (spLawOpen K)) : FnOk P w K mg base CX0 2 (ad 55) (fdd 55) ["_law_book_here", "_law_route_here", "_law_day_here"] (spLawMoved K) := by
  refine T.F_law_moved.ok sc_law_moved (fun vs H Q E h => ?_) (fun cdv A outer s H vs Q E hr h => ?_)
  · obtain ⟨vb, vr, b, r, d, rfl, _⟩ := h
    rfl
  · obtain ⟨vb, vr, b, r, d, rfl, hb, okb, hr', has, q⟩ := h
    obtain ⟨a, xs, rfl, hs, rr⟩ := hr'.isTup
    have hl := rr.len
    rw [List.length_map] at hl
    refine ⟨_, (pss_cons (ps_set (i := 3) sc_law_moved.nd rfl (by first | exact Or.inl rfl | exact Or.inr rfl) (pe_callTy (c_dictT rfl) (by rfl) T.m_dict (by decide +kernel) (pa_cons (pv 0) pa_nil)))
    (pss_cons (ps_for PassesOwn.never rfl (pi_tup (pv 1)) (pg_name (i := 4) sc_law_moved.nd rfl (by first | exact Or.inl rfl | exact Or.inr rfl))
    (pss_one (ps_if (pt_cmpR op_eq (pv 4) pe_str (nomark _))
    (pss_one (ps_set (i := 2) sc_law_moved.nd rfl (by first | exact Or.inl rfl | exact Or.inr rfl) (pe_op op_add (pv 2) pe_int)))
    (pss_one (ps_for PassesOwn.never rfl (pi_range1 (by rfl) T.m_range (pa_cons pe_int pa_nil)) (pg_name (i := 5) sc_law_moved.nd rfl (by first | exact Or.inl rfl | exact Or.inr rfl))
    (pss_cons (ps_if (pt_val (pe_call G_law_open (hr.mono (by decide)) (by rfl) T.g_law_open T.F_law_open.kp T.b_law_open .nil pass0 (pa_cons (pe_dget (hu_of hr) (pv 3) (pv 4) (fun _ _ => rfl)) (pa_cons (pv 2) pa_nil))))
    (pss_one ps_break)
    pss_nil)
    (pss_one (ps_set (i := 2) sc_law_moved.nd rfl (by first | exact Or.inl rfl | exact Or.inr rfl) (pe_op op_add (pv 2) pe_int)))))))))
    (pss_one (ps_ret (pv 2))))), ?_⟩
    dsimp only [L2.start, N_law_moved, cxOf, Cx.nox, Cx.wish]
    walk_at "go"
    refine w_dictB hb okb fun l H1 nl e1 hd => ?_
    walk_at "go"
    refine w_loopT (e1.b.tup hs) ?_
    refine for_tup (xs := xs) (fun i σ' H' => Ex H1 H' ∧ ∃ y4 y5, σ' = [some vb, some (.ref a), some (.int (moveF b (r.take i) d)), some (.ref l), y4, y5]) ⟨Ex.refl _, _, _, rfl⟩ (fun i σ' H' hi p => ?_) (fun i x σ' H' hx p => ?_) (fun σ' H' p => ?_)
    · obtain ⟨e2, _⟩ := p
      exact (e1.trans e2).b.tup hs
    · obtain ⟨e2, y4, y5, rfl⟩ := p
      obtain ⟨dd, g1, r1⟩ := rr.at hx
      rw [List.getElem?_map] at g1
      obtain ⟨c, gc, rfl⟩ := Option.map_eq_some_iff.mp g1
      cases r1.isStr
      have et : r.take (i + 1) = r.take i ++ [c] := by rw [List.take_add_one, gc]; rfl
      walk_at "go"
      rw [plus_one]
      refine w_dec (fun c1 => ?_) (fun c1 => ?_)
      · walk_at "go"
        refine ⟨e2, some (.str (one c)), y5, ?_⟩
        rw [et, moveF_snoc]
        have : stepF b (moveF b (r.take i) d) c = moveF b (r.take i) d + 1 := by unfold stepF; rw [if_pos c1]
        rw [this]; rfl
      · walk_at "go"
        obtain ⟨cal, hc⟩ := has c (List.mem_of_getElem? gc) c1
        have okc := lookB_ok okb hc
        generalize hbase : moveF b (r.take i) d = base
        have hsp := nxtF_spec okc base
        have hnr := nxtF_near okc base
        have hstep : stepF b base c = nxtF cal base := by unfold stepF; rw [if_neg c1, hc]
        generalize nxtF cal base = e at hsp hnr hstep
        obtain ⟨n0, n1, n2⟩ := hsp
        refine w_loopR ⟨by decide, by decide⟩ ?_
        refine for_range (fun j σ' H' => Ex H1 H' ∧ (j : Int) ≤ e - base ∧ ∃ y5, σ' = [some vb, some (.ref a), some (.int (base + j)), some (.ref l), some (.str (one c)), y5]) ⟨e2, by omega, y5, by rw [show base + ((0 : Nat) : Int) = base by simp]; rfl⟩ (fun j σ' H' hj p => ?_) (fun σ' H' p => ?_)
        · obtain ⟨e3, hje, y6, rfl⟩ := p
          walk_at "go"
          have hd3 := hd.mono e3.b
          obtain ⟨p, kvs, ep, hp, hk⟩ := hd3
          cases ep
          have := hk c
          rw [hc] at this
          obtain ⟨vc, hv, rc⟩ := this
          refine w_dgetS hp hv ?_
          walk_at "go"
          refine ⟨vc, cal, _, rfl, rc, okc, fun H4 e4 => ?_⟩
          walk_at "go"
          refine w_2 (fun c2 => ?_) (fun c2 => ?_)
          · walk_at "go"
            have he : base + (j : Int) = e := by
              by_cases z : base + (j : Int) = e
              · exact z
              · have := n2 (base + (j : Int)) (by omega) (by omega)
                rw [this] at c2; cases c2
            refine ⟨e3.trans e4, some (.str (one c)), some (.int (0 + (j : Int))), ?_⟩
            rw [et, moveF_snoc, hbase, hstep, he]; rfl
          · walk_at "go"
            have hne : base + (j : Int) ≠ e := fun z => by rw [z, n1] at c2; cases c2
            refine ⟨e3.trans e4, by omega, some (.int (0 + (j : Int))), ?_⟩
            rw [show base + ((j + 1 : Nat) : Int) = base + (j : Int) + 1 by omega]; rfl
        · obtain ⟨e3, hje, y6, rfl⟩ := p
          exfalso
          have : ((200 : Int).toNat : Int) = 200 := rfl
          omega
    · obtain ⟨e2, y4, y5, rfl⟩ := p
      walk_at "go"
      rw [List.take_of_length_le (by omega)]
      exact q H' (e1.trans e2)
end

def walkF (f : Int → Int) (d : Int) (n : Nat) : List Int := (List.range (n + 1)).map fun k => itF f k d
theorem walkF_succ (f : Int → Int) (d : Int) (n : Nat) : walkF f d (n + 1) = walkF f d n ++ [itF f (n + 1) d] := by
  unfold walkF
  rw [List.range_succ, List.map_append]; rfl
theorem walkF_len (f : Int → Int) (d : Int) (n : Nat) : (walkF f d n).length = n + 1 := by unfold walkF; rw [List.length_map, List.length_range]
theorem walkF_at (f : Int → Int) (d : Int) (n k : Nat) (h : k ≤ n) : atI ((walkF f d n).map V.int) (k : Int) = some (.int (itF f k d)) := by
  unfold atI ixN
  rw [if_pos (by omega), if_pos (by rw [List.length_map, walkF_len]; omega)]
  show ((walkF f d n).map V.int)[k]? = _
  unfold walkF
  rw [List.getElem?_map, List.getElem?_map, List.getElem?_range (by omega)]; rfl
theorem walkF_last (f : Int → Int) (d : Int) (n : Nat) : atI ((walkF f d n).map V.int) (-1) = some (.int (itF f n d)) := by
  cases n with
  | zero => rfl
  | succ n =>
    rw [walkF_succ, List.map_append]
    exact atI_last _ _
def spWalk (K : PySem.W.Frag) : Sp := fun vs H Q _ => ∃ vb vr b r d, ∃ n : Nat, vs = [vb, vr, .int d, .int n] ∧ Bk K H vb b ∧ BookOk b ∧ Rp K H vr (encRoute r) ∧ Has b r ∧ n ≤ 500 ∧ ∀ l H', H l = none → Ex H H' → H' l = some (.lst ((walkF (moveF b r) d n).map V.int)) → Q (.ref l) H'
def nearDay (d : Int) : Prop := -200000000000000 ≤ d ∧ d ≤ 200000000000000
def spNearR (K : PySem.W.Frag) : Sp := fun vs H Q _ => ∃ h sc vb vr b r d, vs = [.ref h, vb, vr, .int d] ∧ Hand H h sc ∧ Bk K H vb b ∧ BookOk b ∧ Rp K H vr (encRoute r) ∧ RouteOk r ∧ Has b r ∧ nearDay d ∧ ∀ H', Hand H' h sc → Xb H H' → Q (.bl true) H'
/-- the numbers of the days of a walk that reach the goal -/
def dueF (f : Int → Int) (d goal : Int) (n : Nat) : List Int := ((List.range n).filter fun k => decide (goal ≤ itF f k d)).map fun k : Nat => (k : Int)
theorem dueF_succ (f : Int → Int) (d goal : Int) (n : Nat) : dueF f d goal (n + 1) = dueF f d goal n ++ (if goal ≤ itF f n d then [(n : Int)] else []) := by
  unfold dueF
  rw [List.range_succ, List.filter_append, List.map_append]
  congr 1
  by_cases h : goal ≤ itF f n d
  · rw [List.filter_cons_of_pos (by simpa using h), if_pos h]; rfl
  · rw [List.filter_cons_of_neg (by simpa using h), if_neg h]; rfl
theorem dueF_len (f : Int → Int) (d goal : Int) (n : Nat) : (dueF f d goal n).length ≤ n := by
  unfold dueF
  rw [List.length_map]
  have := List.length_filter_le (fun k => decide (goal ≤ itF f k d)) (List.range n)
  rwa [List.length_range] at this
theorem dueF_told {f : Int → Int} (hf : ∀ x, x ≤ f x) (d goal : Int) : ∀ n, (dueF f d goal n = [] ∧ ∀ k, k < n → itF f k d < goal) ∨ ∃ k rest, dueF f d goal n = (k : Int) :: rest ∧ Told f d goal (.int k)
  | 0 => .inl ⟨rfl, fun k hk => absurd hk (Nat.not_lt_zero _)⟩
  | n + 1 => by
    rw [dueF_succ]
    rcases dueF_told hf d goal n with ⟨h1, h2⟩ | ⟨k, rest, h1, h2⟩
    · by_cases h : goal ≤ itF f n d
      · right
        refine ⟨n, [], by rw [h1, if_pos h]; rfl, .inl ⟨n, rfl, h2, h⟩⟩
      · left
        refine ⟨by rw [h1, if_neg h]; rfl, fun k hk => ?_⟩
        by_cases z : k = n
        · subst z; omega
        · exact h2 k (by omega)
    · right
      exact ⟨k, rest ++ _, by rw [h1]; rfl, h2⟩
section
variable {P : Program} {w : World} {K : PySem.W.Frag} {mg : Str → Option Value} {base : Heap} {ad : Nat → Addr} {fdd : Nat → FuncData}
theorem ok_law_walk (T : Tx K mg ad fdd) (G_law_moved : FnOk P w K mg base CX0 2 (ad 55) (fdd 55) ["_law_book_here", "_law_route_here", "_law_day_here"] (spLawMoved K)) : FnOk P w K mg base CX0 3 (ad 56) (fdd 56) ["_law_book_here", "_law_route_here", "_law_day_here", "_law_many"] (spWalk K) := by
  refine T.F_law_walk.ok sc_law_walk (fun vs H Q E h => ?_) (fun cdv A outer s H vs Q E hr h => ?_)
  · obtain ⟨vb, vr, b, r, d, n, rfl, _⟩ := h
    rfl
  · obtain ⟨vb, vr, b, r, d, n, rfl, hb, okb, hr', has, hn, q⟩ := h
    refine ⟨_, (pss_cons (ps_set (i := 4) sc_law_walk.nd rfl (by first | exact Or.inl rfl | exact Or.inr rfl) (pe_lst (pa_cons (pv 2) pa_nil)))
    (pss_cons (ps_for PassesOwn.never rfl (pi_range1 (by rfl) T.m_range (pa_cons (pv 3) pa_nil)) (pg_name (i := 5) sc_law_walk.nd rfl (by first | exact Or.inl rfl | exact Or.inr rfl))
    (pss_one (ps_expr (show PE _ _ (tBM K "list" _ _ _) from pe_bm PySem.F.plainAttrs_list PySem.F.slot_list_append PySem.F.type_list_append mt_append (pv 4) (pa_cons (pe_call G_law_moved (hr.mono (by decide)) (by rfl) T.g_law_moved T.F_law_moved.kp T.b_law_moved .nil pass0 (pa_cons (pv 0) (pa_cons (pv 1) (pa_cons (pe_ix (show IxR _ (rIxL K) from ix_list) (pv 4) (pe_un un_neg pe_int) (fun _ _ => rfl)) pa_nil)))) pa_nil)))))
    (pss_one (ps_ret (pv 4))))), ?_⟩
    dsimp only [L2.start, N_law_walk, cxOf, Cx.nox, Cx.wish]
    walk_at "go"
    refine w_new (by exact Nat.le_of_ble_eq_true rfl) fun p1 H1 np1 e1 hp1 _ => ?_
    walk_at "go"
    refine w_loopR ⟨by omega, by omega⟩ ?_
    refine for_range (fun i σ' H' => Ex H H' ∧ H' p1 = some (.lst ((walkF (moveF b r) d i).map V.int)) ∧ ∃ y5, σ' = [some vb, some vr, some (.int d), some (.int n), some (.ref p1), y5]) ⟨e1, hp1, _, rfl⟩ (fun i σ' H2 hi p => ?_) (fun σ' H2 p => ?_)
    · obtain ⟨e2, hp2, y5, rfl⟩ := p
      have hi : i < n := by omega
      walk_at "go"
      refine w_tyL hp2 ?_
      walk_at "go"
      refine w_ixL (sq_of hp2) (walkF_last _ _ _) ?_
      walk_at "go"
      refine ⟨vb, vr, b, r, _, rfl, hb.mono e2.b, okb, hr'.mono e2.b, has, fun H3 e3 => ?_⟩
      walk_at "go"
      refine w_append (e3 _ _ hp2) (by rw [List.length_map, walkF_len]; omega) ?_
      walk_at "go"
      refine ⟨(e2.trans e3).mut np1, ?_, _, rfl⟩
      rw [upd_same, walkF_succ, List.map_append, itF_succ]; rfl
    · obtain ⟨e2, hp2, y5, rfl⟩ := p
      rw [Int.toNat_natCast] at hp2
      walk_at "go"
      exact q p1 H2 np1 e2 hp2
end
end J
namespace J
open PySem PySem.Spec PyProof.Rows L2
local macro_rules | `(tactic| walk_at "go1") => `(tactic| first
  | with_reducible refine' w_seq ?_
  | with_reducible refine' w_next ?_
  | with_reducible refine' w_brk ?_
  | with_reducible refine' w_cont ?_
  | with_reducible refine' w_asg ?_
  | with_reducible refine' w_asgG ?_
  | with_reducible refine' w_gSub ?_
  | with_reducible refine' w_ret ?_
  | with_reducible refine' w_retN ?_
  | with_reducible refine' w_drop ?_
  | with_reducible refine' w_ifS ?_
  | ((with_reducible refine' w_isAug ?_); refine w_aug rfl ?_)
  | with_reducible refine' w_ipadd ?_
  | with_reducible refine' w_ipsub ?_
  | ((with_reducible refine' w_isVar ?_); refine w_var rfl ?_)
  | with_reducible refine' w_c ?_
  | with_reducible refine' w_nil ?_
  | with_reducible refine' w_cons ?_
  | with_reducible refine' w_op ?_
  | with_reducible refine' w_un ?_
  | with_reducible refine' w_cb ?_
  | with_reducible refine' w_call ?_
  | with_reducible refine' w_callK ?_
  | with_reducible refine' w_test ?_
  | with_reducible refine' w_tB ?_
  | with_reducible refine' w_and ?_
  | with_reducible refine' w_or ?_
  | with_reducible refine' w_not ?_
  | with_reducible refine' w_andV ?_
  | with_reducible refine' w_orV ?_
  | with_reducible refine' w_notV ?_
  | with_reducible refine' w_if ?_
  | with_reducible refine' w_chain ?_
  | with_reducible refine' w_exb ?_
  | with_reducible refine' w_add ?_
  | with_reducible refine' w_sub ?_
  | with_reducible refine' w_lt ?_
  | with_reducible refine' w_le ?_
  | with_reducible refine' w_gt ?_
  | with_reducible refine' w_ge ?_
  | ((with_reducible refine' w_mod ?h ?q); (case h => first | decide | omega))
  | ((with_reducible refine' w_fdiv ?h ?h2 ?q); (case h => first | decide | omega); (case h2 => first | decide | omega))
  | ((with_reducible refine' w_mulR ?h ?q); (case h => omega))
  | ((with_reducible refine' w_mulL ?h ?q); (case h => omega))
  | with_reducible refine' w_pow_6 ?_
  | with_reducible refine' w_pow_9 ?_
  | with_reducible refine' w_pow_12 ?_
  | with_reducible refine' w_pow_14 ?_
  | with_reducible refine' w_pow_15 ?_
  | with_reducible refine' w_pow_18 ?_
  | with_reducible refine' w_neg ?_
  | ((with_reducible refine' w_eq ?h ?q); (case h => exact rfl))
  | ((with_reducible refine' w_ne ?h ?q); (case h => exact rfl))
  | with_reducible refine' w_abs ?_
  | with_reducible refine' w_int ?_
  | with_reducible refine' w_max ?_
  | with_reducible refine' w_min ?_
  | with_reducible refine' w_count ?_
  | with_reducible refine' w_m1 ?_
  | with_reducible refine' w_bm ?_
  | with_reducible refine' w_listR3 ?_
  | with_reducible refine' w_exs ?_
  | with_reducible refine' w_inS ?_
  | with_reducible refine' w_notInS ?_
  | with_reducible refine' w_for ?_
  | with_reducible refine' w_while ?_
  | with_reducible refine' w_lc ?_
  | with_reducible refine' w_iTup ?_
  | with_reducible refine' w_iList ?_
  | with_reducible refine' w_iRng1 ?_
  | with_reducible refine' w_iRng2 ?_
  | with_reducible refine' w_gName ?_
  | with_reducible refine' w_tYes ?_
  | with_reducible refine' w_tupD ?_
  | with_reducible refine' w_tupF ?_
  | with_reducible refine' w_ltS ?_
  | with_reducible refine' w_leS ?_
  | with_reducible refine' w_dget ?_
  | with_reducible refine' w_dnotin ?_
  | with_reducible refine' w_sl ?_
  | with_reducible refine' w_part ?_
  | with_reducible refine' w_noPart ?_
  | with_reducible refine' w_some ?_
  | with_reducible refine' w_lstD ?_
  | with_reducible refine' w_revT ?_
  | with_reducible refine' w_par ?_
  )
local macro_rules | `(tactic| walk_at "go") => `(tactic| repeat (walk_at "go1"))
section
variable {P : Program} {w : World} {K : PySem.W.Frag} {mg : Str → Option Value} {base : Heap} {ad : Nat → Addr} {fdd : Nat → FuncData}
theorem ok_law_near_right (T : Tx K mg ad fdd) (G_law_drawC : FnOk P w K mg base CX0 3 (ad 48) (fdd 48) ["_law_hand_here", "_law_size"] (spDraw 1 800000000000000000)) (G_law_walk : FnOk P w K mg base CX0 3 (ad 56) (fdd 56) ["_law_book_here", "_law_route_here", "_law_day_here", "_law_many"] (spWalk K)) (G_repeated : FnOk P w K mg base CX0 9 (ad 33) (fdd 33) ["book", "route", "day", "times"] (spRep K)) (G_times_to : FnOk P w K mg base CX0 9 (ad 34) (fdd 34) ["book", "route", "day", "goal"] (spTimes K)) : FnOk P w K mg base CX0 10 (ad 57) (fdd 57) ["_law_hand_here", "_law_book_here", "_law_route_here", "_law_day_here"] (spNearR K) := by
  refine T.F_law_near_right.ok sc_law_near_right (fun vs H Q E h => ?_) (fun cdv A outer s H vs Q E hr h => ?_)
  · obtain ⟨h, sc, vb, vr, b, r, d, rfl, _⟩ := h
    rfl
  · obtain ⟨h, sc, vb, vr, b, r, d, rfl, hh, hb, okb, hr', okr, has, hd, q⟩ := h
    obtain ⟨hd0, hd1⟩ := hd
    have hf : ∀ x, x ≤ moveF b r x := move_ge okb r
    refine ⟨_, (pss_cons (ps_set (i := 4) sc_law_near_right.nd rfl (by first | exact Or.inl rfl | exact Or.inr rfl) (pe_call G_law_walk (hr.mono (by decide)) (by rfl) T.g_law_walk T.F_law_walk.kp T.b_law_walk .nil pass0 (pa_cons (pv 1) (pa_cons (pv 2) (pa_cons (pv 3) (pa_cons pe_int pa_nil))))))
    (pss_cons (ps_for PassesOwn.never rfl (pi_list (pe_lst (pa_cons pe_int (pa_cons pe_int (pa_cons (pe_call G_law_drawC (hr.mono (by decide)) (by rfl) T.g_law_draw T.F_law_draw.kp T.b_law_draw .nil pass0 (pa_cons (pv 0) (pa_cons pe_int pa_nil))) pa_nil))))) (pg_name (i := 5) sc_law_near_right.nd rfl (by first | exact Or.inl rfl | exact Or.inr rfl))
    (pss_one (ps_if (pt_cmpR op_ne (pe_call G_repeated (hr.mono (by decide)) (by rfl) T.g_repeated T.F_repeated.kp T.b_repeated .nil pass0 (pa_cons (pv 1) (pa_cons (pv 2) (pa_cons (pv 3) (pa_cons (pv 5) pa_nil))))) (pe_ix (show IxR _ (rIxL K) from ix_list) (pv 4) (pv 5) (fun _ _ => rfl)) (nomark _))
    (pss_one (ps_ret pe_bl))
    pss_nil)))
    (pss_cons (ps_set (i := 6) sc_law_near_right.nd rfl (by first | exact Or.inl rfl | exact Or.inr rfl) (pe_op op_sub (pe_op op_add (pv 3) (pe_call G_law_drawC (hr.mono (by decide)) (by rfl) T.g_law_draw T.F_law_draw.kp T.b_law_draw .nil pass0 (pa_cons (pv 0) (pa_cons pe_int pa_nil)))) pe_int))
    (pss_cons (ps_setLc (i := 7) (own := [("_law_k", 8)]) rfl sc_law_near_right.nd rfl rfl (sw_true rfl rfl rfl (by decide +kernel)) (pi_range1 (by rfl) T.m_range (pa_cons pe_int pa_nil)) (blkOk_by (own := [("_law_k", 8)]) (N := N_law_near_right) (sc := defScope s_law_near_right) (by decide +kernel)) (fun _ _ _ _ _ => (pg_name (i := 8) sc_law_near_right.nd rfl (by first | exact Or.inl rfl | exact Or.inr rfl))) (fun _ _ _ _ _ => (pts_one (pt_cmpR op_ge (pe_ix (show IxR _ (rIxL K) from ix_list) (pv 4) (pv 8) (fun _ _ => rfl)) (pv 6) (nomark _)))) (fun _ _ _ _ _ => (pv 8)))
    (pss_cons (ps_if (PW.pt (pw_and (pt_cmpR (show OpR _ _ (rEqD K) from op_eqD hr.units) (pv 7) (pe_lst pa_nil) (nomark _)) (pw_and1 (pt_cmpR op_ne (pe_ix (show IxR _ (rIxL K) from ix_list) (pv 4) pe_int (fun _ _ => rfl)) (pe_ix (show IxR _ (rIxL K) from ix_list) (pv 4) pe_int (fun _ _ => rfl)) (nomark _)))))
    (pss_one (ps_ret pe_bl))
    pss_nil)
    (pss_one (ps_ret (pe_cmpR op_eq (pe_call G_times_to (hr.mono (by decide)) (by rfl) T.g_times_to T.F_times_to.kp T.b_times_to .nil pass0 (pa_cons (pv 1) (pa_cons (pv 2) (pa_cons (pv 3) (pa_cons (pv 6) pa_nil))))) (pe_ifExp (pt_cmpR (show OpR _ _ (rNeD K) from op_neD hr.units) (pv 7) (pe_lst pa_nil) (nomark _)) (pe_ix (show IxR _ (rIxL K) from ix_list) (pv 7) pe_int (fun _ _ => rfl)) pe_non) (nomark _))))))))), ?_⟩
    dsimp only [L2.start, N_law_near_right, cxOf, Cx.nox, Cx.wish]
    walk_at "go"
    refine ⟨vb, vr, b, r, d, 30, rfl, hb, okb, hr', has, by decide, fun l1 H1 nl1 e1 hl1 => ?_⟩
    have hh1 := hh.ex e1
    walk_at "go"
    refine ⟨h, sc, 31, rfl, hh1, by decide, by decide, fun k2 H2 k20 k21 hh2 e2 => ?_⟩
    walk_at "go"
    refine w_new (by exact Nat.le_of_ble_eq_true rfl) fun p3 H3 np3 e3 hp3 _ => ?_
    walk_at "go"
    refine w_loopL (sq_of hp3) ?_
    have hl3 := e3 _ _ (e2 _ _ hl1 (sh_ints _))
    have hb3 := hb.mono ((e1.b.trans e2).trans e3.b)
    have hr3 := hr'.mono ((e1.b.trans e2).trans e3.b)
    refine for_list (xs := [.int 0, .int 1, .int k2]) (fun i σ' H' => Ex H3 H' ∧ ∃ y5 y6 y7 y8, σ' = [some (.ref h), some vb, some vr, some (.int d), some (.ref l1), y5, y6, y7, y8]) ⟨Ex.refl _, _, _, _, _, rfl⟩ (fun i σ' H' hi p => sq_of (p.1 _ _ hp3)) (fun i x σ' H4 hx p => ?_) (fun σ' H4 p => ?_)
    · obtain ⟨e4, y5, y6, y7, y8, rfl⟩ := p
      have hk : ∃ k : Nat, x = .int (k : Int) ∧ k ≤ 30 := by
        match i, hx with
        | 0, hx => cases hx; exact ⟨0, rfl, by decide⟩
        | 1, hx => cases hx; exact ⟨1, rfl, by decide⟩
        | 2, hx => cases hx; exact ⟨k2.toNat, by rw [show ((k2.toNat : Nat) : Int) = k2 by omega], by omega⟩
      obtain ⟨k, rfl, hk⟩ := hk
      walk_at "go"
      refine ⟨vb, vr, b, r, d, k, rfl, hb3.mono e4.b, okb, hr3.mono e4.b, okr, has, ⟨by omega, by omega⟩, by omega, fun H5 e5 => ?_⟩
      walk_at "go"
      refine w_ixL (sq_of (e5 _ _ (e4 _ _ hl3))) (walkF_at _ _ _ _ hk) ?_
      walk_at "go"
      refine w_ndec (fun z => absurd rfl z) (fun _ => ?_)
      walk_at "go"
      exact ⟨e4.trans e5, _, _, _, _, rfl⟩
    · obtain ⟨e4, y5, y6, y7, y8, rfl⟩ := p
      have hh4 := (hh2.ex e3).ex e4
      have hl4 := e4 _ _ hl3
      have hb4 := hb3.mono e4.b
      have hr4 := hr3.mono e4.b
      have eH4 := ((e1.b.trans e2).trans e3.b).trans e4.b
      walk_at "go"
      refine ⟨h, sc, 30, rfl, hh4, by decide, by decide, fun k5 H5 k50 k51 hh5 e5 => ?_⟩
      have hl5 := e5 _ _ hl4 (sh_ints _)
      walk_at "go"
      have hgo : dayOk (d + k5 - 1) := ⟨by omega, by omega⟩
      generalize d + k5 - 1 = goal at hgo ⊢
      refine w_lcR ⟨by decide, by decide⟩ ?_
      refine lc_R (fun D i H' => Ex H5 H' ∧ H' D = some (.lst ((dueF (moveF b r) d goal i).map V.int))) (fun D nD => ⟨Ex.new nD, upd_same⟩) (fun D i H' nD hi p => ?_) (fun D H6 nD p => ?_)
      · obtain ⟨e6, hD⟩ := p
        have hi : i < 31 := hi
        walk_at "go"
        refine ⟨rfl, ?_⟩
        walk_at "go"
        refine w_ixL (sq_of (e6 _ _ hl5)) (by rw [Int.zero_add]; exact walkF_at _ _ _ _ (by omega)) ?_
        walk_at "go"
        refine w_dec (fun c1 => ?_) (fun c1 => ?_)
        · walk_at "go"
          refine ⟨_, hD, small1000 ?_, e6.mut nD, ?_⟩
          · rw [List.length_map]
            have := dueF_len (moveF b r) d goal i
            omega
          · rw [upd_same, dueF_succ, if_pos c1, List.map_append, Int.zero_add]; rfl
        · refine ⟨e6, ?_⟩
          rw [dueF_succ, if_neg c1, List.append_nil]; exact hD
      obtain ⟨e6, hD⟩ := p
      have hD' : H6 D = some (.lst ((dueF (moveF b r) d goal 31).map V.int)) := hD
      have hl6 := e6 _ _ hl5
      have hb6 := (hb4.mono e5).mono e6.b
      have hr6 := (hr4.mono e5).mono e6.b
      have hh6 := hh5.ex e6
      have eX := (eH4.trans e5).trans e6.b
      have hdue := dueF_told hf d goal 31
      have hdd : dayOk d := ⟨by omega, by omega⟩
      rcases hdue with ⟨h1, h2⟩ | ⟨k0, rest, h1, h2⟩
      · rw [h1] at hD'
        walk_at "go"
        refine w_new (xs := []) (by exact Nat.le_of_ble_eq_true rfl) fun p7 H7 np7 e7 hp7 _ => ?_
        walk_at "go"
        refine w_eqD (d := .list []) (e := .list []) (.lst (sq_of (e7 _ _ hD')) .nil) (.lst (sq_of hp7) .nil) rfl rfl ?_
        rw [show PyData.eqv (.list []) (.list []) = true by simp [PyData.eqv, PyData.eqvAll]]
        walk_at "go"
        refine iteT ?_
        walk_at "go"
        refine w_ixL (sq_of (e7 _ _ hl6)) (walkF_at _ _ _ 30 (by decide)) ?_
        walk_at "go"
        refine w_ixL (sq_of (e7 _ _ hl6)) (walkF_at _ _ _ 29 (by decide)) ?_
        walk_at "go"
        refine w_ndec (fun c1 => ?_) (fun c1 => ?_)
        · walk_at "go"
          exact q H7 (hh6.ex e7) (eX.trans e7.b)
        · walk_at "go"
          injection c1 with c1
          have hst : moveF b r (itF (moveF b r) 29 d) = itF (moveF b r) 29 d := by rw [← itF_succ (moveF b r) 29 d]; exact c1
          refine ⟨vb, vr, b, r, d, goal, rfl, hb6.mono e7.b, okb, hr6.mono e7.b, okr, has, hdd, hgo, fun v H8 e8 hv => ?_⟩
          have hvn : v = .non := told_uniq hf hv (.inr ⟨rfl, 29, h2 29 (by decide), hst⟩)
          subst hvn
          walk_at "go"
          refine w_new (xs := []) (by exact Nat.le_of_ble_eq_true rfl) fun p9 H9 np9 e9 hp9 _ => ?_
          walk_at "go"
          refine w_neD (d := .list []) (e := .list []) (.lst (sq_of (e9 _ _ (e8 _ _ (e7 _ _ hD')))) .nil) (.lst (sq_of hp9) .nil) rfl rfl ?_
          rw [show PyData.eqv (.list []) (.list []) = true by simp [PyData.eqv, PyData.eqvAll]]
          walk_at "go"
          refine iteF ?_
          walk_at "go"
          exact q H9 (((hh6.ex e7).ex e8).ex e9) (((eX.trans e7.b).trans e8.b).trans e9.b)
      · rw [h1] at hD'
        walk_at "go"
        refine w_new (xs := []) (by exact Nat.le_of_ble_eq_true rfl) fun p7 H7 np7 e7 hp7 _ => ?_
        walk_at "go"
        have hne : PyData.eqv (.list (((k0 : Int) :: rest).map PyData.int)) (.list []) = false := by simp [PyData.eqv, PyData.eqvAll]
        refine w_eqD (d := .list (((k0 : Int) :: rest).map PyData.int)) (e := .list []) (.lst (sq_of (e7 _ _ hD')) (dp_ints _)) (.lst (sq_of hp7) .nil) (shaped_ints _) rfl ?_
        rw [hne]
        walk_at "go"
        refine iteF ?_
        refine iteF ?_
        walk_at "go"
        refine ⟨vb, vr, b, r, d, goal, rfl, hb6.mono e7.b, okb, hr6.mono e7.b, okr, has, hdd, hgo, fun v H8 e8 hv => ?_⟩
        have hvn : v = .int k0 := told_uniq hf hv h2
        subst hvn
        walk_at "go"
        refine w_new (xs := []) (by exact Nat.le_of_ble_eq_true rfl) fun p9 H9 np9 e9 hp9 _ => ?_
        walk_at "go"
        have hD9 := e9 _ _ (e8 _ _ (e7 _ _ hD'))
        refine w_neD (d := .list (((k0 : Int) :: rest).map PyData.int)) (e := .list []) (.lst (sq_of hD9) (dp_ints _)) (.lst (sq_of hp9) .nil) (shaped_ints _) rfl ?_
        rw [hne]
        walk_at "go"
        refine iteT ?_
        walk_at "go"
        have hat0 : atI (((k0 : Int) :: rest).map V.int) 0 = some (.int k0) := by
          unfold atI ixN
          rw [if_pos (by decide), if_pos (by rw [List.length_map, List.length_cons]; omega)]
          rfl
        refine w_ixL (sq_of hD9) hat0 ?_
        walk_at "go"
        rw [decide_eq_true rfl]
        exact q H9 (((hh6.ex e7).ex e8).ex e9) (((eX.trans e7.b).trans e8.b).trans e9.b)
end
end J
namespace J
open PySem PySem.Spec PyProof.Rows L2
local macro_rules | `(tactic| walk_at "go1") => `(tactic| first
  | with_reducible refine' w_seq ?_
  | with_reducible refine' w_next ?_
  | with_reducible refine' w_brk ?_
  | with_reducible refine' w_cont ?_
  | with_reducible refine' w_asg ?_
  | with_reducible refine' w_asgG ?_
  | with_reducible refine' w_gSub ?_
  | with_reducible refine' w_ret ?_
  | with_reducible refine' w_retN ?_
  | with_reducible refine' w_drop ?_
  | with_reducible refine' w_ifS ?_
  | ((with_reducible refine' w_isAug ?_); refine w_aug rfl ?_)
  | with_reducible refine' w_ipadd ?_
  | with_reducible refine' w_ipsub ?_
  | ((with_reducible refine' w_isVar ?_); refine w_var rfl ?_)
  | with_reducible refine' w_c ?_
  | with_reducible refine' w_nil ?_
  | with_reducible refine' w_cons ?_
  | with_reducible refine' w_op ?_
  | with_reducible refine' w_un ?_
  | with_reducible refine' w_cb ?_
  | with_reducible refine' w_call ?_
  | with_reducible refine' w_callK ?_
  | with_reducible refine' w_test ?_
  | with_reducible refine' w_tB ?_
  | with_reducible refine' w_and ?_
  | with_reducible refine' w_or ?_
  | with_reducible refine' w_not ?_
  | with_reducible refine' w_andV ?_
  | with_reducible refine' w_orV ?_
  | with_reducible refine' w_notV ?_
  | with_reducible refine' w_if ?_
  | with_reducible refine' w_chain ?_
  | with_reducible refine' w_exb ?_
  | with_reducible refine' w_add ?_
  | with_reducible refine' w_sub ?_
  | with_reducible refine' w_lt ?_
  | with_reducible refine' w_le ?_
  | with_reducible refine' w_gt ?_
  | with_reducible refine' w_ge ?_
  | ((with_reducible refine' w_mod ?h ?q); (case h => first | decide | omega))
  | ((with_reducible refine' w_fdiv ?h ?h2 ?q); (case h => first | decide | omega); (case h2 => first | decide | omega))
  | ((with_reducible refine' w_mulR ?h ?q); (case h => omega))
  | ((with_reducible refine' w_mulL ?h ?q); (case h => omega))
  | with_reducible refine' w_pow_6 ?_
  | with_reducible refine' w_pow_9 ?_
  | with_reducible refine' w_pow_12 ?_
  | with_reducible refine' w_pow_14 ?_
  | with_reducible refine' w_pow_15 ?_
  | with_reducible refine' w_pow_18 ?_
  | with_reducible refine' w_neg ?_
  | ((with_reducible refine' w_eq ?h ?q); (case h => exact rfl))
  | ((with_reducible refine' w_ne ?h ?q); (case h => exact rfl))
  | with_reducible refine' w_abs ?_
  | with_reducible refine' w_int ?_
  | with_reducible refine' w_max ?_
  | with_reducible refine' w_min ?_
  | with_reducible refine' w_count ?_
  | with_reducible refine' w_m1 ?_
  | with_reducible refine' w_bm ?_
  | with_reducible refine' w_listR3 ?_
  | with_reducible refine' w_exs ?_
  | with_reducible refine' w_inS ?_
  | with_reducible refine' w_notInS ?_
  | with_reducible refine' w_for ?_
  | with_reducible refine' w_while ?_
  | with_reducible refine' w_lc ?_
  | with_reducible refine' w_iTup ?_
  | with_reducible refine' w_iList ?_
  | with_reducible refine' w_iRng1 ?_
  | with_reducible refine' w_iRng2 ?_
  | with_reducible refine' w_gName ?_
  | with_reducible refine' w_tYes ?_
  | with_reducible refine' w_tupD ?_
  | with_reducible refine' w_tupF ?_
  | with_reducible refine' w_ltS ?_
  | with_reducible refine' w_leS ?_
  | with_reducible refine' w_dget ?_
  | with_reducible refine' w_dnotin ?_
  | with_reducible refine' w_sl ?_
  | with_reducible refine' w_part ?_
  | with_reducible refine' w_noPart ?_
  | with_reducible refine' w_some ?_
  | with_reducible refine' w_lstD ?_
  | with_reducible refine' w_revT ?_
  | with_reducible refine' w_par ?_
  )
local macro_rules | `(tactic| walk_at "go") => `(tactic| repeat (walk_at "go1"))

theorem RpAll.strs_eq {K : PySem.W.Frag} {H : Hp} : ∀ {cs : List Nat} {xs : List V}, RpAll K H xs (cs.map fun c => PyData.str (one c)) → xs = (cs.map one).map V.str
  | [], _, .nil => rfl
  | c :: cs, _, .cons h r => by
    cases h.isStr
    rw [RpAll.strs_eq r]; rfl

theorem move_plus {b : Book} (ok : BookOk b) : ∀ (r : List Nat) (x : Int), 43 ∈ r → x < moveF b r x
  | [], x, h => by cases h
  | c :: r, x, h => by
    have e : moveF b (c :: r) x = moveF b r (stepF b x c) := rfl
    rw [e]
    have h1 := move_ge ok r (stepF b x c)
    by_cases hc : c = 43
    · have : stepF b x c = x + 1 := by unfold stepF; rw [if_pos hc]
      omega
    · have hr : 43 ∈ r := (List.mem_cons.mp h).resolve_left (fun e => hc e.symm)
      have h2 := move_plus ok r (stepF b x c) hr
      have h3 : x ≤ stepF b x c := move_ge ok [c] x
      omega
theorem told_non {f : Int → Int} (hf : ∀ x, x ≤ f x) {d goal : Int} (h : Told f d goal .non) (k : Nat) : itF f k d < goal := by
  rcases h with ⟨n, e, _⟩ | ⟨_, m, h1, h2⟩
  · cases e
  · exact never hf h1 h2 k
theorem told_fix {f : Int → Int} {d goal : Int} (h : Told f d goal .non) : ∃ x, f x = x := by
  rcases h with ⟨n, e, _⟩ | ⟨_, m, h1, h2⟩
  · cases e
  · exact ⟨_, h2⟩
theorem told_int {f : Int → Int} {d goal : Int} {v : V} (h : Told f d goal v) : v = .non ∨ ∃ n : Nat, v = .int n ∧ (∀ k, k < n → itF f k d < goal) ∧ goal ≤ itF f n d := by
  rcases h with ⟨n, e, h1, h2⟩ | ⟨e, _⟩
  · exact .inr ⟨n, e, h1, h2⟩
  · exact .inl e
/-- from a later day on -/
theorem told_on {f : Int → Int} {d goal : Int} {n m : Nat} (hm : m ≤ n) (h1 : ∀ k, k < n → itF f k d < goal) (h2 : goal ≤ itF f n d) : Told f (itF f m d) goal (.int ((n : Int) - m)) := by
  refine .inl ⟨n - m, by rw [show (((n - m : Nat)) : Int) = (n : Int) - m by omega], fun k hk => ?_, ?_⟩
  · rw [← itF_add]; exact h1 (m + k) (by omega)
  · rw [← itF_add, show m + (n - m) = n by omega]; exact h2
/-- the days move on until the goal -/
theorem told_few {f : Int → Int} (hf : ∀ x, x ≤ f x) {d goal : Int} {n : Nat} (h1 : ∀ k, k < n → itF f k d < goal) (h2 : goal ≤ itF f n d) : ∀ k, k < n → d + k ≤ itF f k d
  | 0, _ => by show d + 0 ≤ d; omega
  | k + 1, hk => by
    have ih := told_few hf h1 h2 k (by omega)
    have h3 := hf (itF f k d)
    rw [itF_succ]
    by_cases z : f (itF f k d) = itF f k d
    · have h4 : itF f n d = itF f k d := by
        rw [show n = k + (n - k) by omega, itF_add, itF_stand z]
      have := h1 k (by omega)
      omega
    · omega
theorem told_bound {f : Int → Int} (hf : ∀ x, x ≤ f x) {d goal : Int} {n : Nat} (h1 : ∀ k, k < n → itF f k d < goal) (h2 : goal ≤ itF f n d) (hg : d ≤ goal) : (n : Int) ≤ goal - d := by
  cases n with
  | zero => omega
  | succ n =>
    have h3 := told_few hf h1 h2 n (by omega)
    have h4 := h1 n (by omega)
    omega
theorem told_shift {f : Int → Int} (hf : ∀ x, x ≤ f x) {d goal : Int} {n : Nat} {k0 : Int} (hg : itF f n d < goal) (h : Told f (itF f n d) goal (.int k0)) : Told f d goal (.int ((n : Int) + k0)) := by
  rcases h with ⟨m, e, h1, h2⟩ | ⟨e, _⟩
  · have e : k0 = m := by injection e
    subst e
    refine .inl ⟨n + m, by rw [show (((n + m : Nat)) : Int) = (n : Int) + m by omega], fun k hk => ?_, by rw [itF_add]; exact h2⟩
    by_cases z : k ≤ n
    · have := itF_le hf z d
      omega
    · rw [show k = n + (k - n) by omega, itF_add]
      exact h1 _ (by omega)
  · cases e
theorem itF_up {f : Int → Int} (h : ∀ x, f x = x + 1) : ∀ (n : Nat) (x : Int), itF f n x = x + n
  | 0, x => by show x = x + 0; omega
  | n + 1, x => by rw [itF_succ, itF_up h n x, h]; omega
theorem w_ninT {K : PySem.W.Frag} {H : Hp} {Q : VK} {x : V} {a : Addr} {xs : List V} (h : SqT K H a xs) (hx : flatV x = true) (ha : xs.all flatV = true) (q : Q (.bl (!inV x xs)) H) : rIn K true x (.ref a) H Q := ⟨a, xs, rfl, .inr h, hx, ha, q⟩
theorem w_pow_11 {H : Hp} {Q : VK} (q : Q (.int 100000000000) H) : rI CPow (fun i j => .int (i ^ j.toNat)) (.int 10) (.int 11) H Q := ⟨10, 11, rfl, rfl, ⟨by decide, by decide, by decide⟩, q⟩
def spFarR (K : PySem.W.Frag) : Sp := spNearR K
def spAcrossR (K : PySem.W.Frag) : Sp := fun vs H Q _ => ∃ h sc vb vr b r, vs = [.ref h, vb, vr] ∧ Hand H h sc ∧ Bk K H vb b ∧ BookOk b ∧ Rp K H vr (encRoute r) ∧ RouteOk r ∧ Has b r ∧ ∀ H', Hand H' h sc → Xb H H' → Q (.bl true) H'
section
variable {P : Program} {w : World} {K : PySem.W.Frag} {mg : Str → Option Value} {base : Heap} {ad : Nat → Addr} {fdd : Nat → FuncData}
theorem ok_law_far_right (T : Tx K mg ad fdd) (G_law_drawC : FnOk P w K mg base CX0 3 (ad 48) (fdd 48) ["_law_hand_here", "_law_size"] (spDraw 1 800000000000000000)) (G_law_walk : FnOk P w K mg base CX0 3 (ad 56) (fdd 56) ["_law_book_here", "_law_route_here", "_law_day_here", "_law_many"] (spWalk K)) (G_law_day : FnOk P w K mg base CX0 2 (ad 52) (fdd 52) ["_law_hand_here"] (spLawDayS)) (G_repeated : FnOk P w K mg base CX0 9 (ad 33) (fdd 33) ["book", "route", "day", "times"] (spRep K)) (G_times_to : FnOk P w K mg base CX0 9 (ad 34) (fdd 34) ["book", "route", "day", "goal"] (spTimes K)) : FnOk P w K mg base CX0 10 (ad 58) (fdd 58) ["_law_hand_here", "_law_book_here", "_law_route_here", "_law_day_here"] (spFarR K) := by
  refine T.F_law_far_right.ok sc_law_far_right (fun vs H Q E h => ?_) (fun cdv A outer s H vs Q E hr h => ?_)
  · obtain ⟨h, sc, vb, vr, b, r, d, rfl, _⟩ := h
    rfl
  · obtain ⟨h, sc, vb, vr, b, r, d, rfl, hh, hb, okb, hr', okr, has, hd, q⟩ := h
    obtain ⟨hd0, hd1⟩ := hd
    have hf : ∀ x, x ≤ moveF b r x := move_ge okb r
    have hnear := itF_near (move_near okb (RouteOk.parts okr).1)
    obtain ⟨m12, hm12⟩ : ∃ m : Nat, m = 1000000000000 := ⟨_, rfl⟩
    refine ⟨_, (pss_cons (ps_par (i := 4) (j := 5) (by rfl) sc_law_far_right.nd rfl rfl (by decide) rfl rfl (pa_cons (pe_call G_law_drawC (hr.mono (by decide)) (by rfl) T.g_law_draw T.F_law_draw.kp T.b_law_draw .nil pass0 (pa_cons (pv 0) (pa_cons (pe_op op_add (pe_op op_pow pe_int pe_int) pe_int) pa_nil))) (pa_cons (pe_call G_law_drawC (hr.mono (by decide)) (by rfl) T.g_law_draw T.F_law_draw.kp T.b_law_draw .nil pass0 (pa_cons (pv 0) (pa_cons pe_int pa_nil))) pa_nil)) (by rfl))
    (pss_cons (ps_set (i := 4) sc_law_far_right.nd rfl (by first | exact Or.inl rfl | exact Or.inr rfl) (pe_callB (c_max2 rfl) (by rfl) T.m_max (by decide +kernel) (pa_cons pe_int (pa_cons (pe_op op_sub (pv 4) (pv 5)) pa_nil))))
    (pss_cons (ps_set (i := 6) sc_law_far_right.nd rfl (by first | exact Or.inl rfl | exact Or.inr rfl) (pe_call G_repeated (hr.mono (by decide)) (by rfl) T.g_repeated T.F_repeated.kp T.b_repeated .nil pass0 (pa_cons (pv 1) (pa_cons (pv 2) (pa_cons (pv 3) (pa_cons (pv 4) pa_nil))))))
    (pss_cons (ps_if (pt_cmpR op_ne (pe_callK0 G_repeated (hr.mono (by decide)) (by rfl) T.g_repeated T.F_repeated.kp (T.kb_repeated_0_times_day_route_book) pass0 (pk_cons (pe_op op_add (pv 4) (pv 5)) (pk_cons (pv 3) (pk_cons (pv 2) (pk_cons (pv 1) pk_nil))))) (pe_ix (show IxR _ (rIxL K) from ix_list) (pe_call G_law_walk (hr.mono (by decide)) (by rfl) T.g_law_walk T.F_law_walk.kp T.b_law_walk .nil pass0 (pa_cons (pv 1) (pa_cons (pv 2) (pa_cons (pv 6) (pa_cons (pv 5) pa_nil))))) (pe_un un_neg pe_int) (fun _ _ => rfl)) (nomark _))
    (pss_one (ps_ret pe_bl))
    pss_nil)
    (pss_cons (ps_set (i := 7) sc_law_far_right.nd rfl (by first | exact Or.inl rfl | exact Or.inr rfl) (pe_ix (show IxR _ (rIxL K) from ix_list) (pe_lst (pa_cons (pv 6) (pa_cons (pe_op op_add (pv 6) pe_int) (pa_cons (pe_op op_add (pv 3) (pe_call G_law_drawC (hr.mono (by decide)) (by rfl) T.g_law_draw T.F_law_draw.kp T.b_law_draw .nil pass0 (pa_cons (pv 0) (pa_cons (pe_op op_pow pe_int pe_int) pa_nil)))) (pa_cons (pe_call G_law_day (hr.mono (by decide)) (by rfl) T.g_law_day T.F_law_day.kp T.b_law_day .nil pass0 (pa_cons (pv 0) pa_nil)) pa_nil))))) (pe_call G_law_drawC (hr.mono (by decide)) (by rfl) T.g_law_draw T.F_law_draw.kp T.b_law_draw .nil pass0 (pa_cons (pv 0) (pa_cons pe_int pa_nil))) (fun _ _ => rfl)))
    (pss_cons (ps_if (pt_cmpR op_gt (pv 7) (pe_op op_pow pe_int pe_int) (nomark _))
    (pss_one (ps_ret pe_bl))
    pss_nil)
    (pss_cons (ps_set (i := 8) sc_law_far_right.nd rfl (by first | exact Or.inl rfl | exact Or.inr rfl) (pe_callK0 G_times_to (hr.mono (by decide)) (by rfl) T.g_times_to T.F_times_to.kp (T.kb_times_to_0_goal_day_route_book) pass0 (pk_cons (pv 7) (pk_cons (pv 3) (pk_cons (pv 2) (pk_cons (pv 1) pk_nil))))))
    (pss_cons (ps_if (pt_cmpR op_isN (pv 8) pe_non (nomark _))
    (pss_one (ps_ret (pe_and (pe_cmpR (show OpR _ _ (rIn K true) from op_notIn_seq) pe_str (pv 2) (by rfl)) (pe_one (pe_cmpR op_lt (pe_call G_repeated (hr.mono (by decide)) (by rfl) T.g_repeated T.F_repeated.kp T.b_repeated .nil pass0 (pa_cons (pv 1) (pa_cons (pv 2) (pa_cons (pv 3) (pa_cons (pe_op op_pow pe_int pe_int) pa_nil))))) (pv 7) (nomark _))))))
    pss_nil)
    (pss_cons (ps_if (pt_cmpR op_gt (pv 8) (pe_op op_pow pe_int pe_int) (nomark _))
    (pss_cons (ps_set (i := 6) sc_law_far_right.nd rfl (by first | exact Or.inl rfl | exact Or.inr rfl) (pe_call G_repeated (hr.mono (by decide)) (by rfl) T.g_repeated T.F_repeated.kp T.b_repeated .nil pass0 (pa_cons (pv 1) (pa_cons (pv 2) (pa_cons (pv 3) (pa_cons (pe_op op_pow pe_int pe_int) pa_nil))))))
    (pss_one (ps_ret (pe_and (pe_cmpR op_lt (pv 6) (pv 7) (nomark _)) (pe_one (pe_cmpR op_eq (pe_call G_times_to (hr.mono (by decide)) (by rfl) T.g_times_to T.F_times_to.kp T.b_times_to .nil pass0 (pa_cons (pv 1) (pa_cons (pv 2) (pa_cons (pv 6) (pa_cons (pv 7) pa_nil))))) (pe_op op_sub (pv 8) (pe_op op_pow pe_int pe_int)) (nomark _)))))))
    pss_nil)
    (pss_cons (ps_if (pt_cmpR op_lt (pe_call G_repeated (hr.mono (by decide)) (by rfl) T.g_repeated T.F_repeated.kp T.b_repeated .nil pass0 (pa_cons (pv 1) (pa_cons (pv 2) (pa_cons (pv 3) (pa_cons (pv 8) pa_nil))))) (pv 7) (nomark _))
    (pss_one (ps_ret pe_bl))
    pss_nil)
    (pss_one (ps_ret (pe_or (pe_and (pe_cmpR op_eq (pv 8) pe_int (nomark _)) (pe_one (pe_cmpR op_le (pv 7) (pv 3) (nomark _)))) (pe_one (pe_and (pe_cmpR op_gt (pv 8) pe_int (nomark _)) (pe_one (pe_cmpR op_lt (pe_call G_repeated (hr.mono (by decide)) (by rfl) T.g_repeated T.F_repeated.kp T.b_repeated .nil pass0 (pa_cons (pv 1) (pa_cons (pv 2) (pa_cons (pv 3) (pa_cons (pe_op op_sub (pv 8) pe_int) pa_nil))))) (pv 7) (nomark _)))))))))))))))))), ?_⟩
    dsimp only [L2.start, N_law_far_right, cxOf, Cx.nox, Cx.wish]
    walk_at "go"
    refine ⟨h, sc, 1000000000000 + 1, rfl, hh, by decide, by decide, fun k1 H1 k10 k11 hh1 e1 => ?_⟩
    walk_at "go"
    refine ⟨h, sc, 40, rfl, hh1, by decide, by decide, fun k2 H2 k20 k21 hh2 e2 => ?_⟩
    walk_at "go"
    refine ⟨_, _, rfl, ?_⟩
    walk_at "go"
    have hone : 0 ≤ (if k1 - k2 > 0 then k1 - k2 else 0) ∧ (if k1 - k2 > 0 then k1 - k2 else 0) + k2 ≤ 1000000000000 := by split <;> omega
    generalize (if k1 - k2 > 0 then k1 - k2 else 0) = one at hone ⊢
    obtain ⟨n1, rfl⟩ := Int.eq_ofNat_of_zero_le hone.1
    obtain ⟨n2, rfl⟩ := Int.eq_ofNat_of_zero_le k20
    have hb2 := hb.mono (e1.trans e2)
    have hr2 := hr'.mono (e1.trans e2)
    have hdd : dayOk d := ⟨by omega, by omega⟩
    refine ⟨vb, vr, b, r, d, n1, rfl, hb2, okb, hr2, okr, has, hdd, by omega, fun H3 e3 => ?_⟩
    walk_at "go"
    refine ⟨vb, vr, b, r, d, n1 + n2, by rw [Int.natCast_add]; rfl, hb2.mono e3.b, okb, hr2.mono e3.b, okr, has, hdd, by omega, fun H4 e4 => ?_⟩
    walk_at "go"
    have e34 := e3.trans e4
    refine ⟨vb, vr, b, r, itF (moveF b r) n1 d, n2, rfl, hb2.mono e34.b, okb, hr2.mono e34.b, has, by omega, fun l5 H5 nl5 e5 hl5 => ?_⟩
    walk_at "go"
    refine w_ixL (sq_of hl5) (walkF_last _ _ _) ?_
    walk_at "go"
    rw [itF_add]
    refine w_ndec (fun z => absurd rfl z) (fun _ => ?_)
    walk_at "go"
    have e35 := e34.trans e5
    have hh5 := hh2.ex e35
    have hb5 := hb2.mono e35.b
    have hr5 := hr2.mono e35.b
    have hth0 := itF_ge hf n1 d
    have hth1 := hnear n1 d
    refine ⟨h, sc, 1000000000000, rfl, hh5, by decide, by decide, fun k6 H6 k60 k61 hh6 e6 => ?_⟩
    walk_at "go"
    refine ⟨h, sc, rfl, hh6, fun d7 H7 hh7 e7 hd7 => ?_⟩
    walk_at "go"
    refine w_new (by exact Nat.le_of_ble_eq_true rfl) fun p8 H8 np8 e8 hp8 _ => ?_
    walk_at "go"
    refine ⟨h, sc, 4, rfl, hh7.ex e8, by decide, by decide, fun k9 H9 k90 k91 hh9 e9 => ?_⟩
    walk_at "go"
    obtain ⟨hd70, hd71⟩ := hd7
    have hg : ∃ g, atI [V.int (itF (moveF b r) n1 d), V.int (itF (moveF b r) n1 d + 1), V.int (d + k6), V.int d7] k9 = some (.int g) ∧ -200000000000000 ≤ g ∧ g ≤ 900000000000000 := by
      have : k9 = 0 ∨ k9 = 1 ∨ k9 = 2 ∨ k9 = 3 := by omega
      rcases this with rfl | rfl | rfl | rfl
      · exact ⟨_, rfl, by omega, by omega⟩
      · exact ⟨_, rfl, by omega, by omega⟩
      · exact ⟨_, rfl, by omega, by omega⟩
      · exact ⟨_, rfl, by omega, by omega⟩
    obtain ⟨g, hg, hg0, hg1⟩ := hg
    refine w_ixL (sq_of (e9 _ _ hp8 (sh_ints [itF (moveF b r) n1 d, itF (moveF b r) n1 d + 1, d + k6, d7]))) hg ?_
    have e59 := ((e6.trans e7).trans e8.b).trans e9
    have hb9 := hb5.mono e59
    have hr9 := hr5.mono e59
    have eX := ((e1.trans e2).trans e35.b).trans e59
    walk_at "go"
    refine w_dec (fun z => absurd z (by omega)) (fun _ => ?_)
    walk_at "go"
    refine ⟨vb, vr, b, r, d, g, rfl, hb9, okb, hr9, okr, has, hdd, ⟨by omega, by omega⟩, fun v H10 e10 hv => ?_⟩
    have hbA := hb9.mono e10.b
    have hrA := hr9.mono e10.b
    have hhA := hh9.ex e10
    have eA := eX.trans e10.b
    rcases told_int hv with rfl | ⟨n, rfl, t1, t2⟩
    · walk_at "go"
      refine ⟨rfl, ?_⟩
      walk_at "go"
      refine w_dec (fun _ => ?_) (fun z => absurd rfl z)
      walk_at "go"
      obtain ⟨ar, xr, rfl, hsr, rr⟩ := hrA.isTup
      have hxr : xr = (r.map one).map V.str := RpAll.strs_eq rr
      rw [hxr] at hsr
      refine w_ninT hsr rfl (flat_ones r) ?_
      rw [show (V.str (Str.ofString "+")) = .str (one 43) from rfl, in_ones]
      have h43 : 43 ∉ r := fun hm => by
        obtain ⟨x, hx⟩ := told_fix hv
        have := move_plus okb r x hm
        omega
      rw [decide_eq_false h43]
      walk_at "go"
      refine w_nT rfl ?_
      walk_at "go"
      refine ⟨vb, .ref ar, b, r, d, m12, by rw [hm12]; rfl, hbA, okb, hrA, okr, has, hdd, by omega, fun H11 e11 => ?_⟩
      walk_at "go"
      rw [decide_eq_true (told_non hf hv _)]
      exact q H11 (hhA.ex e11) (eA.trans e11.b)
    · walk_at "go"
      refine ⟨rfl, ?_⟩
      walk_at "go"
      refine w_dec (fun z => by cases z) (fun _ => ?_)
      walk_at "go"
      refine w_dec (fun c1 => ?_) (fun c1 => ?_)
      · walk_at "go"
        refine ⟨vb, vr, b, r, d, m12, by rw [hm12]; rfl, hbA, okb, hrA, okr, has, hdd, by omega, fun H11 e11 => ?_⟩
        have t3 := t1 m12 (by omega)
        have t4 := itF_ge hf m12 d
        have hv3 := told_on (m := m12) (by omega) t1 t2
        generalize itF (moveF b r) m12 d = th at t3 t4 hv3 ⊢
        walk_at "go"
        refine w_dec (fun _ => ?_) (fun z => absurd t3 z)
        walk_at "go"
        refine ⟨vb, vr, b, r, th, g, rfl, hbA.mono e11.b, okb, hrA.mono e11.b, okr, has, ⟨by omega, by omega⟩, ⟨by omega, by omega⟩, fun v2 H12 e12 hv2 => ?_⟩
        have hv4 := told_uniq hf hv2 hv3
        subst hv4
        walk_at "go"
        rw [decide_eq_true (by rw [hm12]; rfl)]
        exact q H12 ((hhA.ex e11).ex e12) ((eA.trans e11.b).trans e12.b)
      · walk_at "go"
        refine ⟨vb, vr, b, r, d, n, rfl, hbA, okb, hrA, okr, has, hdd, by omega, fun H11 e11 => ?_⟩
        walk_at "go"
        refine w_dec (fun z => absurd z (by omega)) (fun _ => ?_)
        walk_at "go"
        refine w_dec (fun c2 => ?_) (fun c2 => ?_)
        · have c2 : (n : Int) = 0 := V.int.inj c2
          have c3 : n = 0 := by omega
          subst c3
          have t3 : g ≤ d := t2
          walk_at "go"
          rw [decide_eq_true t3]
          walk_at "go"
          refine iteT ?_
          exact q H11 (hhA.ex e11) (eA.trans e11.b)
        · walk_at "go"
          refine iteF ?_
          walk_at "go"
          cases n with
          | zero => exact absurd rfl c2
          | succ n' =>
            refine w_dec (fun _ => ?_) (fun z => absurd z (by omega))
            walk_at "go"
            refine ⟨vb, vr, b, r, d, n', by rw [show ((n' + 1 : Nat) : Int) - 1 = n' by omega]; rfl, hbA.mono e11.b, okb, hrA.mono e11.b, okr, has, hdd, by omega, fun H12 e12 => ?_⟩
            walk_at "go"
            rw [decide_eq_true (t1 n' (by omega))]
            exact q H12 ((hhA.ex e11).ex e12) ((eA.trans e11.b).trans e12.b)
end
end J
namespace J
open PySem PySem.Spec PyProof.Rows L2
local macro_rules | `(tactic| walk_at "go1") => `(tactic| first
  | with_reducible refine' w_seq ?_
  | with_reducible refine' w_next ?_
  | with_reducible refine' w_brk ?_
  | with_reducible refine' w_cont ?_
  | with_reducible refine' w_asg ?_
  | with_reducible refine' w_asgG ?_
  | with_reducible refine' w_gSub ?_
  | with_reducible refine' w_ret ?_
  | with_reducible refine' w_retN ?_
  | with_reducible refine' w_drop ?_
  | with_reducible refine' w_ifS ?_
  | ((with_reducible refine' w_isAug ?_); refine w_aug rfl ?_)
  | with_reducible refine' w_ipadd ?_
  | with_reducible refine' w_ipsub ?_
  | ((with_reducible refine' w_isVar ?_); refine w_var rfl ?_)
  | with_reducible refine' w_c ?_
  | with_reducible refine' w_nil ?_
  | with_reducible refine' w_cons ?_
  | with_reducible refine' w_op ?_
  | with_reducible refine' w_un ?_
  | with_reducible refine' w_cb ?_
  | with_reducible refine' w_call ?_
  | with_reducible refine' w_callK ?_
  | with_reducible refine' w_test ?_
  | with_reducible refine' w_tB ?_
  | with_reducible refine' w_and ?_
  | with_reducible refine' w_or ?_
  | with_reducible refine' w_not ?_
  | with_reducible refine' w_andV ?_
  | with_reducible refine' w_orV ?_
  | with_reducible refine' w_notV ?_
  | with_reducible refine' w_if ?_
  | with_reducible refine' w_chain ?_
  | with_reducible refine' w_exb ?_
  | with_reducible refine' w_add ?_
  | with_reducible refine' w_sub ?_
  | with_reducible refine' w_lt ?_
  | with_reducible refine' w_le ?_
  | with_reducible refine' w_gt ?_
  | with_reducible refine' w_ge ?_
  | ((with_reducible refine' w_mod ?h ?q); (case h => first | decide | omega))
  | ((with_reducible refine' w_fdiv ?h ?h2 ?q); (case h => first | decide | omega); (case h2 => first | decide | omega))
  | ((with_reducible refine' w_mulR ?h ?q); (case h => omega))
  | ((with_reducible refine' w_mulL ?h ?q); (case h => omega))
  | with_reducible refine' w_pow_6 ?_
  | with_reducible refine' w_pow_9 ?_
  | with_reducible refine' w_pow_12 ?_
  | with_reducible refine' w_pow_14 ?_
  | with_reducible refine' w_pow_15 ?_
  | with_reducible refine' w_pow_18 ?_
  | with_reducible refine' w_neg ?_
  | ((with_reducible refine' w_eq ?h ?q); (case h => exact rfl))
  | ((with_reducible refine' w_ne ?h ?q); (case h => exact rfl))
  | with_reducible refine' w_abs ?_
  | with_reducible refine' w_int ?_
  | with_reducible refine' w_max ?_
  | with_reducible refine' w_min ?_
  | with_reducible refine' w_count ?_
  | with_reducible refine' w_m1 ?_
  | with_reducible refine' w_bm ?_
  | with_reducible refine' w_listR3 ?_
  | with_reducible refine' w_exs ?_
  | with_reducible refine' w_inS ?_
  | with_reducible refine' w_notInS ?_
  | with_reducible refine' w_for ?_
  | with_reducible refine' w_while ?_
  | with_reducible refine' w_lc ?_
  | with_reducible refine' w_iTup ?_
  | with_reducible refine' w_iList ?_
  | with_reducible refine' w_iRng1 ?_
  | with_reducible refine' w_iRng2 ?_
  | with_reducible refine' w_gName ?_
  | with_reducible refine' w_tYes ?_
  | with_reducible refine' w_tupD ?_
  | with_reducible refine' w_tupF ?_
  | with_reducible refine' w_ltS ?_
  | with_reducible refine' w_leS ?_
  | with_reducible refine' w_dget ?_
  | with_reducible refine' w_dnotin ?_
  | with_reducible refine' w_sl ?_
  | with_reducible refine' w_part ?_
  | with_reducible refine' w_noPart ?_
  | with_reducible refine' w_some ?_
  | with_reducible refine' w_lstD ?_
  | with_reducible refine' w_revT ?_
  | with_reducible refine' w_par ?_
  )
local macro_rules | `(tactic| walk_at "go") => `(tactic| repeat (walk_at "go1"))
section
variable {P : Program} {w : World} {K : PySem.W.Frag} {mg : Str → Option Value} {base : Heap} {ad : Nat → Addr} {fdd : Nat → FuncData}
theorem ok_law_across_right (T : Tx K mg ad fdd) (G_law_drawC : FnOk P w K mg base CX0 3 (ad 48) (fdd 48) ["_law_hand_here", "_law_size"] (spDraw 1 800000000000000000)) (G_law_walk : FnOk P w K mg base CX0 3 (ad 56) (fdd 56) ["_law_book_here", "_law_route_here", "_law_day_here", "_law_many"] (spWalk K)) (G_repeated : FnOk P w K mg base CX0 9 (ad 33) (fdd 33) ["book", "route", "day", "times"] (spRep K)) (G_times_to : FnOk P w K mg base CX0 9 (ad 34) (fdd 34) ["book", "route", "day", "goal"] (spTimes K)) : FnOk P w K mg base CX0 10 (ad 59) (fdd 59) ["_law_hand_here", "_law_book_here", "_law_route_here"] (spAcrossR K) := by
  refine T.F_law_across_right.ok sc_law_across_right (fun vs H Q E h => ?_) (fun cdv A outer s H vs Q E hr h => ?_)
  · obtain ⟨h, sc, vb, vr, b, r, rfl, _⟩ := h
    rfl
  · obtain ⟨h, sc, vb, vr, b, r, rfl, hh, hb, okb, hr', okr, has, q⟩ := h
    have hf : ∀ x, x ≤ moveF b r x := move_ge okb r
    have hnear := itF_near (move_near okb (RouteOk.parts okr).1)
    obtain ⟨m12, hm12⟩ : ∃ m : Nat, m = 1000000000000 := ⟨_, rfl⟩
    refine ⟨_, (pss_cons (ps_par (i := 3) (j := 4) (by rfl) sc_law_across_right.nd rfl rfl (by decide) rfl rfl (pa_cons (pe_op op_sub (pe_un un_neg pe_int) (pe_call G_law_drawC (hr.mono (by decide)) (by rfl) T.g_law_draw T.F_law_draw.kp T.b_law_draw .nil pass0 (pa_cons (pv 0) (pa_cons pe_int pa_nil)))) (pa_cons pe_int pa_nil)) (by rfl))
    (pss_cons (ps_if (pt_cmpR op_eq (pe_call G_law_drawC (hr.mono (by decide)) (by rfl) T.g_law_draw T.F_law_draw.kp T.b_law_draw .nil pass0 (pa_cons (pv 0) (pa_cons pe_int pa_nil))) pe_int (nomark _))
    (pss_cons (ps_set (i := 3) sc_law_across_right.nd rfl (by first | exact Or.inl rfl | exact Or.inr rfl) (pe_op op_sub (pe_un un_neg pe_int) (pe_call G_law_drawC (hr.mono (by decide)) (by rfl) T.g_law_draw T.F_law_draw.kp T.b_law_draw .nil pass0 (pa_cons (pv 0) (pa_cons (pe_ix (show IxR _ (rIxL K) from ix_list) (pe_lst (pa_cons pe_int (pa_cons (pe_op op_pow pe_int pe_int) pa_nil))) (pe_call G_law_drawC (hr.mono (by decide)) (by rfl) T.g_law_draw T.F_law_draw.kp T.b_law_draw .nil pass0 (pa_cons (pv 0) (pa_cons pe_int pa_nil))) (fun _ _ => rfl)) pa_nil)))))
    (pss_cons (ps_set (i := 4) sc_law_across_right.nd rfl (by first | exact Or.inl rfl | exact Or.inr rfl) (pe_call G_times_to (hr.mono (by decide)) (by rfl) T.g_times_to T.F_times_to.kp T.b_times_to .nil pass0 (pa_cons (pv 1) (pa_cons (pv 2) (pa_cons (pv 3) (pa_cons (pe_un un_neg pe_int) pa_nil))))))
    (pss_one (ps_if (pt_cmpR op_isN (pv 4) pe_non (nomark _))
    (pss_one (ps_ret (pe_and (pe_cmpR (show OpR _ _ (rIn K true) from op_notIn_seq) pe_str (pv 2) (by rfl)) (pe_one (pe_cmpR op_lt (pe_call G_repeated (hr.mono (by decide)) (by rfl) T.g_repeated T.F_repeated.kp T.b_repeated .nil pass0 (pa_cons (pv 1) (pa_cons (pv 2) (pa_cons (pv 3) (pa_cons (pe_op op_pow pe_int pe_int) pa_nil))))) (pe_un un_neg pe_int) (nomark _))))))
    pss_nil))))
    pss_nil)
    (pss_cons (ps_set (i := 5) sc_law_across_right.nd rfl (by first | exact Or.inl rfl | exact Or.inr rfl) (pe_call G_repeated (hr.mono (by decide)) (by rfl) T.g_repeated T.F_repeated.kp T.b_repeated .nil pass0 (pa_cons (pv 1) (pa_cons (pv 2) (pa_cons (pv 3) (pa_cons (pv 4) pa_nil))))))
    (pss_cons (ps_if (PW.pt (pw_and (pt_cmpR op_gt (pv 4) pe_int (nomark _)) (pw_and1 (PW.pt (pw_or (pt_cmpR op_lt (pv 5) (pe_un un_neg pe_int) (nomark _)) (pw_or1 (pt_cmpR op_ge (pe_call G_repeated (hr.mono (by decide)) (by rfl) T.g_repeated T.F_repeated.kp T.b_repeated .nil pass0 (pa_cons (pv 1) (pa_cons (pv 2) (pa_cons (pv 3) (pa_cons (pe_op op_sub (pv 4) pe_int) pa_nil))))) (pe_un un_neg pe_int) (nomark _))))))))
    (pss_one (ps_ret pe_bl))
    pss_nil)
    (pss_cons (ps_set (i := 6) sc_law_across_right.nd rfl (by first | exact Or.inl rfl | exact Or.inr rfl) (pe_ix (show IxR _ (rIxL K) from ix_list) (pe_lst (pa_cons pe_int (pa_cons pe_int pa_nil))) (pe_callTy c_int (by rfl) T.m_int (by decide +kernel) (pa_cons (pe_cmpR op_gt (pv 4) pe_int (nomark _)) pa_nil)) (fun _ _ => rfl)))
    (pss_cons (ps_set (i := 7) sc_law_across_right.nd rfl (by first | exact Or.inl rfl | exact Or.inr rfl) (pe_call G_law_walk (hr.mono (by decide)) (by rfl) T.g_law_walk T.F_law_walk.kp T.b_law_walk .nil pass0 (pa_cons (pv 1) (pa_cons (pv 2) (pa_cons (pv 5) (pa_cons (pv 6) pa_nil))))))
    (pss_cons (ps_for PassesOwn.never rfl (pi_list (pe_lst (pa_cons (pv 6) (pa_cons (pe_call G_law_drawC (hr.mono (by decide)) (by rfl) T.g_law_draw T.F_law_draw.kp T.b_law_draw .nil pass0 (pa_cons (pv 0) (pa_cons (pv 6) pa_nil))) (pa_cons (pe_call G_law_drawC (hr.mono (by decide)) (by rfl) T.g_law_draw T.F_law_draw.kp T.b_law_draw .nil pass0 (pa_cons (pv 0) (pa_cons (pv 6) pa_nil))) pa_nil))))) (pg_name (i := 8) sc_law_across_right.nd rfl (by first | exact Or.inl rfl | exact Or.inr rfl))
    (pss_one (ps_if (pt_cmpR op_ne (pe_call G_repeated (hr.mono (by decide)) (by rfl) T.g_repeated T.F_repeated.kp T.b_repeated .nil pass0 (pa_cons (pv 1) (pa_cons (pv 2) (pa_cons (pv 3) (pa_cons (pe_op op_add (pv 4) (pv 8)) pa_nil))))) (pe_ix (show IxR _ (rIxL K) from ix_list) (pv 7) (pv 8) (fun _ _ => rfl)) (nomark _))
    (pss_one (ps_ret pe_bl))
    pss_nil)))
    (pss_cons (ps_set (i := 9) sc_law_across_right.nd rfl (by first | exact Or.inl rfl | exact Or.inr rfl) (pe_callB (c_max2 rfl) (by rfl) T.m_max (by decide +kernel) (pa_cons (pe_op op_add (pv 5) pe_int) (pa_cons (pe_op op_sub (pe_call G_law_drawC (hr.mono (by decide)) (by rfl) T.g_law_draw T.F_law_draw.kp T.b_law_draw .nil pass0 (pa_cons (pv 0) (pa_cons pe_int pa_nil))) pe_int) pa_nil))))
    (pss_cons (ps_setLc (i := 10) (own := [("_law_k", 11)]) rfl sc_law_across_right.nd rfl rfl (sw_true rfl rfl rfl (by decide +kernel)) (pi_range1 (by rfl) T.m_range (pa_cons (pe_op op_add (pv 6) pe_int) pa_nil)) (blkOk_by (own := [("_law_k", 11)]) (N := N_law_across_right) (sc := defScope s_law_across_right) (by decide +kernel)) (fun _ _ _ _ _ => (pg_name (i := 11) sc_law_across_right.nd rfl (by first | exact Or.inl rfl | exact Or.inr rfl))) (fun _ _ _ _ _ => (pts_one (pt_cmpR op_ge (pe_ix (show IxR _ (rIxL K) from ix_list) (pv 7) (pv 11) (fun _ _ => rfl)) (pv 9) (nomark _)))) (fun _ _ _ _ _ => (pv 11)))
    (pss_cons (ps_if (pt_cmpR (show OpR _ _ (rEqD K) from op_eqD hr.units) (pv 10) (pe_lst pa_nil) (nomark _))
    (pss_one (ps_ret (pe_or (pe_cmpR op_ne (pe_ix (show IxR _ (rIxL K) from ix_list) (pv 7) (pv 6) (fun _ _ => rfl)) (pe_ix (show IxR _ (rIxL K) from ix_list) (pv 7) (pe_op op_sub (pv 6) pe_int) (fun _ _ => rfl)) (nomark _)) (pe_one (pe_cmpR op_isN (pe_call G_times_to (hr.mono (by decide)) (by rfl) T.g_times_to T.F_times_to.kp T.b_times_to .nil pass0 (pa_cons (pv 1) (pa_cons (pv 2) (pa_cons (pv 3) (pa_cons (pv 9) pa_nil))))) pe_non (nomark _))))))
    pss_nil)
    (pss_one (ps_ret (pe_cmpR op_eq (pe_call G_times_to (hr.mono (by decide)) (by rfl) T.g_times_to T.F_times_to.kp T.b_times_to .nil pass0 (pa_cons (pv 1) (pa_cons (pv 2) (pa_cons (pv 3) (pa_cons (pv 9) pa_nil))))) (pe_op op_add (pv 4) (pe_ix (show IxR _ (rIxL K) from ix_list) (pv 10) pe_int (fun _ _ => rfl))) (nomark _)))))))))))))), ?_⟩
    dsimp only [L2.start, N_law_across_right, cxOf, Cx.nox, Cx.wish]
    walk_at "go"
    refine ⟨h, sc, 40, rfl, hh, by decide, by decide, fun k1 H1 k10 k11 hh1 e1 => ?_⟩
    walk_at "go"
    refine ⟨_, _, rfl, ?_⟩
    walk_at "go"
    refine ⟨h, sc, 2, rfl, hh1, by decide, by decide, fun k2 H2 k20 k21 hh2 e2 => ?_⟩
    walk_at "go"
    have e12 := e1.trans e2
    refine w_dec (fun c0 => ?_) (fun c0 => ?_)
    · walk_at "go"
      refine w_pow_11 ?_
      walk_at "go"
      refine w_new (by exact Nat.le_of_ble_eq_true rfl) fun p3 H3 np3 e3 hp3 _ => ?_
      walk_at "go"
      refine ⟨h, sc, 2, rfl, hh2.ex e3, by decide, by decide, fun k4 H4 k40 k41 hh4 e4 => ?_⟩
      walk_at "go"
      have hk : ∃ m, atI [V.int 2000, V.int 100000000000] k4 = some (.int m) ∧ 1 ≤ m ∧ m ≤ 100000000000 := by
        have : k4 = 0 ∨ k4 = 1 := by omega
        rcases this with rfl | rfl
        · exact ⟨_, rfl, by decide, by decide⟩
        · exact ⟨_, rfl, by decide, by decide⟩
      obtain ⟨m, hm, m0, m1⟩ := hk
      refine w_ixL (sq_of (e4 _ _ hp3 (sh_ints [2000, 100000000000]))) hm ?_
      walk_at "go"
      refine ⟨h, sc, m, rfl, hh4, m0, by omega, fun k5 H5 k50 k51 hh5 e5 => ?_⟩
      walk_at "go"
      have e15 := ((e12.trans e3.b).trans e4).trans e5
      have hb5 := hb.mono e15
      have hr5 := hr'.mono e15
      have hd0 : -100000000200 ≤ -101 - k5 := by omega
      have hd1 : -101 - k5 ≤ -101 := by omega
      generalize -101 - k5 = d at hd0 hd1 ⊢
      refine ⟨vb, vr, b, r, d, -60, rfl, hb5, okb, hr5, okr, has, ⟨by omega, by omega⟩, ⟨by decide, by decide⟩, fun v H6 e6 hv => ?_⟩
      have hb6 := hb5.mono e6.b
      have hr6 := hr5.mono e6.b
      have hh6 := hh5.ex e6
      have e16 := e15.trans e6.b
      rcases told_int hv with rfl | ⟨n, rfl, t1, t2⟩
      · walk_at "go"
        refine ⟨rfl, ?_⟩
        walk_at "go"
        refine w_dec (fun _ => ?_) (fun z => absurd rfl z)
        walk_at "go"
        obtain ⟨ar, xr, rfl, hsr, rr⟩ := hr6.isTup
        have hxr : xr = (r.map one).map V.str := RpAll.strs_eq rr
        rw [hxr] at hsr
        refine w_ninT hsr rfl (flat_ones r) ?_
        rw [show (V.str (Str.ofString "+")) = .str (one 43) from rfl, in_ones]
        have h43 : 43 ∉ r := fun hm => by
          obtain ⟨x, hx⟩ := told_fix hv
          have := move_plus okb r x hm
          omega
        rw [decide_eq_false h43]
        walk_at "go"
        refine w_nT rfl ?_
        walk_at "go"
        refine ⟨vb, .ref ar, b, r, d, m12, by rw [hm12]; rfl, hb6, okb, hr6, okr, has, ⟨by omega, by omega⟩, by omega, fun H11 e11 => ?_⟩
        walk_at "go"
        rw [decide_eq_true (told_non hf hv _)]
        exact q H11 (hh6.ex e11) (e16.trans e11.b)
      · have hn0 := told_bound hf t1 t2 (by omega)
        have hn : n ≤ 200000000000 := by omega
        walk_at "go"
        refine ⟨rfl, ?_⟩
        walk_at "go"
        refine w_dec (fun z => by cases z) (fun _ => ?_)
        walk_at "go"
        have hup : 0 < n → -60 ≤ itF (moveF b r) n d := fun _ => t2

        refine ⟨vb, vr, b, r, d, n, rfl, hb6, okb, hr6, okr, has, ⟨by omega, by omega⟩, by omega, fun H11 e11 => ?_⟩
        have hth0 := itF_ge hf n d
        have hth1 := hnear n d
        walk_at "go"

        cases n with
        | zero => exact absurd (show -60 ≤ d from t2) (by omega)
        | succ n' =>
          refine w_dec (fun _ => ?_) (fun z => absurd z (by omega))
          walk_at "go"
          refine w_dec (fun z => absurd z (by have := hup (by omega); omega)) (fun _ => ?_)
          walk_at "go"
          refine ⟨vb, vr, b, r, d, n', by rw [show ((n' + 1 : Nat) : Int) - 1 = n' by omega]; rfl, hb6.mono e11.b, okb, hr6.mono e11.b, okr, has, ⟨by omega, by omega⟩, by omega, fun H12 e12' => ?_⟩
          walk_at "go"
          refine w_dec (fun z => absurd z (by have := t1 n' (by omega); omega)) (fun _ => ?_)
          have e11 := e11.trans e12'
          have hz : (0 : Int) < ((n' + 1 : Nat) : Int) := by omega
          generalize n' + 1 = n at *
          walk_at "go"
          refine w_new (by exact Nat.le_of_ble_eq_true rfl) fun p13 H13 np13 e13 hp13 _ => ?_
          walk_at "go"
          refine .inr ⟨_, rfl, ?_⟩
          rw [decide_eq_true hz]
          refine w_ixL (sq_of hp13) (show atI [V.int 180, V.int 110] (if true = true then 1 else 0) = some (.int 110) from rfl) ?_
          walk_at "go"
          have e13' := e11.trans e13
          have hbC := hb6.mono e13'.b
          have hrC := hr6.mono e13'.b
          refine ⟨vb, vr, b, r, itF (moveF b r) n d, 110, rfl, hbC, okb, hrC, has, by decide, fun l14 H14 nl14 e14 hl14 => ?_⟩
          walk_at "go"
          have hh14 := (hh6.ex e13').ex e14
          refine ⟨h, sc, 110, rfl, hh14, by decide, by decide, fun k15 H15 k150 k151 hh15 e15' => ?_⟩
          walk_at "go"
          refine ⟨h, sc, 110, rfl, hh15, by decide, by decide, fun k16 H16 k160 k161 hh16 e16' => ?_⟩
          walk_at "go"
          refine w_new (by exact Nat.le_of_ble_eq_true rfl) fun p17 H17 np17 e17 hp17 _ => ?_
          walk_at "go"
          refine w_loopL (sq_of hp17) ?_
          have hl17 := e17 _ _ (e16' _ _ (e15' _ _ hl14 (sh_ints _)) (sh_ints _))
          have eD := ((e14.b.trans e15').trans e16').trans e17.b
          have hbD := hbC.mono eD
          have hrD := hrC.mono eD
          have hhD := hh16.ex e17
          have eY := (e16.trans e13'.b).trans eD
          refine for_list (xs := [.int 110, .int k15, .int k16]) (fun i σ' H' => Ex H17 H' ∧ ∃ y8 y9 y10 y11, σ' = [some (.ref h), some vb, some vr, some (.int d), some (.int (n : Int)), some (.int (itF (moveF b r) n d)), some (.int 110), some (.ref l14), y8, y9, y10, y11]) ⟨Ex.refl _, _, _, _, _, rfl⟩ (fun i σ' H' hi p => sq_of (p.1 _ _ hp17)) (fun i x σ' H18 hx p => ?_) (fun σ' H18 p => ?_)
          · obtain ⟨e18, y8, y9, y10, y11, rfl⟩ := p
            have hk : ∃ k : Nat, x = .int (k : Int) ∧ k ≤ 110 := by
              match i, hx with
              | 0, hx => cases hx; exact ⟨110, rfl, by decide⟩
              | 1, hx => cases hx; exact ⟨k15.toNat, by rw [show ((k15.toNat : Nat) : Int) = k15 by omega], by omega⟩
              | 2, hx => cases hx; exact ⟨k16.toNat, by rw [show ((k16.toNat : Nat) : Int) = k16 by omega], by omega⟩
            obtain ⟨k, rfl, hk⟩ := hk
            walk_at "go"
            refine ⟨vb, vr, b, r, d, n + k, (by rw [Int.natCast_add]; rfl), hbD.mono e18.b, okb, hrD.mono e18.b, okr, has, ⟨by omega, by omega⟩, by omega, fun H19 e19 => ?_⟩
            walk_at "go"
            refine w_ixL (sq_of (e19 _ _ (e18 _ _ hl17))) (walkF_at _ _ _ _ hk) ?_
            walk_at "go"
            rw [itF_add]
            refine w_ndec (fun z => absurd rfl z) (fun _ => ?_)
            walk_at "go"
            exact ⟨e18.trans e19, _, _, _, _, rfl⟩
          · obtain ⟨e18, y8, y9, y10, y11, rfl⟩ := p
            walk_at "go"
            refine ⟨h, sc, 101, rfl, hhD.ex e18, by decide, by decide, fun k20 H20 k200 k201 hh20 e20 => ?_⟩
            walk_at "go"
            have hgo : itF (moveF b r) n d < (if k20 - 50 > itF (moveF b r) n d + 1 then k20 - 50 else itF (moveF b r) n d + 1) ∧ (if k20 - 50 > itF (moveF b r) n d + 1 then k20 - 50 else itF (moveF b r) n d + 1) ≤ 900000000000000 := by split <;> omega
            generalize (if k20 - 50 > itF (moveF b r) n d + 1 then k20 - 50 else itF (moveF b r) n d + 1) = goal at hgo ⊢
            obtain ⟨hgo1, hgo2⟩ := hgo
            have hl20 := e20 _ _ (e18 _ _ hl17) (sh_ints _)
            refine w_lcR ⟨by decide, by decide⟩ ?_
            refine lc_R (fun D i H' => Ex H20 H' ∧ H' D = some (.lst ((dueF (moveF b r) (itF (moveF b r) n d) goal i).map V.int))) (fun D nD => ⟨Ex.new nD, upd_same⟩) (fun D i H' nD hi p => ?_) (fun D H21 nD p => ?_)
            · obtain ⟨e21, hD⟩ := p
              have hi : i < 110 + 1 := hi
              walk_at "go"
              refine ⟨rfl, ?_⟩
              walk_at "go"
              refine w_ixL (sq_of (e21 _ _ hl20)) (by rw [Int.zero_add]; exact walkF_at _ _ _ _ (by omega)) ?_
              walk_at "go"
              refine w_dec (fun c1 => ?_) (fun c1 => ?_)
              · walk_at "go"
                refine ⟨_, hD, small1000 ?_, e21.mut nD, ?_⟩
                · rw [List.length_map]
                  have := dueF_len (moveF b r) (itF (moveF b r) n d) goal i
                  omega
                · rw [upd_same, dueF_succ, if_pos c1, List.map_append, Int.zero_add]; rfl
              · refine ⟨e21, ?_⟩
                rw [dueF_succ, if_neg c1, List.append_nil]; exact hD
            obtain ⟨e21, hD⟩ := p
            have hD' : H21 D = some (.lst ((dueF (moveF b r) (itF (moveF b r) n d) goal (110 + 1)).map V.int)) := hD
            have hl21 := e21 _ _ hl20
            have e1821 := (e18.b.trans e20).trans e21.b
            have hb21 := hbD.mono e1821
            have hr21 := hrD.mono e1821
            have hh21 := hh20.ex e21
            have eZ := eY.trans e1821
            have hdd : dayOk d := ⟨by omega, by omega⟩
            have hgg : dayOk goal := ⟨by omega, by omega⟩
            rcases dueF_told hf (itF (moveF b r) n d) goal (110 + 1) with ⟨h1, h2⟩ | ⟨k0, rest, h1, h2⟩
            · rw [h1] at hD'
              walk_at "go"
              refine w_new (xs := []) (by exact Nat.le_of_ble_eq_true rfl) fun p22 H22 np22 e22 hp22 _ => ?_
              walk_at "go"
              refine w_eqD (d := .list []) (e := .list []) (.lst (sq_of (e22 _ _ hD')) .nil) (.lst (sq_of hp22) .nil) rfl rfl ?_
              rw [show PyData.eqv (.list []) (.list []) = true by simp [PyData.eqv, PyData.eqvAll]]
              walk_at "go"
              refine iteT ?_
              walk_at "go"
              refine w_ixL (sq_of (e22 _ _ hl21)) (walkF_at _ _ _ 110 (by decide)) ?_
              walk_at "go"
              refine w_ixL (sq_of (e22 _ _ hl21)) (show atI _ (110 - 1) = _ from walkF_at _ _ _ (110 - 1) (by decide)) ?_
              walk_at "go"
              refine w_ndec (fun c1 => ?_) (fun c1 => ?_)
              · walk_at "go"
                exact q H22 (hh21.ex e22) (eZ.trans e22.b)
              · walk_at "go"
                injection c1 with c1
                have hst : moveF b r (itF (moveF b r) (110 - 1) (itF (moveF b r) n d)) = itF (moveF b r) (110 - 1) (itF (moveF b r) n d) := by rw [← itF_succ (moveF b r) (110 - 1) (itF (moveF b r) n d)]; exact c1
                refine ⟨vb, vr, b, r, d, goal, rfl, hb21.mono e22.b, okb, hr21.mono e22.b, okr, has, hdd, hgg, fun v2 H23 e23 hv2 => ?_⟩
                have hvn : v2 = .non := told_uniq hf hv2 (.inr ⟨rfl, n + (110 - 1), by rw [itF_add]; exact h2 (110 - 1) (by decide), by rw [itF_add]; exact hst⟩)
                subst hvn
                walk_at "go"
                refine ⟨rfl, ?_⟩
                exact q H23 ((hh21.ex e22).ex e23) ((eZ.trans e22.b).trans e23.b)
            · rw [h1] at hD'
              walk_at "go"
              refine w_new (xs := []) (by exact Nat.le_of_ble_eq_true rfl) fun p22 H22 np22 e22 hp22 _ => ?_
              walk_at "go"
              have hne : PyData.eqv (.list (((k0 : Int) :: rest).map PyData.int)) (.list []) = false := by simp [PyData.eqv, PyData.eqvAll]
              refine w_eqD (d := .list (((k0 : Int) :: rest).map PyData.int)) (e := .list []) (.lst (sq_of (e22 _ _ hD')) (dp_ints _)) (.lst (sq_of hp22) .nil) (shaped_ints _) rfl ?_
              rw [hne]
              walk_at "go"
              refine iteF ?_
              walk_at "go"
              refine ⟨vb, vr, b, r, d, goal, rfl, hb21.mono e22.b, okb, hr21.mono e22.b, okr, has, hdd, hgg, fun v2 H23 e23 hv2 => ?_⟩
              have hvn := told_uniq hf hv2 (told_shift hf hgo1 h2)
              subst hvn
              walk_at "go"
              have hat0 : atI (((k0 : Int) :: rest).map V.int) 0 = some (.int k0) := by
                unfold atI ixN
                rw [if_pos (by decide), if_pos (by rw [List.length_map, List.length_cons]; omega)]
                rfl
              refine w_ixL (sq_of (e23 _ _ (e22 _ _ hD'))) hat0 ?_
              walk_at "go"
              rw [decide_eq_true rfl]
              exact q H23 ((hh21.ex e22).ex e23) ((eZ.trans e22.b).trans e23.b)
    · walk_at "go"
      have hb5 := hb.mono e12
      have hr5 := hr'.mono e12
      have hd0 : -100000000200 ≤ -101 - k1 := by omega
      have hd1 : -101 - k1 ≤ -101 := by omega
      generalize -101 - k1 = d at hd0 hd1 ⊢
      obtain ⟨n, hn0⟩ : ∃ n : Nat, n = 0 := ⟨_, rfl⟩
      have hn : n ≤ 200000000000 := by omega
      have t1 : ∀ k, k < n → itF (moveF b r) k d < -60 := fun k hk => by omega
      have hup : 0 < n → -60 ≤ itF (moveF b r) n d := fun z => by omega

      refine ⟨vb, vr, b, r, d, n, by rw [hn0]; rfl, hb5, okb, hr5, okr, has, ⟨by omega, by omega⟩, by omega, fun H11 e11 => ?_⟩
      have hth0 := itF_ge hf n d
      have hth1 := hnear n d
      walk_at "go"

      refine w_dec (fun z => absurd z (by decide)) (fun _ => ?_)
      walk_at "go"
      refine iteF ?_
      walk_at "go"
      refine w_new (by exact Nat.le_of_ble_eq_true rfl) fun p13 H13 np13 e13 hp13 _ => ?_
      walk_at "go"
      refine .inr ⟨_, rfl, ?_⟩
      rw [decide_eq_false (by decide)]
      refine w_ixL (sq_of hp13) (show atI [V.int 180, V.int 110] (if false = true then 1 else 0) = some (.int 180) from rfl) ?_
      walk_at "go"
      have e13' := e11.trans e13
      have hbC := hb5.mono e13'.b
      have hrC := hr5.mono e13'.b
      refine ⟨vb, vr, b, r, itF (moveF b r) n d, 180, rfl, hbC, okb, hrC, has, by decide, fun l14 H14 nl14 e14 hl14 => ?_⟩
      walk_at "go"
      have hh14 := (hh2.ex e13').ex e14
      refine ⟨h, sc, 180, rfl, hh14, by decide, by decide, fun k15 H15 k150 k151 hh15 e15' => ?_⟩
      walk_at "go"
      refine ⟨h, sc, 180, rfl, hh15, by decide, by decide, fun k16 H16 k160 k161 hh16 e16' => ?_⟩
      walk_at "go"
      refine w_new (by exact Nat.le_of_ble_eq_true rfl) fun p17 H17 np17 e17 hp17 _ => ?_
      walk_at "go"
      refine w_loopL (sq_of hp17) ?_
      have hl17 := e17 _ _ (e16' _ _ (e15' _ _ hl14 (sh_ints _)) (sh_ints _))
      have eD := ((e14.b.trans e15').trans e16').trans e17.b
      have hbD := hbC.mono eD
      have hrD := hrC.mono eD
      have hhD := hh16.ex e17
      have eY := (e12.trans e13'.b).trans eD
      refine for_list (xs := [.int 180, .int k15, .int k16]) (fun i σ' H' => Ex H17 H' ∧ ∃ y8 y9 y10 y11, σ' = [some (.ref h), some vb, some vr, some (.int d), some (.int 0), some (.int (itF (moveF b r) n d)), some (.int 180), some (.ref l14), y8, y9, y10, y11]) ⟨Ex.refl _, _, _, _, _, rfl⟩ (fun i σ' H' hi p => sq_of (p.1 _ _ hp17)) (fun i x σ' H18 hx p => ?_) (fun σ' H18 p => ?_)
      · obtain ⟨e18, y8, y9, y10, y11, rfl⟩ := p
        have hk : ∃ k : Nat, x = .int (k : Int) ∧ k ≤ 180 := by
          match i, hx with
          | 0, hx => cases hx; exact ⟨180, rfl, by decide⟩
          | 1, hx => cases hx; exact ⟨k15.toNat, by rw [show ((k15.toNat : Nat) : Int) = k15 by omega], by omega⟩
          | 2, hx => cases hx; exact ⟨k16.toNat, by rw [show ((k16.toNat : Nat) : Int) = k16 by omega], by omega⟩
        obtain ⟨k, rfl, hk⟩ := hk
        walk_at "go"
        refine ⟨vb, vr, b, r, d, n + k, (by rw [hn0]; simp), hbD.mono e18.b, okb, hrD.mono e18.b, okr, has, ⟨by omega, by omega⟩, by omega, fun H19 e19 => ?_⟩
        walk_at "go"
        refine w_ixL (sq_of (e19 _ _ (e18 _ _ hl17))) (walkF_at _ _ _ _ hk) ?_
        walk_at "go"
        rw [itF_add]
        refine w_ndec (fun z => absurd rfl z) (fun _ => ?_)
        walk_at "go"
        exact ⟨e18.trans e19, _, _, _, _, rfl⟩
      · obtain ⟨e18, y8, y9, y10, y11, rfl⟩ := p
        walk_at "go"
        refine ⟨h, sc, 101, rfl, hhD.ex e18, by decide, by decide, fun k20 H20 k200 k201 hh20 e20 => ?_⟩
        walk_at "go"
        have hgo : itF (moveF b r) n d < (if k20 - 50 > itF (moveF b r) n d + 1 then k20 - 50 else itF (moveF b r) n d + 1) ∧ (if k20 - 50 > itF (moveF b r) n d + 1 then k20 - 50 else itF (moveF b r) n d + 1) ≤ 900000000000000 := by split <;> omega
        generalize (if k20 - 50 > itF (moveF b r) n d + 1 then k20 - 50 else itF (moveF b r) n d + 1) = goal at hgo ⊢
        obtain ⟨hgo1, hgo2⟩ := hgo
        have hl20 := e20 _ _ (e18 _ _ hl17) (sh_ints _)
        refine w_lcR ⟨by decide, by decide⟩ ?_
        refine lc_R (fun D i H' => Ex H20 H' ∧ H' D = some (.lst ((dueF (moveF b r) (itF (moveF b r) n d) goal i).map V.int))) (fun D nD => ⟨Ex.new nD, upd_same⟩) (fun D i H' nD hi p => ?_) (fun D H21 nD p => ?_)
        · obtain ⟨e21, hD⟩ := p
          have hi : i < 180 + 1 := hi
          walk_at "go"
          refine ⟨rfl, ?_⟩
          walk_at "go"
          refine w_ixL (sq_of (e21 _ _ hl20)) (by rw [Int.zero_add]; exact walkF_at _ _ _ _ (by omega)) ?_
          walk_at "go"
          refine w_dec (fun c1 => ?_) (fun c1 => ?_)
          · walk_at "go"
            refine ⟨_, hD, small1000 ?_, e21.mut nD, ?_⟩
            · rw [List.length_map]
              have := dueF_len (moveF b r) (itF (moveF b r) n d) goal i
              omega
            · rw [upd_same, dueF_succ, if_pos c1, List.map_append, Int.zero_add]; rfl
          · refine ⟨e21, ?_⟩
            rw [dueF_succ, if_neg c1, List.append_nil]; exact hD
        obtain ⟨e21, hD⟩ := p
        have hD' : H21 D = some (.lst ((dueF (moveF b r) (itF (moveF b r) n d) goal (180 + 1)).map V.int)) := hD
        have hl21 := e21 _ _ hl20
        have e1821 := (e18.b.trans e20).trans e21.b
        have hb21 := hbD.mono e1821
        have hr21 := hrD.mono e1821
        have hh21 := hh20.ex e21
        have eZ := eY.trans e1821
        have hdd : dayOk d := ⟨by omega, by omega⟩
        have hgg : dayOk goal := ⟨by omega, by omega⟩
        rcases dueF_told hf (itF (moveF b r) n d) goal (180 + 1) with ⟨h1, h2⟩ | ⟨k0, rest, h1, h2⟩
        · rw [h1] at hD'
          walk_at "go"
          refine w_new (xs := []) (by exact Nat.le_of_ble_eq_true rfl) fun p22 H22 np22 e22 hp22 _ => ?_
          walk_at "go"
          refine w_eqD (d := .list []) (e := .list []) (.lst (sq_of (e22 _ _ hD')) .nil) (.lst (sq_of hp22) .nil) rfl rfl ?_
          rw [show PyData.eqv (.list []) (.list []) = true by simp [PyData.eqv, PyData.eqvAll]]
          walk_at "go"
          refine iteT ?_
          walk_at "go"
          refine w_ixL (sq_of (e22 _ _ hl21)) (walkF_at _ _ _ 180 (by decide)) ?_
          walk_at "go"
          refine w_ixL (sq_of (e22 _ _ hl21)) (show atI _ (180 - 1) = _ from walkF_at _ _ _ (180 - 1) (by decide)) ?_
          walk_at "go"
          refine w_ndec (fun c1 => ?_) (fun c1 => ?_)
          · walk_at "go"
            exact q H22 (hh21.ex e22) (eZ.trans e22.b)
          · walk_at "go"
            injection c1 with c1
            have hst : moveF b r (itF (moveF b r) (180 - 1) (itF (moveF b r) n d)) = itF (moveF b r) (180 - 1) (itF (moveF b r) n d) := by rw [← itF_succ (moveF b r) (180 - 1) (itF (moveF b r) n d)]; exact c1
            refine ⟨vb, vr, b, r, d, goal, rfl, hb21.mono e22.b, okb, hr21.mono e22.b, okr, has, hdd, hgg, fun v2 H23 e23 hv2 => ?_⟩
            have hvn : v2 = .non := told_uniq hf hv2 (.inr ⟨rfl, n + (180 - 1), by rw [itF_add]; exact h2 (180 - 1) (by decide), by rw [itF_add]; exact hst⟩)
            subst hvn
            walk_at "go"
            refine ⟨rfl, ?_⟩
            exact q H23 ((hh21.ex e22).ex e23) ((eZ.trans e22.b).trans e23.b)
        · rw [h1] at hD'
          walk_at "go"
          refine w_new (xs := []) (by exact Nat.le_of_ble_eq_true rfl) fun p22 H22 np22 e22 hp22 _ => ?_
          walk_at "go"
          have hne : PyData.eqv (.list (((k0 : Int) :: rest).map PyData.int)) (.list []) = false := by simp [PyData.eqv, PyData.eqvAll]
          refine w_eqD (d := .list (((k0 : Int) :: rest).map PyData.int)) (e := .list []) (.lst (sq_of (e22 _ _ hD')) (dp_ints _)) (.lst (sq_of hp22) .nil) (shaped_ints _) rfl ?_
          rw [hne]
          walk_at "go"
          refine iteF ?_
          walk_at "go"
          refine ⟨vb, vr, b, r, d, goal, rfl, hb21.mono e22.b, okb, hr21.mono e22.b, okr, has, hdd, hgg, fun v2 H23 e23 hv2 => ?_⟩
          have hvn := told_uniq hf hv2 (told_shift hf hgo1 h2)
          subst hvn
          walk_at "go"
          have hat0 : atI (((k0 : Int) :: rest).map V.int) 0 = some (.int k0) := by
            unfold atI ixN
            rw [if_pos (by decide), if_pos (by rw [List.length_map, List.length_cons]; omega)]
            rfl
          refine w_ixL (sq_of (e23 _ _ (e22 _ _ hD'))) hat0 ?_
          walk_at "go"
          rw [decide_eq_true (by rw [hn0]; simp)]
          exact q H23 ((hh21.ex e22).ex e23) ((eZ.trans e22.b).trans e23.b)
end
end J
namespace J
open PySem PySem.Spec PyProof.Rows L2
local macro_rules | `(tactic| walk_at "go1") => `(tactic| first
  | with_reducible refine' w_seq ?_
  | with_reducible refine' w_next ?_
  | with_reducible refine' w_brk ?_
  | with_reducible refine' w_cont ?_
  | with_reducible refine' w_asg ?_
  | with_reducible refine' w_asgG ?_
  | with_reducible refine' w_gSub ?_
  | with_reducible refine' w_ret ?_
  | with_reducible refine' w_retN ?_
  | with_reducible refine' w_drop ?_
  | with_reducible refine' w_ifS ?_
  | ((with_reducible refine' w_isAug ?_); refine w_aug rfl ?_)
  | with_reducible refine' w_ipadd ?_
  | with_reducible refine' w_ipsub ?_
  | ((with_reducible refine' w_isVar ?_); refine w_var rfl ?_)
  | with_reducible refine' w_c ?_
  | with_reducible refine' w_nil ?_
  | with_reducible refine' w_cons ?_
  | with_reducible refine' w_op ?_
  | with_reducible refine' w_un ?_
  | with_reducible refine' w_cb ?_
  | with_reducible refine' w_call ?_
  | with_reducible refine' w_callK ?_
  | with_reducible refine' w_test ?_
  | with_reducible refine' w_tB ?_
  | with_reducible refine' w_and ?_
  | with_reducible refine' w_or ?_
  | with_reducible refine' w_not ?_
  | with_reducible refine' w_andV ?_
  | with_reducible refine' w_orV ?_
  | with_reducible refine' w_notV ?_
  | with_reducible refine' w_if ?_
  | with_reducible refine' w_chain ?_
  | with_reducible refine' w_exb ?_
  | with_reducible refine' w_add ?_
  | with_reducible refine' w_sub ?_
  | with_reducible refine' w_lt ?_
  | with_reducible refine' w_le ?_
  | with_reducible refine' w_gt ?_
  | with_reducible refine' w_ge ?_
  | ((with_reducible refine' w_mod ?h ?q); (case h => first | decide | omega))
  | ((with_reducible refine' w_fdiv ?h ?h2 ?q); (case h => first | decide | omega); (case h2 => first | decide | omega))
  | ((with_reducible refine' w_mulR ?h ?q); (case h => omega))
  | ((with_reducible refine' w_mulL ?h ?q); (case h => omega))
  | with_reducible refine' w_pow_6 ?_
  | with_reducible refine' w_pow_9 ?_
  | with_reducible refine' w_pow_12 ?_
  | with_reducible refine' w_pow_14 ?_
  | with_reducible refine' w_pow_15 ?_
  | with_reducible refine' w_pow_18 ?_
  | with_reducible refine' w_neg ?_
  | ((with_reducible refine' w_eq ?h ?q); (case h => exact rfl))
  | ((with_reducible refine' w_ne ?h ?q); (case h => exact rfl))
  | with_reducible refine' w_abs ?_
  | with_reducible refine' w_int ?_
  | with_reducible refine' w_max ?_
  | with_reducible refine' w_min ?_
  | with_reducible refine' w_count ?_
  | with_reducible refine' w_m1 ?_
  | with_reducible refine' w_bm ?_
  | with_reducible refine' w_listR3 ?_
  | with_reducible refine' w_exs ?_
  | with_reducible refine' w_inS ?_
  | with_reducible refine' w_notInS ?_
  | with_reducible refine' w_for ?_
  | with_reducible refine' w_while ?_
  | with_reducible refine' w_lc ?_
  | with_reducible refine' w_iTup ?_
  | with_reducible refine' w_iList ?_
  | with_reducible refine' w_iRng1 ?_
  | with_reducible refine' w_iRng2 ?_
  | with_reducible refine' w_gName ?_
  | with_reducible refine' w_tYes ?_
  | with_reducible refine' w_tupD ?_
  | with_reducible refine' w_tupF ?_
  | with_reducible refine' w_ltS ?_
  | with_reducible refine' w_leS ?_
  | with_reducible refine' w_dget ?_
  | with_reducible refine' w_dnotin ?_
  | with_reducible refine' w_sl ?_
  | with_reducible refine' w_part ?_
  | with_reducible refine' w_noPart ?_
  | with_reducible refine' w_some ?_
  | with_reducible refine' w_lstD ?_
  | with_reducible refine' w_revT ?_
  | with_reducible refine' w_par ?_
  )
local macro_rules | `(tactic| walk_at "go") => `(tactic| repeat (walk_at "go1"))
section
variable {P : Program} {w : World} {K : PySem.W.Frag} {mg : Str → Option Value} {base : Heap} {ad : Nat → Addr} {fdd : Nat → FuncData}
theorem ok_law (T : Tx K mg ad fdd) (G_law_hand : FnOk P w K mg base CX0 1 (ad 47) (fdd 47) ["_law_script"] (spHand K)) (G_law_draw : FnOk P w K mg base CX0 1 (ad 48) (fdd 48) ["_law_hand_here", "_law_size"] (spDraw 1 1000000)) (G_law_book : FnOk P w K mg base CX0 4 (ad 53) (fdd 53) ["_law_hand_here", "_law_most"] (spLawBook K)) (G_law_route : FnOk P w K mg base CX0 2 (ad 54) (fdd 54) ["_law_hand_here", "_law_book_here", "_law_most"] (spLawRoute K)) (G_law_day : FnOk P w K mg base CX0 2 (ad 52) (fdd 52) ["_law_hand_here"] (spLawDayS)) (G_law_near_right : FnOk P w K mg base CX0 10 (ad 57) (fdd 57) ["_law_hand_here", "_law_book_here", "_law_route_here", "_law_day_here"] (spNearR K)) (G_law_far_right : FnOk P w K mg base CX0 10 (ad 58) (fdd 58) ["_law_hand_here", "_law_book_here", "_law_route_here", "_law_day_here"] (spFarR K)) (G_law_across_right : FnOk P w K mg base CX0 10 (ad 59) (fdd 59) ["_law_hand_here", "_law_book_here", "_law_route_here"] (spAcrossR K)) (G_repeated : FnOk P w K mg base CX0 9 (ad 33) (fdd 33) ["book", "route", "day", "times"] (spRep K)) (G_times_to : FnOk P w K mg base CX0 9 (ad 34) (fdd 34) ["book", "route", "day", "goal"] (spTimes K)) : FnOk P w K mg base CX0 11 (ad 60) (fdd 60) ["_law_script"] (spLaw K) := by
  refine T.F_law.ok sc_law (fun vs H Q E h => ?_) (fun cdv A outer s H vs Q E hr h => ?_)
  · obtain ⟨a, ns, rfl, _⟩ := h
    rfl
  · obtain ⟨a, ns, rfl, hs, hn, q⟩ := h
    refine ⟨_, (pss_cons (ps_set (i := 1) sc_law.nd rfl (by first | exact Or.inl rfl | exact Or.inr rfl) (pe_call G_law_hand (hr.mono (by decide)) (by rfl) T.g_law_hand T.F_law_hand.kp T.b_law_hand .nil pass0 (pa_cons (pv 0) pa_nil)))
    (pss_cons (ps_for PassesOwn.never rfl (pi_range1 (by rfl) T.m_range (pa_cons (pe_callB (c_max2 rfl) (by rfl) T.m_max (by decide +kernel) (pa_cons pe_int (pa_cons (pe_callB (c_min2 rfl) (by rfl) T.m_min (by decide +kernel) (pa_cons pe_int (pa_cons (pe_callB (show CallR _ _ (rLen K) from c_len) (by rfl) T.m_len (by decide +kernel) (pa_cons (pv 0) pa_nil)) pa_nil))) pa_nil))) pa_nil)) (pg_name (i := 2) sc_law.nd rfl (by first | exact Or.inl rfl | exact Or.inr rfl))
    (pss_cons (ps_set (i := 3) sc_law.nd rfl (by first | exact Or.inl rfl | exact Or.inr rfl) (pe_call G_law_book (hr.mono (by decide)) (by rfl) T.g_law_book T.F_law_book.kp T.b_law_book .nil pass0 (pa_cons (pv 1) (pa_cons pe_int pa_nil))))
    (pss_cons (ps_set (i := 4) sc_law.nd rfl (by first | exact Or.inl rfl | exact Or.inr rfl) (pe_call G_law_route (hr.mono (by decide)) (by rfl) T.g_law_route T.F_law_route.kp T.b_law_route .nil pass0 (pa_cons (pv 1) (pa_cons (pv 3) (pa_cons pe_int pa_nil)))))
    (pss_cons (ps_for PassesOwn.never rfl (pi_list (pe_lst (pa_cons (pe_call G_law_day (hr.mono (by decide)) (by rfl) T.g_law_day T.F_law_day.kp T.b_law_day .nil pass0 (pa_cons (pv 1) pa_nil)) (pa_cons (pe_op op_sub (pe_call G_law_draw (hr.mono (by decide)) (by rfl) T.g_law_draw T.F_law_draw.kp T.b_law_draw .nil pass0 (pa_cons (pv 1) (pa_cons pe_int pa_nil))) pe_int) pa_nil)))) (pg_name (i := 5) sc_law.nd rfl (by first | exact Or.inl rfl | exact Or.inr rfl))
    (pss_one (ps_if (PW.pt (pw_or (pt_not (pt_val (pe_call G_law_near_right (hr.mono (by decide)) (by rfl) T.g_law_near_right T.F_law_near_right.kp T.b_law_near_right .nil pass0 (pa_cons (pv 1) (pa_cons (pv 3) (pa_cons (pv 4) (pa_cons (pv 5) pa_nil))))))) (pw_or1 (pt_not (pt_val (pe_call G_law_far_right (hr.mono (by decide)) (by rfl) T.g_law_far_right T.F_law_far_right.kp T.b_law_far_right .nil pass0 (pa_cons (pv 1) (pa_cons (pv 3) (pa_cons (pv 4) (pa_cons (pv 5) pa_nil))))))))))
    (pss_one (ps_ret pe_bl))
    pss_nil)))
    (pss_one (ps_if (pt_not (pt_val (pe_call G_law_across_right (hr.mono (by decide)) (by rfl) T.g_law_across_right T.F_law_across_right.kp T.b_law_across_right .nil pass0 (pa_cons (pv 1) (pa_cons (pv 3) (pa_cons (pv 4) pa_nil))))))
    (pss_one (ps_ret pe_bl))
    pss_nil))))))
    (pss_one (ps_ret (pe_and (pe_cmpR op_eq (pe_call G_repeated (hr.mono (by decide)) (by rfl) T.g_repeated T.F_repeated.kp T.b_repeated .nil pass0 (pa_cons (pe_tupF pa_nil) (pa_cons (pe_tup (pa_cons pe_str pa_nil)) (pa_cons pe_int (pa_cons (pe_op op_pow pe_int pe_int) pa_nil))))) (pe_op op_pow pe_int pe_int) (nomark _)) (pe_one (pe_cmpR op_isN (pe_call G_times_to (hr.mono (by decide)) (by rfl) T.g_times_to T.F_times_to.kp T.b_times_to .nil pass0 (pa_cons (pe_tupF pa_nil) (pa_cons (pe_tupF pa_nil) (pa_cons pe_int (pa_cons pe_int pa_nil))))) pe_non (nomark _)))))))), ?_⟩
    dsimp only [L2.start, N_law, cxOf, Cx.nox, Cx.wish]
    walk_at "go"
    refine ⟨a, ns, rfl, hs, fun h sc H1 nh e1 hh1 => ?_⟩
    walk_at "go"
    refine w_lenL (e1.sqL hs) ?_
    walk_at "go"
    refine w_loopR ?_ ?_
    · rw [List.length_map]; split <;> split <;> omega
    refine for_range (fun i σ' H' => Hand H' h sc ∧ ∃ y2 y3 y4 y5, σ' = [some (.ref a), some (.ref h), y2, y3, y4, y5]) ⟨hh1, _, _, _, _, rfl⟩ (fun i0 σ' H2 hi p => ?_) (fun σ' H2 p => ?_)
    · obtain ⟨hh2, y2, y3, y4, y5, rfl⟩ := p
      walk_at "go"
      refine ⟨h, sc, 3, rfl, hh2, by decide, by decide, fun vb b H3 hh3 e3 hb okb hbne => ?_⟩
      walk_at "go"
      refine ⟨h, sc, vb, b, 6, rfl, hh3, hb.rp, okb, by decide, by decide, fun vr r H5 hh5 e5 hr5 okr has => ?_⟩
      walk_at "go"
      refine ⟨h, sc, rfl, hh5, fun d6 H6 hh6 e6 hd6 => ?_⟩
      walk_at "go"
      refine ⟨h, sc, 81, rfl, hh6, by decide, by decide, fun k7 H7 k70 k71 hh7 e7 => ?_⟩
      walk_at "go"
      refine w_new (by exact Nat.le_of_ble_eq_true rfl) fun p8 H8 np8 e8 hp8 _ => ?_
      walk_at "go"
      refine w_loopL (sq_of hp8) ?_
      have hb8 := hb.mono (((e5.trans e6).trans e7).trans e8.b)
      have hr8 := hr5.mono ((e6.trans e7).trans e8.b)
      refine for_list (xs := [.int d6, .int (k7 - 50)]) (fun i σ' H' => Hand H' h sc ∧ Xb H8 H' ∧ ∃ y5, σ' = [some (.ref a), some (.ref h), some (.int (0 + (i0 : Int))), some vb, some vr, y5]) ⟨hh7.ex e8, Xb.refl _, _, rfl⟩ (fun i σ' H' hi p => sq_of (p.2.1 _ _ hp8 (sh_ints [d6, k7 - 50]))) (fun i x σ' H9 hx p => ?_) (fun σ' H9 p => ?_)
      · obtain ⟨hh9, e9, y5, rfl⟩ := p
        have hd : ∃ d, x = .int d ∧ nearDay d := by
          obtain ⟨a1, a2⟩ := hd6
          match i, hx with
          | 0, hx => cases hx; exact ⟨d6, rfl, a1, a2⟩
          | 1, hx => cases hx; exact ⟨k7 - 50, rfl, by omega, by omega⟩
        obtain ⟨d, rfl, hd⟩ := hd
        walk_at "go"
        refine ⟨h, sc, vb, vr, b, r, d, rfl, hh9, hb8.mono e9, okb, hr8.mono e9, okr, has, hd, fun H10 hh10 e10 => ?_⟩
        walk_at "go"
        refine iteF ?_
        walk_at "go"
        refine ⟨h, sc, vb, vr, b, r, d, rfl, hh10, hb8.mono (e9.trans e10), okb, hr8.mono (e9.trans e10), okr, has, hd, fun H11 hh11 e11 => ?_⟩
        walk_at "go"
        refine iteF ?_
        walk_at "go"
        exact ⟨hh11, (e9.trans e10).trans e11, _, rfl⟩
      · obtain ⟨hh9, e9, y5, rfl⟩ := p
        walk_at "go"
        refine ⟨h, sc, vb, vr, b, r, rfl, hh9, hb8.mono e9, okb, hr8.mono e9, okr, has, fun H10 hh10 e10 => ?_⟩
        walk_at "go"
        refine iteF ?_
        walk_at "go"
        exact ⟨hh10, _, _, _, _, rfl⟩
    · obtain ⟨hh2, y2, y3, y4, y5, rfl⟩ := p
      walk_at "go"
      refine w_newF (xs := []) (by exact Nat.le_of_ble_eq_true rfl) fun p3 o3 H3 np3 e3 ho3 hp3 => ?_
      walk_at "go"
      refine w_new (by exact Nat.le_of_ble_eq_true rfl) fun p4 H4 np4 e4 hp4 _ => ?_
      walk_at "go"
      refine ⟨.ref p3, .ref p4, [], [43], 0, 1000000000000, rfl, ⟨p3, o3, [], rfl, e4 _ _ hp3, ho3, .nil⟩, BookOk_of (by decide) (fun p hp => by cases hp) List.Pairwise.nil, .tup (st_of hp4) (rp_ones [43]), RouteOk_of (by decide) (by decide), (fun c hc hn => absurd (by simpa using hc) hn), ⟨by decide, by decide⟩, by decide, fun H5 e5 => ?_⟩
      rw [itF_up (fun x => by simp [moveF, stepF])]
      walk_at "go"
      refine w_dec (fun _ => ?_) (fun z => absurd rfl z)
      walk_at "go"
      refine w_newF (xs := []) (by exact Nat.le_of_ble_eq_true rfl) fun p6 o6 H6 np6 e6 ho6 hp6 => ?_
      walk_at "go"
      refine w_newF (xs := []) (by exact Nat.le_of_ble_eq_true rfl) fun p7 o7 H7 np7 e7 ho7 hp7 => ?_
      walk_at "go"
      refine ⟨.ref p6, .ref p7, [], [], 0, 1, rfl, ⟨p6, o6, [], rfl, e7 _ _ hp6, ho6, .nil⟩, BookOk_of (by decide) (fun p hp => by cases hp) List.Pairwise.nil, .tup (sf_of hp7) .nil, RouteOk_of (by decide) (by decide), (fun c hc hn => by cases hc), ⟨by decide, by decide⟩, ⟨by decide, by decide⟩, fun v H8 e8 hv => ?_⟩
      have hvn : v = .non := told_uniq (f := moveF [] []) (fun x => Int.le_refl x) hv (.inr ⟨rfl, 0, by show (0 : Int) < 1; decide, rfl⟩)
      subst hvn
      walk_at "go"
      exact ⟨rfl, q H8⟩
end
end J
namespace J
open PySem PySem.Spec PyProof.Rows L2
local macro_rules | `(tactic| walk_at "go1") => `(tactic| first
  | with_reducible refine' w_seq ?_
  | with_reducible refine' w_next ?_
  | with_reducible refine' w_brk ?_
  | with_reducible refine' w_cont ?_
  | with_reducible refine' w_asg ?_
  | with_reducible refine' w_asgG ?_
  | with_reducible refine' w_gSub ?_
  | with_reducible refine' w_ret ?_
  | with_reducible refine' w_retN ?_
  | with_reducible refine' w_drop ?_
  | with_reducible refine' w_ifS ?_
  | ((with_reducible refine' w_isAug ?_); refine w_aug rfl ?_)
  | with_reducible refine' w_ipadd ?_
  | with_reducible refine' w_ipsub ?_
  | ((with_reducible refine' w_isVar ?_); refine w_var rfl ?_)
  | with_reducible refine' w_c ?_
  | with_reducible refine' w_nil ?_
  | with_reducible refine' w_cons ?_
  | with_reducible refine' w_op ?_
  | with_reducible refine' w_un ?_
  | with_reducible refine' w_cb ?_
  | with_reducible refine' w_call ?_
  | with_reducible refine' w_callK ?_
  | with_reducible refine' w_test ?_
  | with_reducible refine' w_tB ?_
  | with_reducible refine' w_and ?_
  | with_reducible refine' w_or ?_
  | with_reducible refine' w_not ?_
  | with_reducible refine' w_andV ?_
  | with_reducible refine' w_orV ?_
  | with_reducible refine' w_notV ?_
  | with_reducible refine' w_if ?_
  | with_reducible refine' w_chain ?_
  | with_reducible refine' w_exb ?_
  | with_reducible refine' w_add ?_
  | with_reducible refine' w_sub ?_
  | with_reducible refine' w_lt ?_
  | with_reducible refine' w_le ?_
  | with_reducible refine' w_gt ?_
  | with_reducible refine' w_ge ?_
  | ((with_reducible refine' w_mod ?h ?q); (case h => first | decide | omega))
  | ((with_reducible refine' w_fdiv ?h ?h2 ?q); (case h => first | decide | omega); (case h2 => first | decide | omega))
  | ((with_reducible refine' w_mulR ?h ?q); (case h => omega))
  | ((with_reducible refine' w_mulL ?h ?q); (case h => omega))
  | with_reducible refine' w_pow_6 ?_
  | with_reducible refine' w_pow_9 ?_
  | with_reducible refine' w_pow_12 ?_
  | with_reducible refine' w_pow_14 ?_
  | with_reducible refine' w_pow_15 ?_
  | with_reducible refine' w_pow_18 ?_
  | with_reducible refine' w_neg ?_
  | ((with_reducible refine' w_eq ?h ?q); (case h => exact rfl))
  | ((with_reducible refine' w_ne ?h ?q); (case h => exact rfl))
  | with_reducible refine' w_abs ?_
  | with_reducible refine' w_int ?_
  | with_reducible refine' w_max ?_
  | with_reducible refine' w_min ?_
  | with_reducible refine' w_count ?_
  | with_reducible refine' w_m1 ?_
  | with_reducible refine' w_bm ?_
  | with_reducible refine' w_listR3 ?_
  | with_reducible refine' w_exs ?_
  | with_reducible refine' w_inS ?_
  | with_reducible refine' w_notInS ?_
  | with_reducible refine' w_for ?_
  | with_reducible refine' w_while ?_
  | with_reducible refine' w_lc ?_
  | with_reducible refine' w_iTup ?_
  | with_reducible refine' w_iList ?_
  | with_reducible refine' w_iRng1 ?_
  | with_reducible refine' w_iRng2 ?_
  | with_reducible refine' w_gName ?_
  | with_reducible refine' w_tYes ?_
  | with_reducible refine' w_tupD ?_
  | with_reducible refine' w_tupF ?_
  | with_reducible refine' w_ltS ?_
  | with_reducible refine' w_leS ?_
  | with_reducible refine' w_dget ?_
  | with_reducible refine' w_dnotin ?_
  | with_reducible refine' w_sl ?_
  | with_reducible refine' w_part ?_
  | with_reducible refine' w_noPart ?_
  | with_reducible refine' w_some ?_
  | with_reducible refine' w_lstD ?_
  | with_reducible refine' w_revT ?_
  | with_reducible refine' w_par ?_
  )
local macro_rules | `(tactic| walk_at "go") => `(tactic| repeat (walk_at "go1"))
theorem kbp_kb_times_to_0_goal_day_route_book {K : PySem.W.Frag} (fd : FuncData) (h : ∀ (s : Shared) (w0 w1 w2 w3 : Value), BindsTo s fd ⟨[], [("goal", w0), ("day", w1), ("route", w2), ("book", w3)]⟩ [("book", w3), ("route", w2), ("day", w1), ("goal", w0)]) : KBinds K fd ["book", "route", "day", "goal"] ["goal", "day", "route", "book"] (kg_kb_times_to_0_goal_day_route_book) (kgV_kb_times_to_0_goal_day_route_book) := by
  refine ⟨fun s us ws _ hl => ?_, fun {vs us zs ws} r rz => ?_⟩
  · unfold kg_kb_times_to_0_goal_day_route_book at hl ⊢
    split at hl
    · exact h s _ _ _ _
    · cases hl
  · cases r with
    | nil =>
      cases rz with
      | nil => exact .nil
      | cons hw0 rz =>
        cases rz with
        | nil => exact .nil
        | cons hw1 rz =>
          cases rz with
          | nil => exact .nil
          | cons hw2 rz =>
            cases rz with
            | nil => exact .nil
            | cons hw3 rz =>
              cases rz with
              | nil =>
                exact .cons hw3 (.cons hw2 (.cons hw1 (.cons hw0 (.nil))))
              | cons _ _ => exact .nil
    | cons _ _ => exact .nil
theorem kbp_kb_repeated_0_times_day_route_book {K : PySem.W.Frag} (fd : FuncData) (h : ∀ (s : Shared) (w0 w1 w2 w3 : Value), BindsTo s fd ⟨[], [("times", w0), ("day", w1), ("route", w2), ("book", w3)]⟩ [("book", w3), ("route", w2), ("day", w1), ("times", w0)]) : KBinds K fd ["book", "route", "day", "times"] ["times", "day", "route", "book"] (kg_kb_repeated_0_times_day_route_book) (kgV_kb_repeated_0_times_day_route_book) := by
  refine ⟨fun s us ws _ hl => ?_, fun {vs us zs ws} r rz => ?_⟩
  · unfold kg_kb_repeated_0_times_day_route_book at hl ⊢
    split at hl
    · exact h s _ _ _ _
    · cases hl
  · cases r with
    | nil =>
      cases rz with
      | nil => exact .nil
      | cons hw0 rz =>
        cases rz with
        | nil => exact .nil
        | cons hw1 rz =>
          cases rz with
          | nil => exact .nil
          | cons hw2 rz =>
            cases rz with
            | nil => exact .nil
            | cons hw3 rz =>
              cases rz with
              | nil =>
                exact .cons hw3 (.cons hw2 (.cons hw1 (.cons hw0 (.nil))))
              | cons _ _ => exact .nil
    | cons _ _ => exact .nil
section
theorem all_mk {l : PySem.W.OpenLaw} {w : World} {K : PySem.W.Frag} {h : Heap} {mg : Str → Option Value} {fa : Addr} (X : K.In h) (G : h.Ns mainGlobals mg) (hfa : mg "law" = some (.ref fa))
    {f9 : Addr} {od9 an9 : Option Addr} {sl9 : Array (Option Value)} {oc9 kV9 dc9 pm9 cd9 ct9 : Value} {f10 : Addr} {od10 an10 : Option Addr} {sl10 : Array (Option Value)} {oc10 kV10 dc10 pm10 cd10 ct10 : Value} {f11 : Addr} {od11 an11 : Option Addr} {sl11 : Array (Option Value)} {oc11 kV11 dc11 pm11 cd11 ct11 : Value} {f12 : Addr} {od12 an12 : Option Addr} {sl12 : Array (Option Value)} {oc12 kV12 dc12 pm12 cd12 ct12 : Value} {f13 : Addr} {od13 an13 : Option Addr} {sl13 : Array (Option Value)} {oc13 kV13 dc13 pm13 cd13 ct13 : Value} {f19 : Addr} {od19 an19 : Option Addr} {sl19 : Array (Option Value)} {oc19 kV19 dc19 pm19 cd19 ct19 : Value} {f20 : Addr} {od20 an20 : Option Addr} {sl20 : Array (Option Value)} {oc20 kV20 dc20 pm20 cd20 ct20 : Value} {f21 : Addr} {od21 an21 : Option Addr} {sl21 : Array (Option Value)} {oc21 kV21 dc21 pm21 cd21 ct21 : Value} {f22 : Addr} {od22 an22 : Option Addr} {sl22 : Array (Option Value)} {oc22 kV22 dc22 pm22 cd22 ct22 : Value} {f23 : Addr} {od23 an23 : Option Addr} {sl23 : Array (Option Value)} {oc23 kV23 dc23 pm23 cd23 ct23 : Value} {f24 : Addr} {od24 an24 : Option Addr} {sl24 : Array (Option Value)} {oc24 kV24 dc24 pm24 cd24 ct24 : Value} {f25 : Addr} {od25 an25 : Option Addr} {sl25 : Array (Option Value)} {oc25 kV25 dc25 pm25 cd25 ct25 : Value} {f31 : Addr} {od31 an31 : Option Addr} {sl31 : Array (Option Value)} {oc31 kV31 dc31 pm31 cd31 ct31 : Value} {f32 : Addr} {od32 an32 : Option Addr} {sl32 : Array (Option Value)} {oc32 kV32 dc32 pm32 cd32 ct32 : Value} {f33 : Addr} {od33 an33 : Option Addr} {sl33 : Array (Option Value)} {oc33 kV33 dc33 pm33 cd33 ct33 : Value} {f34 : Addr} {od34 an34 : Option Addr} {sl34 : Array (Option Value)} {oc34 kV34 dc34 pm34 cd34 ct34 : Value} {f35 : Addr} {od35 an35 : Option Addr} {sl35 : Array (Option Value)} {oc35 kV35 dc35 pm35 cd35 ct35 : Value} {f36 : Addr} {od36 an36 : Option Addr} {sl36 : Array (Option Value)} {oc36 kV36 dc36 pm36 cd36 ct36 : Value} {f37 : Addr} {od37 an37 : Option Addr} {sl37 : Array (Option Value)} {oc37 kV37 dc37 pm37 cd37 ct37 : Value} {f38 : Addr} {od38 an38 : Option Addr} {sl38 : Array (Option Value)} {oc38 kV38 dc38 pm38 cd38 ct38 : Value} {f39 : Addr} {od39 an39 : Option Addr} {sl39 : Array (Option Value)} {oc39 kV39 dc39 pm39 cd39 ct39 : Value} {f40 : Addr} {od40 an40 : Option Addr} {sl40 : Array (Option Value)} {oc40 kV40 dc40 pm40 cd40 ct40 : Value} {f41 : Addr} {od41 an41 : Option Addr} {sl41 : Array (Option Value)} {oc41 kV41 dc41 pm41 cd41 ct41 : Value} {f42 : Addr} {od42 an42 : Option Addr} {sl42 : Array (Option Value)} {oc42 kV42 dc42 pm42 cd42 ct42 : Value} {f43 : Addr} {od43 an43 : Option Addr} {sl43 : Array (Option Value)} {oc43 kV43 dc43 pm43 cd43 ct43 : Value} {f44 : Addr} {od44 an44 : Option Addr} {sl44 : Array (Option Value)} {oc44 kV44 dc44 pm44 cd44 ct44 : Value} {f45 : Addr} {od45 an45 : Option Addr} {sl45 : Array (Option Value)} {oc45 kV45 dc45 pm45 cd45 ct45 : Value} {f47 : Addr} {od47 an47 : Option Addr} {sl47 : Array (Option Value)} {oc47 kV47 dc47 pm47 cd47 ct47 : Value} {f48 : Addr} {od48 an48 : Option Addr} {sl48 : Array (Option Value)} {oc48 kV48 dc48 pm48 cd48 ct48 : Value} {f49 : Addr} {od49 an49 : Option Addr} {sl49 : Array (Option Value)} {oc49 kV49 dc49 pm49 cd49 ct49 : Value} {f50 : Addr} {od50 an50 : Option Addr} {sl50 : Array (Option Value)} {oc50 kV50 dc50 pm50 cd50 ct50 : Value} {f51 : Addr} {od51 an51 : Option Addr} {sl51 : Array (Option Value)} {oc51 kV51 dc51 pm51 cd51 ct51 : Value} {f52 : Addr} {od52 an52 : Option Addr} {sl52 : Array (Option Value)} {oc52 kV52 dc52 pm52 cd52 ct52 : Value} {f53 : Addr} {od53 an53 : Option Addr} {sl53 : Array (Option Value)} {oc53 kV53 dc53 pm53 cd53 ct53 : Value} {f54 : Addr} {od54 an54 : Option Addr} {sl54 : Array (Option Value)} {oc54 kV54 dc54 pm54 cd54 ct54 : Value} {f55 : Addr} {od55 an55 : Option Addr} {sl55 : Array (Option Value)} {oc55 kV55 dc55 pm55 cd55 ct55 : Value} {f56 : Addr} {od56 an56 : Option Addr} {sl56 : Array (Option Value)} {oc56 kV56 dc56 pm56 cd56 ct56 : Value} {f57 : Addr} {od57 an57 : Option Addr} {sl57 : Array (Option Value)} {oc57 kV57 dc57 pm57 cd57 ct57 : Value} {f58 : Addr} {od58 an58 : Option Addr} {sl58 : Array (Option Value)} {oc58 kV58 dc58 pm58 cd58 ct58 : Value} {f59 : Addr} {od59 an59 : Option Addr} {sl59 : Array (Option Value)} {oc59 kV59 dc59 pm59 cd59 ct59 : Value} {f60 : Addr} {od60 an60 : Option Addr} {sl60 : Array (Option Value)} {oc60 kV60 dc60 pm60 cd60 ct60 : Value} {t_FAR_DAY : Tok} {t_FIRST_NEAR : Tok} {t_LAST_NEAR : Tok} {t_MOST_LETTERS : Tok} {t_MOST_NAMES : Tok} {t_MOST_SPANS : Tok} {t_MOST_TIMES : Tok} {t_TURN : Tok} {t_WIDEST_MOVE : Tok}
    (a9 : PySem.W.nsIn K mainGlobals "is_whole" = some (some (.ref f9))) (l9 : K.lookup f9 = some ⟨oc9, od9, .func (PySem.W.fnOf "is_whole" "is_whole" (defArgs s_is_whole) (defBody s_is_whole) (defScope s_is_whole) .none kV9 dc9 pm9 an9 cd9 ct9), sl9⟩) (c9 : PySem.W.codeIn K cd9 "is_whole" = true) (k9 : PySem.W.keepIn K (.ref f9) = true)
    (a10 : PySem.W.nsIn K mainGlobals "is_pair" = some (some (.ref f10))) (l10 : K.lookup f10 = some ⟨oc10, od10, .func (PySem.W.fnOf "is_pair" "is_pair" (defArgs s_is_pair) (defBody s_is_pair) (defScope s_is_pair) .none kV10 dc10 pm10 an10 cd10 ct10), sl10⟩) (c10 : PySem.W.codeIn K cd10 "is_pair" = true) (k10 : PySem.W.keepIn K (.ref f10) = true)
    (a11 : PySem.W.nsIn K mainGlobals "is_rising" = some (some (.ref f11))) (l11 : K.lookup f11 = some ⟨oc11, od11, .func (PySem.W.fnOf "is_rising" "is_rising" (defArgs s_is_rising) (defBody s_is_rising) (defScope s_is_rising) .none kV11 dc11 pm11 an11 cd11 ct11), sl11⟩) (c11 : PySem.W.codeIn K cd11 "is_rising" = true) (k11 : PySem.W.keepIn K (.ref f11) = true)
    (a12 : PySem.W.nsIn K mainGlobals "need_day" = some (some (.ref f12))) (l12 : K.lookup f12 = some ⟨oc12, od12, .func (PySem.W.fnOf "need_day" "need_day" (defArgs s_need_day) (defBody s_need_day) (defScope s_need_day) .none kV12 dc12 pm12 an12 cd12 ct12), sl12⟩) (c12 : PySem.W.codeIn K cd12 "need_day" = true) (k12 : PySem.W.keepIn K (.ref f12) = true)
    (a13 : PySem.W.nsIn K mainGlobals "need_number" = some (some (.ref f13))) (l13 : K.lookup f13 = some ⟨oc13, od13, .func (PySem.W.fnOf "need_number" "need_number" (defArgs s_need_number) (defBody s_need_number) (defScope s_need_number) .none kV13 dc13 pm13 an13 cd13 ct13), sl13⟩) (c13 : PySem.W.codeIn K cd13 "need_number" = true) (k13 : PySem.W.keepIn K (.ref f13) = true)
    (a19 : PySem.W.nsIn K mainGlobals "is_calendar" = some (some (.ref f19))) (l19 : K.lookup f19 = some ⟨oc19, od19, .func (PySem.W.fnOf "is_calendar" "is_calendar" (defArgs s_is_calendar) (defBody s_is_calendar) (defScope s_is_calendar) .none kV19 dc19 pm19 an19 cd19 ct19), sl19⟩) (c19 : PySem.W.codeIn K cd19 "is_calendar" = true) (k19 : PySem.W.keepIn K (.ref f19) = true)
    (a20 : PySem.W.nsIn K mainGlobals "open_on" = some (some (.ref f20))) (l20 : K.lookup f20 = some ⟨oc20, od20, .func (PySem.W.fnOf "open_on" "open_on" (defArgs s_open_on) (defBody s_open_on) (defScope s_open_on) .none kV20 dc20 pm20 an20 cd20 ct20), sl20⟩) (c20 : PySem.W.codeIn K cd20 "open_on" = true) (k20 : PySem.W.keepIn K (.ref f20) = true)
    (a21 : PySem.W.nsIn K mainGlobals "open_from" = some (some (.ref f21))) (l21 : K.lookup f21 = some ⟨oc21, od21, .func (PySem.W.fnOf "open_from" "open_from" (defArgs s_open_from) (defBody s_open_from) (defScope s_open_from) .none kV21 dc21 pm21 an21 cd21 ct21), sl21⟩) (c21 : PySem.W.codeIn K cd21 "open_from" = true) (k21 : PySem.W.keepIn K (.ref f21) = true)
    (a22 : PySem.W.nsIn K mainGlobals "is_pattern" = some (some (.ref f22))) (l22 : K.lookup f22 = some ⟨oc22, od22, .func (PySem.W.fnOf "is_pattern" "is_pattern" (defArgs s_is_pattern) (defBody s_is_pattern) (defScope s_is_pattern) .none kV22 dc22 pm22 an22 cd22 ct22), sl22⟩) (c22 : PySem.W.codeIn K cd22 "is_pattern" = true) (k22 : PySem.W.keepIn K (.ref f22) = true)
    (a23 : PySem.W.nsIn K mainGlobals "_is_spans" = some (some (.ref f23))) (l23 : K.lookup f23 = some ⟨oc23, od23, .func (PySem.W.fnOf "_is_spans" "_is_spans" (defArgs s_is_spans) (defBody s_is_spans) (defScope s_is_spans) .none kV23 dc23 pm23 an23 cd23 ct23), sl23⟩) (c23 : PySem.W.codeIn K cd23 "_is_spans" = true) (k23 : PySem.W.keepIn K (.ref f23) = true)
    (a24 : PySem.W.nsIn K mainGlobals "_is_span" = some (some (.ref f24))) (l24 : K.lookup f24 = some ⟨oc24, od24, .func (PySem.W.fnOf "_is_span" "_is_span" (defArgs s_is_span) (defBody s_is_span) (defScope s_is_span) .none kV24 dc24 pm24 an24 cd24 ct24), sl24⟩) (c24 : PySem.W.codeIn K cd24 "_is_span" = true) (k24 : PySem.W.keepIn K (.ref f24) = true)
    (a25 : PySem.W.nsIn K mainGlobals "_in_spans" = some (some (.ref f25))) (l25 : K.lookup f25 = some ⟨oc25, od25, .func (PySem.W.fnOf "_in_spans" "_in_spans" (defArgs s_in_spans) (defBody s_in_spans) (defScope s_in_spans) .none kV25 dc25 pm25 an25 cd25 ct25), sl25⟩) (c25 : PySem.W.codeIn K cd25 "_in_spans" = true) (k25 : PySem.W.keepIn K (.ref f25) = true)
    (a31 : PySem.W.nsIn K mainGlobals "is_book" = some (some (.ref f31))) (l31 : K.lookup f31 = some ⟨oc31, od31, .func (PySem.W.fnOf "is_book" "is_book" (defArgs s_is_book) (defBody s_is_book) (defScope s_is_book) .none kV31 dc31 pm31 an31 cd31 ct31), sl31⟩) (c31 : PySem.W.codeIn K cd31 "is_book" = true) (k31 : PySem.W.keepIn K (.ref f31) = true)
    (a32 : PySem.W.nsIn K mainGlobals "is_route" = some (some (.ref f32))) (l32 : K.lookup f32 = some ⟨oc32, od32, .func (PySem.W.fnOf "is_route" "is_route" (defArgs s_is_route) (defBody s_is_route) (defScope s_is_route) .none kV32 dc32 pm32 an32 cd32 ct32), sl32⟩) (c32 : PySem.W.codeIn K cd32 "is_route" = true) (k32 : PySem.W.keepIn K (.ref f32) = true)
    (a33 : PySem.W.nsIn K mainGlobals "repeated" = some (some (.ref f33))) (l33 : K.lookup f33 = some ⟨oc33, od33, .func (PySem.W.fnOf "repeated" "repeated" (defArgs s_repeated) (defBody s_repeated) (defScope s_repeated) .none kV33 dc33 pm33 an33 cd33 ct33), sl33⟩) (c33 : PySem.W.codeIn K cd33 "repeated" = true) (k33 : PySem.W.keepIn K (.ref f33) = true)
    (a34 : PySem.W.nsIn K mainGlobals "times_to" = some (some (.ref f34))) (l34 : K.lookup f34 = some ⟨oc34, od34, .func (PySem.W.fnOf "times_to" "times_to" (defArgs s_times_to) (defBody s_times_to) (defScope s_times_to) .none kV34 dc34 pm34 an34 cd34 ct34), sl34⟩) (c34 : PySem.W.codeIn K cd34 "times_to" = true) (k34 : PySem.W.keepIn K (.ref f34) = true)
    (a35 : PySem.W.nsIn K mainGlobals "move" = some (some (.ref f35))) (l35 : K.lookup f35 = some ⟨oc35, od35, .func (PySem.W.fnOf "move" "move" (defArgs s_move) (defBody s_move) (defScope s_move) .none kV35 dc35 pm35 an35 cd35 ct35), sl35⟩) (c35 : PySem.W.codeIn K cd35 "move" = true) (k35 : PySem.W.keepIn K (.ref f35) = true)
    (a36 : PySem.W.nsIn K mainGlobals "is_name" = some (some (.ref f36))) (l36 : K.lookup f36 = some ⟨oc36, od36, .func (PySem.W.fnOf "is_name" "is_name" (defArgs s_is_name) (defBody s_is_name) (defScope s_is_name) .none kV36 dc36 pm36 an36 cd36 ct36), sl36⟩) (c36 : PySem.W.codeIn K cd36 "is_name" = true) (k36 : PySem.W.keepIn K (.ref f36) = true)
    (a37 : PySem.W.nsIn K mainGlobals "need_book" = some (some (.ref f37))) (l37 : K.lookup f37 = some ⟨oc37, od37, .func (PySem.W.fnOf "need_book" "need_book" (defArgs s_need_book) (defBody s_need_book) (defScope s_need_book) .none kV37 dc37 pm37 an37 cd37 ct37), sl37⟩) (c37 : PySem.W.codeIn K cd37 "need_book" = true) (k37 : PySem.W.keepIn K (.ref f37) = true)
    (a38 : PySem.W.nsIn K mainGlobals "need_route" = some (some (.ref f38))) (l38 : K.lookup f38 = some ⟨oc38, od38, .func (PySem.W.fnOf "need_route" "need_route" (defArgs s_need_route) (defBody s_need_route) (defScope s_need_route) .none kV38 dc38 pm38 an38 cd38 ct38), sl38⟩) (c38 : PySem.W.codeIn K cd38 "need_route" = true) (k38 : PySem.W.keepIn K (.ref f38) = true)
    (a39 : PySem.W.nsIn K mainGlobals "calendars_for" = some (some (.ref f39))) (l39 : K.lookup f39 = some ⟨oc39, od39, .func (PySem.W.fnOf "calendars_for" "calendars_for" (defArgs s_calendars_for) (defBody s_calendars_for) (defScope s_calendars_for) .none kV39 dc39 pm39 an39 cd39 ct39), sl39⟩) (c39 : PySem.W.codeIn K cd39 "calendars_for" = true) (k39 : PySem.W.keepIn K (.ref f39) = true)
    (a40 : PySem.W.nsIn K mainGlobals "_need_start" = some (some (.ref f40))) (l40 : K.lookup f40 = some ⟨oc40, od40, .func (PySem.W.fnOf "_need_start" "_need_start" (defArgs s_need_start) (defBody s_need_start) (defScope s_need_start) .none kV40 dc40 pm40 an40 cd40 ct40), sl40⟩) (c40 : PySem.W.codeIn K cd40 "_need_start" = true) (k40 : PySem.W.keepIn K (.ref f40) = true)
    (a41 : PySem.W.nsIn K mainGlobals "_is_letter" = some (some (.ref f41))) (l41 : K.lookup f41 = some ⟨oc41, od41, .func (PySem.W.fnOf "_is_letter" "_is_letter" (defArgs s_is_letter) (defBody s_is_letter) (defScope s_is_letter) .none kV41 dc41 pm41 an41 cd41 ct41), sl41⟩) (c41 : PySem.W.codeIn K cd41 "_is_letter" = true) (k41 : PySem.W.keepIn K (.ref f41) = true)
    (a42 : PySem.W.nsIn K mainGlobals "_is_named_calendar" = some (some (.ref f42))) (l42 : K.lookup f42 = some ⟨oc42, od42, .func (PySem.W.fnOf "_is_named_calendar" "_is_named_calendar" (defArgs s_is_named_calendar) (defBody s_is_named_calendar) (defScope s_is_named_calendar) .none kV42 dc42 pm42 an42 cd42 ct42), sl42⟩) (c42 : PySem.W.codeIn K cd42 "_is_named_calendar" = true) (k42 : PySem.W.keepIn K (.ref f42) = true)
    (a43 : PySem.W.nsIn K mainGlobals "_move_often" = some (some (.ref f43))) (l43 : K.lookup f43 = some ⟨oc43, od43, .func (PySem.W.fnOf "_move_often" "_move_often" (defArgs s_move_often) (defBody s_move_often) (defScope s_move_often) .none kV43 dc43 pm43 an43 cd43 ct43), sl43⟩) (c43 : PySem.W.codeIn K cd43 "_move_often" = true) (k43 : PySem.W.keepIn K (.ref f43) = true)
    (a44 : PySem.W.nsIn K mainGlobals "_far_leaps" = some (some (.ref f44))) (l44 : K.lookup f44 = some ⟨oc44, od44, .func (PySem.W.fnOf "_far_leaps" "_far_leaps" (defArgs s_far_leaps) (defBody s_far_leaps) (defScope s_far_leaps) .none kV44 dc44 pm44 an44 cd44 ct44), sl44⟩) (c44 : PySem.W.codeIn K cd44 "_far_leaps" = true) (k44 : PySem.W.keepIn K (.ref f44) = true)
    (a45 : PySem.W.nsIn K mainGlobals "_leap" = some (some (.ref f45))) (l45 : K.lookup f45 = some ⟨oc45, od45, .func (PySem.W.fnOf "_leap" "_leap" (defArgs s_leap) (defBody s_leap) (defScope s_leap) .none kV45 dc45 pm45 an45 cd45 ct45), sl45⟩) (c45 : PySem.W.codeIn K cd45 "_leap" = true) (k45 : PySem.W.keepIn K (.ref f45) = true)
    (a47 : PySem.W.nsIn K mainGlobals "_law_hand" = some (some (.ref f47))) (l47 : K.lookup f47 = some ⟨oc47, od47, .func (PySem.W.fnOf "_law_hand" "_law_hand" (defArgs s_law_hand) (defBody s_law_hand) (defScope s_law_hand) .none kV47 dc47 pm47 an47 cd47 ct47), sl47⟩) (c47 : PySem.W.codeIn K cd47 "_law_hand" = true) (k47 : PySem.W.keepIn K (.ref f47) = true)
    (a48 : PySem.W.nsIn K mainGlobals "_law_draw" = some (some (.ref f48))) (l48 : K.lookup f48 = some ⟨oc48, od48, .func (PySem.W.fnOf "_law_draw" "_law_draw" (defArgs s_law_draw) (defBody s_law_draw) (defScope s_law_draw) .none kV48 dc48 pm48 an48 cd48 ct48), sl48⟩) (c48 : PySem.W.codeIn K cd48 "_law_draw" = true) (k48 : PySem.W.keepIn K (.ref f48) = true)
    (a49 : PySem.W.nsIn K mainGlobals "_law_spans" = some (some (.ref f49))) (l49 : K.lookup f49 = some ⟨oc49, od49, .func (PySem.W.fnOf "_law_spans" "_law_spans" (defArgs s_law_spans) (defBody s_law_spans) (defScope s_law_spans) .none kV49 dc49 pm49 an49 cd49 ct49), sl49⟩) (c49 : PySem.W.codeIn K cd49 "_law_spans" = true) (k49 : PySem.W.keepIn K (.ref f49) = true)
    (a50 : PySem.W.nsIn K mainGlobals "_law_calendar" = some (some (.ref f50))) (l50 : K.lookup f50 = some ⟨oc50, od50, .func (PySem.W.fnOf "_law_calendar" "_law_calendar" (defArgs s_law_calendar) (defBody s_law_calendar) (defScope s_law_calendar) .none kV50 dc50 pm50 an50 cd50 ct50), sl50⟩) (c50 : PySem.W.codeIn K cd50 "_law_calendar" = true) (k50 : PySem.W.keepIn K (.ref f50) = true)
    (a51 : PySem.W.nsIn K mainGlobals "_law_open" = some (some (.ref f51))) (l51 : K.lookup f51 = some ⟨oc51, od51, .func (PySem.W.fnOf "_law_open" "_law_open" (defArgs s_law_open) (defBody s_law_open) (defScope s_law_open) .none kV51 dc51 pm51 an51 cd51 ct51), sl51⟩) (c51 : PySem.W.codeIn K cd51 "_law_open" = true) (k51 : PySem.W.keepIn K (.ref f51) = true)
    (a52 : PySem.W.nsIn K mainGlobals "_law_day" = some (some (.ref f52))) (l52 : K.lookup f52 = some ⟨oc52, od52, .func (PySem.W.fnOf "_law_day" "_law_day" (defArgs s_law_day) (defBody s_law_day) (defScope s_law_day) .none kV52 dc52 pm52 an52 cd52 ct52), sl52⟩) (c52 : PySem.W.codeIn K cd52 "_law_day" = true) (k52 : PySem.W.keepIn K (.ref f52) = true)
    (a53 : PySem.W.nsIn K mainGlobals "_law_book" = some (some (.ref f53))) (l53 : K.lookup f53 = some ⟨oc53, od53, .func (PySem.W.fnOf "_law_book" "_law_book" (defArgs s_law_book) (defBody s_law_book) (defScope s_law_book) .none kV53 dc53 pm53 an53 cd53 ct53), sl53⟩) (c53 : PySem.W.codeIn K cd53 "_law_book" = true) (k53 : PySem.W.keepIn K (.ref f53) = true)
    (a54 : PySem.W.nsIn K mainGlobals "_law_route" = some (some (.ref f54))) (l54 : K.lookup f54 = some ⟨oc54, od54, .func (PySem.W.fnOf "_law_route" "_law_route" (defArgs s_law_route) (defBody s_law_route) (defScope s_law_route) .none kV54 dc54 pm54 an54 cd54 ct54), sl54⟩) (c54 : PySem.W.codeIn K cd54 "_law_route" = true) (k54 : PySem.W.keepIn K (.ref f54) = true)
    (a55 : PySem.W.nsIn K mainGlobals "_law_moved" = some (some (.ref f55))) (l55 : K.lookup f55 = some ⟨oc55, od55, .func (PySem.W.fnOf "_law_moved" "_law_moved" (defArgs s_law_moved) (defBody s_law_moved) (defScope s_law_moved) .none kV55 dc55 pm55 an55 cd55 ct55), sl55⟩) (c55 : PySem.W.codeIn K cd55 "_law_moved" = true) (k55 : PySem.W.keepIn K (.ref f55) = true)
    (a56 : PySem.W.nsIn K mainGlobals "_law_walk" = some (some (.ref f56))) (l56 : K.lookup f56 = some ⟨oc56, od56, .func (PySem.W.fnOf "_law_walk" "_law_walk" (defArgs s_law_walk) (defBody s_law_walk) (defScope s_law_walk) .none kV56 dc56 pm56 an56 cd56 ct56), sl56⟩) (c56 : PySem.W.codeIn K cd56 "_law_walk" = true) (k56 : PySem.W.keepIn K (.ref f56) = true)
    (a57 : PySem.W.nsIn K mainGlobals "_law_near_right" = some (some (.ref f57))) (l57 : K.lookup f57 = some ⟨oc57, od57, .func (PySem.W.fnOf "_law_near_right" "_law_near_right" (defArgs s_law_near_right) (defBody s_law_near_right) (defScope s_law_near_right) .none kV57 dc57 pm57 an57 cd57 ct57), sl57⟩) (c57 : PySem.W.codeIn K cd57 "_law_near_right" = true) (k57 : PySem.W.keepIn K (.ref f57) = true)
    (a58 : PySem.W.nsIn K mainGlobals "_law_far_right" = some (some (.ref f58))) (l58 : K.lookup f58 = some ⟨oc58, od58, .func (PySem.W.fnOf "_law_far_right" "_law_far_right" (defArgs s_law_far_right) (defBody s_law_far_right) (defScope s_law_far_right) .none kV58 dc58 pm58 an58 cd58 ct58), sl58⟩) (c58 : PySem.W.codeIn K cd58 "_law_far_right" = true) (k58 : PySem.W.keepIn K (.ref f58) = true)
    (a59 : PySem.W.nsIn K mainGlobals "_law_across_right" = some (some (.ref f59))) (l59 : K.lookup f59 = some ⟨oc59, od59, .func (PySem.W.fnOf "_law_across_right" "_law_across_right" (defArgs s_law_across_right) (defBody s_law_across_right) (defScope s_law_across_right) .none kV59 dc59 pm59 an59 cd59 ct59), sl59⟩) (c59 : PySem.W.codeIn K cd59 "_law_across_right" = true) (k59 : PySem.W.keepIn K (.ref f59) = true)
    (a60 : PySem.W.nsIn K mainGlobals "law" = some (some (.ref f60))) (l60 : K.lookup f60 = some ⟨oc60, od60, .func (PySem.W.fnOf "law" "law" (defArgs s_law) (defBody s_law) (defScope s_law) .none kV60 dc60 pm60 an60 cd60 ct60), sl60⟩) (c60 : PySem.W.codeIn K cd60 "law" = true) (k60 : PySem.W.keepIn K (.ref f60) = true)
    (z_FAR_DAY : PySem.W.nsIn K mainGlobals "FAR_DAY" = some (some (Value.int (1000000000000000) t_FAR_DAY)))
    (z_FIRST_NEAR : PySem.W.nsIn K mainGlobals "FIRST_NEAR" = some (some (Value.int (-30) t_FIRST_NEAR)))
    (z_LAST_NEAR : PySem.W.nsIn K mainGlobals "LAST_NEAR" = some (some (Value.int (30) t_LAST_NEAR)))
    (z_MOST_LETTERS : PySem.W.nsIn K mainGlobals "MOST_LETTERS" = some (some (Value.int (8) t_MOST_LETTERS)))
    (z_MOST_NAMES : PySem.W.nsIn K mainGlobals "MOST_NAMES" = some (some (Value.int (4) t_MOST_NAMES)))
    (z_MOST_SPANS : PySem.W.nsIn K mainGlobals "MOST_SPANS" = some (some (Value.int (2) t_MOST_SPANS)))
    (z_MOST_TIMES : PySem.W.nsIn K mainGlobals "MOST_TIMES" = some (some (Value.int (1000000000000) t_MOST_TIMES)))
    (z_TURN : PySem.W.nsIn K mainGlobals "TURN" = some (some (Value.int (12) t_TURN)))
    (z_WIDEST_MOVE : PySem.W.nsIn K mainGlobals "WIDEST_MOVE" = some (some (Value.int (800) t_WIDEST_MOVE)))
    (z_abs : PySem.W.nsIn K mainGlobals "abs" = some none)
    (z_all : PySem.W.nsIn K mainGlobals "all" = some none)
    (z_bool : PySem.W.nsIn K mainGlobals "bool" = some none)
    (z_dict : PySem.W.nsIn K mainGlobals "dict" = some none)
    (z_enumerate : PySem.W.nsIn K mainGlobals "enumerate" = some none)
    (z_int : PySem.W.nsIn K mainGlobals "int" = some none)
    (z_isinstance : PySem.W.nsIn K mainGlobals "isinstance" = some none)
    (z_len : PySem.W.nsIn K mainGlobals "len" = some none)
    (z_list : PySem.W.nsIn K mainGlobals "list" = some none)
    (z_max : PySem.W.nsIn K mainGlobals "max" = some none)
    (z_min : PySem.W.nsIn K mainGlobals "min" = some none)
    (z_range : PySem.W.nsIn K mainGlobals "range" = some none)
    (z_sorted : PySem.W.nsIn K mainGlobals "sorted" = some none)
    (z_str : PySem.W.nsIn K mainGlobals "str" = some none)
    (z_tuple : PySem.W.nsIn K mainGlobals "tuple" = some none) :
    ∃ fd : FuncData, (∀ (s : Shared) (v : Value), BindsTo s fd ⟨[v], []⟩ [("_law_script", v)]) ∧ ∀ base : Heap, K.In base → base.Ns mainGlobals mg → FnOk l.prog w K mg base CX0 11 fa fd ["_law_script"] (spLaw K) := by
  have e := hfa.symm.trans (PySem.W.mg_of X G a60)
  cases e
  have F9 := fun_mk (st := s_is_whole) l9 c9 k9
  have B9 := F9.binds (ps := ["thing", "low", "high"]) fun _ _ _ _ _ _ us hl => match us, hl with | [_, _, _], _ => rfl
  have F10 := fun_mk (st := s_is_pair) l10 c10 k10
  have B10 := F10.binds (ps := ["thing"]) fun _ _ _ _ _ _ us hl => match us, hl with | [_], _ => rfl
  have F11 := fun_mk (st := s_is_rising) l11 c11 k11
  have B11 := F11.binds (ps := ["things"]) fun _ _ _ _ _ _ us hl => match us, hl with | [_], _ => rfl
  have F12 := fun_mk (st := s_need_day) l12 c12 k12
  have B12 := F12.binds (ps := ["thing"]) fun _ _ _ _ _ _ us hl => match us, hl with | [_], _ => rfl
  have F13 := fun_mk (st := s_need_number) l13 c13 k13
  have B13 := F13.binds (ps := ["thing", "most"]) fun _ _ _ _ _ _ us hl => match us, hl with | [_, _], _ => rfl
  have F19 := fun_mk (st := s_is_calendar) l19 c19 k19
  have B19 := F19.binds (ps := ["thing"]) fun _ _ _ _ _ _ us hl => match us, hl with | [_], _ => rfl
  have F20 := fun_mk (st := s_open_on) l20 c20 k20
  have B20 := F20.binds (ps := ["calendar", "day"]) fun _ _ _ _ _ _ us hl => match us, hl with | [_, _], _ => rfl
  have F21 := fun_mk (st := s_open_from) l21 c21 k21
  have B21 := F21.binds (ps := ["calendar", "day"]) fun _ _ _ _ _ _ us hl => match us, hl with | [_, _], _ => rfl
  have F22 := fun_mk (st := s_is_pattern) l22 c22 k22
  have B22 := F22.binds (ps := ["thing"]) fun _ _ _ _ _ _ us hl => match us, hl with | [_], _ => rfl
  have F23 := fun_mk (st := s_is_spans) l23 c23 k23
  have B23 := F23.binds (ps := ["thing"]) fun _ _ _ _ _ _ us hl => match us, hl with | [_], _ => rfl
  have F24 := fun_mk (st := s_is_span) l24 c24 k24
  have B24 := F24.binds (ps := ["thing"]) fun _ _ _ _ _ _ us hl => match us, hl with | [_], _ => rfl
  have F25 := fun_mk (st := s_in_spans) l25 c25 k25
  have B25 := F25.binds (ps := ["spans", "day"]) fun _ _ _ _ _ _ us hl => match us, hl with | [_, _], _ => rfl
  have F31 := fun_mk (st := s_is_book) l31 c31 k31
  have B31 := F31.binds (ps := ["thing"]) fun _ _ _ _ _ _ us hl => match us, hl with | [_], _ => rfl
  have F32 := fun_mk (st := s_is_route) l32 c32 k32
  have B32 := F32.binds (ps := ["thing"]) fun _ _ _ _ _ _ us hl => match us, hl with | [_], _ => rfl
  have F33 := fun_mk (st := s_repeated) l33 c33 k33
  have B33 := F33.binds (ps := ["book", "route", "day", "times"]) fun _ _ _ _ _ _ us hl => match us, hl with | [_, _, _, _], _ => rfl
  have F34 := fun_mk (st := s_times_to) l34 c34 k34
  have B34 := F34.binds (ps := ["book", "route", "day", "goal"]) fun _ _ _ _ _ _ us hl => match us, hl with | [_, _, _, _], _ => rfl
  have F35 := fun_mk (st := s_move) l35 c35 k35
  have B35 := F35.binds (ps := ["calendars", "route", "day"]) fun _ _ _ _ _ _ us hl => match us, hl with | [_, _, _], _ => rfl
  have F36 := fun_mk (st := s_is_name) l36 c36 k36
  have B36 := F36.binds (ps := ["thing"]) fun _ _ _ _ _ _ us hl => match us, hl with | [_], _ => rfl
  have F37 := fun_mk (st := s_need_book) l37 c37 k37
  have B37 := F37.binds (ps := ["thing"]) fun _ _ _ _ _ _ us hl => match us, hl with | [_], _ => rfl
  have F38 := fun_mk (st := s_need_route) l38 c38 k38
  have B38 := F38.binds (ps := ["thing"]) fun _ _ _ _ _ _ us hl => match us, hl with | [_], _ => rfl
  have F39 := fun_mk (st := s_calendars_for) l39 c39 k39
  have B39 := F39.binds (ps := ["book", "route"]) fun _ _ _ _ _ _ us hl => match us, hl with | [_, _], _ => rfl
  have F40 := fun_mk (st := s_need_start) l40 c40 k40
  have B40 := F40.binds (ps := ["book", "route", "day"]) fun _ _ _ _ _ _ us hl => match us, hl with | [_, _, _], _ => rfl
  have F41 := fun_mk (st := s_is_letter) l41 c41 k41
  have B41 := F41.binds (ps := ["thing"]) fun _ _ _ _ _ _ us hl => match us, hl with | [_], _ => rfl
  have F42 := fun_mk (st := s_is_named_calendar) l42 c42 k42
  have B42 := F42.binds (ps := ["thing"]) fun _ _ _ _ _ _ us hl => match us, hl with | [_], _ => rfl
  have F43 := fun_mk (st := s_move_often) l43 c43 k43
  have B43 := F43.binds (ps := ["calendars", "route", "day", "times", "bound"]) fun _ _ _ _ _ _ us hl => match us, hl with | [_, _, _, _, _], _ => rfl
  have F44 := fun_mk (st := s_far_leaps) l44 c44 k44
  have B44 := F44.binds (ps := ["calendars", "route", "times"]) fun _ _ _ _ _ _ us hl => match us, hl with | [_, _, _], _ => rfl
  have F45 := fun_mk (st := s_leap) l45 c45 k45
  have B45 := F45.binds (ps := ["leaps", "day", "times", "bound"]) fun _ _ _ _ _ _ us hl => match us, hl with | [_, _, _, _], _ => rfl
  have F47 := fun_mk (st := s_law_hand) l47 c47 k47
  have B47 := F47.binds (ps := ["_law_script"]) fun _ _ _ _ _ _ us hl => match us, hl with | [_], _ => rfl
  have F48 := fun_mk (st := s_law_draw) l48 c48 k48
  have B48 := F48.binds (ps := ["_law_hand_here", "_law_size"]) fun _ _ _ _ _ _ us hl => match us, hl with | [_, _], _ => rfl
  have F49 := fun_mk (st := s_law_spans) l49 c49 k49
  have B49 := F49.binds (ps := ["_law_hand_here"]) fun _ _ _ _ _ _ us hl => match us, hl with | [_], _ => rfl
  have F50 := fun_mk (st := s_law_calendar) l50 c50 k50
  have B50 := F50.binds (ps := ["_law_hand_here"]) fun _ _ _ _ _ _ us hl => match us, hl with | [_], _ => rfl
  have F51 := fun_mk (st := s_law_open) l51 c51 k51
  have B51 := F51.binds (ps := ["_law_calendar_here", "_law_day_here"]) fun _ _ _ _ _ _ us hl => match us, hl with | [_, _], _ => rfl
  have F52 := fun_mk (st := s_law_day) l52 c52 k52
  have B52 := F52.binds (ps := ["_law_hand_here"]) fun _ _ _ _ _ _ us hl => match us, hl with | [_], _ => rfl
  have F53 := fun_mk (st := s_law_book) l53 c53 k53
  have B53 := F53.binds (ps := ["_law_hand_here", "_law_most"]) fun _ _ _ _ _ _ us hl => match us, hl with | [_, _], _ => rfl
  have F54 := fun_mk (st := s_law_route) l54 c54 k54
  have B54 := F54.binds (ps := ["_law_hand_here", "_law_book_here", "_law_most"]) fun _ _ _ _ _ _ us hl => match us, hl with | [_, _, _], _ => rfl
  have F55 := fun_mk (st := s_law_moved) l55 c55 k55
  have B55 := F55.binds (ps := ["_law_book_here", "_law_route_here", "_law_day_here"]) fun _ _ _ _ _ _ us hl => match us, hl with | [_, _, _], _ => rfl
  have F56 := fun_mk (st := s_law_walk) l56 c56 k56
  have B56 := F56.binds (ps := ["_law_book_here", "_law_route_here", "_law_day_here", "_law_many"]) fun _ _ _ _ _ _ us hl => match us, hl with | [_, _, _, _], _ => rfl
  have F57 := fun_mk (st := s_law_near_right) l57 c57 k57
  have B57 := F57.binds (ps := ["_law_hand_here", "_law_book_here", "_law_route_here", "_law_day_here"]) fun _ _ _ _ _ _ us hl => match us, hl with | [_, _, _, _], _ => rfl
  have F58 := fun_mk (st := s_law_far_right) l58 c58 k58
  have B58 := F58.binds (ps := ["_law_hand_here", "_law_book_here", "_law_route_here", "_law_day_here"]) fun _ _ _ _ _ _ us hl => match us, hl with | [_, _, _, _], _ => rfl
  have F59 := fun_mk (st := s_law_across_right) l59 c59 k59
  have B59 := F59.binds (ps := ["_law_hand_here", "_law_book_here", "_law_route_here"]) fun _ _ _ _ _ _ us hl => match us, hl with | [_, _, _], _ => rfl
  have F60 := fun_mk (st := s_law) l60 c60 k60
  have B60 := F60.binds (ps := ["_law_script"]) fun _ _ _ _ _ _ us hl => match us, hl with | [_], _ => rfl
  let ad : Nat → Addr := fun n => ([fa, fa, fa, fa, fa, fa, fa, fa, fa, f9, f10, f11, f12, f13, fa, fa, fa, fa, fa, f19, f20, f21, f22, f23, f24, f25, fa, fa, fa, fa, fa, f31, f32, f33, f34, f35, f36, f37, f38, f39, f40, f41, f42, f43, f44, f45, fa, f47, f48, f49, f50, f51, f52, f53, f54, f55, f56, f57, f58, f59, fa]).getD n fa
  let fdd : Nat → FuncData := fun n => ([PySem.W.fnOf "law" "law" (defArgs s_law) (defBody s_law) (defScope s_law) .none kV60 dc60 pm60 an60 cd60 ct60,
    PySem.W.fnOf "law" "law" (defArgs s_law) (defBody s_law) (defScope s_law) .none kV60 dc60 pm60 an60 cd60 ct60,
    PySem.W.fnOf "law" "law" (defArgs s_law) (defBody s_law) (defScope s_law) .none kV60 dc60 pm60 an60 cd60 ct60,
    PySem.W.fnOf "law" "law" (defArgs s_law) (defBody s_law) (defScope s_law) .none kV60 dc60 pm60 an60 cd60 ct60,
    PySem.W.fnOf "law" "law" (defArgs s_law) (defBody s_law) (defScope s_law) .none kV60 dc60 pm60 an60 cd60 ct60,
    PySem.W.fnOf "law" "law" (defArgs s_law) (defBody s_law) (defScope s_law) .none kV60 dc60 pm60 an60 cd60 ct60,
    PySem.W.fnOf "law" "law" (defArgs s_law) (defBody s_law) (defScope s_law) .none kV60 dc60 pm60 an60 cd60 ct60,
    PySem.W.fnOf "law" "law" (defArgs s_law) (defBody s_law) (defScope s_law) .none kV60 dc60 pm60 an60 cd60 ct60,
    PySem.W.fnOf "law" "law" (defArgs s_law) (defBody s_law) (defScope s_law) .none kV60 dc60 pm60 an60 cd60 ct60,
    PySem.W.fnOf "is_whole" "is_whole" (defArgs s_is_whole) (defBody s_is_whole) (defScope s_is_whole) .none kV9 dc9 pm9 an9 cd9 ct9,
    PySem.W.fnOf "is_pair" "is_pair" (defArgs s_is_pair) (defBody s_is_pair) (defScope s_is_pair) .none kV10 dc10 pm10 an10 cd10 ct10,
    PySem.W.fnOf "is_rising" "is_rising" (defArgs s_is_rising) (defBody s_is_rising) (defScope s_is_rising) .none kV11 dc11 pm11 an11 cd11 ct11,
    PySem.W.fnOf "need_day" "need_day" (defArgs s_need_day) (defBody s_need_day) (defScope s_need_day) .none kV12 dc12 pm12 an12 cd12 ct12,
    PySem.W.fnOf "need_number" "need_number" (defArgs s_need_number) (defBody s_need_number) (defScope s_need_number) .none kV13 dc13 pm13 an13 cd13 ct13,
    PySem.W.fnOf "law" "law" (defArgs s_law) (defBody s_law) (defScope s_law) .none kV60 dc60 pm60 an60 cd60 ct60,
    PySem.W.fnOf "law" "law" (defArgs s_law) (defBody s_law) (defScope s_law) .none kV60 dc60 pm60 an60 cd60 ct60,
    PySem.W.fnOf "law" "law" (defArgs s_law) (defBody s_law) (defScope s_law) .none kV60 dc60 pm60 an60 cd60 ct60,
    PySem.W.fnOf "law" "law" (defArgs s_law) (defBody s_law) (defScope s_law) .none kV60 dc60 pm60 an60 cd60 ct60,
    PySem.W.fnOf "law" "law" (defArgs s_law) (defBody s_law) (defScope s_law) .none kV60 dc60 pm60 an60 cd60 ct60,
    PySem.W.fnOf "is_calendar" "is_calendar" (defArgs s_is_calendar) (defBody s_is_calendar) (defScope s_is_calendar) .none kV19 dc19 pm19 an19 cd19 ct19,
    PySem.W.fnOf "open_on" "open_on" (defArgs s_open_on) (defBody s_open_on) (defScope s_open_on) .none kV20 dc20 pm20 an20 cd20 ct20,
    PySem.W.fnOf "open_from" "open_from" (defArgs s_open_from) (defBody s_open_from) (defScope s_open_from) .none kV21 dc21 pm21 an21 cd21 ct21,
    PySem.W.fnOf "is_pattern" "is_pattern" (defArgs s_is_pattern) (defBody s_is_pattern) (defScope s_is_pattern) .none kV22 dc22 pm22 an22 cd22 ct22,
    PySem.W.fnOf "_is_spans" "_is_spans" (defArgs s_is_spans) (defBody s_is_spans) (defScope s_is_spans) .none kV23 dc23 pm23 an23 cd23 ct23,
    PySem.W.fnOf "_is_span" "_is_span" (defArgs s_is_span) (defBody s_is_span) (defScope s_is_span) .none kV24 dc24 pm24 an24 cd24 ct24,
    PySem.W.fnOf "_in_spans" "_in_spans" (defArgs s_in_spans) (defBody s_in_spans) (defScope s_in_spans) .none kV25 dc25 pm25 an25 cd25 ct25,
    PySem.W.fnOf "law" "law" (defArgs s_law) (defBody s_law) (defScope s_law) .none kV60 dc60 pm60 an60 cd60 ct60,
    PySem.W.fnOf "law" "law" (defArgs s_law) (defBody s_law) (defScope s_law) .none kV60 dc60 pm60 an60 cd60 ct60,
    PySem.W.fnOf "law" "law" (defArgs s_law) (defBody s_law) (defScope s_law) .none kV60 dc60 pm60 an60 cd60 ct60,
    PySem.W.fnOf "law" "law" (defArgs s_law) (defBody s_law) (defScope s_law) .none kV60 dc60 pm60 an60 cd60 ct60,
    PySem.W.fnOf "law" "law" (defArgs s_law) (defBody s_law) (defScope s_law) .none kV60 dc60 pm60 an60 cd60 ct60,
    PySem.W.fnOf "is_book" "is_book" (defArgs s_is_book) (defBody s_is_book) (defScope s_is_book) .none kV31 dc31 pm31 an31 cd31 ct31,
    PySem.W.fnOf "is_route" "is_route" (defArgs s_is_route) (defBody s_is_route) (defScope s_is_route) .none kV32 dc32 pm32 an32 cd32 ct32,
    PySem.W.fnOf "repeated" "repeated" (defArgs s_repeated) (defBody s_repeated) (defScope s_repeated) .none kV33 dc33 pm33 an33 cd33 ct33,
    PySem.W.fnOf "times_to" "times_to" (defArgs s_times_to) (defBody s_times_to) (defScope s_times_to) .none kV34 dc34 pm34 an34 cd34 ct34,
    PySem.W.fnOf "move" "move" (defArgs s_move) (defBody s_move) (defScope s_move) .none kV35 dc35 pm35 an35 cd35 ct35,
    PySem.W.fnOf "is_name" "is_name" (defArgs s_is_name) (defBody s_is_name) (defScope s_is_name) .none kV36 dc36 pm36 an36 cd36 ct36,
    PySem.W.fnOf "need_book" "need_book" (defArgs s_need_book) (defBody s_need_book) (defScope s_need_book) .none kV37 dc37 pm37 an37 cd37 ct37,
    PySem.W.fnOf "need_route" "need_route" (defArgs s_need_route) (defBody s_need_route) (defScope s_need_route) .none kV38 dc38 pm38 an38 cd38 ct38,
    PySem.W.fnOf "calendars_for" "calendars_for" (defArgs s_calendars_for) (defBody s_calendars_for) (defScope s_calendars_for) .none kV39 dc39 pm39 an39 cd39 ct39,
    PySem.W.fnOf "_need_start" "_need_start" (defArgs s_need_start) (defBody s_need_start) (defScope s_need_start) .none kV40 dc40 pm40 an40 cd40 ct40,
    PySem.W.fnOf "_is_letter" "_is_letter" (defArgs s_is_letter) (defBody s_is_letter) (defScope s_is_letter) .none kV41 dc41 pm41 an41 cd41 ct41,
    PySem.W.fnOf "_is_named_calendar" "_is_named_calendar" (defArgs s_is_named_calendar) (defBody s_is_named_calendar) (defScope s_is_named_calendar) .none kV42 dc42 pm42 an42 cd42 ct42,
    PySem.W.fnOf "_move_often" "_move_often" (defArgs s_move_often) (defBody s_move_often) (defScope s_move_often) .none kV43 dc43 pm43 an43 cd43 ct43,
    PySem.W.fnOf "_far_leaps" "_far_leaps" (defArgs s_far_leaps) (defBody s_far_leaps) (defScope s_far_leaps) .none kV44 dc44 pm44 an44 cd44 ct44,
    PySem.W.fnOf "_leap" "_leap" (defArgs s_leap) (defBody s_leap) (defScope s_leap) .none kV45 dc45 pm45 an45 cd45 ct45,
    PySem.W.fnOf "law" "law" (defArgs s_law) (defBody s_law) (defScope s_law) .none kV60 dc60 pm60 an60 cd60 ct60,
    PySem.W.fnOf "_law_hand" "_law_hand" (defArgs s_law_hand) (defBody s_law_hand) (defScope s_law_hand) .none kV47 dc47 pm47 an47 cd47 ct47,
    PySem.W.fnOf "_law_draw" "_law_draw" (defArgs s_law_draw) (defBody s_law_draw) (defScope s_law_draw) .none kV48 dc48 pm48 an48 cd48 ct48,
    PySem.W.fnOf "_law_spans" "_law_spans" (defArgs s_law_spans) (defBody s_law_spans) (defScope s_law_spans) .none kV49 dc49 pm49 an49 cd49 ct49,
    PySem.W.fnOf "_law_calendar" "_law_calendar" (defArgs s_law_calendar) (defBody s_law_calendar) (defScope s_law_calendar) .none kV50 dc50 pm50 an50 cd50 ct50,
    PySem.W.fnOf "_law_open" "_law_open" (defArgs s_law_open) (defBody s_law_open) (defScope s_law_open) .none kV51 dc51 pm51 an51 cd51 ct51,
    PySem.W.fnOf "_law_day" "_law_day" (defArgs s_law_day) (defBody s_law_day) (defScope s_law_day) .none kV52 dc52 pm52 an52 cd52 ct52,
    PySem.W.fnOf "_law_book" "_law_book" (defArgs s_law_book) (defBody s_law_book) (defScope s_law_book) .none kV53 dc53 pm53 an53 cd53 ct53,
    PySem.W.fnOf "_law_route" "_law_route" (defArgs s_law_route) (defBody s_law_route) (defScope s_law_route) .none kV54 dc54 pm54 an54 cd54 ct54,
    PySem.W.fnOf "_law_moved" "_law_moved" (defArgs s_law_moved) (defBody s_law_moved) (defScope s_law_moved) .none kV55 dc55 pm55 an55 cd55 ct55,
    PySem.W.fnOf "_law_walk" "_law_walk" (defArgs s_law_walk) (defBody s_law_walk) (defScope s_law_walk) .none kV56 dc56 pm56 an56 cd56 ct56,
    PySem.W.fnOf "_law_near_right" "_law_near_right" (defArgs s_law_near_right) (defBody s_law_near_right) (defScope s_law_near_right) .none kV57 dc57 pm57 an57 cd57 ct57,
    PySem.W.fnOf "_law_far_right" "_law_far_right" (defArgs s_law_far_right) (defBody s_law_far_right) (defScope s_law_far_right) .none kV58 dc58 pm58 an58 cd58 ct58,
    PySem.W.fnOf "_law_across_right" "_law_across_right" (defArgs s_law_across_right) (defBody s_law_across_right) (defScope s_law_across_right) .none kV59 dc59 pm59 an59 cd59 ct59,
    PySem.W.fnOf "law" "law" (defArgs s_law) (defBody s_law) (defScope s_law) .none kV60 dc60 pm60 an60 cd60 ct60]).getD n (PySem.W.fnOf "law" "law" (defArgs s_law) (defBody s_law) (defScope s_law) .none kV60 dc60 pm60 an60 cd60 ct60)
  have T : Tx K mg ad fdd := {
    m_FAR_DAY := ⟨_, PySem.W.mg_of X G z_FAR_DAY, ⟨_, rfl⟩⟩
    m_FIRST_NEAR := ⟨_, PySem.W.mg_of X G z_FIRST_NEAR, ⟨_, rfl⟩⟩
    m_LAST_NEAR := ⟨_, PySem.W.mg_of X G z_LAST_NEAR, ⟨_, rfl⟩⟩
    m_MOST_LETTERS := ⟨_, PySem.W.mg_of X G z_MOST_LETTERS, ⟨_, rfl⟩⟩
    m_MOST_NAMES := ⟨_, PySem.W.mg_of X G z_MOST_NAMES, ⟨_, rfl⟩⟩
    m_MOST_SPANS := ⟨_, PySem.W.mg_of X G z_MOST_SPANS, ⟨_, rfl⟩⟩
    m_MOST_TIMES := ⟨_, PySem.W.mg_of X G z_MOST_TIMES, ⟨_, rfl⟩⟩
    m_TURN := ⟨_, PySem.W.mg_of X G z_TURN, ⟨_, rfl⟩⟩
    m_WIDEST_MOVE := ⟨_, PySem.W.mg_of X G z_WIDEST_MOVE, ⟨_, rfl⟩⟩
    m_abs := PySem.W.mg_none_of X G z_abs
    m_all := PySem.W.mg_none_of X G z_all
    m_bool := PySem.W.mg_none_of X G z_bool
    m_dict := PySem.W.mg_none_of X G z_dict
    m_enumerate := PySem.W.mg_none_of X G z_enumerate
    m_int := PySem.W.mg_none_of X G z_int
    m_isinstance := PySem.W.mg_none_of X G z_isinstance
    m_len := PySem.W.mg_none_of X G z_len
    m_list := PySem.W.mg_none_of X G z_list
    m_max := PySem.W.mg_none_of X G z_max
    m_min := PySem.W.mg_none_of X G z_min
    m_range := PySem.W.mg_none_of X G z_range
    m_sorted := PySem.W.mg_none_of X G z_sorted
    m_str := PySem.W.mg_none_of X G z_str
    m_tuple := PySem.W.mg_none_of X G z_tuple
    F_is_whole := F9
    g_is_whole := PySem.W.mg_of X G a9
    b_is_whole := B9
    F_is_pair := F10
    g_is_pair := PySem.W.mg_of X G a10
    b_is_pair := B10
    F_is_rising := F11
    g_is_rising := PySem.W.mg_of X G a11
    b_is_rising := B11
    F_need_day := F12
    g_need_day := PySem.W.mg_of X G a12
    b_need_day := B12
    F_need_number := F13
    g_need_number := PySem.W.mg_of X G a13
    b_need_number := B13
    F_is_calendar := F19
    g_is_calendar := PySem.W.mg_of X G a19
    b_is_calendar := B19
    F_open_on := F20
    g_open_on := PySem.W.mg_of X G a20
    b_open_on := B20
    F_open_from := F21
    g_open_from := PySem.W.mg_of X G a21
    b_open_from := B21
    F_is_pattern := F22
    g_is_pattern := PySem.W.mg_of X G a22
    b_is_pattern := B22
    F_is_spans := F23
    g_is_spans := PySem.W.mg_of X G a23
    b_is_spans := B23
    F_is_span := F24
    g_is_span := PySem.W.mg_of X G a24
    b_is_span := B24
    F_in_spans := F25
    g_in_spans := PySem.W.mg_of X G a25
    b_in_spans := B25
    F_is_book := F31
    g_is_book := PySem.W.mg_of X G a31
    b_is_book := B31
    F_is_route := F32
    g_is_route := PySem.W.mg_of X G a32
    b_is_route := B32
    F_repeated := F33
    g_repeated := PySem.W.mg_of X G a33
    b_repeated := B33
    F_times_to := F34
    g_times_to := PySem.W.mg_of X G a34
    b_times_to := B34
    F_move := F35
    g_move := PySem.W.mg_of X G a35
    b_move := B35
    F_is_name := F36
    g_is_name := PySem.W.mg_of X G a36
    b_is_name := B36
    F_need_book := F37
    g_need_book := PySem.W.mg_of X G a37
    b_need_book := B37
    F_need_route := F38
    g_need_route := PySem.W.mg_of X G a38
    b_need_route := B38
    F_calendars_for := F39
    g_calendars_for := PySem.W.mg_of X G a39
    b_calendars_for := B39
    F_need_start := F40
    g_need_start := PySem.W.mg_of X G a40
    b_need_start := B40
    F_is_letter := F41
    g_is_letter := PySem.W.mg_of X G a41
    b_is_letter := B41
    F_is_named_calendar := F42
    g_is_named_calendar := PySem.W.mg_of X G a42
    b_is_named_calendar := B42
    F_move_often := F43
    g_move_often := PySem.W.mg_of X G a43
    b_move_often := B43
    F_far_leaps := F44
    g_far_leaps := PySem.W.mg_of X G a44
    b_far_leaps := B44
    F_leap := F45
    g_leap := PySem.W.mg_of X G a45
    b_leap := B45
    F_law_hand := F47
    g_law_hand := PySem.W.mg_of X G a47
    b_law_hand := B47
    F_law_draw := F48
    g_law_draw := PySem.W.mg_of X G a48
    b_law_draw := B48
    F_law_spans := F49
    g_law_spans := PySem.W.mg_of X G a49
    b_law_spans := B49
    F_law_calendar := F50
    g_law_calendar := PySem.W.mg_of X G a50
    b_law_calendar := B50
    F_law_open := F51
    g_law_open := PySem.W.mg_of X G a51
    b_law_open := B51
    F_law_day := F52
    g_law_day := PySem.W.mg_of X G a52
    b_law_day := B52
    F_law_book := F53
    g_law_book := PySem.W.mg_of X G a53
    b_law_book := B53
    F_law_route := F54
    g_law_route := PySem.W.mg_of X G a54
    b_law_route := B54
    F_law_moved := F55
    g_law_moved := PySem.W.mg_of X G a55
    b_law_moved := B55
    F_law_walk := F56
    g_law_walk := PySem.W.mg_of X G a56
    b_law_walk := B56
    F_law_near_right := F57
    g_law_near_right := PySem.W.mg_of X G a57
    b_law_near_right := B57
    F_law_far_right := F58
    g_law_far_right := PySem.W.mg_of X G a58
    b_law_far_right := B58
    F_law_across_right := F59
    g_law_across_right := PySem.W.mg_of X G a59
    b_law_across_right := B59
    F_law := F60
    g_law := PySem.W.mg_of X G a60
    b_law := B60
    kb_times_to_0_goal_day_route_book := kbp_kb_times_to_0_goal_day_route_book _ fun s w0 w1 w2 w3 => .of_eq rfl
    kb_repeated_0_times_day_route_book := kbp_kb_repeated_0_times_day_route_book _ fun s w0 w1 w2 w3 => .of_eq rfl }
  exact ⟨PySem.W.fnOf "law" "law" (defArgs s_law) (defBody s_law) (defScope s_law) .none kV60 dc60 pm60 an60 cd60 ct60, fun s v => .of_eq rfl, fun base _ _ => by
    have G_is_whole := ok_is_whole (P := l.prog) (w := w) (base := base) T 
    have G_need_day := ok_need_day (P := l.prog) (w := w) (base := base) T G_is_whole
    have G_is_pattern := ok_is_pattern (P := l.prog) (w := w) (base := base) T 
    have G_is_pair := ok_is_pair (P := l.prog) (w := w) (base := base) T 
    have G_is_span := ok_is_span (P := l.prog) (w := w) (base := base) T G_is_whole G_is_pair
    have G_is_rising := ok_is_rising (P := l.prog) (w := w) (base := base) T 
    have G_is_spans := ok_is_spans (P := l.prog) (w := w) (base := base) T G_is_span G_is_rising
    have G_is_calendar := ok_is_calendar (P := l.prog) (w := w) (base := base) T G_is_spans G_is_pattern
    have G_need_number := ok_need_number (P := l.prog) (w := w) (base := base) T G_is_whole
    have G_in_spans := ok_in_spans (P := l.prog) (w := w) (base := base) T 
    have G_open_on := ok_open_on (P := l.prog) (w := w) (base := base) T G_in_spans
    have G_open_from := ok_open_from (P := l.prog) (w := w) (base := base) T G_open_on
    have G_is_name := ok_is_name (P := l.prog) (w := w) (base := base) T 
    have G_is_letter := ok_is_letter (P := l.prog) (w := w) (base := base) T G_is_name
    have G_is_named_calendar := ok_is_named_calendar (P := l.prog) (w := w) (base := base) T G_is_name G_is_calendar G_is_pair
    have G_is_risingN := ok_is_risingN (P := l.prog) (w := w) (base := base) T 
    have G_is_book := ok_is_book (P := l.prog) (w := w) (base := base) T G_is_named_calendar G_is_risingN
    have G_is_route := ok_is_route (P := l.prog) (w := w) (base := base) T G_is_letter
    have G_need_book := ok_need_book (P := l.prog) (w := w) (base := base) T G_is_book
    have G_need_route := ok_need_route (P := l.prog) (w := w) (base := base) T G_is_route
    have G_need_start := ok_need_start (P := l.prog) (w := w) (base := base) T G_need_book G_need_route G_need_day
    have G_calendars_forZ := ok_calendars_forZ (P := l.prog) (w := w) (base := base) T 
    have G_move := ok_move (P := l.prog) (w := w) (base := base) T G_open_from
    have G_leap := ok_leap (P := l.prog) (w := w) (base := base) T 
    have G_far_leaps := ok_far_leaps (P := l.prog) (w := w) (base := base) T G_move
    have G_move_often := ok_move_often (P := l.prog) (w := w) (base := base) T G_far_leaps G_leap G_move
    have G_repeated := ok_repeated (P := l.prog) (w := w) (base := base) T G_need_start G_need_number G_calendars_forZ G_move_often
    have G_times_to := ok_times_to (P := l.prog) (w := w) (base := base) T G_need_start G_need_day G_calendars_forZ G_move_often G_move
    have G_law_hand := ok_law_hand (P := l.prog) (w := w) (base := base) T 
    have G_law_draw := ok_law_draw (P := l.prog) (w := w) (base := base) T 
    have G_law_drawB := ok_law_drawB (P := l.prog) (w := w) (base := base) T G_law_draw
    have G_law_drawC := ok_law_drawC (P := l.prog) (w := w) (base := base) T G_law_drawB
    have G_law_spans := ok_law_spans (P := l.prog) (w := w) (base := base) T G_law_draw
    have G_law_calendar := ok_law_calendar (P := l.prog) (w := w) (base := base) T G_law_draw G_law_spans
    have G_law_open := ok_law_open (P := l.prog) (w := w) (base := base) T 
    have G_law_day := ok_law_day (P := l.prog) (w := w) (base := base) T G_law_draw
    have G_law_book := ok_law_book (P := l.prog) (w := w) (base := base) T G_law_draw G_law_calendar
    have G_law_route := ok_law_route (P := l.prog) (w := w) (base := base) T G_law_draw
    have G_law_moved := ok_law_moved (P := l.prog) (w := w) (base := base) T G_law_open
    have G_law_walk := ok_law_walk (P := l.prog) (w := w) (base := base) T G_law_moved
    have G_law_near_right := ok_law_near_right (P := l.prog) (w := w) (base := base) T G_law_drawC G_law_walk G_repeated G_times_to
    have G_law_far_right := ok_law_far_right (P := l.prog) (w := w) (base := base) T G_law_drawC G_law_walk G_law_day G_repeated G_times_to
    have G_law_across_right := ok_law_across_right (P := l.prog) (w := w) (base := base) T G_law_drawC G_law_walk G_repeated G_times_to
    exact ok_law (P := l.prog) (w := w) (base := base) T G_law_hand G_law_draw G_law_book G_law_route G_law_day G_law_near_right G_law_far_right G_law_across_right G_repeated G_times_to⟩
end
end J
open PySem PySem.W PyProof.Rows
set_option maxHeartbeats 0 in
theorem PySem.Challenge.cw_officepapers_k07_routes_repeated_holds : PySem.Challenge.rw_officepapers_k07_routes_repeated.Holds := by
  w_on; o_law; k_head; (case hw => w_witness2)
  k_fill
  refine L2.walk_of (l := PySem.Challenge.rw_officepapers_k07_routes_repeated) (n := 63) (k := 11) (x := "_law_script") (CX := fun _ => L2.CX0) (sp := fun w => J.spLaw _) rfl (by decide) rfl ⟨rfl, by decide, by decide⟩ (fun w h Y => PySem.W.kIn_of Y) ?F (fun _ _ a ns hl _ hS => ⟨a, ns, rfl, hS, hl, fun _ => rfl⟩) (fun _ _ _ _ _ h => h)
  case F =>
    intro w mg fa h KX G hmg
    refine' J.all_mk KX G hmg ?a9 ?l9 ?c9 ?k9 ?a10 ?l10 ?c10 ?k10 ?a11 ?l11 ?c11 ?k11 ?a12 ?l12 ?c12 ?k12 ?a13 ?l13 ?c13 ?k13 ?a19 ?l19 ?c19 ?k19 ?a20 ?l20 ?c20 ?k20 ?a21 ?l21 ?c21 ?k21 ?a22 ?l22 ?c22 ?k22 ?a23 ?l23 ?c23 ?k23 ?a24 ?l24 ?c24 ?k24 ?a25 ?l25 ?c25 ?k25 ?a31 ?l31 ?c31 ?k31 ?a32 ?l32 ?c32 ?k32 ?a33 ?l33 ?c33 ?k33 ?a34 ?l34 ?c34 ?k34 ?a35 ?l35 ?c35 ?k35 ?a36 ?l36 ?c36 ?k36 ?a37 ?l37 ?c37 ?k37 ?a38 ?l38 ?c38 ?k38 ?a39 ?l39 ?c39 ?k39 ?a40 ?l40 ?c40 ?k40 ?a41 ?l41 ?c41 ?k41 ?a42 ?l42 ?c42 ?k42 ?a43 ?l43 ?c43 ?k43 ?a44 ?l44 ?c44 ?k44 ?a45 ?l45 ?c45 ?k45 ?a47 ?l47 ?c47 ?k47 ?a48 ?l48 ?c48 ?k48 ?a49 ?l49 ?c49 ?k49 ?a50 ?l50 ?c50 ?k50 ?a51 ?l51 ?c51 ?k51 ?a52 ?l52 ?c52 ?k52 ?a53 ?l53 ?c53 ?k53 ?a54 ?l54 ?c54 ?k54 ?a55 ?l55 ?c55 ?k55 ?a56 ?l56 ?c56 ?k56 ?a57 ?l57 ?c57 ?k57 ?a58 ?l58 ?c58 ?k58 ?a59 ?l59 ?c59 ?k59 ?a60 ?l60 ?c60 ?k60 ?z_FAR_DAY ?z_FIRST_NEAR ?z_LAST_NEAR ?z_MOST_LETTERS ?z_MOST_NAMES ?z_MOST_SPANS ?z_MOST_TIMES ?z_TURN ?z_WIDEST_MOVE ?z_abs ?z_all ?z_bool ?z_dict ?z_enumerate ?z_int ?z_isinstance ?z_len ?z_list ?z_max ?z_min ?z_range ?z_sorted ?z_str ?z_tuple
    (case a9 => k_is); (case l9 => k_is); (case c9 => k_is); (case k9 => k_is); (case a10 => k_is); (case l10 => k_is); (case c10 => k_is); (case k10 => k_is); (case a11 => k_is); (case l11 => k_is); (case c11 => k_is); (case k11 => k_is); (case a12 => k_is); (case l12 => k_is); (case c12 => k_is); (case k12 => k_is); (case a13 => k_is); (case l13 => k_is); (case c13 => k_is); (case k13 => k_is); (case a19 => k_is); (case l19 => k_is); (case c19 => k_is); (case k19 => k_is); (case a20 => k_is); (case l20 => k_is); (case c20 => k_is); (case k20 => k_is); (case a21 => k_is); (case l21 => k_is); (case c21 => k_is); (case k21 => k_is); (case a22 => k_is); (case l22 => k_is); (case c22 => k_is); (case k22 => k_is); (case a23 => k_is); (case l23 => k_is); (case c23 => k_is); (case k23 => k_is); (case a24 => k_is); (case l24 => k_is); (case c24 => k_is); (case k24 => k_is); (case a25 => k_is); (case l25 => k_is); (case c25 => k_is); (case k25 => k_is); (case a31 => k_is); (case l31 => k_is); (case c31 => k_is); (case k31 => k_is); (case a32 => k_is); (case l32 => k_is); (case c32 => k_is); (case k32 => k_is); (case a33 => k_is); (case l33 => k_is); (case c33 => k_is); (case k33 => k_is); (case a34 => k_is); (case l34 => k_is); (case c34 => k_is); (case k34 => k_is); (case a35 => k_is); (case l35 => k_is); (case c35 => k_is); (case k35 => k_is); (case a36 => k_is); (case l36 => k_is); (case c36 => k_is); (case k36 => k_is); (case a37 => k_is); (case l37 => k_is); (case c37 => k_is); (case k37 => k_is); (case a38 => k_is); (case l38 => k_is); (case c38 => k_is); (case k38 => k_is); (case a39 => k_is); (case l39 => k_is); (case c39 => k_is); (case k39 => k_is); (case a40 => k_is); (case l40 => k_is); (case c40 => k_is); (case k40 => k_is); (case a41 => k_is); (case l41 => k_is); (case c41 => k_is); (case k41 => k_is); (case a42 => k_is); (case l42 => k_is); (case c42 => k_is); (case k42 => k_is); (case a43 => k_is); (case l43 => k_is); (case c43 => k_is); (case k43 => k_is); (case a44 => k_is); (case l44 => k_is); (case c44 => k_is); (case k44 => k_is); (case a45 => k_is); (case l45 => k_is); (case c45 => k_is); (case k45 => k_is); (case a47 => k_is); (case l47 => k_is); (case c47 => k_is); (case k47 => k_is); (case a48 => k_is); (case l48 => k_is); (case c48 => k_is); (case k48 => k_is); (case a49 => k_is); (case l49 => k_is); (case c49 => k_is); (case k49 => k_is); (case a50 => k_is); (case l50 => k_is); (case c50 => k_is); (case k50 => k_is); (case a51 => k_is); (case l51 => k_is); (case c51 => k_is); (case k51 => k_is); (case a52 => k_is); (case l52 => k_is); (case c52 => k_is); (case k52 => k_is); (case a53 => k_is); (case l53 => k_is); (case c53 => k_is); (case k53 => k_is); (case a54 => k_is); (case l54 => k_is); (case c54 => k_is); (case k54 => k_is); (case a55 => k_is); (case l55 => k_is); (case c55 => k_is); (case k55 => k_is); (case a56 => k_is); (case l56 => k_is); (case c56 => k_is); (case k56 => k_is); (case a57 => k_is); (case l57 => k_is); (case c57 => k_is); (case k57 => k_is); (case a58 => k_is); (case l58 => k_is); (case c58 => k_is); (case k58 => k_is); (case a59 => k_is); (case l59 => k_is); (case c59 => k_is); (case k59 => k_is); (case a60 => k_is); (case l60 => k_is); (case c60 => k_is); (case k60 => k_is); (case z_FAR_DAY => k_is); (case z_FIRST_NEAR => k_is); (case z_LAST_NEAR => k_is); (case z_MOST_LETTERS => k_is); (case z_MOST_NAMES => k_is); (case z_MOST_SPANS => k_is); (case z_MOST_TIMES => k_is); (case z_TURN => k_is); (case z_WIDEST_MOVE => k_is); (case z_abs => k_is); (case z_all => k_is); (case z_bool => k_is); (case z_dict => k_is); (case z_enumerate => k_is); (case z_int => k_is); (case z_isinstance => k_is); (case z_len => k_is); (case z_list => k_is); (case z_max => k_is); (case z_min => k_is); (case z_range => k_is); (case z_sorted => k_is); (case z_str => k_is); (case z_tuple => k_is)
